import PyProof.Rows.All
import PySem.Challenge.RW_gunclocks_k35_rows_that_keep_tellings
import Wide.All
import OpenK.AllK
import Wide.FinOn
import HandS.ForMost
import HandS.Exc
import HandS.ExcOwn
import HandS.WordsExc
import HandS.TryOnly
import HandS.Gcd
import HandS.IsInst
import HandS.Wide
import HandS.TupAny
import HandS.Lambda
import HandS.HeadHook4
import HandS.Defaults
import HandS.EndBits
import HandS.Zip
import HandS.Finally
import KE.GoesMore
import KE.GoesEnum
import HandS.List
import PyProof.ExcBaseAll.ValueError
import HandS.HeadHook1
import HandS.ExcIs
import HandS.HotCalls
import HandS.EndTab
import HandS.HeadWalk
import HandS.Deep
import HandS.Dict
import HandS.HeadHook2
import HandS.HeadHook3
import HandS.TupMul
import HandS.Style
import OpenK.KMore
import KE.KMathG
import HandS.Base
import HandS.Call
import HandS.Ends
import HandS.More
import HandS.Words
import HandS.Head0
import HandS.Head1
import HandS.Head2
import HandS.HeadEnd
import HandS.Head3
import KE.KStateDown
import Lean
set_option Elab.async false
set_option linter.all false
set_option maxRecDepth 100000
set_option maxHeartbeats 4000000
set_option exponentiation.threshold 20000
set_option maxHeartbeats 4000000
namespace DL
open PySem PySem.Spec PyProof.Rows L2

/-! values that carry their parts with them; mu: the i-th growing list of the store -/
inductive D where
  | non | bl (b : Bool) | int (i : Int) | str (x : Str)
  | tup (xs : List D) | lst (xs : List D) | scr (xs : List D)
  | mu (i : Nat) | emp | ty (n : String) | ob (a : Addr) | er (C : Addr)

abbrev Sto := List (List D)
abbrev Vars := List (Option D)
/-- an own error: its class, its fields -/
abbrev Er := Addr × Option (List (Str × D))

/-- a list that nobody changes: the script, or a list of the module's own -/
def SqF (K : PySem.W.Frag) (G : Hp) (a : Addr) (vs : List V) : Prop :=
  (∃ o, G a = some (.frz o (.lst vs))) ∨ ∃ (o : Obj) (its : Array Value) (n : Nat), K.lookup a = some o ∧ o.cls = .type "list" ∧ o.dict = none ∧ o.data = .seq its n ∧ its.size ≤ sizeLine ∧ Vals vs its.toList
/-- at a stands just this object -/
def xob (oe : Obj) (a : Addr) : HO := .ext fun h => h.get? a = some oe
mutual
inductive DR (K : PySem.W.Frag) (m : List Addr) (G : Hp) : D → V → Prop
  | non : DR K m G .non .non
  | bl (b : Bool) : DR K m G (.bl b) (.bl b)
  | int (i : Int) : DR K m G (.int i) (.int i)
  | str (x : Str) : DR K m G (.str x) (.str x)
  | ty (n : String) : DR K m G (.ty n) (.ty n)
  | ob (a : Addr) : DR K m G (.ob a) (.ref a)
  | er {C a : Addr} {oe : Obj} : G a = some (xob oe a) → Zc (.ref C) none oe → (∃ vs, oe.data = .fields vs) → DR K m G (.er C) (.ref a)
  | emp {a : Addr} : G a = some (.dK []) → DR K m G .emp (.ref a)
  | mu {i : Nat} {a : Addr} : m[i]? = some a → DR K m G (.mu i) (.ref a)
  | tup {a : Addr} {ds : List D} {vs : List V} : SqT K G a vs → DRs K m G ds vs → DR K m G (.tup ds) (.ref a)
  | lst {a : Addr} {ds : List D} {vs : List V} : G a = some (.lst vs) → a ∉ m → DRs K m G ds vs → DR K m G (.lst ds) (.ref a)
  | scr {a : Addr} {ds : List D} {vs : List V} : SqF K G a vs → DRs K m G ds vs → DR K m G (.scr ds) (.ref a)
inductive DRs (K : PySem.W.Frag) (m : List Addr) (G : Hp) : List D → List V → Prop
  | nil : DRs K m G [] []
  | cons {d : D} {v : V} {ds : List D} {vs : List V} : DR K m G d v → DRs K m G ds vs → DRs K m G (d :: ds) (v :: vs)
end

/-- what stands in the heap: G the part that is ours, H all that is tracked -/
structure Rp (K : PySem.W.Frag) (T : List (Addr × Str)) (m : List Addr) (S : Sto) (G H : Hp) : Prop where
  sub : ∀ a o, G a = some o → H a = some o
  nd : m.Nodup
  len : m.length = S.length
  sto : ∀ (i : Nat) (a : Addr) (xs : List D), m[i]? = some a → S[i]? = some xs → ∃ vs, G a = some (.lst vs) ∧ DRs K m G xs vs
  tabs : LamX.Tabs T H
  nt : ∀ (a : Addr) (ps : Array Value), G a ≠ some (.tbl ps)

structure Stp (m : List Addr) (G H : Hp) (m' : List Addr) (G' H' : Hp) : Prop where
  grow : ∃ t, m' = m ++ t ∧ ∀ a ∈ t, G a = none
  keep : ∀ a o, G a = some o → a ∉ m → G' a = some o
  dom : ∀ a o, G a = some o → ∃ o', G' a = some o'
  frame : ∀ a o, H a = some o → G a = none → (∀ ps, o ≠ .tbl ps) → H' a = some o ∧ G' a = none

section
variable {K : PySem.W.Frag} {T : List (Addr × Str)} {m m1 m2 : List Addr} {G G1 G2 H H0 H1 H2 : Hp} {S S1 : Sto}
theorem Stp.refl : Stp m G H m G H := ⟨⟨[], by simp, by simp⟩, fun _ _ h _ => h, fun _ o h => ⟨o, h⟩, fun _ _ h g _ => ⟨h, g⟩⟩
theorem none_of {G G1 : Hp} (k : ∀ a o, G a = some o → ∃ o', G1 a = some o') {a : Addr} (h : G1 a = none) : G a = none := by
  cases e : G a with
  | none => rfl
  | some o =>
    obtain ⟨o', e'⟩ := k a o e
    rw [h] at e'
    cases e'
theorem Stp.trans (a : Stp m G H m1 G1 H1) (b : Stp m1 G1 H1 m2 G2 H2) : Stp m G H m2 G2 H2 := by
  obtain ⟨t, rfl, ht⟩ := a.grow
  obtain ⟨u, rfl, hu⟩ := b.grow
  refine ⟨⟨t ++ u, by simp, fun x hx => ?_⟩, fun x o h n => ?_, fun x o h => ?_, fun x o h g n => ?_⟩
  · rcases List.mem_append.mp hx with q | q
    · exact ht x q
    · exact none_of a.dom (hu x q)
  · refine b.keep x o (a.keep x o h n) fun z => ?_
    rcases List.mem_append.mp z with z | z
    · exact n z
    · rw [ht x z] at h
      cases h
  · obtain ⟨o1, e1⟩ := a.dom x o h
    exact b.dom x o1 e1
  · obtain ⟨h1, g1⟩ := a.frame x o h g n
    exact b.frame x o h1 g1 n
theorem Rp.lists (r : Rp K T m S G H) {a : Addr} (h : a ∈ m) : ∃ vs, G a = some (.lst vs) := by
  obtain ⟨i, hi⟩ := List.mem_iff_getElem?.mp h
  have hl : i < S.length := by
    rw [← r.len]
    exact (List.getElem?_eq_some_iff.mp hi).1
  obtain ⟨vs, e, _⟩ := r.sto i a _ hi (List.getElem?_eq_getElem hl)
  exact ⟨vs, e⟩
theorem notMem (r : Rp K T m S G H) {a : Addr} {o : HO} (h : G a = some o) (n : ∀ vs, o ≠ .lst vs) : a ∉ m := fun z => by
  obtain ⟨vs, e⟩ := r.lists z
  rw [h] at e
  cases e
  exact n vs rfl
theorem sqT_mono {a : Addr} {vs : List V} (r : Rp K T m S G H) (s : Stp m G H0 m1 G1 H1) (h : SqT K G a vs) : SqT K G1 a vs := by
  rcases h with (h | ⟨o, h⟩) | h
  · exact .inl (.inl (s.keep _ _ h (notMem r h (by intro vs z; cases z))))
  · exact .inl (.inr ⟨o, s.keep _ _ h (notMem r h (by intro vs z; cases z))⟩)
  · exact .inr h
theorem getE_app {l t : List Addr} {i : Nat} {a : Addr} (h : l[i]? = some a) : (l ++ t)[i]? = some a := by
  rw [List.getElem?_append_left (List.getElem?_eq_some_iff.mp h).1]
  exact h
mutual
theorem DR.mono (r : Rp K T m S G H) (s : Stp m G H0 m1 G1 H1) : ∀ {d : D} {v : V}, DR K m G d v → DR K m1 G1 d v
  | _, _, .non => .non
  | _, _, .bl b => .bl b
  | _, _, .int i => .int i
  | _, _, .str x => .str x
  | _, _, .ty n => .ty n
  | _, _, .ob a => .ob a
  | _, _, .er h z f => .er (s.keep _ _ h (notMem r h (by intro vs z; cases z))) z f
  | _, _, .emp h => .emp (s.keep _ _ h (notMem r h (by intro vs z; cases z)))
  | _, _, .mu h => by
    obtain ⟨t, rfl, _⟩ := s.grow
    exact .mu (getE_app h)
  | _, _, .tup h hs => .tup (sqT_mono r s h) (DRs.mono r s hs)
  | _, _, .lst h n hs => by
    obtain ⟨t, e, ht⟩ := s.grow
    refine .lst (s.keep _ _ h n) (fun z => ?_) (DRs.mono r s hs)
    rw [e] at z
    rcases List.mem_append.mp z with z | z
    · exact n z
    · rw [ht _ z] at h
      cases h
  | _, _, .scr h hs => .scr (h.elim (fun ⟨o, q⟩ => .inl ⟨o, s.keep _ _ q (notMem r q (by intro vs z; cases z))⟩) .inr) (DRs.mono r s hs)
theorem DRs.mono (r : Rp K T m S G H) (s : Stp m G H0 m1 G1 H1) : ∀ {ds : List D} {vs : List V}, DRs K m G ds vs → DRs K m1 G1 ds vs
  | _, _, .nil => .nil
  | _, _, .cons h hs => .cons (DR.mono r s h) (DRs.mono r s hs)
end
theorem DRs.length : ∀ {ds : List D} {vs : List V}, DRs K m G ds vs → ds.length = vs.length
  | _, _, .nil => rfl
  | _, _, .cons _ h => congrArg (· + 1) h.length
theorem DRs.get : ∀ {ds : List D} {vs : List V} {i : Nat} {d : D}, DRs K m G ds vs → ds[i]? = some d → ∃ v, vs[i]? = some v ∧ DR K m G d v
  | _, _, _, _, .nil, e => by simp at e
  | _, _, 0, _, .cons h _, e => by simp at e; subst e; exact ⟨_, rfl, h⟩
  | _, _, i + 1, d, .cons _ h, e => by
    obtain ⟨v, h1, h2⟩ := DRs.get (i := i) (d := d) h (by simpa using e)
    exact ⟨v, by simpa using h1, h2⟩
theorem DRs.getV : ∀ {ds : List D} {vs : List V} {i : Nat} {v : V}, DRs K m G ds vs → vs[i]? = some v → ∃ d, ds[i]? = some d ∧ DR K m G d v
  | _, _, _, _, .nil, e => by simp at e
  | _, _, 0, _, .cons h _, e => by simp at e; subst e; exact ⟨_, rfl, h⟩
  | _, _, i + 1, d, .cons _ h, e => by
    obtain ⟨v, h1, h2⟩ := DRs.getV (i := i) (v := d) h (by simpa using e)
    exact ⟨v, by simpa using h1, h2⟩
theorem DRs.append : ∀ {xs ys : List D} {vs ws : List V}, DRs K m G xs vs → DRs K m G ys ws → DRs K m G (xs ++ ys) (vs ++ ws)
  | _, _, _, _, .nil, h => h
  | _, _, _, _, .cons a t, h => .cons a (DRs.append t h)
theorem DRs.take : ∀ {xs : List D} {vs : List V} (n : Nat), DRs K m G xs vs → DRs K m G (xs.take n) (vs.take n)
  | _, _, 0, _ => .nil
  | _, _, _ + 1, .nil => .nil
  | _, _, n + 1, .cons a t => .cons a (DRs.take n t)
theorem DRs.drop : ∀ {xs : List D} {vs : List V} (n : Nat), DRs K m G xs vs → DRs K m G (xs.drop n) (vs.drop n)
  | _, _, 0, h => h
  | _, _, _ + 1, .nil => .nil
  | _, _, n + 1, .cons _ t => DRs.drop n t
theorem DRs.one {d : D} {v : V} (h : DR K m G d v) : DRs K m G [d] [v] := .cons h .nil
theorem tabs_keep {T : List (Addr × Str)} {H H' : Hp} (t : LamX.Tabs T H) (k : ∀ b o, H b = some o → (∀ vs, o ≠ .lst vs) → H' b = some o) : LamX.Tabs T H' := fun p hp => by
  obtain ⟨ps, h1, h2, h3⟩ := t p hp
  refine ⟨ps, k _ _ h1 (by intro vs z; cases z), h2, fun pos cv hc => ?_⟩
  obtain ⟨c, e1, e2⟩ := h3 pos cv hc
  exact ⟨c, e1, k _ _ e2 (by intro vs z; cases z)⟩
/-- a new object of ours -/
theorem nt_upd {G : Hp} {p : Addr} {o : HO} (n : ∀ (a : Addr) (ps : Array Value), G a ≠ some (.tbl ps)) (ho : ∀ ps, o ≠ .tbl ps) (a : Addr) (ps : Array Value) : upd G p o a ≠ some (.tbl ps) := fun z => by
  by_cases e : a = p
  · rw [e, upd_same] at z
    exact ho ps (Option.some.inj z)
  · rw [upd_ne e] at z
    exact n a ps z
theorem Rp.new (r : Rp K T m S G H) {p : Addr} {o : HO} (hp : H p = none) (ho : ∀ ps, o ≠ .tbl ps := by intro ps z; cases z) : Rp K T m S (upd G p o) (upd H p o) ∧ Stp m G H m (upd G p o) (upd H p o) := by
  have gp : G p = none := none_of (fun a o h => ⟨o, r.sub a o h⟩) hp
  have st : Stp m G H m (upd G p o) (upd H p o) := by
    refine ⟨⟨[], by simp, by simp⟩, fun a u h _ => ?_, fun a u h => ⟨u, ?_⟩, fun a u h g _ => ?_⟩
    · rw [upd_ne (ne_of_none h gp)]
      exact h
    · rw [upd_ne (ne_of_none h gp)]
      exact h
    · rw [upd_ne (ne_of_none h hp), upd_ne (ne_of_none h hp)]
      exact ⟨h, g⟩
  refine ⟨⟨fun a u h => ?_, r.nd, r.len, fun i a xs h1 h2 => ?_, tabs_keep r.tabs (fun b u h _ => ?_), nt_upd r.nt ho⟩, st⟩
  · by_cases e : a = p
    · subst e
      rw [upd_same] at h ⊢
      exact h
    · rw [upd_ne e] at h ⊢
      exact r.sub a u h
  · obtain ⟨vs, h3, h4⟩ := r.sto i a xs h1 h2
    exact ⟨vs, by rw [upd_ne (ne_of_none h3 gp)]; exact h3, h4.mono r st⟩
  · rw [upd_ne (ne_of_none h hp)]
    exact h
/-- a new growing list -/
theorem Rp.newMu (r : Rp K T m S G H) {p : Addr} {ds : List D} {vs : List V} (hp : H p = none) (hd : DRs K m G ds vs) :
    Rp K T (m ++ [p]) (S ++ [ds]) (upd G p (.lst vs)) (upd H p (.lst vs)) ∧ Stp m G H (m ++ [p]) (upd G p (.lst vs)) (upd H p (.lst vs)) ∧ (m ++ [p])[S.length]? = some p := by
  have gp : G p = none := none_of (fun a o h => ⟨o, r.sub a o h⟩) hp
  have pm : p ∉ m := fun z => by
    obtain ⟨vs, e⟩ := r.lists z
    rw [gp] at e
    cases e
  have st : Stp m G H (m ++ [p]) (upd G p (.lst vs)) (upd H p (.lst vs)) := by
    refine ⟨⟨[p], rfl, fun a ha => by rw [List.mem_singleton.mp ha]; exact gp⟩, fun a u h _ => ?_, fun a u h => ⟨u, ?_⟩, fun a u h g _ => ?_⟩
    · rw [upd_ne (ne_of_none h gp)]
      exact h
    · rw [upd_ne (ne_of_none h gp)]
      exact h
    · rw [upd_ne (ne_of_none h hp), upd_ne (ne_of_none h hp)]
      exact ⟨h, g⟩
  have at_ : (m ++ [p])[S.length]? = some p := by
    rw [← r.len]
    simp
  refine ⟨⟨fun a u h => ?_, ?_, by simp [r.len], fun i a xs h1 h2 => ?_, tabs_keep r.tabs (fun b u h _ => ?_), nt_upd r.nt (by intro ps z; cases z)⟩, st, at_⟩
  · by_cases e : a = p
    · subst e
      rw [upd_same] at h ⊢
      exact h
    · rw [upd_ne e] at h ⊢
      exact r.sub a u h
  · rw [List.nodup_append]
    exact ⟨r.nd, by simp, fun a ha b hb => by rw [List.mem_singleton.mp hb]; intro z; subst z; exact pm ha⟩
  · by_cases hi : i < m.length
    · rw [List.getElem?_append_left hi] at h1
      rw [List.getElem?_append_left (by rw [← r.len]; exact hi)] at h2
      obtain ⟨ws, h3, h4⟩ := r.sto i a xs h1 h2
      exact ⟨ws, by rw [upd_ne (ne_of_none h3 gp)]; exact h3, h4.mono r st⟩
    · have hl : i < (m ++ [p]).length := (List.getElem?_eq_some_iff.mp h1).1
      rw [List.length_append, List.length_singleton] at hl
      have e : i = m.length := by omega
      subst e
      rw [r.len, at_] at h1
      cases h1
      have z : (S ++ [ds])[m.length]? = some ds := by
        rw [r.len]
        simp
      rw [z] at h2
      cases h2
      exact ⟨vs, upd_same, hd.mono r st⟩
  · rw [upd_ne (ne_of_none h hp)]
    exact h
/-- a growing list changes -/
theorem Rp.put (r : Rp K T m S G H) {i : Nat} {a : Addr} {ds : List D} {vs : List V} (hi : m[i]? = some a) (hd : DRs K m G ds vs) :
    Rp K T m (S.set i ds) (upd G a (.lst vs)) (upd H a (.lst vs)) ∧ Stp m G H m (upd G a (.lst vs)) (upd H a (.lst vs)) := by
  have am : a ∈ m := List.mem_iff_getElem?.mpr ⟨i, hi⟩
  obtain ⟨ws, ga⟩ := r.lists am
  have st : Stp m G H m (upd G a (.lst vs)) (upd H a (.lst vs)) := by
    refine ⟨⟨[], by simp, by simp⟩, fun b u h n => ?_, fun b u h => ?_, fun b u h g _ => ?_⟩
    · rw [upd_ne (fun z : b = a => n (by rw [z]; exact am))]
      exact h
    · by_cases e : b = a
      · subst e
        exact ⟨_, upd_same⟩
      · exact ⟨u, by rw [upd_ne e]; exact h⟩
    · have e : b ≠ a := fun z => by
        subst z
        rw [ga] at g
        cases g
      rw [upd_ne e, upd_ne e]
      exact ⟨h, g⟩
  refine ⟨⟨fun b u h => ?_, r.nd, by rw [List.length_set]; exact r.len, fun j b xs h1 h2 => ?_, tabs_keep r.tabs (fun b u h n => ?_), nt_upd r.nt (by intro ps z; cases z)⟩, st⟩
  · by_cases e : b = a
    · subst e
      rw [upd_same] at h ⊢
      exact h
    · rw [upd_ne e] at h ⊢
      exact r.sub b u h
  · by_cases e : j = i
    · subst e
      rw [hi] at h1
      cases h1
      have hl : j < S.length := by
        rw [← r.len]
        exact (List.getElem?_eq_some_iff.mp hi).1
      rw [List.getElem?_set_self hl] at h2
      cases h2
      exact ⟨vs, upd_same, hd.mono r st⟩
    · have hne : b ≠ a := fun z => by
        subst z
        exact e ((List.getElem?_inj (List.getElem?_eq_some_iff.mp h1).1 r.nd).mp (h1.trans hi.symm))
      rw [List.getElem?_set_ne (Ne.symm e)] at h2
      obtain ⟨us, h3, h4⟩ := r.sto j b xs h1 h2
      exact ⟨us, by rw [upd_ne hne]; exact h3, h4.mono r st⟩
  · have e : b ≠ a := fun z => by
      subst z
      have := r.sub _ _ ga
      rw [h] at this
      cases this
      exact n _ rfl
    rw [upd_ne e]
    exact h
end

/-! the variables of a def -/
structure RE (K : PySem.W.Frag) (m : List Addr) (G : Hp) (env : Vars) (σ : L2.St) : Prop where
  len : env.length = σ.length
  at_ : ∀ (i : Nat) (d : D), env[i]? = some (some d) → ∃ v, σ[i]? = some (some v) ∧ DR K m G d v
section
variable {K : PySem.W.Frag} {T : List (Addr × Str)} {m m1 : List Addr} {G G1 H H1 : Hp} {S : Sto} {env : Vars} {σ : L2.St}
theorem RE.mono (e : RE K m G env σ) (r : Rp K T m S G H) (s : Stp m G H m1 G1 H1) : RE K m1 G1 env σ :=
  ⟨e.len, fun i d h => let ⟨v, h1, h2⟩ := e.at_ i d h; ⟨v, h1, h2.mono r s⟩⟩
theorem RE.set (e : RE K m G env σ) {i : Nat} {d : D} {v : V} (h : DR K m G d v) : RE K m G (env.set i (some d)) (σ.set i (some v)) := by
  refine ⟨by rw [List.length_set, List.length_set]; exact e.len, fun j c hj => ?_⟩
  by_cases z : j = i
  · subst z
    by_cases hl : j < env.length
    · rw [List.getElem?_set_self hl] at hj
      cases hj
      exact ⟨v, List.getElem?_set_self (by rw [← e.len]; exact hl), h⟩
    · rw [List.getElem?_eq_none (by simpa using hl)] at hj
      cases hj
  · rw [List.getElem?_set_ne (Ne.symm z)] at hj ⊢
    exact e.at_ j c hj
theorem RE.unset (e : RE K m G env σ) {i : Nat} {o : Option V} : RE K m G (env.set i none) (σ.set i o) := by
  refine ⟨by rw [List.length_set, List.length_set]; exact e.len, fun j c hj => ?_⟩
  by_cases z : j = i
  · subst z
    by_cases hl : j < env.length
    · rw [List.getElem?_set_self hl] at hj
      cases hj
    · rw [List.getElem?_eq_none (by simpa using hl)] at hj
      cases hj
  · rw [List.getElem?_set_ne (Ne.symm z)] at hj ⊢
    exact e.at_ j c hj
end
def DE (K : PySem.W.Frag) (m : List Addr) (G : Hp) (e : Er) (cls : Value) (dd : Option Addr) : Prop :=
  cls = .ref e.1 ∧ match e.2 with
    | none => dd = none
    | some fs => ∃ a vs, dd = some a ∧ G a = some (.xd vs) ∧ vs.map (·.1) = fs.map (·.1) ∧ DRs K m G (fs.map (·.2)) (vs.map (·.2))
theorem DE.mono {K : PySem.W.Frag} {T : List (Addr × Str)} {m m1 : List Addr} {G G1 H H1 : Hp} {S : Sto} {e : Er} {cls : Value} {dd : Option Addr} (r : Rp K T m S G H) (s : Stp m G H m1 G1 H1) (h : DE K m G e cls dd) : DE K m1 G1 e cls dd := by
  obtain ⟨C, fs⟩ := e
  obtain ⟨h1, h2⟩ := h
  refine ⟨h1, ?_⟩
  cases fs with
  | none => exact h2
  | some fs =>
    obtain ⟨a, vs, h3, h4, h5, h6⟩ := h2
    exact ⟨a, vs, h3, s.keep _ _ h4 (notMem r h4 (by intro vs z; cases z)), h5, h6.mono r s⟩
end DL

set_option maxHeartbeats 4000000
namespace DL
open PySem PySem.Spec PyProof.Rows L2

abbrev KR := D → Sto → Prop
abbrev KX := Er → Vars → Sto → Prop
abbrev WE' := Vars → Sto → KR → KX → Prop
abbrev WT' := Vars → Sto → (Bool → Sto → Prop) → KX → Prop
abbrev WA' := Vars → Sto → (List D → Sto → Prop) → KX → Prop
/-- by values -/
abbrev F2 := D → D → Sto → KR → Prop
abbrev F1 := D → Sto → KR → Prop
abbrev FL := List D → Sto → KR → Prop
structure Ds where
  nx : Vars → Sto → Prop
  rt : KR
  bk : Vars → Sto → Prop
  ct : Vars → Sto → Prop
  ex : KX
abbrev WS' := Vars → Sto → Ds → Prop
abbrev WG' := D → Vars → Sto → (Vars → Sto → Prop) → Prop
abbrev WGs' := List D → Vars → Sto → (Vars → Sto → Prop) → Prop
/-- a def's promise -/
abbrev SpD := List D → Sto → KR → (Er → Sto → Prop) → Prop

section
variable (K : PySem.W.Frag) (T : List (Addr × Str)) (W : WX)
def Exl (m : List Addr) (G H : Hp) (Rx : KX) : Prop :=
  ∀ e env S cls dd σ m' G' H', Rx e env S → Stp m G H m' G' H' → Rp K T m' S G' H' → RE K m' G' env σ → DE K m' G' e cls dd → W cls dd σ H'
def Okl (m : List Addr) (G H : Hp) (R : KR) (Q : VK) : Prop :=
  ∀ d S v m' G' H', R d S → Stp m G H m' G' H' → Rp K T m' S G' H' → DR K m' G' d v → Q v H'
def lE (w : WE') : TE := fun σ H Q => ∃ G env S m R Rx, RE K m G env σ ∧ Rp K T m S G H ∧ w env S R Rx ∧ Okl K T m G H R Q ∧ Exl K T W m G H Rx
def lT (w : WT') : TT := fun σ H Q => ∃ G env S m R Rx, RE K m G env σ ∧ Rp K T m S G H ∧ w env S R Rx ∧
  (∀ b S' m' G' H', R b S' → Stp m G H m' G' H' → Rp K T m' S' G' H' → Q b H') ∧ Exl K T W m G H Rx
def lA (w : WA') : TA := fun σ H Q => ∃ G env S m R Rx, RE K m G env σ ∧ Rp K T m S G H ∧ w env S R Rx ∧
  (∀ ds S' vs m' G' H', R ds S' → Stp m G H m' G' H' → Rp K T m' S' G' H' → DRs K m' G' ds vs → Q vs H') ∧ Exl K T W m G H Rx
def lO (f : F2) : R2 := fun x y H Q => ∃ G a b S m R, DR K m G a x ∧ DR K m G b y ∧ Rp K T m S G H ∧ f a b S R ∧ Okl K T m G H R Q
def lU (f : F1) : V → Hp → VK → Prop := fun x H Q => ∃ G a S m R, DR K m G a x ∧ Rp K T m S G H ∧ f a S R ∧ Okl K T m G H R Q
def lC (f : FL) : List V → Hp → VK → Prop := fun vs H Q => ∃ G ds S m R, DRs K m G ds vs ∧ Rp K T m S G H ∧ f ds S R ∧ Okl K T m G H R Q
end
section
variable {K : PySem.W.Frag} {T : List (Addr × Str)} {W : WX} {m m1 : List Addr} {G G1 H H1 : Hp} {R : KR} {Rx : KX} {Q : VK}
theorem Exl.on (h : Exl K T W m G H Rx) (s : Stp m G H m1 G1 H1) : Exl K T W m1 G1 H1 Rx :=
  fun e env S cls dd σ m' G' H' hr hs hp he hd => h e env S cls dd σ m' G' H' hr (s.trans hs) hp he hd
theorem Okl.on (h : Okl K T m G H R Q) (s : Stp m G H m1 G1 H1) : Okl K T m1 G1 H1 R Q :=
  fun d S v m' G' H' hr hs hp hd => h d S v m' G' H' hr (s.trans hs) hp hd
theorem Okl.at {S : Sto} {d : D} {v : V} (h : Okl K T m G H R Q) (hr : R d S) (hp : Rp K T m S G H) (hd : DR K m G d v) : Q v H := h d S v m G H hr Stp.refl hp hd
end

def PD (X : Cx) (T : List (Addr × Str)) (W : WX) (e : Expr) (w : WE') : Prop := PE X e (lE X.K T W w)
def PTD (X : Cx) (T : List (Addr × Str)) (W : WX) (e : Expr) (w : WT') : Prop := PT X e (lT X.K T W w)
def PWD (X : Cx) (T : List (Addr × Str)) (W : WX) (e : Expr) (w : WT') : Prop := PW X e (lT X.K T W w)
def PAD (X : Cx) (T : List (Addr × Str)) (W : WX) (es : List Expr) (w : WA') : Prop := PA X es (lA X.K T W w)

theorem pe_imp {X : Cx} {e : Expr} {t t' : TE} (h : PE X e t) (i : ∀ σ H Q, t' σ H Q → t σ H Q) : PE X e t' := ⟨fun pins s σ H Q I q => h.run pins s σ H Q I (i σ H Q q)⟩
theorem pt_imp {X : Cx} {e : Expr} {t t' : TT} (h : PT X e t) (i : ∀ σ H Q, t' σ H Q → t σ H Q) : PT X e t' := ⟨fun pins s σ H Q I q => h.run pins s σ H Q I (i σ H Q q)⟩
theorem pw_imp {X : Cx} {e : Expr} {t t' : TT} (h : PW X e t) (i : ∀ σ H Q, t' σ H Q → t σ H Q) : PW X e t' := ⟨fun w pins s σ H Q I q => h.run w pins s σ H Q I (i σ H Q q)⟩
theorem pa_imp {X : Cx} {es : List Expr} {t t' : TA} (h : PA X es t) (i : ∀ σ H Q, t' σ H Q → t σ H Q) : PA X es t' := ⟨fun pos pins s σ H Q I q => h.run pos pins s σ H Q I (i σ H Q q)⟩

/-! the readings -/
def wVar (i : Nat) : WE' := fun env S R _ => ∃ d, env[i]? = some (some d) ∧ R d S
def wC (d : D) : WE' := fun _ S R _ => R d S
def wBin (f : F2) (a b : WE') : WE' := fun env S R Rx => a env S (fun x S1 => b env S1 (fun y S2 => f x y S2 R) Rx) Rx
def wUn (f : F1) (a : WE') : WE' := fun env S R Rx => a env S (fun x S1 => f x S1 R) Rx
def wAs0 : WA' := fun _ S R _ => R [] S
def wAs1 (a : WE') (as : WA') : WA' := fun env S R Rx => a env S (fun x S1 => as env S1 (fun xs S2 => R (x :: xs) S2) Rx) Rx
def wTup (as : WA') : WE' := fun env S R Rx => as env S (fun ds S1 => ds.length ≤ sizeLine ∧ R (.tup ds) S1) Rx
def wLst (as : WA') : WE' := fun env S R Rx => as env S (fun ds S1 => ds.length ≤ sizeLine ∧ R (.lst ds) S1) Rx
/-- a list that will grow -/
def wMu (as : WA') : WE' := fun env S R Rx => as env S (fun ds S1 => ds.length ≤ sizeLine ∧ R (.mu S1.length) (S1 ++ [ds])) Rx
def wCB (f : FL) (as : WA') : WE' := fun env S R Rx => as env S (fun ds S1 => f ds S1 R) Rx
def wCall (p : SpD) (as : WA') (more : List D) : WE' := fun env S R Rx => as env S (fun ds S1 => p (ds ++ more) S1 R (fun e S2 => Rx e env S2)) Rx
def wB (a : WE') : WT' := fun env S R Rx => a env S (fun d S1 => ∃ b, d = .bl b ∧ R b S1) Rx
def wNotT (t : WT') : WT' := fun env S R Rx => t env S (fun b S1 => R (!b) S1) Rx
def wAndT (t u : WT') : WT' := fun env S R Rx => t env S (fun b S1 => if b = true then u env S1 R Rx else R false S1) Rx
def wOrT (t u : WT') : WT' := fun env S R Rx => t env S (fun b S1 => if b = true then R true S1 else u env S1 R Rx) Rx
def wAndV (a b : WE') : WE' := fun env S R Rx => a env S (fun x S1 => ∃ c, x = .bl c ∧ if c = true then b env S1 R Rx else R (.bl false) S1) Rx
def wOrV (a b : WE') : WE' := fun env S R Rx => a env S (fun x S1 => ∃ c, x = .bl c ∧ if c = true then R (.bl true) S1 else b env S1 R Rx) Rx
def wNotV (a : WE') : WE' := fun env S R Rx => a env S (fun x S1 => ∃ c, x = .bl c ∧ R (.bl (!c)) S1) Rx
def wIf (t : WT') (a b : WE') : WE' := fun env S R Rx => t env S (fun c S1 => if c = true then a env S1 R Rx else b env S1 R Rx) Rx

section
variable {X : Cx} {T : List (Addr × Str)} {W : WX} {e a b c : Expr} {es : List Expr} {pos : Pos} {wa wb : WE'} {ta tb : WT'} {as : WA'}
theorem pd_var (i : Nat) {x : Str} (hN : X.N[i]? = some x := by rfl) (hv : Vis X.env.scope x := by first | exact Or.inl rfl | exact Or.inr (Or.inl rfl) | exact Or.inr (Or.inr rfl)) (hd : (x == ("__debug__" : Str)) = false := by decide)
    (hcd : (x == ("__classdict__" : Str)) = false := by decide) : PD X T W (.Name x pos) (wVar i) := by
  refine pe_imp (pe_var hN hv hd hcd) fun σ H Q ⟨G, env, S, m, R, Rx, he, hp, ⟨d, h1, h2⟩, hk, _⟩ => ?_
  obtain ⟨v, h3, h4⟩ := he.at_ i d h1
  exact ⟨v, h3, hk.at h2 hp h4⟩
theorem pd_c {d : D} {v : V} (h : PE X e (tC v)) (r : ∀ m G, DR X.K m G d v) : PD X T W e (wC d) :=
  pe_imp h fun σ H Q ⟨G, env, S, m, R, Rx, he, hp, h, hk, _⟩ => hk.at h hp (r m G)
theorem pd_int {i j} : PD X T W (.Constant (.int i) j pos) (wC (.int i)) := pd_c pe_int fun _ _ => .int i
theorem pd_bl {i j} : PD X T W (.Constant (.bool i) j pos) (wC (.bl i)) := pd_c pe_bl fun _ _ => .bl i
theorem pd_non {j} : PD X T W (.Constant .none j pos) (wC .non) := pd_c pe_non fun _ _ => .non
theorem pd_str {i j} : PD X T W (.Constant (.str i) j pos) (wC (.str i)) := pd_c pe_str fun _ _ => .str i
theorem pd_ty {x : Str} {n : String} (hg : Gl X x) (hm : X.mg x = none) (hv : bootBuiltins x = some (.type n)) (hn : x ≠ "__name__" := by decide) (hd : (x == ("__debug__" : Str)) = false := by decide) : PD X T W (.Name x pos) (wC (.ty n)) :=
  pd_c (v := .ty n) (pe_bltn hg hm hv rfl hn hd) fun _ _ => .ty n
theorem pd_ob {x : Str} {f : Addr} (hg : Gl X x) (hm : X.mg x = some (.ref f)) (hd : (x == ("__debug__" : Str)) = false := by decide) : PD X T W (.Name x pos) (wC (.ob f)) :=
  pd_c (v := .ref f) (pe_glob hg hm rfl hd) fun _ _ => .ob f
/-- a constant of the module that is plain data -/
theorem pd_con {x : Str} {u : Value} {v : V} {d : D} (hg : Gl X x) (hm : X.mg x = some u) (r : RelV v u) (rd : ∀ m G, DR X.K m G d v) (hd : (x == ("__debug__" : Str)) = false := by decide) : PD X T W (.Name x pos) (wC d) :=
  pd_c (pe_glob hg hm r hd) rd
theorem lE_of {σ : L2.St} {H : Hp} {Q : VK} {G env S m R Rx} {w : WE'} (he : RE X.K m G env σ) (hp : Rp X.K T m S G H) (h : w env S R Rx) (hk : Okl X.K T m G H R Q) (hx : Exl X.K T W m G H Rx) : lE X.K T W w σ H Q := ⟨G, env, S, m, R, Rx, he, hp, h, hk, hx⟩
theorem pd_bin {op : Operator} {f : F2} (ho : OpR X (binaryOp op) (lO X.K T f)) (ha : PD X T W a wa) (hb : PD X T W b wb) : PD X T W (.BinOp a op b pos) (wBin f wa wb) := by
  refine pe_imp (pe_op ho ha hb) fun σ H Q ⟨G, env, S, m, R, Rx, he, hp, h, hk, hx⟩ => ?_
  refine lE_of he hp h (fun x S1 v m1 G1 H1 h1 s1 p1 d1 => ?_) hx
  refine lE_of (he.mono hp s1) p1 h1 (fun y S2 u m2 G2 H2 h2 s2 p2 d2 => ?_) (hx.on s1)
  exact ⟨G2, x, y, S2, m2, R, d1.mono p1 s2, d2, p2, h2, hk.on (s1.trans s2)⟩
theorem pd_cmp {op : CmpOp} {f : F2} (ho : OpR X (compareOp op) (lO X.K T f)) (hm : behindInMarks op b = false) (ha : PD X T W a wa) (hb : PD X T W b wb) : PD X T W (.Compare a [op] [b] pos) (wBin f wa wb) := by
  refine pe_imp (pe_cmpR ho ha hb hm) fun σ H Q ⟨G, env, S, m, R, Rx, he, hp, h, hk, hx⟩ => ?_
  refine lE_of he hp h (fun x S1 v m1 G1 H1 h1 s1 p1 d1 => ?_) hx
  refine lE_of (he.mono hp s1) p1 h1 (fun y S2 u m2 G2 H2 h2 s2 p2 d2 => ?_) (hx.on s1)
  exact ⟨G2, x, y, S2, m2, R, d1.mono p1 s2, d2, p2, h2, hk.on (s1.trans s2)⟩
theorem pd_ix {f : F2} (hr : IxR X (lO X.K T f)) (ha : PD X T W a wa) (hb : PD X T W b wb) (hs : PlainIx b := by intro _ _; rfl) : PD X T W (.Subscript a b pos) (wBin f wa wb) := by
  refine pe_imp (pe_ix hr ha hb hs) fun σ H Q ⟨G, env, S, m, R, Rx, he, hp, h, hk, hx⟩ => ?_
  refine lE_of he hp h (fun x S1 v m1 G1 H1 h1 s1 p1 d1 => ?_) hx
  refine lE_of (he.mono hp s1) p1 h1 (fun y S2 u m2 G2 H2 h2 s2 p2 d2 => ?_) (hx.on s1)
  exact ⟨G2, x, y, S2, m2, R, d1.mono p1 s2, d2, p2, h2, hk.on (s1.trans s2)⟩
theorem pd_un {op : UnaryOp} {f : F1} (ho : UnR X (unaryOp op) (lU X.K T f)) (ha : PD X T W a wa) (hn : op ≠ .Not := by decide) : PD X T W (.UnaryOp op a pos) (wUn f wa) := by
  refine pe_imp (pe_un ho ha) fun σ H Q ⟨G, env, S, m, R, Rx, he, hp, h, hk, hx⟩ => ?_
  exact lE_of he hp h (fun x S1 v m1 G1 H1 h1 s1 p1 d1 => ⟨G1, x, S1, m1, R, d1, p1, h1, hk.on s1⟩) hx
theorem pad_nil : PAD X T W [] wAs0 := pa_imp pa_nil fun σ H Q ⟨G, env, S, m, R, Rx, he, hp, h, hk, hx⟩ => hk [] S [] m G H h Stp.refl hp .nil
theorem pad_cons (ha : PD X T W e wa) (hr : PAD X T W es as) (hs : starEach (e :: es) X.env = (false, eval e X.env) :: starEach es X.env := by rfl) : PAD X T W (e :: es) (wAs1 wa as) := by
  refine pa_imp (pa_cons ha hr hs) fun σ H Q ⟨G, env, S, m, R, Rx, he, hp, h, hk, hx⟩ => ?_
  refine lE_of he hp h (fun x S1 v m1 G1 H1 h1 s1 p1 d1 => ?_) hx
  exact ⟨G1, env, S1, m1, _, Rx, he.mono hp s1, p1, h1, fun xs S2 vs m2 G2 H2 h2 s2 p2 d2 => hk _ S2 _ m2 G2 H2 h2 (s1.trans s2) p2 (.cons (d1.mono p1 s2) d2), hx.on s1⟩
theorem pd_tup {x1} (h : PAD X T W es as) : PD X T W (.Tuple es x1 pos) (wTup as) := by
  refine pe_imp (pe_tup h) fun σ H Q ⟨G, env, S, m, R, Rx, he, hp, h, hk, hx⟩ => ?_
  refine ⟨G, env, S, m, _, Rx, he, hp, h, fun ds S1 vs m1 G1 H1 h1 s1 p1 d1 => ⟨by rw [← d1.length]; exact h1.1, fun p np => ?_⟩, hx⟩
  obtain ⟨r1, r2⟩ := p1.new (o := .tup vs) np
  exact hk _ S1 _ m1 _ _ h1.2 (s1.trans r2) r1 (.tup (SqT.of upd_same) (d1.mono p1 r2))
theorem pd_lst (h : PAD X T W es as) : PD X T W (.List es pos) (wLst as) := by
  refine pe_imp (pe_lst h) fun σ H Q ⟨G, env, S, m, R, Rx, he, hp, h, hk, hx⟩ => ?_
  refine ⟨G, env, S, m, _, Rx, he, hp, h, fun ds S1 vs m1 G1 H1 h1 s1 p1 d1 => ⟨by rw [← d1.length]; exact h1.1, fun p np => ?_⟩, hx⟩
  obtain ⟨r1, r2⟩ := p1.new (o := .lst vs) np
  refine hk _ S1 _ m1 _ _ h1.2 (s1.trans r2) r1 (.lst upd_same (fun z => ?_) (d1.mono p1 r2))
  obtain ⟨ws, e⟩ := p1.lists z
  have := p1.sub _ _ e
  rw [np] at this
  cases this
theorem pd_mu (h : PAD X T W es as) : PD X T W (.List es pos) (wMu as) := by
  refine pe_imp (pe_lst h) fun σ H Q ⟨G, env, S, m, R, Rx, he, hp, h, hk, hx⟩ => ?_
  refine ⟨G, env, S, m, _, Rx, he, hp, h, fun ds S1 vs m1 G1 H1 h1 s1 p1 d1 => ⟨by rw [← d1.length]; exact h1.1, fun p np => ?_⟩, hx⟩
  obtain ⟨r1, r2, r3⟩ := p1.newMu np d1
  exact hk _ _ _ _ _ _ h1.2 (s1.trans r2) r1 (.mu r3)
theorem pd_callB {x : Str} {p : Pos} {id : String} {f : FL} (hc : CallR X (.builtin id) (lC X.K T f)) (hg : Gl X x) (hm : X.mg x = none) (hv : bootBuiltins x = some (.builtin id)) (h : PAD X T W (e :: es) as) (hn : x ≠ "__name__" := by decide)
    (hdb : (x == ("__debug__" : Str)) = false := by decide) (he : starEach (e :: es) X.env = (false, eval e X.env) :: starEach es X.env := by rfl) (hpl : (backTo pos (starEach es X.env)).any (·.1) = false := by rfl) : PD X T W (.Call (.Name x p) (e :: es) [] pos) (wCB f as) := by
  refine pe_imp (pe_callB hc hg hm hv h hn hdb he hpl) fun σ H Q ⟨G, env, S, m, R, Rx, he, hp, h, hk, hx⟩ => ?_
  exact ⟨G, env, S, m, _, Rx, he, hp, h, fun ds S1 vs m1 G1 H1 h1 s1 p1 d1 => ⟨G1, ds, S1, m1, R, d1, p1, h1, hk.on s1⟩, hx⟩
theorem pd_callF {x : Str} {p : Pos} {id : String} {f : FL} (hc : CallR X (.builtin id) (lC X.K T f)) (hg : Gl X x) (hm : X.mg x = some (.builtin id)) (h : PAD X T W (e :: es) as)
    (hdb : (x == ("__debug__" : Str)) = false := by decide) (he : starEach (e :: es) X.env = (false, eval e X.env) :: starEach es X.env := by rfl) (hpl : (backTo pos (starEach es X.env)).any (·.1) = false := by rfl) : PD X T W (.Call (.Name x p) (e :: es) [] pos) (wCB f as) := by
  refine pe_imp (pe_callBfun hc hg hm h hdb he hpl) fun σ H Q ⟨G, env, S, m, R, Rx, he, hp, h, hk, hx⟩ => ?_
  exact ⟨G, env, S, m, _, Rx, he, hp, h, fun ds S1 vs m1 G1 H1 h1 s1 p1 d1 => ⟨G1, ds, S1, m1, R, d1, p1, h1, hk.on s1⟩, hx⟩
theorem pd_callTy {x : Str} {p : Pos} {id : String} {f : FL} (hc : CallR X (.type id) (lC X.K T f)) (hg : Gl X x) (hm : X.mg x = none) (hv : bootBuiltins x = some (.type id)) (h : PAD X T W (e :: es) as) (hn : x ≠ "__name__" := by decide)
    (hdb : (x == ("__debug__" : Str)) = false := by decide) (he : starEach (e :: es) X.env = (false, eval e X.env) :: starEach es X.env := by rfl) (hpl : (backTo pos (starEach es X.env)).any (·.1) = false := by rfl) : PD X T W (.Call (.Name x p) (e :: es) [] pos) (wCB f as) := by
  refine pe_imp (pe_callTy hc hg hm hv h hn hdb he hpl) fun σ H Q ⟨G, env, S, m, R, Rx, he, hp, h, hk, hx⟩ => ?_
  exact ⟨G, env, S, m, _, Rx, he, hp, h, fun ds S1 vs m1 G1 H1 h1 s1 p1 d1 => ⟨G1, ds, S1, m1, R, d1, p1, h1, hk.on s1⟩, hx⟩
/-! tests -/
theorem ptd_val (h : PD X T W e wa) (hs : ∀ whole, isTrue e X.env whole = (do let v ← whole; standAt e.pos; holding [v] (truthy v)) := by intro _; rfl) : PTD X T W e (wB wa) := by
  refine pt_imp (pt_val h hs) fun σ H Q ⟨G, env, S, m, R, Rx, he, hp, h, hk, hx⟩ => ?_
  refine lE_of he hp h (fun x S1 v m1 G1 H1 ⟨b, hb, h1⟩ s1 p1 d1 => ?_) hx
  subst hb
  cases d1
  exact ⟨b, rfl, hk b S1 m1 G1 H1 h1 s1 p1⟩
theorem ptd_cmp {op : CmpOp} {f : F2} (ho : OpR X (compareOp op) (lO X.K T f)) (hm : behindInMarks op b = false) (ha : PD X T W a wa) (hb : PD X T W b wb) : PTD X T W (.Compare a [op] [b] pos) (wB (wBin f wa wb)) := by
  refine pt_imp (pt_cmpR ho ha hb hm) fun σ H Q ⟨G, env, S, m, R, Rx, he, hp, h, hk, hx⟩ => ?_
  refine lE_of he hp h (fun x S1 v m1 G1 H1 h1 s1 p1 d1 => ?_) hx
  refine lE_of (he.mono hp s1) p1 h1 (fun y S2 u m2 G2 H2 h2 s2 p2 d2 => ?_) (hx.on s1)
  refine ⟨G2, x, y, S2, m2, _, d1.mono p1 s2, d2, p2, h2, fun d S3 z m3 G3 H3 ⟨c, hc, h3⟩ s3 p3 d3 => ?_⟩
  subst hc
  cases d3
  exact ⟨c, rfl, hk c S3 m3 G3 H3 h3 ((s1.trans s2).trans s3) p3⟩
theorem ptd_not (h : PTD X T W a ta) : PTD X T W (.UnaryOp .Not a pos) (wNotT ta) := by
  refine pt_imp (pt_not h) fun σ H Q ⟨G, env, S, m, R, Rx, he, hp, h, hk, hx⟩ => ?_
  exact ⟨G, env, S, m, _, Rx, he, hp, h, fun b S1 m1 G1 H1 h1 s1 p1 => hk _ S1 m1 G1 H1 h1 s1 p1, hx⟩
theorem pwd_and1 (h : PTD X T W a ta) : PWD X T W (.BoolOp .And [a] pos) ta := pw_and1 h
theorem pwd_or1 (h : PTD X T W a ta) : PWD X T W (.BoolOp .Or [a] pos) ta := pw_or1 h
theorem pwd_and (h : PTD X T W a ta) (hb : PWD X T W (.BoolOp .And (b :: es) pos) tb) : PWD X T W (.BoolOp .And (a :: b :: es) pos) (wAndT ta tb) := by
  refine pw_imp (pw_and h hb) fun σ H Q ⟨G, env, S, m, R, Rx, he, hp, h, hk, hx⟩ => ?_
  refine ⟨G, env, S, m, _, Rx, he, hp, h, fun b S1 m1 G1 H1 h1 s1 p1 => ?_, hx⟩
  cases b with
  | true => exact ⟨G1, env, S1, m1, R, Rx, he.mono hp s1, p1, h1, fun b S2 m2 G2 H2 h2 s2 p2 => hk b S2 m2 G2 H2 h2 (s1.trans s2) p2, hx.on s1⟩
  | false => exact hk false S1 m1 G1 H1 h1 s1 p1
theorem pwd_or (h : PTD X T W a ta) (hb : PWD X T W (.BoolOp .Or (b :: es) pos) tb) : PWD X T W (.BoolOp .Or (a :: b :: es) pos) (wOrT ta tb) := by
  refine pw_imp (pw_or h hb) fun σ H Q ⟨G, env, S, m, R, Rx, he, hp, h, hk, hx⟩ => ?_
  refine ⟨G, env, S, m, _, Rx, he, hp, h, fun b S1 m1 G1 H1 h1 s1 p1 => ?_, hx⟩
  cases b with
  | true => exact hk true S1 m1 G1 H1 h1 s1 p1
  | false => exact ⟨G1, env, S1, m1, R, Rx, he.mono hp s1, p1, h1, fun b S2 m2 G2 H2 h2 s2 p2 => hk b S2 m2 G2 H2 h2 (s1.trans s2) p2, hx.on s1⟩
theorem ptd_w (h : PWD X T W e ta) : PTD X T W e ta := PW.pt h
theorem pd_one {op} (h : PD X T W a wa) : PD X T W (.BoolOp op [a] pos) wa := pe_one h
theorem pd_and (ha : PD X T W a wa) (hb : PD X T W (.BoolOp .And (b :: es) pos) wb) : PD X T W (.BoolOp .And (a :: b :: es) pos) (wAndV wa wb) := by
  refine pe_imp (pe_and ha hb) fun σ H Q ⟨G, env, S, m, R, Rx, he, hp, h, hk, hx⟩ => ?_
  refine lE_of he hp h (fun x S1 v m1 G1 H1 ⟨c, hc, h1⟩ s1 p1 d1 => ?_) hx
  subst hc
  cases d1
  refine ⟨c, rfl, ?_⟩
  cases c with
  | true => exact lE_of (he.mono hp s1) p1 h1 (hk.on s1) (hx.on s1)
  | false => exact hk _ S1 _ m1 G1 H1 h1 s1 p1 (.bl _)
theorem pd_or (ha : PD X T W a wa) (hb : PD X T W (.BoolOp .Or (b :: es) pos) wb) : PD X T W (.BoolOp .Or (a :: b :: es) pos) (wOrV wa wb) := by
  refine pe_imp (pe_or ha hb) fun σ H Q ⟨G, env, S, m, R, Rx, he, hp, h, hk, hx⟩ => ?_
  refine lE_of he hp h (fun x S1 v m1 G1 H1 ⟨c, hc, h1⟩ s1 p1 d1 => ?_) hx
  subst hc
  cases d1
  refine ⟨c, rfl, ?_⟩
  cases c with
  | true => exact hk _ S1 _ m1 G1 H1 h1 s1 p1 (.bl _)
  | false => exact lE_of (he.mono hp s1) p1 h1 (hk.on s1) (hx.on s1)
theorem pd_not (ha : PD X T W a wa) : PD X T W (.UnaryOp .Not a pos) (wNotV wa) := by
  refine pe_imp (pe_not ha) fun σ H Q ⟨G, env, S, m, R, Rx, he, hp, h, hk, hx⟩ => ?_
  refine lE_of he hp h (fun x S1 v m1 G1 H1 ⟨c, hc, h1⟩ s1 p1 d1 => ?_) hx
  subst hc
  cases d1
  exact ⟨c, rfl, hk _ S1 _ m1 G1 H1 h1 s1 p1 (.bl _)⟩
theorem pd_if (hc : PTD X T W c ta) (ha : PD X T W a wa) (hb : PD X T W b wb) : PD X T W (.IfExp c a b pos) (wIf ta wa wb) := by
  refine pe_imp (pe_ifExp hc ha hb) fun σ H Q ⟨G, env, S, m, R, Rx, he, hp, h, hk, hx⟩ => ?_
  refine ⟨G, env, S, m, _, Rx, he, hp, h, fun b S1 m1 G1 H1 h1 s1 p1 => ?_, hx⟩
  cases b with
  | true => exact lE_of (he.mono hp s1) p1 h1 (hk.on s1) (hx.on s1)
  | false => exact lE_of (he.mono hp s1) p1 h1 (hk.on s1) (hx.on s1)
end
end DL

set_option maxHeartbeats 4000000
namespace DL
open PySem PySem.Spec PyProof.Rows L2

/-! what is wanted behind a statement -/
structure Lk (K : PySem.W.Frag) (T : List (Addr × Str)) (W : WX) (m : List Addr) (G H : Hp) (E : Ds) (D : Ends) : Prop where
  nx : ∀ env S σ m' G' H', E.nx env S → Stp m G H m' G' H' → Rp K T m' S G' H' → RE K m' G' env σ → D.nx σ H'
  bk : ∀ env S σ m' G' H', E.bk env S → Stp m G H m' G' H' → Rp K T m' S G' H' → RE K m' G' env σ → D.bk σ H'
  ct : ∀ env S σ m' G' H', E.ct env S → Stp m G H m' G' H' → Rp K T m' S G' H' → RE K m' G' env σ → D.ct σ H'
  rt : Okl K T m G H E.rt D.rt
  ex : Exl K T W m G H E.ex
def lS (K : PySem.W.Frag) (T : List (Addr × Str)) (W : WX) (w : WS') : TS := fun D σ H => ∃ G env S m E, RE K m G env σ ∧ Rp K T m S G H ∧ w env S E ∧ Lk K T W m G H E D
def PSD (X : Cx) (T : List (Addr × Str)) (W : WX) (st : Stmt) (w : WS') : Prop := PS X st (lS X.K T W w)
def PSsD (X : Cx) (T : List (Addr × Str)) (W : WX) (st : List Stmt) (w : WS') : Prop := PSs X st (lS X.K T W w)
def lG (K : PySem.W.Frag) (T : List (Addr × Str)) (g : WG') : TG := fun v σ H Q => ∃ G d env S m R, DR K m G d v ∧ RE K m G env σ ∧ Rp K T m S G H ∧ g d env S R ∧
  ∀ env' S' σ' m' G' H', R env' S' → Stp m G H m' G' H' → Rp K T m' S' G' H' → RE K m' G' env' σ' → Q σ' H'
def lGs (K : PySem.W.Frag) (T : List (Addr × Str)) (g : WGs') : TGs := fun vs σ H Q => ∃ G ds env S m R, DRs K m G ds vs ∧ RE K m G env σ ∧ Rp K T m S G H ∧ g ds env S R ∧
  ∀ env' S' σ' m' G' H', R env' S' → Stp m G H m' G' H' → Rp K T m' S' G' H' → RE K m' G' env' σ' → Q σ' H'
def PGD (X : Cx) (T : List (Addr × Str)) (e : Expr) (g : WG') : Prop := PG X e (lG X.K T g)
def PGsD (X : Cx) (T : List (Addr × Str)) (e : List Expr) (g : WGs') : Prop := PGs X e (lGs X.K T g)
theorem ps_imp {X : Cx} {e : Stmt} {t t' : TS} (h : PS X e t) (i : ∀ D σ H, t' D σ H → t D σ H) : PS X e t' := ⟨fun pins s σ H D I q => h.run pins s σ H D I (i D σ H q)⟩
theorem pss_imp {X : Cx} {e : List Stmt} {t t' : TS} (h : PSs X e t) (i : ∀ D σ H, t' D σ H → t D σ H) : PSs X e t' := ⟨fun pins s σ H D I q => h.run pins s σ H D I (i D σ H q)⟩
theorem pg_imp {X : Cx} {e : Expr} {t t' : TG} (h : PG X e t) (i : ∀ v σ H Q, t' v σ H Q → t v σ H Q) : PG X e t' := ⟨fun pins s σ H v u Q I r q => h.run pins s σ H v u Q I r (i v σ H Q q)⟩
theorem pgs_imp {X : Cx} {e : List Expr} {t t' : TGs} (h : PGs X e t) (i : ∀ v σ H Q, t' v σ H Q → t v σ H Q) : PGs X e t' := ⟨fun pins s σ H v u Q I r q => h.run pins s σ H v u Q I r (i v σ H Q q)⟩

section
variable {K : PySem.W.Frag} {T : List (Addr × Str)} {W : WX} {m m1 : List Addr} {G G1 H H1 : Hp} {E : Ds} {D : Ends}
theorem Lk.on (l : Lk K T W m G H E D) (s : Stp m G H m1 G1 H1) : Lk K T W m1 G1 H1 E D :=
  ⟨fun env S σ m' G' H' h t p r => l.nx env S σ m' G' H' h (s.trans t) p r, fun env S σ m' G' H' h t p r => l.bk env S σ m' G' H' h (s.trans t) p r, fun env S σ m' G' H' h t p r => l.ct env S σ m' G' H' h (s.trans t) p r, l.rt.on s, l.ex.on s⟩
theorem Lk.next (l : Lk K T W m G H E D) {nx : Vars → Sto → Prop} {dn : L2.St → Hp → Prop} (h : ∀ env S σ m' G' H', nx env S → Stp m G H m' G' H' → Rp K T m' S G' H' → RE K m' G' env σ → dn σ H') : Lk K T W m G H { E with nx := nx } { D with nx := dn } :=
  ⟨h, l.bk, l.ct, l.rt, l.ex⟩
end

/-! the readings -/
def sNext : WS' := fun env S E => E.nx env S
def sBreak : WS' := fun env S E => E.bk env S
def sCont : WS' := fun env S E => E.ct env S
def sSeq (t u : WS') : WS' := fun env S E => t env S { E with nx := fun env1 S1 => u env1 S1 E }
def sRet (w : WE') : WS' := fun env S E => w env S E.rt E.ex
def sRetN : WS' := fun _ S E => E.rt .non S
def sDrop (w : WE') : WS' := fun env S E => w env S (fun _ S1 => E.nx env S1) E.ex
def sIf (t : WT') (u v : WS') : WS' := fun env S E => t env S (fun b S1 => if b = true then u env S1 E else v env S1 E) E.ex
def sAsg (w : WE') (g : WG') : WS' := fun env S E => w env S (fun d S1 => g d env S1 E.nx) E.ex
def sNever : WS' := fun _ _ _ => False
def gN (i : Nat) : WG' := fun d env S R => R (env.set i (some d)) S
def gT (n : Nat) (g : WGs') : WG' := fun d env S R => ∃ xs, d = .tup xs ∧ xs.length = n ∧ g xs env S R
def gs0 : WGs' := fun ds env S R => ds = [] ∧ R env S
def gs1 (g : WG') (r : WGs') : WGs' := fun ds env S R => ∃ x xs, ds = x :: xs ∧ g x env S fun env1 S1 => r xs env1 S1 R
/-- a, b = x, y -/
def sPar (i j : Nat) (as : WA') : WS' := fun env S E => as env S (fun ds S1 => ∃ x y, ds = [x, y] ∧ E.nx ((env.set i (some x)).set j (some y)) S1) E.ex
/-- xs[i] = e -/
def sSetIx (wo wi we : WE') : WS' := fun env S E => we env S (fun d S1 => wo env S1 (fun o S2 => wi env S2 (fun k S3 => ∃ i z ds j, o = .mu i ∧ k = .int z ∧ S3[i]? = some ds ∧ ixN ds.length z = some j ∧ E.nx env (S3.set i (ds.set j d))) E.ex) E.ex) E.ex
/-- xs.append(e) -/
def sApp (wo we : WE') : WS' := fun env S E => wo env S (fun o S1 => ∃ i, o = .mu i ∧ we env S1 (fun d S2 => ∃ ds, S2[i]? = some ds ∧ ds.length < sizeLine ∧ E.nx env (S2.set i (ds ++ [d]))) E.ex) E.ex
def sWhile (t : WT') (u : WS') : WS' := fun env S E => ∃ I : Nat → Vars → Sto → Prop, (∃ n, I n env S) ∧ ∀ n env S, I n env S →
  t env S (fun b S1 => if b = true then u env S1 { E with nx := fun e s => ∃ n', n' < n ∧ I n' e s, ct := fun e s => ∃ n', n' < n ∧ I n' e s, bk := E.nx } else E.nx env S1) E.ex
/-- the items one by one -/
def loop (ck : Sto → Prop) (g : WG') (u : WS') (E : Ds) : List D → Vars → Sto → Prop
  | [], env, S => ck S ∧ E.nx env S
  | d :: ds, env, S => ck S ∧ g d env S fun env1 S1 => u env1 S1 { E with nx := fun e s => loop ck g u E ds e s, ct := fun e s => loop ck g u E ds e s, bk := E.nx }
def itemsL : D → Sto → Option (List D)
  | .lst xs, _ => some xs
  | .scr xs, _ => some xs
  | .mu i, S => S[i]?
  | _, _ => none
def intsD (lo : Int) (n : Nat) : List D := (List.range n).map fun (i : Nat) => D.int (lo + i)
/-- what is walked: the items, and what must stay true of the store meanwhile -/
structure Src where
  xs : List D
  ck : Sto → Prop
abbrev WI' := Vars → Sto → (Src → Sto → Prop) → KX → Prop
def wiL (w : WE') : WI' := fun env S R Rx => w env S (fun d S1 => ∃ xs, itemsL d S1 = some xs ∧ R ⟨xs, fun S => itemsL d S = some xs⟩ S1) Rx
def wiT (w : WE') : WI' := fun env S R Rx => w env S (fun d S1 => ∃ xs, d = .tup xs ∧ R ⟨xs, fun _ => True⟩ S1) Rx
def wiR1 (as : WA') : WI' := fun env S R Rx => as env S (fun ds S1 => ∃ j : Int, ds = [.int j] ∧ -(2 ^ 62) ≤ j ∧ j < 2 ^ 62 ∧ R ⟨intsD 0 j.toNat, fun _ => True⟩ S1) Rx
def wiR2 (as : WA') : WI' := fun env S R Rx => as env S (fun ds S1 => ∃ i j : Int, ds = [.int i, .int j] ∧ (-(2 ^ 62) ≤ i ∧ i < 2 ^ 62 ∧ -(2 ^ 62) ≤ j ∧ j < 2 ^ 62) ∧ R ⟨intsD i (j - i).toNat, fun _ => True⟩ S1) Rx
def sFor (wi : WI') (g : WG') (u : WS') : WS' := fun env S E => wi env S (fun src S1 => loop src.ck g u E src.xs env S1) E.ex
def WalkOf (K : PySem.W.Frag) (T : List (Addr × Str)) (J : It) (xs : List D) (ck : Sto → Prop) (m0 : List Addr) (G0 H0 : Hp) : Prop :=
  (∀ (i : Nat) (d : D) (S : Sto) (m : List Addr) (G H : Hp), xs[i]? = some d → ck S → Rp K T m S G H → Stp m0 G0 H0 m G H → J.go i H ∧ ∀ x H', J.yld i H x H' → ∃ m' G', Stp m G H m' G' H' ∧ Rp K T m' S G' H' ∧ DR K m' G' d x) ∧
  ∀ (S : Sto) (m : List Addr) (G H : Hp), ck S → Rp K T m S G H → Stp m0 G0 H0 m G H → J.stop xs.length H
def lI (K : PySem.W.Frag) (T : List (Addr × Str)) (W : WX) (wi : WI') : TI := fun σ H R => ∃ G env S m R' Rx, RE K m G env σ ∧ Rp K T m S G H ∧ wi env S R' Rx ∧
  (∀ src S' m' G' H' J, R' src S' → Stp m G H m' G' H' → Rp K T m' S' G' H' → WalkOf K T J src.xs src.ck m' G' H' → R J H') ∧ Exl K T W m G H Rx
def PID (X : Cx) (T : List (Addr × Str)) (W : WX) (tg iter : Expr) (wi : WI') : Prop := PI X tg iter (lI X.K T W wi)
theorem pi_imp {X : Cx} {tg iter : Expr} {t t' : TI} (h : PI X tg iter t) (i : ∀ σ H R, t' σ H R → t σ H R) : PI X tg iter t' := ⟨fun pins s σ H R I q => h.run pins s σ H R I (i σ H R q)⟩

section
variable {X : Cx} {T : List (Addr × Str)} {W : WX} {e o k c : Expr} {es : List Expr} {pos : Pos} {w wo wk : WE'} {t : WT'} {as : WA'} {u v : WS'} {st : Stmt} {sts body els : List Stmt} {g : WG'} {gs : WGs'}
theorem psd_nil : PSsD X T W [] sNext := pss_imp pss_nil fun D σ H ⟨G, env, S, m, E, he, hp, h, l⟩ => l.nx env S σ m G H h Stp.refl hp he
theorem psd_one (h : PSD X T W st u) : PSsD X T W [st] u := pss_one h
theorem psd_cons (h : PSD X T W st u) (hr : PSsD X T W sts v) : PSsD X T W (st :: sts) (sSeq u v) := by
  refine pss_imp (pss_cons h hr) fun D σ H ⟨G, env, S, m, E, he, hp, h, l⟩ => ?_
  exact ⟨G, env, S, m, _, he, hp, h, l.next fun env1 S1 σ1 m1 G1 H1 h1 s1 p1 e1 => ⟨G1, env1, S1, m1, E, e1, p1, h1, l.on s1⟩⟩
theorem psd_pass : PSD X T W (.Pass pos) sNext := ps_imp ps_pass fun D σ H ⟨G, env, S, m, E, he, hp, h, l⟩ => l.nx env S σ m G H h Stp.refl hp he
theorem psd_break : PSD X T W (.Break pos) sBreak := ps_imp ps_break fun D σ H ⟨G, env, S, m, E, he, hp, h, l⟩ => l.bk env S σ m G H h Stp.refl hp he
theorem psd_continue : PSD X T W (.Continue pos) sCont := ps_imp ps_continue fun D σ H ⟨G, env, S, m, E, he, hp, h, l⟩ => l.ct env S σ m G H h Stp.refl hp he
theorem psd_doc {x j pos'} : PSD X T W (.Expr (.Constant (.str x) j pos) pos') sNext := ps_imp ps_doc fun D σ H ⟨G, env, S, m, E, he, hp, h, l⟩ => l.nx env S σ m G H h Stp.refl hp he
theorem psd_ret (h : PD X T W e w) : PSD X T W (.Return (some e) pos) (sRet w) := by
  refine ps_imp (ps_ret h) fun D σ H ⟨G, env, S, m, E, he, hp, h, l⟩ => ?_
  exact ⟨G, env, S, m, _, _, he, hp, h, l.rt, l.ex⟩
theorem psd_retN : PSD X T W (.Return none pos) sRetN := ps_imp ps_retN fun D σ H ⟨G, env, S, m, E, he, hp, h, l⟩ => l.rt .non S .non m G H h Stp.refl hp .non
theorem psd_expr (h : PD X T W e w) (hs : swapsWith e none pos.line X.env = pure false := by rfl) : PSD X T W (.Expr e pos) (sDrop w) := by
  refine ps_imp (ps_expr h hs) fun D σ H ⟨G, env, S, m, E, he, hp, h, l⟩ => ?_
  exact ⟨G, env, S, m, _, _, he, hp, h, fun d S1 v m1 G1 H1 h1 s1 p1 d1 => l.nx env S1 σ m1 G1 H1 h1 s1 p1 (he.mono hp s1), l.ex⟩
theorem psd_if (h : PTD X T W c t) (hu : PSsD X T W body u) (hv : PSsD X T W els v) : PSD X T W (.If c body els pos) (sIf t u v) := by
  refine ps_imp (ps_if h hu hv) fun D σ H ⟨G, env, S, m, E, he, hp, h, l⟩ => ?_
  refine ⟨G, env, S, m, _, _, he, hp, h, fun b S1 m1 G1 H1 h1 s1 p1 => ?_, l.ex⟩
  cases b with
  | true => exact ⟨G1, env, S1, m1, E, he.mono hp s1, p1, h1, l.on s1⟩
  | false => exact ⟨G1, env, S1, m1, E, he.mono hp s1, p1, h1, l.on s1⟩
theorem psd_never : PSD X T W st sNever := ps_imp ps_never fun D σ H ⟨G, env, S, m, E, he, hp, h, l⟩ => h.elim
theorem pgd_name (i : Nat) {x : Str} (hN : X.N.Nodup) (hi : X.N[i]? = some x) (hx : Loc X.env.scope x) (hf : X.fn x = true ∨ X.env.scope.names.lookup x = some .local := by first | exact .inl rfl | exact .inr rfl | assumption) : PGD X T (.Name x pos) (gN i) := by
  refine pg_imp (pg_name hN hi hx hf) fun v σ H Q ⟨G, d, env, S, m, R, dr, he, hp, h, k⟩ => ?_
  exact k _ S _ m G H h Stp.refl hp (he.set dr)
theorem pgsd_nil : PGsD X T [] gs0 := by
  refine pgs_imp pgs_nil fun vs σ H Q ⟨G, ds, env, S, m, R, dr, he, hp, ⟨h0, h⟩, k⟩ => ?_
  subst h0
  cases dr
  exact ⟨rfl, k _ S _ m G H h Stp.refl hp he⟩
theorem pgsd_cons {e : Expr} (h1 : PGD X T e g) (h2 : PGsD X T es gs) (hs : (assignEach (e :: es) X.env).map (·.2) = assign e X.env :: (assignEach es X.env).map (·.2) := by rfl) : PGsD X T (e :: es) (gs1 g gs) := by
  refine pgs_imp (pgs_cons h1 h2 hs) fun vs σ H Q ⟨G, ds, env, S, m, R, dr, he, hp, ⟨x, xs, h0, h⟩, k⟩ => ?_
  subst h0
  cases dr with
  | cons d1 d2 =>
    refine ⟨_, _, rfl, G, x, env, S, m, _, d1, he, hp, h, fun env1 S1 σ1 m1 G1 H1 q1 s1 p1 e1 => ?_⟩
    exact ⟨G1, xs, env1, S1, m1, R, d2.mono hp s1, e1, p1, q1, fun env2 S2 σ2 m2 G2 H2 q2 s2 p2 e2 => k env2 S2 σ2 m2 G2 H2 q2 (s1.trans s2) p2 e2⟩
theorem pgd_tup {kk : Nat} {n : Nat} (hc : X.calm = true) (h : PGsD X T es gs) (hn : (assignEach es X.env).length = n := by rfl) (hst : (assignEach es X.env).findIdx? (·.1) = none := by rfl) : PGD X T (.Tuple es kk pos) (gT n gs) := by
  refine pg_imp (pg_tup hc h hn hst) fun v σ H Q ⟨G, d, env, S, m, R, dr, he, hp, ⟨xs, h0, hl, h⟩, k⟩ => ?_
  subst h0
  cases dr with
  | tup hs hd =>
    refine ⟨_, _, rfl, ?_, by rw [← hd.length]; exact hl, G, xs, env, S, m, R, hd, he, hp, h, k⟩
    rcases hs with (hs | ⟨o, hs⟩) | hs
    · exact .inl (.inl (hp.sub _ _ hs))
    · exact .inl (.inr ⟨o, hp.sub _ _ hs⟩)
    · exact .inr hs
theorem psd_asg {tg : Expr} (h : PD X T W e w) (hg : PGD X T tg g) (hs : swapsWithSole [tg] e pos.line X.env = pure false := by rfl) (hw : swappedStores [tg] e X.env = pure none := by rfl) (h1 : (assignEach [tg] X.env).map (·.2) = [assign tg X.env] := by rfl) :
    PSD X T W (.Assign [tg] e pos) (sAsg w g) := by
  refine ps_imp (ps_asg h hg hs hw h1) fun D σ H ⟨G, env, S, m, E, he, hp, h, l⟩ => ?_
  refine ⟨G, env, S, m, _, _, he, hp, h, fun d S1 v m1 G1 H1 h1 s1 p1 d1 => ?_, l.ex⟩
  exact ⟨G1, d, env, S1, m1, _, d1, he.mono hp s1, p1, h1, fun env2 S2 σ2 m2 G2 H2 q2 s2 p2 e2 => l.nx env2 S2 σ2 m2 G2 H2 q2 (s1.trans s2) p2 e2⟩
theorem psd_set (i : Nat) {x : Str} {pos' : Pos} (hN : X.N.Nodup) (hi : X.N[i]? = some x) (hx : Loc X.env.scope x) (h : PD X T W e w) (hs : swapsWith e (some (.Name x pos')) pos.line X.env = pure false := by rfl)
    (hf : X.fn x = true ∨ X.env.scope.names.lookup x = some .local := by first | exact .inl rfl | exact .inr rfl | assumption) : PSD X T W (.Assign [.Name x pos'] e pos) (sAsg w (gN i)) := by
  refine ps_imp (ps_set hN hi hx h hs hf) fun D σ H ⟨G, env, S, m, E, he, hp, h, l⟩ => ?_
  exact ⟨G, env, S, m, _, _, he, hp, h, fun d S1 v m1 G1 H1 h1 s1 p1 d1 => l.nx _ S1 _ m1 G1 H1 h1 s1 p1 ((he.mono hp s1).set d1), l.ex⟩
theorem psd_par (i j : Nat) {x y : Str} {a b : Expr} {px py pt : Pos} {kt k2 pt2} (hc : X.calm = true) (hN : X.N.Nodup) (hi : X.N[i]? = some x) (hj : X.N[j]? = some y) (hij : i ≠ j)
    (hx : X.env.scope.names.lookup x = some .local) (hy : X.env.scope.names.lookup y = some .local) (h : PAD X T W [a, b] as)
    (hw : swappedStores [.Tuple [.Name x px, .Name y py] kt pt] (.Tuple [a, b] k2 pt2) X.env = pure (some [x, y])) (hs : swapsWithSole [.Tuple [.Name x px, .Name y py] kt pt] (.Tuple [a, b] k2 pt2) pos.line X.env = pure false := by rfl) : PSD X T W (.Assign [.Tuple [.Name x px, .Name y py] kt pt] (.Tuple [a, b] k2 pt2) pos) (sPar i j as) := by
  refine ps_imp (ps_par hc hN hi hj hij hx hy h hw hs) fun D σ H ⟨G, env, S, m, E, he, hp, h, l⟩ => ?_
  refine ⟨G, env, S, m, _, _, he, hp, h, fun ds S1 vs m1 G1 H1 ⟨d1, d2, hd, h1⟩ s1 p1 dr => ?_, l.ex⟩
  subst hd
  cases dr with
  | cons r1 r2 =>
    cases r2 with
    | cons r2 r3 =>
      cases r3
      exact ⟨_, _, rfl, l.nx _ S1 _ m1 G1 H1 h1 s1 p1 (((he.mono hp s1).set r1).set r2)⟩
/-- the list that a growing list stands for -/
theorem mu_at {K : PySem.W.Frag} {m : List Addr} {S : Sto} {G H : Hp} {i : Nat} {v : V} {ds : List D} (hp : Rp K T m S G H) (h : DR K m G (.mu i) v) (hs : S[i]? = some ds) : ∃ a vs, v = .ref a ∧ m[i]? = some a ∧ G a = some (.lst vs) ∧ H a = some (.lst vs) ∧ DRs K m G ds vs := by
  cases h with
  | mu hi =>
    obtain ⟨vs, h1, h2⟩ := hp.sto _ _ _ hi hs
    exact ⟨_, vs, rfl, hi, h1, hp.sub _ _ h1, h2⟩
theorem DRs.set {K : PySem.W.Frag} {m : List Addr} {G : Hp} : ∀ {ds : List D} {vs : List V} {d : D} {v : V} (i : Nat), DRs K m G ds vs → DR K m G d v → DRs K m G (ds.set i d) (vs.set i v)
  | _, _, _, _, _, .nil, _ => .nil
  | _, _, _, _, 0, .cons _ t, h => .cons h t
  | _, _, _, _, i + 1, .cons a t, h => .cons a (DRs.set i t h)
theorem psd_setIx {p : Pos} (h : PD X T W e w) (ho : PD X T W o wo) (hk : PD X T W k wk) (hs : swapsWithSole [.Subscript o k p] e pos.line X.env = pure false := by rfl) (hw : swappedStores [.Subscript o k p] e X.env = pure none := by rfl)
    (h1 : (assignEach [.Subscript o k p] X.env).map (·.2) = [assign (.Subscript o k p) X.env] := by rfl) (ha : PG X (.Subscript o k p) (gSub (lE X.K T W wo) (lE X.K T W wk) rSetL)) : PSD X T W (.Assign [.Subscript o k p] e pos) (sSetIx wo wk w) := by
  refine ps_imp (ps_asg h ha hs hw h1) fun D σ H ⟨G, env, S, m, E, he, hp, h, l⟩ => ?_
  refine ⟨G, env, S, m, _, _, he, hp, h, fun d S1 v m1 G1 H1 h1 s1 p1 d1 => ?_, l.ex⟩
  have he1 := he.mono hp s1
  refine ⟨G1, env, S1, m1, _, _, he1, p1, h1, fun x S2 u m2 G2 H2 h2 s2 p2 d2 => ?_, l.ex.on s1⟩
  have he2 := he1.mono p1 s2
  refine ⟨G2, env, S2, m2, _, _, he2, p2, h2, fun y S3 z m3 G3 H3 h3 s3 p3 d3 => ?_, l.ex.on (s1.trans s2)⟩
  obtain ⟨i, n, ds, j, rfl, rfl, hS, hj, hn⟩ := h3
  cases d3
  obtain ⟨a, vs, rfl, hm, hg, hh, dr⟩ := mu_at p3 (d2.mono p2 s3) hS
  obtain ⟨q1, q2⟩ := p3.put (vs := vs.set j v) hm (dr.set j ((d1.mono p1 s2).mono p2 s3))
  exact ⟨a, vs, n, j, rfl, rfl, hh, by rw [← dr.length]; exact hj, l.nx _ _ _ _ _ _ hn (((s1.trans s2).trans s3).trans q2) q1 ((he2.mono p2 s3).mono p3 q2)⟩
theorem psd_app {apos cpos : Pos} (ho : PD X T W o wo) (h : PD X T W e w) (hs : swapsWith (.Call (.Attribute o "append" apos) [e] [] cpos) none pos.line X.env = pure false := by rfl)
    (hbase : attributeBase o "append" X.env (eval o X.env) = eval o X.env := by rfl)
    (hfew : ((backTo cpos (starEach [e] X.env)).all (fun x => !x.1) && (backToKw cpos (keywordEach [] X.env)).all (fun x => x.1.isSome)
      && decide ([e].length + ([] : List Keyword).length + (if ([] : List Keyword).isEmpty then 0 else 1) < 30)) = true := by rfl)
    (hline : (apos.endLine == cpos.line) = true := by rfl) (hst : starEach [e] X.env = (false, eval e X.env) :: starEach [] X.env := by rfl) (hplain : (backTo cpos (starEach [] X.env)).any (·.1) = false := by rfl) :
    PSD X T W (.Expr (.Call (.Attribute o "append" apos) [e] [] cpos) pos) (sApp wo w) := by
  refine ps_imp (ps_expr (pe_bm PySem.F.plainAttrs_list PySem.F.slot_list_append PySem.F.type_list_append mt_append ho (pad_cons (X := X) (T := T) (W := W) h pad_nil hst) hbase hfew hline hst hplain) hs) fun D σ H ⟨G, env, S, m, E, he, hp, h, l⟩ => ?_
  refine ⟨G, env, S, m, _, _, he, hp, h, fun x S1 v m1 G1 H1 ⟨i, hi, h1⟩ s1 p1 d1 => ?_, l.ex⟩
  subst hi
  have he1 := he.mono hp s1
  refine ⟨?_, G1, env, S1, m1, (fun ys S2 => match ys with | [d] => ∃ ds, S2[i]? = some ds ∧ ds.length < sizeLine ∧ E.nx env (S2.set i (ds ++ [d])) | _ => False), _, he1, p1, h1, fun ys S2 us m2 G2 H2 h2 s2 p2 d2 => ?_, l.ex.on s1⟩
  · cases d1 with
    | mu hm =>
      obtain ⟨vs, q⟩ := p1.lists (List.mem_iff_getElem?.mpr ⟨i, hm⟩)
      exact Or.inl ⟨rfl, vs, .inl (.inl (p1.sub _ _ q))⟩
  · obtain ⟨d, ds, rfl, hS, hl, hn⟩ : ∃ d ds, ys = [d] ∧ S2[i]? = some ds ∧ ds.length < sizeLine ∧ E.nx env (S2.set i (ds ++ [d])) := by
      match ys, h2 with
      | [d], ⟨ds, q1, q2, q3⟩ => exact ⟨d, ds, rfl, q1, q2, q3⟩
    cases d2 with
    | cons r1 r2 =>
      cases r2
      obtain ⟨a, vs, rfl, hm, hg, hh, dr⟩ := mu_at p2 (d1.mono p1 s2) hS
      obtain ⟨q1, q2⟩ := p2.put hm (dr.append (DRs.one r1))
      exact ⟨a, vs, _, rfl, rfl, hh, by rw [← dr.length]; exact hl, l.nx _ _ _ _ _ _ hn ((s1.trans s2).trans q2) q1 ((he1.mono p1 s2).mono p2 q2)⟩
theorem psd_while (hpo : PassesOwn (model X.prog X.w) X.A X.env X.xe) (hc : PTD X T W c t) (hb : PSsD X T W body u) : PSD X T W (.While c body [] pos) (sWhile t u) := by
  refine ps_imp (ps_while hpo hc hb) fun D σ H ⟨G, env, S, m, E, he, hp, ⟨I, ⟨n0, h0⟩, turn⟩, l⟩ => ?_
  refine ⟨fun n σ1 H1 => ∃ G1 env1 S1 m1, RE X.K m1 G1 env1 σ1 ∧ Rp X.K T m1 S1 G1 H1 ∧ Stp m G H m1 G1 H1 ∧ I n env1 S1, ⟨n0, G, env, S, m, he, hp, Stp.refl, h0⟩, ?_⟩
  rintro n σ1 H1 ⟨G1, env1, S1, m1, e1, p1, s1, i1⟩
  refine ⟨G1, env1, S1, m1, _, _, e1, p1, turn n env1 S1 i1, fun b S2 m2 G2 H2 h2 s2 p2 => ?_, l.ex.on s1⟩
  have s12 := s1.trans s2
  have e2 := e1.mono p1 s2
  cases b with
  | true =>
    refine ⟨fun σ' H' => ∃ n', n' < n ∧ ∃ G1 env1 S1 m1, RE X.K m1 G1 env1 σ' ∧ Rp X.K T m1 S1 G1 H' ∧ Stp m G H m1 G1 H' ∧ I n' env1 S1, fun σ' H' ⟨n', h, q⟩ => ⟨n', h, q⟩, G2, env1, S2, m2, _, e2, p2, h2, ?_⟩
    exact ⟨fun env3 S3 σ3 m3 G3 H3 ⟨n', hn, hi⟩ s3 p3 e3 => ⟨n', hn, G3, env3, S3, m3, e3, p3, s12.trans s3, hi⟩, fun env3 S3 σ3 m3 G3 H3 h3 s3 p3 e3 => l.nx env3 S3 σ3 m3 G3 H3 h3 (s12.trans s3) p3 e3,
      fun env3 S3 σ3 m3 G3 H3 ⟨n', hn, hi⟩ s3 p3 e3 => ⟨n', hn, G3, env3, S3, m3, e3, p3, s12.trans s3, hi⟩, l.rt.on s12, l.ex.on s12⟩
  | false =>
    exact l.nx env1 S2 σ1 m2 G2 H2 h2 s12 p2 e2
/-- one turn of a walk, whatever is walked -/
theorem loop_turns {K : PySem.W.Frag} {J : It} {xs : List D} {ck : Sto → Prop} {E : Ds} {D0 : Ends} {G0 H0 : Hp} {m0 : List Addr} {S0 : Sto} {env0 : Vars} {σ0 : L2.St} {tg : TG} {tb : TS} (he : RE K m0 G0 env0 σ0) (hp : Rp K T m0 S0 G0 H0) (l : Lk K T W m0 G0 H0 E D0)
    (hg : ∀ v σ H Q, lG K T g v σ H Q → tg v σ H Q) (hb : ∀ D σ H, lS K T W u D σ H → tb D σ H) (hw : WalkOf K T J xs ck m0 G0 H0) (h : loop ck g u E xs env0 S0) :
    ∃ W' : Nat → Nat → L2.St → Hp → Prop, (∃ n, W' 0 n σ0 H0) ∧ ∀ i n σ H, W' i n σ H →
      (J.stop i H ∧ D0.nx σ H) ∨ (J.go i H ∧ ∃ N : L2.St → Hp → Prop, (∀ σ' H', N σ' H' → ∃ n', n' < n ∧ W' (i + 1) n' σ' H') ∧ ∀ x H', J.yld i H x H' → tg x σ H' fun σ2 H2 => tb { D0 with nx := N, ct := N, bk := D0.nx } σ2 H2) := by
  refine ⟨fun i n σ H => n = xs.length - i ∧ i ≤ xs.length ∧ ∃ G env S m, RE K m G env σ ∧ Rp K T m S G H ∧ Stp m0 G0 H0 m G H ∧ loop ck g u E (xs.drop i) env S, ⟨xs.length, by simp, Nat.zero_le _, G0, env0, S0, m0, he, hp, Stp.refl, by simpa using h⟩, ?_⟩
  rintro i n σ H ⟨rfl, hi, G, env, S, m, he1, hp1, s1, hl⟩
  by_cases hlt : i < xs.length
  · have e : xs.drop i = xs[i] :: xs.drop (i + 1) := List.drop_eq_getElem_cons hlt
    rw [e] at hl
    obtain ⟨hck, hl⟩ := hl
    obtain ⟨g1, g2⟩ := hw.1 i xs[i] S m G H (List.getElem?_eq_getElem hlt) hck hp1 s1
    refine .inr ⟨g1, fun σ' H' => ∃ G' env' S' m', RE K m' G' env' σ' ∧ Rp K T m' S' G' H' ∧ Stp m0 G0 H0 m' G' H' ∧ loop ck g u E (xs.drop (i + 1)) env' S', fun σ' H' q => ⟨xs.length - (i + 1), by omega, rfl, hlt, q⟩, fun x H' y => ?_⟩
    obtain ⟨m2, G2, s2, p2, d2⟩ := g2 x H' y
    refine hg _ _ _ _ ⟨G2, xs[i], env, S, m2, _, d2, he1.mono hp1 s2, p2, hl, fun env3 S3 σ3 m3 G3 H3 h3 s3 p3 e3 => hb _ _ _ ?_⟩
    have s13 := (s1.trans s2).trans s3
    exact ⟨G3, env3, S3, m3, _, e3, p3, h3, fun env4 S4 σ4 m4 G4 H4 h4 s4 p4 e4 => ⟨G4, env4, S4, m4, e4, p4, s13.trans s4, h4⟩, fun env4 S4 σ4 m4 G4 H4 h4 s4 p4 e4 => l.nx env4 S4 σ4 m4 G4 H4 h4 (s13.trans s4) p4 e4,
      fun env4 S4 σ4 m4 G4 H4 h4 s4 p4 e4 => ⟨G4, env4, S4, m4, e4, p4, s13.trans s4, h4⟩, l.rt.on s13, l.ex.on s13⟩
  · have e : i = xs.length := by omega
    subst e
    rw [List.drop_length] at hl
    exact .inl ⟨hw.2 S m G H hl.1 hp1 s1, l.nx env S σ m G H hl.2 s1 hp1 he1⟩
theorem items_at {K : PySem.W.Frag} {m : List Addr} {S : Sto} {G H : Hp} {d : D} {xs : List D} {v : V} (hp : Rp K T m S G H) (dr : DR K m G d v) (hi : itemsL d S = some xs) : ∃ a vs, v = .ref a ∧ SqL K H a vs ∧ DRs K m G xs vs := by
  cases dr with
  | lst h1 _ h2 =>
    cases (Option.some.inj hi)
    exact ⟨_, _, rfl, .inl (.inl (hp.sub _ _ h1)), h2⟩
  | scr h1 h2 =>
    cases (Option.some.inj hi)
    rcases h1 with ⟨o, h1⟩ | h1
    · exact ⟨_, _, rfl, .inl (.inr ⟨o, hp.sub _ _ h1⟩), h2⟩
    · exact ⟨_, _, rfl, .inr h1, h2⟩
  | mu h1 =>
    obtain ⟨vs, h3, h4⟩ := hp.sto _ _ _ h1 hi
    exact ⟨_, vs, rfl, .inl (.inl (hp.sub _ _ h3)), h4⟩
  | _ => cases hi
theorem sqT_sub {K : PySem.W.Frag} {m : List Addr} {S : Sto} {G H : Hp} {a : Addr} {vs : List V} (hp : Rp K T m S G H) (hs : SqT K G a vs) : SqT K H a vs := by
  rcases hs with (hs | ⟨o, hs⟩) | hs
  · exact .inl (.inl (hp.sub _ _ hs))
  · exact .inl (.inr ⟨o, hp.sub _ _ hs⟩)
  · exact .inr hs
theorem tup_at {K : PySem.W.Frag} {m : List Addr} {S : Sto} {G H : Hp} {xs : List D} {v : V} (hp : Rp K T m S G H) (dr : DR K m G (.tup xs) v) : ∃ a vs, v = .ref a ∧ SqT K H a vs ∧ DRs K m G xs vs := by
  cases dr with
  | tup hs h2 => exact ⟨_, _, rfl, sqT_sub hp hs, h2⟩
theorem psd_for {tg iter : Expr} {wi : WI'} (hpo : PassesOwn (model X.prog X.w) X.A X.env X.xe) (hc : X.calm = true) (hi : PID X T W tg iter wi) (hg : PGD X T tg g) (hb : PSsD X T W body u) (hs : ∀ x, foldedSetIterable iter X.env x = pure x := by intro _; rfl) :
    PSD X T W (.For tg iter body [] pos) (sFor wi g u) := by
  refine ps_imp (ps_for hpo hc hi hg hb hs) fun D σ H ⟨G, env, S, m, E, he, hp, h, l⟩ => ?_
  exact ⟨G, env, S, m, _, _, he, hp, h, fun src S1 m1 G1 H1 J h1 s1 p1 hw => loop_turns (he.mono hp s1) p1 (l.on s1) (fun _ _ _ _ q => q) (fun _ _ _ q => q) hw h1, l.ex⟩
theorem walk_list {K : PySem.W.Frag} {m : List Addr} {S : Sto} {G H : Hp} {d : D} {a : Addr} {xs : List D} (hp : Rp K T m S G H) (dr : DR K m G d (.ref a)) : WalkOf K T (Itl K a) xs (fun S => itemsL d S = some xs) m G H := by
  refine ⟨fun i d' S2 m2 G2 H2 hd hck p2 s2 => ?_, fun S2 m2 G2 H2 hck p2 s2 => ?_⟩
  · obtain ⟨a', vs', ea, sq', dr'⟩ := items_at p2 (dr.mono hp s2) hck
    cases ea
    obtain ⟨v', hv, dv⟩ := dr'.get hd
    refine ⟨⟨vs', v', sq', hv⟩, fun x H' ⟨e1, e2⟩ => ?_⟩
    subst e1
    have := e2 vs' sq'
    rw [hv] at this
    cases this
    exact ⟨m2, G2, Stp.refl, p2, dv⟩
  · obtain ⟨a', vs', ea, sq', dr'⟩ := items_at p2 (dr.mono hp s2) hck
    cases ea
    exact ⟨vs', sq', by rw [← dr'.length]; exact Nat.le_refl _⟩
theorem walk_tup {K : PySem.W.Frag} {m : List Addr} {S : Sto} {G H : Hp} {a : Addr} {xs : List D} (hp : Rp K T m S G H) (dr : DR K m G (.tup xs) (.ref a)) : WalkOf K T (Itt K a) xs (fun _ => True) m G H := by
  refine ⟨fun i d' S2 m2 G2 H2 hd hck p2 s2 => ?_, fun S2 m2 G2 H2 hck p2 s2 => ?_⟩
  · obtain ⟨a', vs', ea, sq', dr'⟩ := tup_at p2 (dr.mono hp s2)
    cases ea
    obtain ⟨v', hv, dv⟩ := dr'.get hd
    refine ⟨⟨vs', v', sq', hv⟩, fun x H' ⟨e1, e2⟩ => ?_⟩
    subst e1
    have := e2 vs' sq'
    rw [hv] at this
    cases this
    exact ⟨m2, G2, Stp.refl, p2, dv⟩
  · obtain ⟨a', vs', ea, sq', dr'⟩ := tup_at p2 (dr.mono hp s2)
    cases ea
    exact ⟨vs', sq', by rw [← dr'.length]; exact Nat.le_refl _⟩
theorem intsD_get {lo : Int} {n i : Nat} {d : D} (h : (intsD lo n)[i]? = some d) : i < n ∧ d = .int (lo + i) := by
  unfold intsD at h
  rw [List.getElem?_map] at h
  by_cases hi : i < n
  · rw [List.getElem?_range hi] at h
    exact ⟨hi, (Option.some.inj h).symm⟩
  · rw [List.getElem?_eq_none (by simpa using hi)] at h
    cases h
theorem intsD_len {lo : Int} {n : Nat} : (intsD lo n).length = n := by simp [intsD]
theorem walk_range {K : PySem.W.Frag} {m : List Addr} {G H : Hp} {lo : Int} {n : Nat} : WalkOf K T (Itr lo n) (intsD lo n) (fun _ => True) m G H := by
  refine ⟨fun i d' S2 m2 G2 H2 hd hck p2 s2 => ?_, fun S2 m2 G2 H2 hck p2 s2 => ?_⟩
  · obtain ⟨q1, rfl⟩ := intsD_get hd
    refine ⟨q1, fun x H' ⟨e1, e2⟩ => ?_⟩
    subst e1 e2
    exact ⟨m2, G2, Stp.refl, p2, .int _⟩
  · rw [intsD_len]
    exact Nat.le_refl _
theorem pid_list {tg iter : Expr} (hi : PD X T W iter w) : PID X T W tg iter (wiL w) := by
  refine pi_imp (pi_list hi) fun σ H R ⟨G, env, S, m, R', Rx, he, hp, h, hk, hx⟩ => ?_
  refine ⟨G, env, S, m, _, _, he, hp, h, fun d S1 v m1 G1 H1 ⟨xs, hxs, h1⟩ s1 p1 d1 => ?_, hx⟩
  obtain ⟨a, vs, rfl, sq, dr⟩ := items_at p1 d1 hxs
  exact ⟨a, rfl, ⟨vs, sq⟩, hk _ S1 m1 G1 H1 _ h1 s1 p1 (walk_list p1 d1)⟩
theorem pid_tup {tg iter : Expr} (hi : PD X T W iter w) : PID X T W tg iter (wiT w) := by
  refine pi_imp (pi_tup hi) fun σ H R ⟨G, env, S, m, R', Rx, he, hp, h, hk, hx⟩ => ?_
  refine ⟨G, env, S, m, _, _, he, hp, h, fun d S1 v m1 G1 H1 ⟨xs, hxs, h1⟩ s1 p1 d1 => ?_, hx⟩
  subst hxs
  obtain ⟨a, vs, rfl, sq, dr⟩ := tup_at p1 d1
  exact ⟨a, rfl, ⟨vs, sq⟩, hk _ S1 m1 G1 H1 _ h1 s1 p1 (walk_tup p1 d1)⟩
theorem pid_range1 {tg a : Expr} {p q : Pos} (hgl : Gl X "range") (hm : X.mg "range" = none) (hi : PAD X T W [a] as) (hs : starEach [a] X.env = [(false, eval a X.env)] := by rfl) : PID X T W tg (.Call (.Name "range" p) [a] [] q) (wiR1 as) := by
  refine pi_imp (pi_range1 hgl hm hi hs) fun σ H R ⟨G, env, S, m, R', Rx, he, hp, h, hk, hx⟩ => ?_
  refine ⟨G, env, S, m, _, _, he, hp, h, fun ds S1 vs m1 G1 H1 ⟨j, hj, b1, b2, h1⟩ s1 p1 d1 => ?_, hx⟩
  subst hj
  cases d1 with
  | cons r1 r2 =>
    cases r2
    cases r1
    exact ⟨j, rfl, b1, b2, hk _ S1 m1 G1 H1 _ h1 s1 p1 walk_range⟩
theorem pid_range2 {tg a b : Expr} {p q : Pos} (hgl : Gl X "range") (hm : X.mg "range" = none) (hi : PAD X T W [a, b] as) (hs : starEach [a, b] X.env = [(false, eval a X.env), (false, eval b X.env)] := by rfl) (hs1 : starEach [b] X.env = [(false, eval b X.env)] := by rfl) : PID X T W tg (.Call (.Name "range" p) [a, b] [] q) (wiR2 as) := by
  refine pi_imp (pi_range2 hgl hm hi hs hs1) fun σ H R ⟨G, env, S, m, R', Rx, he, hp, h, hk, hx⟩ => ?_
  refine ⟨G, env, S, m, _, _, he, hp, h, fun ds S1 vs m1 G1 H1 ⟨i0, j, hj, b1, h1⟩ s1 p1 d1 => ?_, hx⟩
  subst hj
  cases d1 with
  | cons r1 r2 =>
    cases r2 with
    | cons r2 r3 =>
      cases r3
      cases r1
      cases r2
      exact ⟨i0, j, rfl, b1, hk _ S1 m1 G1 H1 _ h1 s1 p1 walk_range⟩
end
end DL

set_option maxHeartbeats 4000000
namespace DL
open PySem PySem.Spec PyProof.Rows L2

/-- a def keeps its promise; asked where no repr is under way -/
abbrev GdOk (gd : Bool) (A : Around) : Prop := gd = true → A.guards = some []
theorem GdOk.le {a b : Bool} {A : Around} (h : GdOk a A) (i : b = true → a = true) : GdOk b A := fun z => h (i z)
/-- where the def's code stands -/
def CodeAt (K : PySem.W.Frag) (f : Addr) (cdv : Value) : Prop := ∃ oc od fd osl, K.lookup f = some ⟨oc, od, .func fd, osl⟩ ∧ fd.code = cdv ∧ ∃ c, cdv = .ref c
structure FnD (gd : Bool) (P : Program) (w : World) (K : PySem.W.Frag) (mg : Str → Option Value) (base : Heap) (T : List (Addr × Str)) (k : Nat) (f : Addr) (fd : FuncData) (ps : List Str) (p : SpD) : Prop where
  run : ∀ (A : Around) (outer : List Env) (s : Shared) (args : Args) (us : List Value) (vs : List V) (ds : List D) (S : Sto) (m : List Addr) (G H : Hp) (R : KR) (Rx : Er → Sto → Prop) (Q : VK) (E : XK),
    Room k A → GdOk gd A → Env0 P w K mg base A outer s H → BindsTo s fd args (ps.zip us) → Vals vs us → DRs K m G ds vs → Rp K T m S G H → ds.length = ps.length → p ds S R Rx →
    Okl K T m G H R Q → (∀ e S' cls dd m' G' H', Rx e S' → Stp m G H m' G' H' → Rp K T m' S' G' H' → DE K m' G' e cls dd → E cls dd H') →
    codeAny (model P w) A (.call (.ref f) args) (CR (L2.CX P w) outer P w H s Q E) s
theorem FnD.mono {gd : Bool} {P : Program} {w : World} {K : PySem.W.Frag} {mg : Str → Option Value} {base : Heap} {T : List (Addr × Str)} {j k : Nat} {f : Addr} {fd : FuncData} {ps : List Str} {p : SpD} (F : FnD gd P w K mg base T j f fd ps p) (h : j ≤ k) : FnD gd P w K mg base T k f fd ps p :=
  ⟨fun A outer s args us vs ds S m G H R Rx Q E hr => F.run A outer s args us vs ds S m G H R Rx Q E (hr.mono h)⟩
def startE (N : List Str) (ds : List D) : Vars := ds.map some ++ List.replicate (N.length - ds.length) none
theorem start_rel {K : PySem.W.Frag} {m : List Addr} {G : Hp} {N : List Str} {ds : List D} {vs : List V} (h : DRs K m G ds vs) : RE K m G (startE N ds) (L2.start N vs) := by
  have hl := h.length
  have e : L2.start N vs = vs.map some ++ List.replicate (N.length - vs.length) none := rfl
  refine ⟨by rw [e]; simp [startE, hl], fun i d hi => ?_⟩
  unfold startE at hi
  rw [e]
  by_cases z : i < ds.length
  · rw [List.getElem?_append_left (by simpa using z), List.getElem?_map] at hi
    cases q : ds[i]? with
    | none =>
      rw [q] at hi
      cases hi
    | some d' =>
      rw [q] at hi
      cases hi
      obtain ⟨v, h1, h2⟩ := h.get q
      refine ⟨v, ?_, h2⟩
      rw [List.getElem?_append_left (by rw [List.length_map, ← hl]; exact z), List.getElem?_map, h1]
      rfl
  · rw [List.getElem?_append_right (by simpa using z), List.getElem?_replicate] at hi
    split at hi <;> cases hi
section
variable {P : Program} {w : World} {K : PySem.W.Frag} {mg : Str → Option Value} {base : Heap} {T : List (Addr × Str)} {x qual : Str} {params : Arguments} {body : List Stmt} {scope : Scope} {dvs : List V} {kws : List (Str × V)} {f : Addr} {fd : FuncData}
/-- what holds of a def's body -/
structure Bx (X : Cx) (P : Program) (w : World) (K : PySem.W.Frag) (mg : Str → Option Value) (base : Heap) (W : WX) (N : List Str) (sc : Scope) (k : Nat) : Prop where
  prog : X.prog = P
  wo : X.w = w
  kf : X.K = K
  mgl : X.mg = mg
  ba : X.base = base
  nn : X.N = N
  sco : X.env.scope = sc
  calm : X.calm = true
  gu : GdOk true X.A
  room : Room k X.A
  tk : Takes X W
  po : PassesOwn (model X.prog X.w) X.A X.env X.xe
/-- a def: its body's reading -/
theorem fn_okD {gd : Bool} {N ps : List Str} {k : Nat} {p : SpD} (F : FunD K x qual params body scope dvs kws f fd) (Sc : FnScope N ps scope)
    (hbody : ∀ (cdv : Value) (A : Around) (outer : List Env) (s : Shared) (H : Hp) (E : XK), Room k (A.deeper (envOfC qual scope s.heap.objs.size f cdv)) → GdOk gd A → CodeAt K f cdv →
      ∃ u : WS', PSsD (cxOf (L2.CX P w) P w K mg base N qual scope f cdv A outer s H E) T (fun cls d _ H' => E cls d H') body u ∧
        ∀ ds S R Rx, ds.length = ps.length → p ds S R Rx → u (startE N ds) S { nx := fun _ S' => R .non S', rt := R, bk := fun _ _ => False, ct := fun _ _ => False, ex := fun e _ S' => Rx e S' }) :
    FnD gd P w K mg base T (k + 1) f fd ps p := by
  obtain ⟨oc, od, dV, kV, doc, pm, an, cdv, ct, osl, rfl, lk, hcd, _, _⟩ := F.ex
  refine ⟨fun A outer s args us vs ds S m G H R Rx Q E hr hgd e0 hb rv dr rp hl hsp hk hx => ?_⟩
  have hlen : vs.length = ps.length := by rw [← dr.length]; exact hl
  have go := LamX.run_ofS (CX := L2.CX P w) (P := P) (w := w) (mg := mg) (base := base) (k := k) (args := args) (Q := Q) (E := E) lk hcd Sc hr e0 hb rv hlen fun hr' => by
    obtain ⟨u, hu, hq⟩ := hbody cdv A outer s H E hr' hgd ⟨_, _, _, _, lk, rfl, He.codeIn_ref hcd⟩
    exact ⟨_, hu, G, startE N ds, S, m, _, start_rel dr, rp, hq ds S R Rx hl hsp, fun env S' σ m' G' H' h1 h2 h3 h4 => hk .non S' .non m' G' H' h1 h2 h3 .non, fun _ _ _ _ _ _ h => h.elim, fun _ _ _ _ _ _ h => h.elim, hk,
      fun e env S' cls dd σ m' G' H' h1 h2 h3 h4 h5 => hx e S' cls dd m' G' H' h1 h2 h3 h5⟩
  exact go
end
section
variable {X : Cx} {T : List (Addr × Str)} {W : WX} {k : Nat} {f : Addr} {fd : FuncData} {ps : List Str} {p : SpD} {more : List D} {mv : List V} {ds : List Value} {x : Str} {pp pos : Pos} {e : Expr} {es : List Expr} {as : WA'}
/-- the callee runs -/
theorem run_fnD {gd : Bool} {pins : List (Addr × Obj)} {σ : L2.St} {H : Hp} {s : Shared} {Q : VK} {us : List Value} {vs : List V} {xs : List D} {S : Sto} {m : List Addr} {G : Hp} {R : KR} {Rx : KX} {env : Vars} (F : FnD gd X.prog X.w X.K X.mg X.base T k f fd ps p) (hr : Room k X.A) (hgd : GdOk gd X.A) (hb : Binds X.K fd ps ds) (hd : Vals mv ds)
    (hm : ∀ m G, DRs X.K m G more mv) (tk : Takes X W) (I : Inv X pins σ H s) (r : Vals vs us) (dr : DRs X.K m G xs vs) (rp : Rp X.K T m S G H) (hl : (xs ++ more).length = ps.length) (he : RE X.K m G env σ)
    (h : p (xs ++ more) S R (fun e S2 => Rx e env S2)) (hk : Okl X.K T m G H R Q) (hx : Exl X.K T W m G H Rx) : wpAny (model X.prog X.w) X.A (call (.ref f) us) (EP X pins σ Q) X.xe s := by
  have r2 : Vals (vs ++ mv) (us ++ ds) := r.append hd
  have d2 : DRs X.K m G (xs ++ more) (vs ++ mv) := dr.append (hm m G)
  have l2 : (us ++ ds).length = ps.length := by rw [← r2.length, ← d2.length]; exact hl
  refine wpAny_call (codeAny_mono (F.run X.A X.stack s ⟨us, []⟩ (us ++ ds) (vs ++ mv) (xs ++ more) S m G H R _ Q (WE W σ) hr hgd I.env0 (hb s us I.kIn l2) r2 d2 rp hl h hk
    (fun e S' cls dd m' G' H' q1 q2 q3 q4 => hx e env S' cls dd σ m' G' H' q1 q2 q3 (he.mono rp q2) q4)) fun rr s' hq => ?_)
  cases rr with
  | error er => exact passAt tk σ pins H s er s' I hq
  | ok fl =>
    cases fl with
    | ret u => exact I.after hq
    | _ => exact False.elim hq
def wCallN (p : SpD) (n : Nat) (as : WA') (more : List D) : WE' := fun env S R Rx => as env S (fun ds S1 => (ds ++ more).length = n ∧ p (ds ++ more) S1 R (fun e S2 => Rx e env S2)) Rx
theorem pd_call {gd : Bool} (F : FnD gd X.prog X.w X.K X.mg X.base T k f fd ps p) (hr : Room k X.A) (hgd : GdOk gd X.A) (hg : Gl X x) (hm : X.mg x = some (.ref f)) (hk : PySem.W.keepIn X.K (.ref f) = true) (hb : Binds X.K fd ps ds) (hd : Vals mv ds) (hmo : ∀ m G, DRs X.K m G more mv) (tk : Takes X W)
    (ha : PAD X T W (e :: es) as) (hdb : (x == ("__debug__" : Str)) = false := by decide) (he : starEach (e :: es) X.env = (false, eval e X.env) :: starEach es X.env := by rfl) (hpl : (backTo pos (starEach es X.env)).any (·.1) = false := by rfl) :
    PD X T W (.Call (.Name x pp) (e :: es) [] pos) (wCallN p ps.length as more) := by
  refine ⟨fun pins s σ H Q I ⟨G, env, S, m, R, Rx, hre, hp, h, hok, hx⟩ => ?_⟩
  refine wpAny_Call_Name_kw (ld_glob I hg hm ?_ hdb)
  refine PySem.W.callWith_K (h₀ := X.base) I.ok.mod.kin hk (thn (ha.run pos pins s σ H (fun vs H1 => ∃ m1 G1 S1 xs, DRs X.K m1 G1 xs vs ∧ Rp X.K T m1 S1 G1 H1 ∧ RE X.K m1 G1 env σ ∧ ((xs ++ more).length = ps.length ∧ p (xs ++ more) S1 R (fun e S2 => Rx e env S2)) ∧ Okl X.K T m1 G1 H1 R Q ∧ Exl X.K T W m1 G1 H1 Rx) I
    ⟨G, env, S, m, _, Rx, hre, hp, h, fun xs S1 vs m1 G1 H1 h1 s1 p1 d1 => ⟨m1, G1, S1, xs, d1, p1, hre.mono hp s1, h1, hok.on s1, hx.on s1⟩, hx⟩) fun us s1 ⟨vs, H1, I1, r1, m1, G1, S1, xs, d1, p1, e1, ⟨hl, h1⟩, k1, x1⟩ => ⟨I1.kIn, ?_⟩) he hpl
  exact run_fnD F hr hgd hb hd hmo tk I1 r1 d1 p1 hl e1 h1 k1 x1
end

/-! ### the law's call -/
theorem dInts {K : PySem.W.Frag} {m : List Addr} {G : Hp} : ∀ l : List Int, DRs K m G (l.map D.int) (l.map V.int)
  | [] => .nil
  | z :: l => .cons (.int z) (dInts l)
/-- from a heap in which the script at most is tracked -/
theorem law_core {gd : Bool} {P : Program} {w : World} {K : PySem.W.Frag} {mg mb : Str → Option Value} {k : Nat} {fa a : Addr} {fd : FuncData} {x : Str} {p : SpD} {s1 : Shared} {us : List Value} {ns : List Int} {H : Hp} {ob : Obj} (hob : ob = { cls := .type "list", data := .seq us.toArray })
    (KX : K.In s1.heap) (hns : s1.heap.Ns mainGlobals mg) (hb : s1.heap.Ns builtinsNs mb) (hbb : ∀ x : Str, x ≠ "__name__" → mb x = bootBuiltins x) (hlim : s1.heap.NoLimit) (hg : s1.gens = #[])
    (ha : s1.heap.get? a = some ob) (hl : ns.length ≤ sizeLine) (rv : Vals (ns.map V.int) us) (hr : Room k callerA) (Hn : ∀ b, b ≠ a → H b = none) (Ha : (H a = some (.frz ob (.lst (ns.map V.int))) ∧ K.lookup a = none) ∨ (H a = none ∧ K.lookup a = some ob))
    (F : ∀ base : Heap, K.In base → base.Ns mainGlobals mg → FnD gd P w K mg base [] k fa fd [x] p) (hbind : ∀ (s : Shared) (u : Value), BindsTo s fd ⟨[u], []⟩ [(x, u)])
    (hp : p [.scr (ns.map D.int)] [] (fun d _ => d = .bl true) fun _ _ => False) :
    codeAny (model P w) callerA (.call (.ref fa) ⟨[.ref a], []⟩) (fun r s' => r = .ok (.ret (.bool true)) ∧ OldK s1.heap s'.heap ∧ s'.os = s1.os ∧ AllBare s'.gens) s1 := by
  have lv : us.length = ns.length := by rw [← rv.length, List.length_map]
  have hid : ∀ {b : Addr} {o : Obj}, b ≠ a → s1.heap.get? b = some o → (hidT s1.heap H).get? b = some o := fun nb e => hidT_get e (Hn _ nb)
  have dictNe : ∀ {b : Addr} {o : Obj} {es : Array DictEntry} {ep : Nat}, s1.heap.get? b = some o → o.data = .dict es ep → b ≠ a := fun e d z => by
    rw [z, ha] at e
    cases e
    rw [hob] at d
    cases d
  have nsAt : ∀ {b : Addr} {mm : Str → Option Value}, s1.heap.Ns b mm → (hidT s1.heap H).Ns b mm := fun ⟨o, es, ep, e, d, r⟩ => ⟨o, es, ep, hid (dictNe e d) e, d, r⟩
  have kin : K.In (hidT s1.heap H) := fun b o e => by
    by_cases z : b = a
    · rcases Ha with ⟨_, q⟩ | ⟨q, _⟩
      · rw [z, q] at e
        cases e
      · exact hidT_get (KX b o e) (by rw [z]; exact q)
    · exact hid z (KX b o e)
  have md : L2.Mod K mg (hidT s1.heap H) := by
    obtain ⟨mc, l1, l2⟩ := hlim
    exact ⟨kin, nsAt hns, ⟨mb, nsAt hb, hbb⟩, mc, nsAt l1, l2⟩
  have hok : HOk P w H s1.heap := fun b o e => by
    by_cases z : b = a
    · subst z
      rcases Ha with ⟨q, _⟩ | ⟨q, _⟩
      · rw [q] at e
        cases e
        refine ⟨ha, ?_, us, 0, rv, by rw [ha, hob]⟩
        rw [List.length_map]
        exact hl
      · rw [q] at e
        cases e
    · rw [Hn b z] at e
      cases e
  have e0 : Env0 P w K mg (hidT s1.heap H) callerA [] s1 H := ⟨rfl, md, fun b o e => of_hidT e, Nat.le_of_eq (hidT_size _ _), trivial, fun b hb => absurd (show b ∈ ([] : List Addr) from hb) (by simp), hok, .of_eq hg⟩
  have rp : Rp K [] [] [] H H := ⟨fun _ _ h => h, List.nodup_nil, rfl, fun i b xs h => by simp at h, (fun q hq => by cases hq), fun b ps z => Classical.byCases (fun e : b = a => by
      rw [e] at z
      rcases Ha with ⟨q, _⟩ | ⟨q, _⟩ <;> rw [q] at z <;> cases z) (fun e : ¬ b = a => by
      rw [Hn b e] at z
      cases z)⟩
  have sf : SqF K H a (ns.map V.int) := by
    rcases Ha with ⟨q, _⟩ | ⟨_, q⟩
    · exact .inl ⟨_, q⟩
    · refine .inr ⟨ob, us.toArray, 0, q, by rw [hob], by rw [hob], by rw [hob], ?_, by simpa using rv⟩
      rw [List.size_toArray, lv]
      exact hl
  have dr : DRs K [] H [D.scr (ns.map D.int)] [V.ref a] := .cons (.scr sf (dInts ns)) .nil
  refine codeAny_mono ((F _ kin (nsAt hns)).run callerA [] s1 ⟨[.ref a], []⟩ [.ref a] [.ref a] [.scr (ns.map D.int)] [] [] H H _ _ (fun v H' => v = .bl true ∧ ∀ o u, H a = some (.frz o u) → H' a = some (.frz o u)) (fun _ _ _ => False) hr (fun _ => rfl) e0 (hbind s1 (.ref a)) (.cons rfl .nil) dr rp rfl hp
    (fun d S v m' G' H' h1 s p' d' => by
      subst h1
      cases d'
      exact ⟨rfl, fun o u q => p'.sub _ _ (s.keep _ _ q (by simp))⟩) fun _ _ _ _ _ _ _ h => h.elim) fun r s' h => ?_
  cases r with
  | error e =>
    obtain ⟨_, _, _, _, _, _, _, _, _, _, _, _, z⟩ := (h : L2.CX P w [] H s1 (fun _ _ _ => False) e s')
    exact z.elim
  | ok fl =>
    cases fl with
    | ret u =>
      obtain ⟨v, H', os, bare, un, hok', rr, q1, q2⟩ := (h : CE [] P w H s1 _ u s')
      subst q1
      obtain rfl : u = Value.bool true := rr
      refine ⟨rfl, OldK.of_keep fun b o e => ?_, os, bare⟩
      have old : H b = none → s'.heap.get? b = some o := fun n => un.keep b o e n (fun y => absurd (show b ∈ ([] : List Addr) from y) (by simp)) (by simp)
      by_cases z : b = a
      · subst z
        rcases Ha with ⟨q, _⟩ | ⟨q, _⟩
        · obtain ⟨e2, _⟩ := hok' b _ (q2 _ _ q)
          rw [ha] at e
          cases e
          exact e2
        · exact old q
      · exact old (Hn b z)
    | _ => exact False.elim h
theorem law_runD {gd : Bool} {P : Program} {w : World} {K : PySem.W.Frag} {mg mb : Str → Option Value} {k : Nat} {fa a : Addr} {fd : FuncData} {x : Str} {p : SpD} {s1 : Shared} {us : List Value} {ns : List Int}
    (KX : K.In s1.heap) (hns : s1.heap.Ns mainGlobals mg) (hb : s1.heap.Ns builtinsNs mb) (hbb : ∀ x : Str, x ≠ "__name__" → mb x = bootBuiltins x) (hlim : s1.heap.NoLimit) (hg : s1.gens = #[])
    (ha : s1.heap.get? a = some { cls := .type "list", data := .seq us.toArray }) (hi : IntsAre us ns) (hl : ns.length ≤ sizeLine) (hr : Room k callerA)
    (F : ∀ base : Heap, K.In base → base.Ns mainGlobals mg → FnD gd P w K mg base [] k fa fd [x] p) (hbind : ∀ (s : Shared) (u : Value), BindsTo s fd ⟨[u], []⟩ [(x, u)])
    (hp : p [.scr (ns.map D.int)] [] (fun d _ => d = .bl true) fun _ _ => False) :
    codeAny (model P w) callerA (.call (.ref fa) ⟨[.ref a], []⟩) (fun r s' => r = .ok (.ret (.bool true)) ∧ OldK s1.heap s'.heap ∧ s'.os = s1.os ∧ AllBare s'.gens) s1 := by
  cases hk : K.lookup a with
  | none => exact law_core (H := upd (fun _ => none) a (.frz _ (.lst (ns.map V.int)))) rfl KX hns hb hbb hlim hg ha hl (vals_ints hi) hr (fun b n => upd_ne n) (.inl ⟨upd_same, hk⟩) F hbind hp
  | some o =>
    have e := KX a o hk
    rw [ha] at e
    cases e
    exact law_core (H := fun _ => none) rfl KX hns hb hbb hlim hg ha hl (vals_ints hi) hr (fun _ _ => rfl) (.inr ⟨rfl, hk⟩) F hbind hp
/-- the goal behind the head, from the law's promise -/
theorem walkD {l : PySem.W.OpenLaw} {n k : Nat} {q : Program} {loose : List Str} {XP : (Str → Option Value) → Heap → Prop} {YP : World → Heap → Prop} {d : DefRec} {x : Str}
    (hn : l.most = some n) (hn2 : n ≤ sizeLine) (hdf : d.params.defaults = []) (hr : Room k callerA)
    (F : ∀ (w : World) (mg : Str → Option Value) (fa : Addr) (h : Heap), YP w h → h.Ns mainGlobals mg → mg d.name = some (.ref fa) →
      ∃ (K : PySem.W.Frag) (fd : FuncData) (p : SpD) (gd : Bool), K.In h ∧ (∀ (s : Shared) (u : Value), BindsTo s fd ⟨[u], []⟩ [(x, u)]) ∧
        (∀ ns : List Int, ns.length ≤ n → p [.scr (ns.map D.int)] [] (fun d _ => d = .bl true) fun _ _ => False) ∧
        ∀ base : Heap, K.In base → base.Ns mainGlobals mg → FnD gd l.prog w K mg base [] k fa fd [x] p) :
    PySem.W.WalkO q loose XP YP l.row.toRowW d [] (fun f vs => PySem.call f vs) := by
  refine Att.attach_call hn hdf fun w s₀ s₁ mg mb fa o pm cd doc a vs ns G Y ho hd hcd hmg hobj hints hlen hg => ?_
  obtain ⟨K, fd, p, gd, KX, hb, hp, hF⟩ := F w mg fa _ Y G.T.g hmg
  exact law_runD KX G.T.g G.T.b G.T.builtins G.T.nolimit hg hobj hints (Nat.le_trans hlen hn2) hr hF hb (hp ns hlen)
end DL

set_option maxHeartbeats 4000000
namespace DL
open PySem PySem.Spec PyProof.Rows L2

/-! ### operations by values -/
def itemsM : D → Sto → Option (List D)
  | .lst xs, _ => some xs
  | .mu i, S => S[i]?
  | _, _ => none
def dAdd : F2 := fun a b S R => match a, b with
  | .int i, .int j => R (.int (i + j)) S
  | .tup xs, .tup ys => xs.length + ys.length ≤ sizeLine ∧ R (.tup (xs ++ ys)) S
  | .str x, .str y => x.length + y.length ≤ sizeLine ∧ R (.str (x ++ y)) S
  | a, b => ∃ xs ys, itemsM a S = some xs ∧ itemsM b S = some ys ∧ xs.length + ys.length ≤ sizeLine ∧ R (.lst (xs ++ ys)) S
def dAddM : F2 := fun a b S R => ∃ xs ys, itemsM a S = some xs ∧ itemsM b S = some ys ∧ xs.length + ys.length ≤ sizeLine ∧ R (.mu S.length) (S ++ [xs ++ ys])
def dSub : F2 := fun a b S R => match a, b with
  | .int i, .int j => R (.int (i - j)) S
  | _, _ => False
def dMul : F2 := fun a b S R => match a, b with
  | .int i, .int j => CMulW i j ∧ R (.int (i * j)) S
  | _, _ => False
def dDiv : F2 := fun a b S R => match a, b with
  | .int i, .int j => (j ≠ 0 ∧ j.natAbs.log2 < 9000) ∧ R (.int (i.fdiv j)) S
  | _, _ => False
def dMod : F2 := fun a b S R => match a, b with
  | .int i, .int j => j ≠ 0 ∧ R (.int (i.fmod j)) S
  | _, _ => False
def dPow : F2 := fun a b S R => match a, b with
  | .int i, .int j => CPow i j ∧ R (.int (i ^ j.toNat)) S
  | _, _ => False
def dNeg : F1 := fun a S R => match a with
  | .int i => R (.int (-i)) S
  | _ => False
def dLt : F2 := fun a b S R => match a, b with
  | .int i, .int j => R (.bl (decide (i < j))) S
  | _, _ => False
def dLe : F2 := fun a b S R => match a, b with
  | .int i, .int j => R (.bl (decide (i ≤ j))) S
  | _, _ => False
def dGt : F2 := fun a b S R => match a, b with
  | .int i, .int j => R (.bl (decide (j < i))) S
  | _, _ => False
def dGe : F2 := fun a b S R => match a, b with
  | .int i, .int j => R (.bl (decide (j ≤ i))) S
  | _, _ => False
def isNon : D → Bool
  | .non => true
  | _ => false
def dIs : F2 := fun a b S R => match b with
  | .non => R (.bl (isNon a)) S
  | _ => False
def dIsNot : F2 := fun a b S R => match b with
  | .non => R (.bl (!isNon a)) S
  | _ => False
mutual
def toP (S : Sto) : D → Option PyData
  | .non => some .none
  | .bl b => some (.bool b)
  | .int i => some (.int i)
  | .str x => some (.str x)
  | .tup xs => (toPs S xs).map .tuple
  | .lst xs => (toPs S xs).map .list
  | .scr xs => (toPs S xs).map .list
  | _ => none
def toPs (S : Sto) : List D → Option (List PyData)
  | [] => some []
  | x :: xs => match toP S x, toPs S xs with
    | some p, some ps => some (p :: ps)
    | _, _ => none
end
/-- growing lists stand for what they hold -/
def toQ (S : Sto) : D → Option PyData
  | .mu i => (S[i]?).bind fun xs => (toPs S xs).map .list
  | d => toP S d
def dEq : F2 := fun a b S R => match a, b with
  | .int i, .int j => R (.bl (decide (i = j))) S
  | .str i, .str j => R (.bl (decide (i = j))) S
  | a, b => ∃ p q, toQ S a = some p ∧ toQ S b = some q ∧ SeqAt.shaped p = true ∧ SeqAt.shaped q = true ∧ R (.bl (PyData.eqv p q)) S
def dNe : F2 := fun a b S R => match a, b with
  | .int i, .int j => R (.bl (!decide (i = j))) S
  | .str i, .str j => R (.bl (!decide (i = j))) S
  | a, b => ∃ p q, toQ S a = some p ∧ toQ S b = some q ∧ SeqAt.shaped p = true ∧ SeqAt.shaped q = true ∧ R (.bl (!PyData.eqv p q)) S
def dIx : F2 := fun a b S R => match a, b with
  | .tup xs, .int i => ∃ d, atI xs i = some d ∧ R d S
  | a, .int i => ∃ xs d, itemsL a S = some xs ∧ atI xs i = some d ∧ R d S
  | _, _ => False
def cutD (xs : List D) (lo hi : Option Int) : List D := (xs.drop (HT.sIx xs.length 0 lo)).take (HT.sIx xs.length xs.length hi - HT.sIx xs.length 0 lo)
def dCut (a : D) (lo hi : Option Int) (S : Sto) (R : KR) : Prop := match a with
  | .tup xs => R (.tup (cutD xs lo hi)) S
  | a => ∃ xs, itemsL a S = some xs ∧ R (.lst (cutD xs lo hi)) S
def dLen : FL := fun ds S R => match ds with
  | [.tup xs] => R (.int xs.length) S
  | [.str z] => z.length ≤ sizeLine ∧ R (.int z.length) S
  | [a] => ∃ xs, itemsL a S = some xs ∧ R (.int xs.length) S
  | _ => False
def dAbs : FL := fun ds S R => match ds with
  | [.int i] => R (.int (if i < 0 then -i else i)) S
  | _ => False
def dMax2 : FL := fun ds S R => match ds with
  | [.int i, .int j] => R (.int (if j > i then j else i)) S
  | _ => False
def dMin2 : FL := fun ds S R => match ds with
  | [.int i, .int j] => R (.int (if j < i then j else i)) S
  | _ => False
def dInt : FL := fun ds S R => match ds with
  | [.int i] => R (.int i) S
  | [.bl b] => R (.int (if b then 1 else 0)) S
  | _ => False
def dTupOf : FL := fun ds S R => match ds with
  | [.tup xs] => R (.tup xs) S
  | [a] => ∃ xs, itemsL a S = some xs ∧ R (.tup xs) S
  | _ => False
def dLstOf : FL := fun ds S R => match ds with
  | [.tup xs] => R (.lst xs) S
  | [a] => ∃ xs, itemsL a S = some xs ∧ R (.lst xs) S
  | _ => False
def dAll : FL := fun ds S R => match ds with
  | [a] => ∃ bs : List Bool, itemsL a S = some (bs.map D.bl) ∧ R (.bl (bs.all id)) S
  | _ => False
def dAny : FL := fun ds S R => match ds with
  | [a] => ∃ bs : List Bool, itemsL a S = some (bs.map D.bl) ∧ R (.bl (bs.any id)) S
  | _ => False
def dGcd : FL := fun ds S R => match ds with
  | [.int a, .int b] => R (.int ((Nat.gcd a.natAbs b.natAbs : Nat) : Int)) S
  | _ => False
def dRepr : FL := fun ds S R => match ds with
  | [a] => ∃ p, toQ S a = some p ∧ p.showable = true ∧ p.shown.length ≤ sizeLine ∧ p.depth ≤ 60 ∧ R (.str p.shown) S
  | _ => False
/-! kinds -/
def plainD : D → Bool
  | .ty _ | .ob _ | .er _ => false
  | _ => true
def isTup : D → Bool
  | .tup _ => true
  | _ => false
def isInt : D → Bool
  | .int _ | .bl _ => true
  | _ => false
def isBool : D → Bool
  | .bl _ => true
  | _ => false
def isStr : D → Bool
  | .str _ => true
  | _ => false
def isLst : D → Bool
  | .lst _ | .scr _ | .mu _ => true
  | _ => false
def dIsi (f : D → Bool) : FL := fun ds S R => match ds with
  | [a, .ty _] => plainD a = true ∧ R (.bl (f a)) S
  | _ => False
def kindN : D → String
  | .non => "NoneType"
  | .bl _ => "bool"
  | .int _ => "int"
  | .str _ => "str"
  | .tup _ => "tuple"
  | .lst _ | .scr _ | .mu _ => "list"
  | .emp => "dict"
  | _ => "object"

section
variable {X : Cx} {T : List (Addr × Str)}
theorem items_atM {K : PySem.W.Frag} {m : List Addr} {S : Sto} {G H : Hp} {d : D} {xs : List D} {v : V} (hp : Rp K T m S G H) (dr : DR K m G d v) (hi : itemsM d S = some xs) : ∃ a vs, v = .ref a ∧ H a = some (.lst vs) ∧ DRs K m G xs vs := by
  cases dr with
  | lst h1 _ h2 =>
    cases (Option.some.inj hi)
    exact ⟨_, _, rfl, hp.sub _ _ h1, h2⟩
  | mu h1 =>
    obtain ⟨vs, h3, h4⟩ := hp.sto _ _ _ h1 hi
    exact ⟨_, vs, rfl, hp.sub _ _ h3, h4⟩
  | _ => cases hi
/-- a new tuple, a new list is told -/
theorem tell_tup {K : PySem.W.Frag} {m : List Addr} {S : Sto} {G H : Hp} {R : KR} {Q : VK} {ds : List D} {vs : List V} (hp : Rp K T m S G H) (hk : Okl K T m G H R Q) (dr : DRs K m G ds vs) (h : R (.tup ds) S) : ∀ p, H p = none → Q (.ref p) (upd H p (.tup vs)) := fun p np => by
  obtain ⟨r1, r2⟩ := hp.new (o := .tup vs) np
  exact hk _ S _ m _ _ h r2 r1 (.tup (SqT.of upd_same) (dr.mono hp r2))
theorem tell_lst {K : PySem.W.Frag} {m : List Addr} {S : Sto} {G H : Hp} {R : KR} {Q : VK} {ds : List D} {vs : List V} (hp : Rp K T m S G H) (hk : Okl K T m G H R Q) (dr : DRs K m G ds vs) (h : R (.lst ds) S) : ∀ p, H p = none → Q (.ref p) (upd H p (.lst vs)) := fun p np => by
  obtain ⟨r1, r2⟩ := hp.new (o := .lst vs) np
  refine hk _ S _ m _ _ h r2 r1 (.lst upd_same (fun z => ?_) (dr.mono hp r2))
  obtain ⟨ws, e⟩ := hp.lists z
  have := hp.sub _ _ e
  rw [np] at this
  cases this
theorem tell_mu {K : PySem.W.Frag} {m : List Addr} {S : Sto} {G H : Hp} {R : KR} {Q : VK} {ds : List D} {vs : List V} (hp : Rp K T m S G H) (hk : Okl K T m G H R Q) (dr : DRs K m G ds vs) (h : R (.mu S.length) (S ++ [ds])) : ∀ p, H p = none → Q (.ref p) (upd H p (.lst vs)) := fun p np => by
  obtain ⟨r1, r2, r3⟩ := hp.newMu np dr
  exact hk _ _ _ _ _ _ h r2 r1 (.mu r3)
theorem cat_lists {x y : V} {v u : Value} {pins : List (Addr × Obj)} {s : Shared} {σ : L2.St} {H G : Hp} {Q : VK} {a b : D} {S : Sto} {m : List Addr} {xs ys : List D} (I : Inv X pins σ H s) (rx : RelV x v) (ry : RelV y u) (d1 : DR X.K m G a x) (d2 : DR X.K m G b y) (hp : Rp X.K T m S G H)
    (h1 : itemsM a S = some xs) (h2 : itemsM b S = some ys) (hl : xs.length + ys.length ≤ sizeLine) (k : ∀ vs, DRs X.K m G (xs ++ ys) vs → ∀ p, H p = none → Q (.ref p) (upd H p (.lst vs))) :
    wpAny (model X.prog X.w) X.A (binaryOp .Add v u) (EP X pins σ Q) X.xe s := by
  obtain ⟨p, vs, rfl, e1, r1⟩ := items_atM hp d1 h1
  obtain ⟨q, ws, rfl, e2, r2⟩ := items_atM hp d2 h2
  exact op_cat pins s σ H _ _ v u Q I rx ry ⟨p, q, vs, ws, rfl, rfl, e1, e2, by rw [← r1.length, ← r2.length]; exact hl, k _ (r1.append r2)⟩
theorem opD_addM : OpR X (binaryOp .Add) (lO X.K T dAddM) := by
  intro pins s σ H x y v u Q I rx ry ⟨G, a, b, S, m, R, d1, d2, hp, ⟨xs, ys, h1, h2, hl, h⟩, hk⟩
  exact cat_lists I rx ry d1 d2 hp h1 h2 hl fun vs dr => tell_mu hp hk dr h
theorem cat_tups {x y : V} {v u : Value} {pins : List (Addr × Obj)} {s : Shared} {σ : L2.St} {H G : Hp} {Q : VK} {S : Sto} {m : List Addr} {R : KR} {xs ys : List D} (I : Inv X pins σ H s) (rx : RelV x v) (ry : RelV y u) (d1 : DR X.K m G (.tup xs) x) (d2 : DR X.K m G (.tup ys) y) (hp : Rp X.K T m S G H)
    (hl : xs.length + ys.length ≤ sizeLine) (h : R (.tup (xs ++ ys)) S) (hk : Okl X.K T m G H R Q) : wpAny (model X.prog X.w) X.A (binaryOp .Add v u) (EP X pins σ Q) X.xe s := by
  obtain ⟨p, vs, rfl, e1, r1⟩ := tup_at hp d1
  obtain ⟨q, ws, rfl, e2, r2⟩ := tup_at hp d2
  refine op_catA pins s σ H _ _ v u Q I rx ry ⟨p, q, vs, ws, rfl, rfl, e1, e2, by rw [← r1.length, ← r2.length]; exact hl, fun z => ?_, fun _ z => ?_, fun _ _ => tell_tup hp hk (r1.append r2) h⟩
  · have : xs = [] := List.length_eq_zero_iff.mp (by rw [r1.length, z]; rfl)
    subst this
    exact hk.at h hp d2
  · have : ys = [] := List.length_eq_zero_iff.mp (by rw [r2.length, z]; rfl)
    subst this
    rw [List.append_nil] at h
    exact hk.at h hp d1
theorem opD_add : OpR X (binaryOp .Add) (lO X.K T dAdd) := by
  intro pins s σ H x y v u Q I rx ry ⟨G, a, b, S, m, R, d1, d2, hp, h, hk⟩
  cases a with
  | int i =>
    cases b with
    | int j =>
      cases d1
      cases d2
      exact op_add pins s σ H _ _ v u Q I rx ry ⟨_, _, rfl, rfl, hk.at h hp (.int _)⟩
    | _ =>
      obtain ⟨xs, ys, h1, _⟩ := h
      cases h1
  | str i =>
    cases b with
    | str j =>
      cases d1
      cases d2
      exact op_add_str pins s σ H _ _ v u Q I rx ry ⟨_, _, rfl, rfl, h.1, hk.at h.2 hp (.str _)⟩
    | _ =>
      obtain ⟨xs, ys, h1, _⟩ := h
      cases h1
  | tup xs =>
    cases b with
    | tup ys => exact cat_tups I rx ry d1 d2 hp h.1 h.2 hk
    | _ =>
      obtain ⟨xs, ys, h1, _⟩ := h
      cases h1
  | lst zs =>
    obtain ⟨xs, ys, h1, h2, hl, h⟩ : ∃ xs ys, itemsM (.lst zs) S = some xs ∧ itemsM b S = some ys ∧ xs.length + ys.length ≤ sizeLine ∧ R (.lst (xs ++ ys)) S := h
    exact cat_lists I rx ry d1 d2 hp h1 h2 hl fun vs dr => tell_lst hp hk dr h
  | mu i =>
    obtain ⟨xs, ys, h1, h2, hl, h⟩ : ∃ xs ys, itemsM (.mu i) S = some xs ∧ itemsM b S = some ys ∧ xs.length + ys.length ≤ sizeLine ∧ R (.lst (xs ++ ys)) S := h
    exact cat_lists I rx ry d1 d2 hp h1 h2 hl fun vs dr => tell_lst hp hk dr h
  | _ =>
    obtain ⟨xs, ys, h1, _⟩ := h
    cases h1
/-- two whole numbers -/
theorem opD_ints {f : Value → Value → Sem Value} {r : R2} {g : F2} (ho : OpR X f r) (hg : ∀ a b S R, g a b S R → ∃ i j, a = .int i ∧ b = .int j)
    (hr : ∀ i j S R H (Q : VK), g (.int i) (.int j) S R → (∀ d v, R d S → (∀ m G, DR X.K m G d v) → Q v H) → r (.int i) (.int j) H Q) : OpR X f (lO X.K T g) := by
  intro pins s σ H x y v u Q I rx ry ⟨G, a, b, S, m, R, d1, d2, hp, h, hk⟩
  obtain ⟨i, j, rfl, rfl⟩ := hg _ _ _ _ h
  cases d1
  cases d2
  exact ho pins s σ H _ _ v u Q I rx ry (hr i j S R H Q h fun d v q1 q2 => hk.at q1 hp (q2 m G))
theorem opD_sub : OpR X (binaryOp .Sub) (lO X.K T dSub) := opD_ints op_sub (fun a b S R h => by cases a <;> cases b <;> first | exact ⟨_, _, rfl, rfl⟩ | exact h.elim) fun i j S R H Q h k => ⟨i, j, rfl, rfl, k _ _ h fun _ _ => .int _⟩
theorem opD_mul : OpR X (binaryOp .Mult) (lO X.K T dMul) := opD_ints op_mulW (fun a b S R h => by cases a <;> cases b <;> first | exact ⟨_, _, rfl, rfl⟩ | exact h.elim) fun i j S R H Q h k => ⟨i, j, rfl, rfl, h.1, k _ _ h.2 fun _ _ => .int _⟩
theorem op_divN : OpR X (binaryOp .FloorDiv) (rI (fun _ j => j ≠ 0 ∧ j.natAbs.log2 < 9000) fun i j => .int (i.fdiv j)) := opI fun i j _ _ _ _ _ hc q => floordiv_int hc.1 q (.inl (PyProof.noPylong_of_log2 hc.2))
theorem opD_div : OpR X (binaryOp .FloorDiv) (lO X.K T dDiv) := opD_ints op_divN (fun a b S R h => by cases a <;> cases b <;> first | exact ⟨_, _, rfl, rfl⟩ | exact h.elim) fun i j S R H Q h k => ⟨i, j, rfl, rfl, h.1, k _ _ h.2 fun _ _ => .int _⟩
theorem opD_mod : OpR X (binaryOp .Mod) (lO X.K T dMod) := opD_ints op_modN (fun a b S R h => by cases a <;> cases b <;> first | exact ⟨_, _, rfl, rfl⟩ | exact h.elim) fun i j S R H Q h k => ⟨i, j, rfl, rfl, h.1, k _ _ h.2 fun _ _ => .int _⟩
theorem opD_pow : OpR X (binaryOp .Pow) (lO X.K T dPow) := opD_ints op_pow (fun a b S R h => by cases a <;> cases b <;> first | exact ⟨_, _, rfl, rfl⟩ | exact h.elim) fun i j S R H Q h k => ⟨i, j, rfl, rfl, h.1, k _ _ h.2 fun _ _ => .int _⟩
theorem opD_lt : OpR X (compareOp .Lt) (lO X.K T dLt) := opD_ints op_lt (fun a b S R h => by cases a <;> cases b <;> first | exact ⟨_, _, rfl, rfl⟩ | exact h.elim) fun i j S R H Q h k => ⟨i, j, rfl, rfl, k _ _ h fun _ _ => .bl _⟩
theorem opD_le : OpR X (compareOp .LtE) (lO X.K T dLe) := opD_ints op_le (fun a b S R h => by cases a <;> cases b <;> first | exact ⟨_, _, rfl, rfl⟩ | exact h.elim) fun i j S R H Q h k => ⟨i, j, rfl, rfl, k _ _ h fun _ _ => .bl _⟩
theorem opD_gt : OpR X (compareOp .Gt) (lO X.K T dGt) := opD_ints op_gt (fun a b S R h => by cases a <;> cases b <;> first | exact ⟨_, _, rfl, rfl⟩ | exact h.elim) fun i j S R H Q h k => ⟨i, j, rfl, rfl, k _ _ h fun _ _ => .bl _⟩
theorem opD_ge : OpR X (compareOp .GtE) (lO X.K T dGe) := opD_ints op_ge (fun a b S R h => by cases a <;> cases b <;> first | exact ⟨_, _, rfl, rfl⟩ | exact h.elim) fun i j S R H Q h k => ⟨i, j, rfl, rfl, k _ _ h fun _ _ => .bl _⟩
theorem unD_neg : UnR X (unaryOp .USub) (lU X.K T dNeg) := by
  intro pins s σ H x v Q I rx ⟨G, a, S, m, R, d1, hp, h, hk⟩
  cases a with
  | int i =>
    cases d1
    exact un_neg pins s σ H _ v Q I rx ⟨i, rfl, hk.at h hp (.int _)⟩
  | _ => exact h.elim
theorem isNon_ok {K : PySem.W.Frag} {m : List Addr} {G : Hp} {a : D} {x : V} (d : DR K m G a x) : decide (x = V.non) = isNon a := by
  cases d with
  | non => rfl
  | _ => exact decide_eq_false (by intro z; cases z)
theorem opD_is : OpR X (compareOp .Is) (lO X.K T dIs) := by
  intro pins s σ H x y v u Q I rx ry ⟨G, a, b, S, m, R, d1, d2, hp, h, hk⟩
  cases b with
  | non =>
    cases d2
    exact op_isN pins s σ H _ _ v u Q I rx ry ⟨rfl, by rw [isNon_ok d1]; exact hk.at h hp (.bl _)⟩
  | _ => exact h.elim
theorem opD_isNot : OpR X (compareOp .IsNot) (lO X.K T dIsNot) := by
  intro pins s σ H x y v u Q I rx ry ⟨G, a, b, S, m, R, d1, d2, hp, h, hk⟩
  cases b with
  | non =>
    cases d2
    exact op_notN pins s σ H _ _ v u Q I rx ry ⟨rfl, by rw [isNon_ok d1]; exact hk.at h hp (.bl _)⟩
  | _ => exact h.elim
/-! data as a whole -/
mutual
theorem toP_dp {K : PySem.W.Frag} {m : List Addr} {S : Sto} {G H : Hp} (hp : Rp K T m S G H) : ∀ {d : D} {v : V} {p : PyData}, DR K m G d v → toP S d = some p → Dp K H v p
  | _, _, _, .non, e => by cases (Option.some.inj (by simpa [toP] using e)); exact .non
  | _, _, _, .bl b, e => by cases (Option.some.inj (by simpa [toP] using e)); exact .bl b
  | _, _, _, .int i, e => by cases (Option.some.inj (by simpa [toP] using e)); exact .int i
  | _, _, _, .str x, e => by cases (Option.some.inj (by simpa [toP] using e)); exact .str x
  | _, _, _, .ty n, e => by simp [toP] at e
  | _, _, _, .ob a, e => by simp [toP] at e
  | _, _, _, .er _ _ _, e => by simp [toP] at e
  | _, _, _, .emp h, e => by simp [toP] at e
  | _, _, _, .mu h, e => by simp [toP] at e
  | _, _, _, .tup (ds := ds) h hs, e => by
    unfold toP at e
    obtain ⟨ps, e1, rfl⟩ := Option.map_eq_some_iff.mp e
    exact .tup (sqT_sub hp h) (toPs_dp hp hs e1)
  | _, _, _, .lst (ds := ds) h n hs, e => by
    unfold toP at e
    obtain ⟨ps, e1, rfl⟩ := Option.map_eq_some_iff.mp e
    exact .lst (.inl (.inl (hp.sub _ _ h))) (toPs_dp hp hs e1)
  | _, _, _, .scr (ds := ds) h hs, e => by
    unfold toP at e
    obtain ⟨ps, e1, rfl⟩ := Option.map_eq_some_iff.mp e
    refine .lst ?_ (toPs_dp hp hs e1)
    rcases h with ⟨o, h⟩ | h
    · exact .inl (.inr ⟨o, hp.sub _ _ h⟩)
    · exact .inr h
theorem toPs_dp {K : PySem.W.Frag} {m : List Addr} {S : Sto} {G H : Hp} (hp : Rp K T m S G H) : ∀ {ds : List D} {vs : List V} {ps : List PyData}, DRs K m G ds vs → toPs S ds = some ps → DpAll K H vs ps
  | _, _, _, .nil, e => by cases (Option.some.inj (by simpa [toPs] using e)); exact .nil
  | _, _, _, .cons (d := d) (ds := ds) h hs, e => by
    unfold toPs at e
    cases e1 : toP S d with
    | none =>
      rw [e1] at e
      cases e
    | some p =>
      cases e2 : toPs S ds with
      | none =>
        rw [e1, e2] at e
        cases e
      | some ps =>
        rw [e1, e2] at e
        cases e
        exact .cons (toP_dp hp h e1) (toPs_dp hp hs e2)
end
theorem toQ_dp {K : PySem.W.Frag} {m : List Addr} {S : Sto} {G H : Hp} (hp : Rp K T m S G H) {d : D} {v : V} {p : PyData} (h : DR K m G d v) (e : toQ S d = some p) : Dp K H v p := by
  cases d with
  | mu i =>
    have e : ((S[i]?).bind fun xs => (toPs S xs).map PyData.list) = some p := e
    cases q : S[i]? with
    | none =>
      rw [q] at e
      cases e
    | some xs =>
      rw [q] at e
      obtain ⟨ps, e1, rfl⟩ := Option.map_eq_some_iff.mp (show (toPs S xs).map PyData.list = some p from e)
      obtain ⟨a, vs, rfl, _, _, hh, dr⟩ := mu_at hp h q
      exact .lst (.inl (.inl hh)) (toPs_dp hp dr e1)
  | _ => exact toP_dp hp h e
theorem opD_eqG {pins : List (Addr × Obj)} {s : Shared} {σ : L2.St} {H G : Hp} {x y : V} {v u : Value} {Q : VK} {a b : D} {S : Sto} {m : List Addr} {R : KR} (hu : X.A.units + 64 < cLine) (I : Inv X pins σ H s) (rx : RelV x v) (ry : RelV y u) (d1 : DR X.K m G a x) (d2 : DR X.K m G b y) (hp : Rp X.K T m S G H)
    (h : ∃ p q, toQ S a = some p ∧ toQ S b = some q ∧ SeqAt.shaped p = true ∧ SeqAt.shaped q = true ∧ R (.bl (PyData.eqv p q)) S) (hk : Okl X.K T m G H R Q) : wpAny (model X.prog X.w) X.A (compareOp .Eq v u) (EP X pins σ Q) X.xe s := by
  obtain ⟨p, q, h1, h2, h3, h4, h5⟩ := h
  exact op_eqD hu pins s σ H _ _ v u Q I rx ry ⟨p, q, toQ_dp hp d1 h1, toQ_dp hp d2 h2, h3, h4, hk.at h5 hp (.bl _)⟩
theorem opD_neG {pins : List (Addr × Obj)} {s : Shared} {σ : L2.St} {H G : Hp} {x y : V} {v u : Value} {Q : VK} {a b : D} {S : Sto} {m : List Addr} {R : KR} (hu : X.A.units + 64 < cLine) (I : Inv X pins σ H s) (rx : RelV x v) (ry : RelV y u) (d1 : DR X.K m G a x) (d2 : DR X.K m G b y) (hp : Rp X.K T m S G H)
    (h : ∃ p q, toQ S a = some p ∧ toQ S b = some q ∧ SeqAt.shaped p = true ∧ SeqAt.shaped q = true ∧ R (.bl (!PyData.eqv p q)) S) (hk : Okl X.K T m G H R Q) : wpAny (model X.prog X.w) X.A (compareOp .NotEq v u) (EP X pins σ Q) X.xe s := by
  obtain ⟨p, q, h1, h2, h3, h4, h5⟩ := h
  exact op_neD hu pins s σ H _ _ v u Q I rx ry ⟨p, q, toQ_dp hp d1 h1, toQ_dp hp d2 h2, h3, h4, hk.at h5 hp (.bl _)⟩
theorem dEq_gen {a b : D} {S : Sto} {R : KR} (h : dEq a b S R) : (∃ i j, a = .int i ∧ b = .int j ∧ R (.bl (decide (i = j))) S) ∨ (∃ i j, a = .str i ∧ b = .str j ∧ R (.bl (decide (i = j))) S) ∨
    ∃ p q, toQ S a = some p ∧ toQ S b = some q ∧ SeqAt.shaped p = true ∧ SeqAt.shaped q = true ∧ R (.bl (PyData.eqv p q)) S := by
  unfold dEq at h
  split at h
  · exact .inl ⟨_, _, rfl, rfl, h⟩
  · exact .inr (.inl ⟨_, _, rfl, rfl, h⟩)
  · exact .inr (.inr h)
theorem dNe_gen {a b : D} {S : Sto} {R : KR} (h : dNe a b S R) : (∃ i j, a = .int i ∧ b = .int j ∧ R (.bl (!decide (i = j))) S) ∨ (∃ i j, a = .str i ∧ b = .str j ∧ R (.bl (!decide (i = j))) S) ∨
    ∃ p q, toQ S a = some p ∧ toQ S b = some q ∧ SeqAt.shaped p = true ∧ SeqAt.shaped q = true ∧ R (.bl (!PyData.eqv p q)) S := by
  unfold dNe at h
  split at h
  · exact .inl ⟨_, _, rfl, rfl, h⟩
  · exact .inr (.inl ⟨_, _, rfl, rfl, h⟩)
  · exact .inr (.inr h)
theorem dec_int {i j : Int} : decide (V.int i = V.int j) = decide (i = j) := by
  by_cases h : i = j
  · subst h
    simp
  · rw [decide_eq_false h]
    exact decide_eq_false fun z => h (by cases z; rfl)
theorem dec_str {i j : Str} : decide (V.str i = V.str j) = decide (i = j) := by
  by_cases h : i = j
  · subst h
    simp
  · rw [decide_eq_false h]
    exact decide_eq_false fun z => h (by cases z; rfl)
theorem opD_eq (hu : X.A.units + 64 < cLine) : OpR X (compareOp .Eq) (lO X.K T dEq) := by
  intro pins s σ H x y v u Q I rx ry ⟨G, a, b, S, m, R, d1, d2, hp, h, hk⟩
  rcases dEq_gen h with ⟨i, j, rfl, rfl, h⟩ | ⟨i, j, rfl, rfl, h⟩ | h
  · cases d1
    cases d2
    exact op_eq pins s σ H _ _ v u Q I rx ry ⟨rfl, by rw [dec_int]; exact hk.at h hp (.bl _)⟩
  · cases d1
    cases d2
    exact op_eq pins s σ H _ _ v u Q I rx ry ⟨rfl, by rw [dec_str]; exact hk.at h hp (.bl _)⟩
  · exact opD_eqG hu I rx ry d1 d2 hp h hk
theorem opD_ne (hu : X.A.units + 64 < cLine) : OpR X (compareOp .NotEq) (lO X.K T dNe) := by
  intro pins s σ H x y v u Q I rx ry ⟨G, a, b, S, m, R, d1, d2, hp, h, hk⟩
  rcases dNe_gen h with ⟨i, j, rfl, rfl, h⟩ | ⟨i, j, rfl, rfl, h⟩ | h
  · cases d1
    cases d2
    exact op_ne pins s σ H _ _ v u Q I rx ry ⟨rfl, by rw [dec_int]; exact hk.at h hp (.bl _)⟩
  · cases d1
    cases d2
    exact op_ne pins s σ H _ _ v u Q I rx ry ⟨rfl, by rw [dec_str]; exact hk.at h hp (.bl _)⟩
  · exact opD_neG hu I rx ry d1 d2 hp h hk
end
end DL

set_option maxHeartbeats 4000000
namespace DL
open PySem PySem.Spec PyProof.Rows L2
section
variable {X : Cx} {T : List (Addr × Str)} {W : WX}
theorem atI_rel {K : PySem.W.Frag} {m : List Addr} {G : Hp} {ds : List D} {vs : List V} {i : Int} {d : D} (dr : DRs K m G ds vs) (h : atI ds i = some d) : ∃ v, atI vs i = some v ∧ DR K m G d v := by
  unfold atI at h ⊢
  rw [← dr.length]
  cases q : ixN ds.length i with
  | none =>
    rw [q] at h
    cases h
  | some j =>
    rw [q] at h
    exact dr.get h
theorem dIx_gen {a b : D} {S : Sto} {R : KR} (h : dIx a b S R) : (∃ xs i d, a = .tup xs ∧ b = .int i ∧ atI xs i = some d ∧ R d S) ∨ ∃ xs i d, b = .int i ∧ itemsL a S = some xs ∧ atI xs i = some d ∧ R d S := by
  unfold dIx at h
  split at h
  · obtain ⟨d, h⟩ := h
    exact .inl ⟨_, _, d, rfl, rfl, h⟩
  · obtain ⟨xs, d, h⟩ := h
    exact .inr ⟨xs, _, d, rfl, h⟩
  · exact h.elim
theorem ixD : IxR X (lO X.K T dIx) := by
  intro ve se pins s σ H x y v u Q I rx ry ⟨G, a, b, S, m, R, d1, d2, hp, h, hk⟩ hs
  rcases dIx_gen h with ⟨xs, i, d, rfl, rfl, h1, h2⟩ | ⟨xs, i, d, rfl, h1, h2, h3⟩
  · cases d2
    obtain ⟨p, vs, rfl, sq, dr⟩ := tup_at hp d1
    obtain ⟨w, hw, dw⟩ := atI_rel dr h1
    exact ix_tup ve se pins s σ H _ _ v u Q I rx ry ⟨p, vs, i, w, rfl, rfl, sq, hw, hk.at h2 hp dw⟩ hs
  · cases d2
    obtain ⟨p, vs, rfl, sq, dr⟩ := items_at hp d1 h1
    obtain ⟨w, hw, dw⟩ := atI_rel dr h2
    exact ix_list ve se pins s σ H _ _ v u Q I rx ry ⟨p, vs, i, w, rfl, rfl, sq, hw, hk.at h3 hp dw⟩ hs
/-! slices -/
abbrev WO' := Vars → Sto → (Option Int → Sto → Prop) → KX → Prop
def wP0 : WO' := fun _ S R _ => R none S
def wP1 (w : WE') : WO' := fun env S R Rx => w env S (fun d S1 => ∃ i, d = .int i ∧ R (some i) S1) Rx
def lP (K : PySem.W.Frag) (T : List (Addr × Str)) (W : WX) (w : WO') : L2.TO := fun σ H Q => ∃ G env S m R Rx, RE K m G env σ ∧ Rp K T m S G H ∧ w env S R Rx ∧
  (∀ o S' m' G' H', R o S' → Stp m G H m' G' H' → Rp K T m' S' G' H' → Q o H') ∧ Exl K T W m G H Rx
def POD (X : Cx) (T : List (Addr × Str)) (W : WX) (e : Option Expr) (w : WO') : Prop := PO X e (lP X.K T W w)
theorem po_imp {e : Option Expr} {t t' : L2.TO} (h : PO X e t) (i : ∀ σ H Q, t' σ H Q → t σ H Q) : PO X e t' := ⟨fun pins s σ H Q I q => h.run pins s σ H Q I (i σ H Q q)⟩
theorem pod_none : POD X T W none wP0 := po_imp po_none fun σ H Q ⟨G, env, S, m, R, Rx, he, hp, h, hk, hx⟩ => hk none S m G H h Stp.refl hp
theorem pod_some {e : Expr} {w : WE'} (h : PD X T W e w) : POD X T W (some e) (wP1 w) := po_imp (po_some h) fun σ H Q ⟨G, env, S, m, R, Rx, he, hp, h, hk, hx⟩ => by
  refine ⟨G, env, S, m, _, _, he, hp, h, fun d S1 v m1 G1 H1 ⟨i, hi, h1⟩ s1 p1 d1 => ?_, hx⟩
  subst hi
  cases d1
  exact ⟨i, rfl, hk _ S1 m1 G1 H1 h1 s1 p1⟩
def wCut (wa : WE') (wl wh : WO') : WE' := fun env S R Rx => wa env S (fun a S1 => wl env S1 (fun l S2 => wh env S2 (fun h S3 => dCut a l h S3 R) Rx) Rx) Rx
def lCut (K : PySem.W.Frag) (T : List (Addr × Str)) : V → Option Int → Option Int → Hp → VK → Prop := fun x lo hi H Q => ∃ G a S m R, DR K m G a x ∧ Rp K T m S G H ∧ dCut a lo hi S R ∧ Okl K T m G H R Q
theorem cut_rel {K : PySem.W.Frag} {m : List Addr} {G : Hp} {ds : List D} {vs : List V} {lo hi : Option Int} (dr : DRs K m G ds vs) : DRs K m G (cutD ds lo hi) (cutV vs lo hi) := by
  unfold cutD cutV
  rw [dr.length]
  exact (dr.drop _).take _
theorem cut_whole {xs : List D} {lo hi : Option Int} (h1 : HT.sIx xs.length 0 lo = 0) (h2 : HT.sIx xs.length xs.length hi = xs.length) : cutD xs lo hi = xs := by
  unfold cutD
  rw [h1, h2]
  simp
theorem dCut_gen {a : D} {lo hi : Option Int} {S : Sto} {R : KR} (h : dCut a lo hi S R) : (∃ xs, a = .tup xs ∧ R (.tup (cutD xs lo hi)) S) ∨ ∃ xs, itemsL a S = some xs ∧ R (.lst (cutD xs lo hi)) S := by
  unfold dCut at h
  split at h
  · exact .inl ⟨_, rfl, h⟩
  · exact .inr h
theorem slD : SlR X (lCut X.K T) := by
  intro pins s σ H x v vl vu lo hi sl Q I rx hs pl pu ⟨G, a, S, m, R, d1, hp, h, hk⟩
  rcases dCut_gen h with ⟨xs, rfl, h0⟩ | ⟨xs, h1, h2⟩
  · obtain ⟨p, vs, rfl, sq, dr⟩ := tup_at hp d1
    refine sl_tupA pins s σ H _ v vl vu lo hi sl Q I rx hs pl pu ⟨p, vs, rfl, sq, fun ⟨z1, z2⟩ => ?_, fun _ => tell_tup hp hk (cut_rel dr) h0⟩
    rw [← dr.length] at z1 z2
    rw [cut_whole z1 z2] at h0
    exact hk.at h0 hp d1
  · obtain ⟨p, vs, rfl, sq, dr⟩ := items_at hp d1 h1
    exact sl_list pins s σ H _ v vl vu lo hi sl Q I rx hs pl pu ⟨p, vs, rfl, sq, tell_lst hp hk (cut_rel dr) h2⟩
theorem pd_cut {e : Expr} {lo hi : Option Expr} {p2 pos : Pos} {wa : WE'} {wl wh : WO'} (he : PD X T W e wa) (hl : POD X T W lo wl) (hh : POD X T W hi wh) : PD X T W (.Subscript e (.Slice lo hi none p2) pos) (wCut wa wl wh) := by
  refine pe_imp (pe_slice (slD (T := T)) he hl hh) fun σ H Q ⟨G, env, S, m, R, Rx, he, hp, h, hk, hx⟩ => ?_
  refine lE_of he hp h (fun a S1 v m1 G1 H1 h1 s1 p1 d1 => ?_) hx
  have e1 := he.mono hp s1
  refine ⟨G1, env, S1, m1, _, _, e1, p1, h1, fun l S2 m2 G2 H2 h2 s2 p2 => ?_, hx.on s1⟩
  refine ⟨G2, env, S2, m2, _, _, e1.mono p1 s2, p2, h2, fun u S3 m3 G3 H3 h3 s3 p3 => ?_, hx.on (s1.trans s2)⟩
  exact ⟨G3, a, S3, m3, R, (d1.mono p1 s2).mono p2 s3, p3, h3, hk.on ((s1.trans s2).trans s3)⟩
/-! calls of built-ins -/
theorem two_of {K : PySem.W.Frag} {m : List Addr} {G : Hp} {a b : D} {vs : List V} (h : DRs K m G [a, b] vs) : ∃ x y, vs = [x, y] ∧ DR K m G a x ∧ DR K m G b y := by
  cases h with
  | cons h1 h2 =>
    cases h2 with
    | cons h2 h3 =>
      cases h3
      exact ⟨_, _, rfl, h1, h2⟩
theorem one_of {K : PySem.W.Frag} {m : List Addr} {G : Hp} {a : D} {vs : List V} (h : DRs K m G [a] vs) : ∃ x, vs = [x] ∧ DR K m G a x := by
  cases h with
  | cons h1 h2 =>
    cases h2
    exact ⟨_, rfl, h1⟩
theorem dLen_gen {ds : List D} {S : Sto} {R : KR} (h : dLen ds S R) : (∃ xs, ds = [.tup xs] ∧ R (.int xs.length) S) ∨ (∃ z, ds = [.str z] ∧ z.length ≤ sizeLine ∧ R (.int z.length) S) ∨ ∃ a xs, ds = [a] ∧ itemsL a S = some xs ∧ R (.int xs.length) S := by
  unfold dLen at h
  split at h
  · exact .inl ⟨_, rfl, h⟩
  · exact .inr (.inl ⟨_, rfl, h⟩)
  · obtain ⟨xs, h⟩ := h
    exact .inr (.inr ⟨_, xs, rfl, h⟩)
  · exact h.elim
theorem cD_len : CallR X (.builtin "len") (lC X.K T dLen) := by
  intro pins s σ H vs us Q I r ⟨G, ds, S, m, R, dr, hp, h, hk⟩
  rcases dLen_gen h with ⟨xs, rfl, h⟩ | ⟨z, rfl, h1, h⟩ | ⟨a, xs, rfl, h1, h2⟩
  · obtain ⟨x, rfl, d1⟩ := one_of dr
    obtain ⟨p, ws, rfl, sq, dw⟩ := tup_at hp d1
    exact call_len_seq pins s σ H _ us Q I r ⟨p, ws, rfl, .inr sq, by rw [← dw.length]; exact hk.at h hp (.int _)⟩
  · obtain ⟨x, rfl, d1⟩ := one_of dr
    cases d1
    exact call_len_str pins s σ H _ us Q I r ⟨z, rfl, h1, hk.at h hp (.int _)⟩
  · obtain ⟨x, rfl, d1⟩ := one_of dr
    obtain ⟨p, ws, rfl, sq, dw⟩ := items_at hp d1 h1
    exact call_len_seq pins s σ H _ us Q I r ⟨p, ws, rfl, .inl sq, by rw [← dw.length]; exact hk.at h2 hp (.int _)⟩
theorem cD_abs : CallR X (.builtin "abs") (lC X.K T dAbs) := by
  intro pins s σ H vs us Q I r ⟨G, ds, S, m, R, dr, hp, h, hk⟩
  match ds, h with
  | [.int i], h =>
    obtain ⟨x, rfl, d1⟩ := one_of dr
    cases d1
    exact call_abs pins s σ H _ us Q I r ⟨i, rfl, hk.at h hp (.int _)⟩
theorem cD_max (hc : X.calm = true) : CallR X (.builtin "max") (lC X.K T dMax2) := by
  intro pins s σ H vs us Q I r ⟨G, ds, S, m, R, dr, hp, h, hk⟩
  match ds, h with
  | [.int i, .int j], h =>
    obtain ⟨x, y, rfl, d1, d2⟩ := two_of dr
    cases d1
    cases d2
    exact call_max2 hc pins s σ H _ us Q I r ⟨i, j, rfl, hk.at h hp (.int _)⟩
theorem cD_min (hc : X.calm = true) : CallR X (.builtin "min") (lC X.K T dMin2) := by
  intro pins s σ H vs us Q I r ⟨G, ds, S, m, R, dr, hp, h, hk⟩
  match ds, h with
  | [.int i, .int j], h =>
    obtain ⟨x, y, rfl, d1, d2⟩ := two_of dr
    cases d1
    cases d2
    exact call_min2 hc pins s σ H _ us Q I r ⟨i, j, rfl, hk.at h hp (.int _)⟩
theorem cD_int : CallR X (.type "int") (lC X.K T dInt) := by
  intro pins s σ H vs us Q I r ⟨G, ds, S, m, R, dr, hp, h, hk⟩
  match ds, h with
  | [.int i], h =>
    obtain ⟨x, rfl, d1⟩ := one_of dr
    cases d1
    exact call_int1 pins s σ H _ us Q I r (.inl ⟨i, rfl, hk.at h hp (.int _)⟩)
  | [.bl i], h =>
    obtain ⟨x, rfl, d1⟩ := one_of dr
    cases d1
    exact call_int1 pins s σ H _ us Q I r (.inr ⟨i, rfl, hk.at h hp (.int _)⟩)
theorem cD_gcd : CallR X (.builtin "math.gcd") (lC X.K T dGcd) := by
  intro pins s σ H vs us Q I r ⟨G, ds, S, m, R, dr, hp, h, hk⟩
  match ds, h with
  | [.int i, .int j], h =>
    obtain ⟨x, y, rfl, d1, d2⟩ := two_of dr
    cases d1
    cases d2
    exact cr_gcd pins s σ H _ us Q I r ⟨i, j, rfl, hk.at h hp (.int _)⟩
theorem dTupOf_gen {ds : List D} {S : Sto} {R : KR} (h : dTupOf ds S R) : (∃ xs, ds = [.tup xs] ∧ R (.tup xs) S) ∨ ∃ a xs, ds = [a] ∧ itemsL a S = some xs ∧ R (.tup xs) S := by
  unfold dTupOf at h
  split at h
  · exact .inl ⟨_, rfl, h⟩
  · obtain ⟨xs, h⟩ := h
    exact .inr ⟨_, xs, rfl, h⟩
  · exact h.elim
theorem dLstOf_gen {ds : List D} {S : Sto} {R : KR} (h : dLstOf ds S R) : (∃ xs, ds = [.tup xs] ∧ R (.lst xs) S) ∨ ∃ a xs, ds = [a] ∧ itemsL a S = some xs ∧ R (.lst xs) S := by
  unfold dLstOf at h
  split at h
  · exact .inl ⟨_, rfl, h⟩
  · obtain ⟨xs, h⟩ := h
    exact .inr ⟨_, xs, rfl, h⟩
  · exact h.elim
theorem cD_tup : CallR X (.type "tuple") (lC X.K T dTupOf) := by
  intro pins s σ H vs us Q I r ⟨G, ds, S, m, R, dr, hp, h, hk⟩
  rcases dTupOf_gen h with ⟨xs, rfl, h⟩ | ⟨a, xs, rfl, h1, h2⟩
  · obtain ⟨x, rfl, d1⟩ := one_of dr
    obtain ⟨p, ws, rfl, sq, dw⟩ := tup_at hp d1
    exact call_tuple_of pins s σ H _ us Q I r ⟨p, ws, rfl, .inr ⟨sq, hk.at h hp d1⟩⟩
  · obtain ⟨x, rfl, d1⟩ := one_of dr
    obtain ⟨p, ws, rfl, sq, dw⟩ := items_at hp d1 h1
    exact call_tuple_of pins s σ H _ us Q I r ⟨p, ws, rfl, .inl ⟨sq, tell_tup hp hk dw h2⟩⟩
theorem cD_lst : CallR X (.type "list") (lC X.K T dLstOf) := by
  intro pins s σ H vs us Q I r ⟨G, ds, S, m, R, dr, hp, h, hk⟩
  rcases dLstOf_gen h with ⟨xs, rfl, h⟩ | ⟨a, xs, rfl, h1, h2⟩
  · obtain ⟨x, rfl, d1⟩ := one_of dr
    obtain ⟨p, ws, rfl, sq, dw⟩ := tup_at hp d1
    exact call_list_of pins s σ H _ us Q I r ⟨p, ws, rfl, .inr sq, tell_lst hp hk dw h⟩
  · obtain ⟨x, rfl, d1⟩ := one_of dr
    obtain ⟨p, ws, rfl, sq, dw⟩ := items_at hp d1 h1
    exact call_list_of pins s σ H _ us Q I r ⟨p, ws, rfl, .inl sq, tell_lst hp hk dw h2⟩
theorem bls_rel {K : PySem.W.Frag} {m : List Addr} {G : Hp} : ∀ {bs : List Bool} {vs : List V}, DRs K m G (bs.map D.bl) vs → vs = bs.map V.bl
  | [], _, .nil => rfl
  | b :: bs, _, .cons h hs => by
    cases h
    rw [bls_rel hs]
    rfl
theorem cD_all (hc : X.calm = true) : CallR X (.builtin "all") (lC X.K T dAll) := by
  intro pins s σ H vs us Q I r ⟨G, ds, S, m, R, dr, hp, h, hk⟩
  match ds, h with
  | [a], ⟨bs, h1, h2⟩ =>
    obtain ⟨x, rfl, d1⟩ := one_of dr
    obtain ⟨p, ws, rfl, sq, dw⟩ := items_at hp d1 h1
    rw [bls_rel dw] at sq
    exact cr_all hc pins s σ H _ us Q I r ⟨p, bs, rfl, sq, hk.at h2 hp (.bl _)⟩
theorem cD_any (hc : X.calm = true) : CallR X (.builtin "any") (lC X.K T dAny) := by
  intro pins s σ H vs us Q I r ⟨G, ds, S, m, R, dr, hp, h, hk⟩
  match ds, h with
  | [a], ⟨bs, h1, h2⟩ =>
    obtain ⟨x, rfl, d1⟩ := one_of dr
    obtain ⟨p, ws, rfl, sq, dw⟩ := items_at hp d1 h1
    rw [bls_rel dw] at sq
    exact cr_any hc pins s σ H _ us Q I r ⟨p, bs, rfl, sq, hk.at h2 hp (.bl _)⟩
theorem kind_ty {K : PySem.W.Frag} {m : List Addr} {S : Sto} {G H : Hp} {a : D} {x : V} (hp : Rp K T m S G H) (d : DR K m G a x) (hpl : plainD a = true) : TyX K H x (.type (kindN a)) := by
  cases d with
  | non => exact .base .non
  | bl b => exact .base (.bl b)
  | int b => exact .base (.int b)
  | str b => exact .base (.str b)
  | ty n => cases hpl
  | ob n => cases hpl
  | er n => cases hpl
  | emp h => exact .base (.dK (hp.sub _ _ h))
  | mu h =>
    obtain ⟨vs, e⟩ := hp.lists (List.mem_iff_getElem?.mpr ⟨_, h⟩)
    exact .base (.lst (hp.sub _ _ e))
  | lst h _ _ => exact .base (.lst (hp.sub _ _ h))
  | scr h _ =>
    rcases h with ⟨o, h⟩ | ⟨o, its, n, hk, hc, _⟩
    · exact .base (.frz (hp.sub _ _ h))
    · exact .kList hk hc
  | tup h _ =>
    rcases h with (h | ⟨o, h⟩) | ⟨o, its, n, hk, hc, _⟩
    · exact .base (.tup (hp.sub _ _ h))
    · exact .fTuple (hp.sub _ _ h)
    · exact .kTuple hk hc
theorem cD_isi {n : String} {f : D → Bool} (hf : ∀ a, plainD a = true → kitB (kindN a) n = some (f a)) : CallR X (.builtin "isinstance") (lC X.K T fun ds S R => (∃ a, ds = [a, .ty n]) ∧ dIsi f ds S R) := by
  intro pins s σ H vs us Q I r ⟨G, ds, S, m, R, dr, hp, ⟨⟨a, ea⟩, h⟩, hk⟩
  subst ea
  obtain ⟨x, y, rfl, d1, d2⟩ := two_of dr
  cases d2
  have h : plainD a = true ∧ R (.bl (f a)) S := h
  exact call_isi pins s σ H _ us Q I r ⟨x, _, _, _, _, rfl, .ty n, kind_ty hp d1 h.1, kit_ty (hf a h.1), hk.at h.2 hp (.bl _)⟩
theorem isi_tup : ∀ a, plainD a = true → kitB (kindN a) "tuple" = some (isTup a) := fun a h => by cases a <;> first | (cases h; done) | (simp only [kindN, isTup, isInt, isBool, isStr, isLst]; decide +kernel) 
theorem isi_int : ∀ a, plainD a = true → kitB (kindN a) "int" = some (isInt a) := fun a h => by cases a <;> first | (cases h; done) | (simp only [kindN, isTup, isInt, isBool, isStr, isLst]; decide +kernel)
theorem isi_bool : ∀ a, plainD a = true → kitB (kindN a) "bool" = some (isBool a) := fun a h => by cases a <;> first | (cases h; done) | (simp only [kindN, isTup, isInt, isBool, isStr, isLst]; decide +kernel)
theorem isi_str : ∀ a, plainD a = true → kitB (kindN a) "str" = some (isStr a) := fun a h => by cases a <;> first | (cases h; done) | (simp only [kindN, isTup, isInt, isBool, isStr, isLst]; decide +kernel)
theorem isi_lst : ∀ a, plainD a = true → kitB (kindN a) "list" = some (isLst a) := fun a h => by cases a <;> first | (cases h; done) | (simp only [kindN, isTup, isInt, isBool, isStr, isLst]; decide +kernel)
end
end DL

set_option maxHeartbeats 4000000
namespace DL
open PySem PySem.Spec PyProof.Rows L2
/-! ### repr -/
theorem hasDict_no : (∀ {K : PySem.W.Frag} {H : Hp} {v : V} {p : PyData}, Dp K H v p → p.hasDict = false) := by
  intro K H v p h
  refine Dp.rec (motive_1 := fun v p _ => p.hasDict = false) (motive_2 := fun vs ps _ => PyData.hasDictAll ps = false) ?_ ?_ ?_ ?_ ?_ ?_ ?_ ?_ h
  all_goals first | (intros; simp_all [PyData.hasDict, PyData.hasDictAll]; done) | simp [PyData.hasDict, PyData.hasDictAll]
section
variable {X : Cx} {T : List (Addr × Str)} {W : WX}
theorem dRepr_gen {ds : List D} {S : Sto} {R : KR} (h : dRepr ds S R) : ∃ a p, ds = [a] ∧ toQ S a = some p ∧ p.showable = true ∧ p.shown.length ≤ sizeLine ∧ p.depth ≤ 60 ∧ R (.str p.shown) S := by
  unfold dRepr at h
  split at h
  · obtain ⟨p, h⟩ := h
    exact ⟨_, p, rfl, h⟩
  · exact h.elim
theorem cD_repr (hg : X.A.guards = some []) (hu : X.A.units + 64 < cLine) : CallR X (.builtin "repr") (lC X.K T dRepr) := by
  intro pins s σ H vs us Q I r ⟨G, ds, S, m, R, dr, hp, h, hk⟩
  obtain ⟨a, p, rfl, h1, h2, h3, h4, h5⟩ := dRepr_gen h
  obtain ⟨x, rfl, d1⟩ := one_of dr
  obtain ⟨u, rfl, rx⟩ := vals1 r
  have dp := toQ_dp hp d1 h1
  have qv : ∀ t : Tok, ∀ s', Inv X pins σ H s' → EP X pins σ Q (.str p.shown t) s' := fun t s' I' => ⟨.str p.shown, H, I', ⟨t, rfl⟩, hk.at h5 hp (.str _)⟩
  cases dp with
  | non =>
    cases (show u = Value.none from rx)
    exact P.repr_of_none (qv _ _ (I.tok _))
  | bl b =>
    cases (show u = Value.bool b from rx)
    exact P.repr_of_bool (qv _ _ (I.tok _))
  | int i =>
    obtain ⟨t, e⟩ := (show ∃ t, u = Value.int i t from rx)
    subst e
    exact P.repr_of_int (of_decide_eq_true h2) (qv _ _ (I.tok _))
  | str z =>
    obtain ⟨t, e⟩ := (show ∃ t, u = Value.str z t from rx)
    subst e
    exact P.repr_of_str (qv _ _ (I.tok _)) h3
  | lst hs ha =>
    cases (show u = Value.ref _ from rx)
    have nd := hasDict_no (.lst hs ha)
    obtain ⟨as, rd⟩ := Dp.reads I _ _ _ (.lst hs ha) rx
    refine repr_of_reads' rd h2 (fun z => absurd (nd.symm.trans z) Bool.false_ne_true) hg (by omega) (fun _ _ e => e) (fun h' t tk hk' => qv t _ (I.kept hk')) h3
  | tup hs ha =>
    cases (show u = Value.ref _ from rx)
    have nd := hasDict_no (.tup hs ha)
    obtain ⟨as, rd⟩ := Dp.reads I _ _ _ (.tup hs ha) rx
    refine repr_of_reads' rd h2 (fun z => absurd (nd.symm.trans z) Bool.false_ne_true) hg (by omega) (fun _ _ e => e) (fun h' t tk hk' => qv t _ (I.kept hk')) h3
/-! ### zip of two tuples, enumerate of a list -/
def wiZT (as : WA') : WI' := fun env S R Rx => as env S (fun ds S1 => ∃ xs ys, ds = [.tup xs, .tup ys] ∧ R ⟨List.zipWith (fun x y => D.tup [x, y]) xs ys, fun _ => True⟩ S1) Rx
def wiEL (as : WA') : WI' := fun env S R Rx => as env S (fun ds S1 => ∃ d xs, ds = [d] ∧ itemsL d S1 = some xs ∧ R ⟨xs.zipIdx.map fun q => D.tup [.int (q.2 : Nat), q.1], fun S => itemsL d S = some xs⟩ S1) Rx
theorem pair_new {K : PySem.W.Frag} {m : List Addr} {S : Sto} {G H : Hp} {c d : D} {x y : V} {p : Addr} (hp : Rp K T m S G H) (np : H p = none) (d1 : DR K m G c x) (d2 : DR K m G d y) :
    ∃ m' G', Stp m G H m' G' (upd H p (.tup [x, y])) ∧ Rp K T m' S G' (upd H p (.tup [x, y])) ∧ DR K m' G' (.tup [c, d]) (.ref p) := by
  obtain ⟨r1, r2⟩ := hp.new (o := .tup [x, y]) np
  exact ⟨m, _, r2, r1, .tup (SqT.of upd_same) (.cons (d1.mono hp r2) (.cons (d2.mono hp r2) .nil))⟩
theorem pid_zipT {es : List Expr} {kk : Nat} {tpos p pos : Pos} {e e2 : Expr} {as : WA'} (hg : Gl X "zip") (hm : X.mg "zip" = none) (ha : PAD X T W [e, e2] as)
    (hs : starEach [e, e2] X.env = (false, eval e X.env) :: starEach [e2] X.env := by rfl) (hpl : (backTo pos (starEach [e2] X.env)).any (·.1) = false := by rfl) : PID X T W (.Tuple es kk tpos) (.Call (.Name "zip" p) [e, e2] [] pos) (wiZT as) := by
  refine pi_imp (RZ.pi_zipA hg hm ha hs hpl) fun σ H R ⟨G, env, S, m, R', Rx, he, hp, h, hk, hx⟩ => ?_
  refine ⟨G, env, S, m, _, _, he, hp, h, fun ds S1 vs m1 G1 H1 ⟨xs, ys, hd, h1⟩ s1 p1 d1 => ?_, hx⟩
  subst hd
  obtain ⟨x, y, rfl, da, db⟩ := two_of d1
  obtain ⟨a, us, rfl, sa, _⟩ := tup_at p1 da
  obtain ⟨b, ws, rfl, sb, _⟩ := tup_at p1 db
  refine ⟨a, b, us, ws, rfl, .inr ⟨sa, sb, hk _ S1 m1 G1 H1 _ h1 s1 p1 ⟨fun i d S2 m2 G2 H2 hd _ p2 s2 => ?_, fun S2 m2 G2 H2 _ p2 s2 => ?_⟩⟩⟩
  · obtain ⟨a', us', ea, sa', ra⟩ := tup_at p2 (da.mono p1 s2)
    obtain ⟨b', ws', eb, sb', rb⟩ := tup_at p2 (db.mono p1 s2)
    cases ea
    cases eb
    rw [List.getElem?_zipWith] at hd
    cases q1 : xs[i]? with
    | none =>
      rw [q1] at hd
      cases hd
    | some c1 =>
      cases q2 : ys[i]? with
      | none =>
        rw [q1, q2] at hd
        cases hd
      | some c2 =>
        rw [q1, q2] at hd
        cases hd
        obtain ⟨v1, hv1, dv1⟩ := ra.get q1
        obtain ⟨v2, hv2, dv2⟩ := rb.get q2
        refine ⟨⟨us', ws', v1, v2, sa', sb', hv1, hv2⟩, fun z H' ⟨Tn, x1, y1, e0, e1, e2, e3, e4⟩ => ?_⟩
        subst e0 e2
        have f1 := e3 us' sa'
        have f2 := e4 ws' sb'
        rw [hv1] at f1
        rw [hv2] at f2
        cases f1
        cases f2
        exact pair_new p2 e1 dv1 dv2
  · obtain ⟨a', us', ea, sa', ra⟩ := tup_at p2 (da.mono p1 s2)
    obtain ⟨b', ws', eb, sb', rb⟩ := tup_at p2 (db.mono p1 s2)
    cases ea
    cases eb
    refine ⟨us', ws', sa', sb', ?_⟩
    rw [← ra.length, ← rb.length, List.length_zipWith]
    omega
theorem pid_enumL {es : List Expr} {kk : Nat} {tpos p pos : Pos} {e : Expr} {as : WA'} (hg : Gl X "enumerate") (hm : X.mg "enumerate" = none) (ha : PAD X T W [e] as)
    (hs : starEach [e] X.env = [(false, eval e X.env)] := by rfl) : PID X T W (.Tuple es kk tpos) (.Call (.Name "enumerate" p) [e] [] pos) (wiEL as) := by
  refine pi_imp (pi_enum hg hm ha hs) fun σ H R ⟨G, env, S, m, R', Rx, he, hp, h, hk, hx⟩ => ?_
  refine ⟨G, env, S, m, _, _, he, hp, h, fun ds S1 vs m1 G1 H1 ⟨d0, xs, hd, hi, h1⟩ s1 p1 d1 => ?_, hx⟩
  subst hd
  obtain ⟨x, rfl, da⟩ := one_of d1
  obtain ⟨a, us, rfl, sa, _⟩ := items_at p1 da hi
  refine ⟨a, us, rfl, sa, hk _ S1 m1 G1 H1 _ h1 s1 p1 ⟨fun i d S2 m2 G2 H2 hd hck p2 s2 => ?_, fun S2 m2 G2 H2 hck p2 s2 => ?_⟩⟩
  · obtain ⟨a', us', ea, sa', ra⟩ := items_at p2 (da.mono p1 s2) hck
    cases ea
    rw [List.getElem?_map, List.getElem?_zipIdx] at hd
    cases q1 : xs[i]? with
    | none =>
      rw [q1] at hd
      cases hd
    | some c1 =>
      rw [q1] at hd
      have hd : d = D.tup [.int ((0 + i : Nat) : Int), c1] := (Option.some.inj hd).symm
      subst hd
      obtain ⟨v1, hv1, dv1⟩ := ra.get q1
      refine ⟨⟨us', v1, sa', hv1⟩, fun z H' ⟨Tn, x1, e0, e1, e2, e3⟩ => ?_⟩
      subst e0 e2
      have f1 := e3 us' sa'
      rw [hv1] at f1
      cases f1
      have e : ((0 + i : Nat) : Int) = (i : Int) := by rw [Nat.zero_add]
      rw [e]
      exact pair_new p2 e1 (.int _) dv1
  · obtain ⟨a', us', ea, sa', ra⟩ := items_at p2 (da.mono p1 s2) hck
    cases ea
    refine ⟨us', sa', ?_⟩
    rw [← ra.length, List.length_map, List.length_zipIdx]
    exact Nat.le_refl _
/-! ### comprehensions -/
inductive Bd where
  | nm (i : Nat)
  | tp (is : List Nat)
def bdGs : List Nat → TGs
  | [] => gNil
  | i :: is => gCons (gName i) (bdGs is)
def bdG (K : PySem.W.Frag) : Bd → TG
  | .nm i => gName i
  | .tp is => gTup K is.length (bdGs is)
def Bd.all : Bd → List Nat
  | .nm i => [i]
  | .tp is => is
def setsE : List Nat → List D → Vars → Vars
  | i :: is, d :: ds, env => setsE is ds (env.set i (some d))
  | _, _, env => env
def bindE (b : Bd) (d : D) (env : Vars) (Q : Vars → Prop) : Prop := match b with
  | .nm i => Q (env.set i (some d))
  | .tp is => ∃ xs, d = .tup xs ∧ xs.length = is.length ∧ Q (setsE is xs env)
def wipeE (env : Vars) : List Nat → Vars
  | [] => env
  | i :: is => (wipeE env is).set i none
theorem wipe_rel {K : PySem.W.Frag} {m : List Addr} {G : Hp} {env : Vars} {σ : L2.St} (h : RE K m G env σ) : ∀ is : List Nat, RE K m G (wipeE env is) (L2.wipe σ is)
  | [] => h
  | i :: is => (wipe_rel h is).unset
theorem wipe_set {σ : L2.St} {o : Option V} : ∀ {is : List Nat} {i : Nat}, i ∈ is → L2.wipe (σ.set i o) is = L2.wipe σ is
  | j :: is, i, h => by
    show (L2.wipe (σ.set i o) is).set j none = (L2.wipe σ is).set j none
    by_cases hi : i ∈ is
    · rw [wipe_set hi]
    · have e : i = j := by
        rcases List.mem_cons.mp h with e | e
        · exact e
        · exact absurd e hi
      subst e
      have key : ∀ is : List Nat, i ∉ is → L2.wipe (σ.set i o) is = (L2.wipe σ is).set i o := fun is hn => by
        induction is with
        | nil => rfl
        | cons k is ih =>
          have n1 : i ≠ k := fun z => hn (by rw [z]; exact List.mem_cons_self)
          show (L2.wipe (σ.set i o) is).set k none = ((L2.wipe σ is).set k none).set i o
          rw [ih fun z => hn (List.mem_cons_of_mem _ z), List.set_comm _ _ n1]
      rw [key is hi, List.set_set]
theorem wipe_wipe {σ : L2.St} {own : List Nat} : ∀ {is : List Nat}, (∀ i ∈ is, i ∈ own) → L2.wipe (L2.wipe σ is) own = L2.wipe σ own
  | [], _ => rfl
  | i :: is, h => (wipe_set (h i List.mem_cons_self)).trans (wipe_wipe fun j hj => h j (List.mem_cons_of_mem _ hj))
theorem setsV {K : PySem.W.Frag} {m : List Addr} {G H : Hp} {own : List Nat} {Qd : L2.St → Hp → Prop} : ∀ {is : List Nat} {ds : List D} {vs : List V} {env : Vars} {σ : L2.St}, (∀ i ∈ is, i ∈ own) → ds.length = is.length → DRs K m G ds vs → RE K m G env σ →
    (∀ σ2, RE K m G (setsE is ds env) σ2 → L2.wipe σ2 own = L2.wipe σ own → Qd σ2 H) → bdGs is vs σ H Qd
  | [], [], _, _, σ, _, _, .nil, he, k => ⟨rfl, k σ he rfl⟩
  | i :: is, d :: ds, _, env, σ, ho, hl, .cons d1 d2, he, k =>
    ⟨_, _, rfl, setsV (is := is) (ds := ds) (env := env.set i (some d)) (fun j hj => ho j (List.mem_cons_of_mem _ hj)) (by simpa using hl) d2 (he.set d1) fun σ2 h1 h2 => k σ2 h1 (h2.trans (wipe_set (ho i List.mem_cons_self)))⟩
  | [], _ :: _, _, _, _, _, hl, _, _, _ => by cases hl
  | _ :: _, [], _, _, _, _, hl, _, _, _ => by cases hl
theorem bind_rel {K : PySem.W.Frag} {m : List Addr} {S : Sto} {G H : Hp} {own : List Nat} {b : Bd} {d : D} {v : V} {env : Vars} {σ : L2.St} {Q : Vars → Prop} {Qd : L2.St → Hp → Prop} (hp : Rp K T m S G H) (ho : ∀ i ∈ b.all, i ∈ own) (dr : DR K m G d v) (he : RE K m G env σ) (h : bindE b d env Q)
    (k : ∀ env2 σ2, Q env2 → RE K m G env2 σ2 → L2.wipe σ2 own = L2.wipe σ own → Qd σ2 H) : bdG K b v σ H Qd := by
  cases b with
  | nm i => exact k _ _ h (he.set dr) (wipe_set (ho i (by simp [Bd.all])))
  | tp is =>
    obtain ⟨xs, rfl, hl, h⟩ := h
    obtain ⟨a, vs, rfl, sq, dx⟩ := tup_at hp dr
    exact ⟨a, vs, rfl, sq, by rw [← dx.length]; exact hl, setsV ho hl dx he fun σ2 h1 h2 => k _ σ2 h h1 h2⟩
def wYes : WT' := fun _ S R _ => R true S
def PTsD (X : Cx) (T : List (Addr × Str)) (W : WX) (ifs : List Expr) (w : WT') : Prop := PTs X ifs (lT X.K T W w)
theorem ptsd_nil : PTsD X T W [] wYes := ⟨fun pins s σ H Q I ⟨G, env, S, m, R, Rx, he, hp, h, hk, hx⟩ => pts_nil.run pins s σ H Q I (hk true S m G H h Stp.refl hp)⟩
theorem ptsd_one {c : Expr} {w : WT'} (h : PTD X T W c w) : PTsD X T W [c] w := pts_one h
def noX : KX := fun _ _ _ => False
def comp (ck : Sto → Prop) (b : Bd) (tt : WT') (te : WE') (own : List Nat) (env : Vars) (Rf : List D → Sto → Prop) : List D → List D → Sto → Prop
  | [], acc, S => ck S ∧ Rf acc S
  | d :: ds, acc, S => ck S ∧ bindE b d (wipeE env own) fun env1 => tt env1 S (fun ok S2 => if ok = true then te env1 S2 (fun y S3 => acc.length < sizeLine ∧ comp ck b tt te own env Rf ds (acc ++ [y]) S3) noX else comp ck b tt te own env Rf ds acc S2) noX
def wLc (wi : WI') (b : Bd) (tt : WT') (te : WE') (own : List Nat) : WE' := fun env S R Rx => wi env S (fun src S1 => comp src.ck b tt te own env (fun acc S2 => R (.lst acc) S2) src.xs [] S1) Rx
theorem exl_no {K : PySem.W.Frag} {m : List Addr} {G H : Hp} {Wn : WX} : Exl K T Wn m G H noX := fun _ _ _ _ _ _ _ _ _ h => h.elim
theorem comp_turns {K : PySem.W.Frag} {Wn Wm : WX} {wi : WI'} {b : Bd} {tt : WT'} {te : WE'} {own : List Nat} {σ : L2.St} {H : Hp} {Q : VK} (ho : ∀ i ∈ b.all, i ∈ own) (h : lE K T W (wLc wi b tt te own) σ H Q) :
    tLc (lI K T W wi) (bdG K b) (lT K T Wn tt) (lE K T Wm te) own σ H Q := by
  obtain ⟨G, env, S, m, R, Rx, he, hp, h, hk, hx⟩ := h
  refine ⟨G, env, S, m, _, Rx, he, hp, h, fun src S1 m1 G1 H1 J h1 s1 p1 hw => fun Da nD => ?_, hx⟩
  have he1 := he.mono hp s1
  have gD : G1 Da = none := none_of (fun a o q => ⟨o, p1.sub a o q⟩) nD
  have neD : ∀ {a o}, H1 a = some o → a ≠ Da := fun q => ne_of_none q nD
  have lists : ∀ {vs : List V} {m2 G2 H2 S2}, Rp K T m2 S2 G2 H2 → H2 Da = some (.lst vs) → G2 Da = none → ∀ ws, Rp K T m2 S2 G2 (upd H2 Da (.lst ws)) := fun {vs m2 G2 H2 S2} p2 hD gD ws => by
    refine ⟨fun a o q => ?_, p2.nd, p2.len, p2.sto, tabs_keep p2.tabs (fun a o q n => ?_), p2.nt⟩
    · rw [upd_ne (fun z => by rw [z, gD] at q; cases q)]
      exact p2.sub a o q
    · rw [upd_ne (fun z => by rw [z, hD] at q; cases q; exact n _ rfl)]
      exact q
  refine ⟨fun i n H' => n = src.xs.length - i ∧ i ≤ src.xs.length ∧ ∃ m2 G2 S2 acc vs, Rp K T m2 S2 G2 H' ∧ Stp m1 G1 H1 m2 G2 H' ∧ H' Da = some (.lst vs) ∧ G2 Da = none ∧ DRs K m2 G2 acc vs ∧ comp src.ck b tt te own env (fun acc S2 => R (.lst acc) S2) (src.xs.drop i) acc S2,
    ⟨src.xs.length, by simp, Nat.zero_le _, m1, G1, S1, [], [], ?_, ?_, upd_same, gD, .nil, by simpa using h1⟩, ?_⟩
  · refine ⟨fun a o q => ?_, p1.nd, p1.len, p1.sto, tabs_keep p1.tabs (fun a o q n => ?_), p1.nt⟩
    · rw [upd_ne (neD (p1.sub a o q))]
      exact p1.sub a o q
    · rw [upd_ne (neD q)]
      exact q
  · exact ⟨⟨[], by simp, by simp⟩, fun _ _ q _ => q, fun _ o q => ⟨o, q⟩, fun a o q g _ => ⟨by rw [upd_ne (neD q)]; exact q, g⟩⟩
  · rintro i n H' ⟨rfl, hi, m2, G2, S2, acc, vs, p2, s2, hD, gD2, da, hc⟩
    by_cases hlt : i < src.xs.length
    · have e : src.xs.drop i = src.xs[i] :: src.xs.drop (i + 1) := List.drop_eq_getElem_cons hlt
      rw [e] at hc
      obtain ⟨hck, hc⟩ := hc
      obtain ⟨g1, g2⟩ := hw.1 i src.xs[i] S2 m2 G2 H' (List.getElem?_eq_getElem hlt) hck p2 s2
      refine .inr ⟨g1, fun H3 => ∃ m2 G2 S2 acc vs, Rp K T m2 S2 G2 H3 ∧ Stp m1 G1 H1 m2 G2 H3 ∧ H3 Da = some (.lst vs) ∧ G2 Da = none ∧ DRs K m2 G2 acc vs ∧ comp src.ck b tt te own env (fun acc S2 => R (.lst acc) S2) (src.xs.drop (i + 1)) acc S2, fun H3 q => ⟨src.xs.length - (i + 1), by omega, rfl, hlt, q⟩, fun x H3 y => ?_⟩
      obtain ⟨m3, G3, s3, p3, d3⟩ := g2 x H3 y
      obtain ⟨hD3, gD3⟩ := s3.frame Da _ hD gD2 (by intro ps z; cases z)
      have s13 := s2.trans s3
      refine bind_rel p3 ho d3 (wipe_rel (he1.mono p1 s13) own) hc fun env3 σ3 h3 e3 w3 => ⟨w3.trans (wipe_wipe fun _ q => q), G3, env3, S2, m3, _, _, e3, p3, h3, fun ok S4 m4 G4 H4 h4 s4 p4 => ?_, exl_no⟩
      obtain ⟨hD4, gD4⟩ := s4.frame Da _ hD3 gD3 (by intro ps z; cases z)
      cases ok with
      | true =>
        refine ⟨G4, env3, S4, m4, _, _, e3.mono p3 s4, p4, h4, fun yd S5 yv m5 G5 H5 ⟨hl5, h5⟩ s5 p5 d5 => ?_, exl_no⟩
        obtain ⟨hD5, gD5⟩ := s5.frame Da _ hD4 gD4 (by intro ps z; cases z)
        have da5 := ((da.mono p2 s3).mono p3 s4).mono p4 s5
        have s15 := (s13.trans s4).trans s5
        refine ⟨vs, hD5, by rw [← da5.length]; exact hl5, m5, G5, S5, _, _, lists p5 hD5 gD5 _, ⟨s15.grow, s15.keep, s15.dom, fun a o q g n => ?_⟩, upd_same, gD5, da5.append (DRs.one d5), h5⟩
        rw [upd_ne (neD q)]
        exact s15.frame a o q g n
      | false => exact ⟨m4, G4, S4, acc, vs, p4, s13.trans s4, hD4, gD4, (da.mono p2 s3).mono p3 s4, h4⟩
    · have e : i = src.xs.length := by omega
      subst e
      rw [List.drop_length] at hc
      refine .inl ⟨hw.2 S2 m2 G2 H' hc.1 p2 s2, ?_⟩
      have gne : ∀ {a o}, G2 a = some o → a ≠ Da := fun q => ne_of_none q gD2
      have up : Stp m2 G2 G2 m2 (upd G2 Da (.lst vs)) (upd G2 Da (.lst vs)) :=
        ⟨⟨[], by simp, by simp⟩, fun a o q _ => by rw [upd_ne (gne q)]; exact q, fun a o q => ⟨o, by rw [upd_ne (gne q)]; exact q⟩, fun a o q g _ => by rw [g] at q; cases q⟩
      have s3 : Stp m1 G1 H1 m2 (upd G2 Da (.lst vs)) H' := by
        have g1 : ∀ {a o}, G1 a = some o → a ≠ Da := fun q => ne_of_none q gD
        refine ⟨s2.grow, fun a o q n => ?_, fun a o q => ?_, fun a o q g n => ?_⟩
        · rw [upd_ne (g1 q)]
          exact s2.keep a o q n
        · rw [upd_ne (g1 q)]
          exact s2.dom a o q
        · rw [upd_ne (neD q)]
          exact s2.frame a o q g n
      have r3 : Rp K T m2 S2 (upd G2 Da (.lst vs)) H' := by
        refine ⟨fun a o q => ?_, p2.nd, p2.len, fun i a xs q1 q2 => ?_, p2.tabs, nt_upd p2.nt (by intro ps z; cases z)⟩
        · by_cases z : a = Da
          · subst z
            rw [upd_same] at q
            cases q
            exact hD
          · rw [upd_ne z] at q
            exact p2.sub a o q
        · obtain ⟨ws, q3, q4⟩ := p2.sto i a xs q1 q2
          exact ⟨ws, by rw [upd_ne (gne q3)]; exact q3, q4.mono p2 up⟩
      refine hk _ S2 _ m2 _ H' hc.2 (s1.trans s3) r3 (.lst upd_same (fun z => ?_) (da.mono p2 up))
      obtain ⟨ws, e⟩ := p2.lists z
      rw [gD2] at e
      cases e
theorem pd_lc {elt tg iter : Expr} {ifs : List Expr} {scope : Scope} {own : List (Str × Nat)} {pos : Pos} {wi : WI'} {b : Bd} {tt : WT'} {te : WE'} (hc : X.calm = true) (hN : X.N.Nodup) (hi : PID X T W tg iter wi) (ok : BlkOk X.N X.env.scope scope own) (ho : ∀ i ∈ b.all, i ∈ own.map (·.2))
    (hg : ∀ (s : Shared) (H : Hp) (C : Addr) (cl : List (Str × Addr)) (fp : List Addr), PG (X.blk s H scope (compEnvC scope cl C X.env) fp) tg (bdG X.K b))
    (ht : ∀ (s : Shared) (H : Hp) (C : Addr) (cl : List (Str × Addr)) (fp : List Addr), PTsD (X.blk s H scope (compEnvC scope cl C X.env) fp) T (fun _ _ _ _ => False) ifs tt)
    (he : ∀ (s : Shared) (H : Hp) (C : Addr) (cl : List (Str × Addr)) (fp : List Addr), PD (X.blk s H scope (compEnvC scope cl C X.env) fp) T (fun _ _ _ _ => False) elt te) (hs : ∀ x, foldedSetIterable iter X.env x = pure x := by intro _; rfl) :
    PD X T W (.ListComp elt [⟨tg, iter, ifs, 0⟩] scope pos) (wLc wi b tt te (own.map (·.2))) :=
  pe_imp (pe_lc (tt := lT X.K T (fun _ _ _ _ => False) tt) (te := lE X.K T (fun _ _ _ _ => False) te) hc hN hi ok hg ht he hs) fun σ H Q h => comp_turns ho h
theorem psd_setLc (i : Nat) {y : Str} {py : Pos} {elt tg iter : Expr} {ifs : List Expr} {scope : Scope} {own : List (Str × Nat)} {pos spos : Pos} {wi : WI'} {b : Bd} {tt : WT'} {te : WE'} (hc : X.calm = true) (hN : X.N.Nodup) (hy : X.N[i]? = some y) (hyl : X.env.scope.names.lookup y = some .local)
    (hsw : swapsWith (.ListComp elt [⟨tg, iter, ifs, 0⟩] scope pos) (some (.Name y py)) spos.line X.env = pure true) (hi : PID X T W tg iter wi) (ok : BlkOk X.N X.env.scope scope own) (ho : ∀ i ∈ b.all, i ∈ own.map (·.2))
    (hg : ∀ (s : Shared) (H : Hp) (C : Addr) (cl : List (Str × Addr)) (fp : List Addr), PG (X.blk s H scope (compEnvC scope cl C X.env) fp) tg (bdG X.K b))
    (ht : ∀ (s : Shared) (H : Hp) (C : Addr) (cl : List (Str × Addr)) (fp : List Addr), PTsD (X.blk s H scope (compEnvC scope cl C X.env) fp) T (fun _ _ _ _ => False) ifs tt)
    (he : ∀ (s : Shared) (H : Hp) (C : Addr) (cl : List (Str × Addr)) (fp : List Addr), PD (X.blk s H scope (compEnvC scope cl C X.env) fp) T (fun _ _ _ _ => False) elt te) (hs : ∀ x, foldedSetIterable iter X.env x = pure x := by intro _; rfl) :
    PSD X T W (.Assign [.Name y py] (.ListComp elt [⟨tg, iter, ifs, 0⟩] scope pos) spos) (sAsg (wLc wi b tt te (own.map (·.2))) (gN i)) := by
  refine ps_imp (ps_setLc (tt := lT X.K T (fun _ _ _ _ => False) tt) (te := lE X.K T (fun _ _ _ _ => False) te) hc hN hy hyl hsw hi ok hg ht he hs) fun D σ H ⟨G, env, S, m, E, he, hp, h, l⟩ => ?_
  have key := comp_turns (Q := fun x H1 => D.nx (σ.set i (some x)) H1) (Wn := fun _ _ _ _ => False) (Wm := fun _ _ _ _ => False) ho (⟨G, env, S, m, _, _, he, hp, h, fun d S1 v m1 G1 H1 h1 s1 p1 d1 => l.nx _ S1 _ m1 G1 H1 h1 s1 p1 ((he.mono hp s1).set d1), l.ex⟩ : lE X.K T W (wLc wi b tt te (own.map (·.2))) σ H _)
  exact key
end
end DL

set_option maxHeartbeats 4000000
namespace DL
open PySem PySem.Spec PyProof.Rows L2
/-! ### a def that may be called; a constant -/
structure Cal (gd : Bool) (P : Program) (w : World) (K : PySem.W.Frag) (mg : Str → Option Value) (base : Heap) (T : List (Addr × Str)) (x : Str) (k n : Nat) (more : List D) (p : SpD) : Prop where
  ex : ∃ (f : Addr) (fd : FuncData) (ps : List Str) (mv : List V) (ds : List Value), FnD gd P w K mg base T k f fd ps p ∧ ps.length = n ∧ mg x = some (.ref f) ∧ PySem.W.keepIn K (.ref f) = true ∧ Binds K fd ps ds ∧ Vals mv ds ∧ ∀ m G, DRs K m G more mv
theorem Cal.up {gd : Bool} {P : Program} {w : World} {K : PySem.W.Frag} {mg : Str → Option Value} {base : Heap} {T : List (Addr × Str)} {x : Str} {j k n : Nat} {more : List D} {p : SpD} (C : Cal gd P w K mg base T x j n more p) (h : j ≤ k) : Cal gd P w K mg base T x k n more p := by
  obtain ⟨f, fd, ps, mv, ds, F, r⟩ := C.ex
  exact ⟨f, fd, ps, mv, ds, F.mono h, r⟩
structure Con (K : PySem.W.Frag) (mg : Str → Option Value) (x : Str) (d : D) : Prop where
  ex : ∃ (u : Value) (v : V), mg x = some u ∧ RelV v u ∧ ∀ m G, DR K m G d v
section
variable {X : Cx} {T : List (Addr × Str)} {W : WX} {k n : Nat} {p : SpD} {more : List D} {x : Str} {pp pos : Pos} {e : Expr} {es : List Expr} {as : WA'}
theorem pd_own {gd : Bool} (C : Cal gd X.prog X.w X.K X.mg X.base T x k n more p) (hr : Room k X.A) (hgd : GdOk gd X.A) (hg : Gl X x) (tk : Takes X W) (ha : PAD X T W (e :: es) as)
    (hdb : (x == ("__debug__" : Str)) = false := by decide) (he : starEach (e :: es) X.env = (false, eval e X.env) :: starEach es X.env := by rfl) (hpl : (backTo pos (starEach es X.env)).any (·.1) = false := by rfl) :
    PD X T W (.Call (.Name x pp) (e :: es) [] pos) (wCallN p n as more) := by
  obtain ⟨f, fd, ps, mv, ds, F, hl, hm, hk, hb, hd, hmo⟩ := C.ex
  rw [← hl]
  exact pd_call F hr hgd hg hm hk hb hd hmo tk ha hdb he hpl
theorem pd_const {d : D} (C : Con X.K X.mg x d) (hg : Gl X x) (hd : (x == ("__debug__" : Str)) = false := by decide) : PD X T W (.Name x pos) (wC d) := by
  obtain ⟨u, v, hm, r, h⟩ := C.ex
  exact pd_con hg hm r h hd
end
/-! ### steps of a reading -/
section
variable {env : Vars} {S : Sto} {R : KR} {Rx : KX} {E : Ds} {d a b : D} {wa wb : WE'} {ta tb : WT'} {as : WA'} {u v : WS'} {g : WG'} {i j : Int} {xs ys : List D}
theorem r_var {i : Nat} (h : env[i]? = some (some d)) (k : R d S) : wVar i env S R Rx := ⟨d, h, k⟩
theorem r_c (k : R d S) : wC d env S R Rx := k
theorem r_bin {f : F2} (k : wa env S (fun x S1 => wb env S1 (fun y S2 => f x y S2 R) Rx) Rx) : wBin f wa wb env S R Rx := k
theorem r_un {f : F1} (k : wa env S (fun x S1 => f x S1 R) Rx) : wUn f wa env S R Rx := k
theorem r_as0 {R : List D → Sto → Prop} (k : R [] S) : wAs0 env S R Rx := k
theorem r_as1 {R : List D → Sto → Prop} (k : wa env S (fun x S1 => as env S1 (fun xs S2 => R (x :: xs) S2) Rx) Rx) : wAs1 wa as env S R Rx := k
theorem r_tup (k : as env S (fun ds S1 => ds.length ≤ sizeLine ∧ R (.tup ds) S1) Rx) : wTup as env S R Rx := k
theorem r_lst (k : as env S (fun ds S1 => ds.length ≤ sizeLine ∧ R (.lst ds) S1) Rx) : wLst as env S R Rx := k
theorem r_mu (k : as env S (fun ds S1 => ds.length ≤ sizeLine ∧ R (.mu S1.length) (S1 ++ [ds])) Rx) : wMu as env S R Rx := k
theorem r_cb {f : FL} (k : as env S (fun ds S1 => f ds S1 R) Rx) : wCB f as env S R Rx := k
theorem r_call {p : SpD} {n : Nat} {more : List D} (k : as env S (fun ds S1 => (ds ++ more).length = n ∧ p (ds ++ more) S1 R (fun e S2 => Rx e env S2)) Rx) : wCallN p n as more env S R Rx := k
theorem r_B {R : Bool → Sto → Prop} (k : wa env S (fun d S1 => ∃ b, d = .bl b ∧ R b S1) Rx) : wB wa env S R Rx := k
theorem r_notT {R : Bool → Sto → Prop} (k : ta env S (fun b S1 => R (!b) S1) Rx) : wNotT ta env S R Rx := k
theorem r_andT {R : Bool → Sto → Prop} (k : ta env S (fun b S1 => if b = true then tb env S1 R Rx else R false S1) Rx) : wAndT ta tb env S R Rx := k
theorem r_orT {R : Bool → Sto → Prop} (k : ta env S (fun b S1 => if b = true then R true S1 else tb env S1 R Rx) Rx) : wOrT ta tb env S R Rx := k
theorem r_andV (k : wa env S (fun x S1 => ∃ c, x = .bl c ∧ if c = true then wb env S1 R Rx else R (.bl false) S1) Rx) : wAndV wa wb env S R Rx := k
theorem r_orV (k : wa env S (fun x S1 => ∃ c, x = .bl c ∧ if c = true then R (.bl true) S1 else wb env S1 R Rx) Rx) : wOrV wa wb env S R Rx := k
theorem r_notV (k : wa env S (fun x S1 => ∃ c, x = .bl c ∧ R (.bl (!c)) S1) Rx) : wNotV wa env S R Rx := k
theorem r_if (k : ta env S (fun c S1 => if c = true then wa env S1 R Rx else wb env S1 R Rx) Rx) : wIf ta wa wb env S R Rx := k
theorem r_cut {wl wh : WO'} (k : wa env S (fun a S1 => wl env S1 (fun l S2 => wh env S2 (fun h S3 => dCut a l h S3 R) Rx) Rx) Rx) : wCut wa wl wh env S R Rx := k
theorem r_p0 {R : Option Int → Sto → Prop} (k : R none S) : wP0 env S R Rx := k
theorem r_p1 {R : Option Int → Sto → Prop} (k : wa env S (fun d S1 => ∃ i, d = .int i ∧ R (some i) S1) Rx) : wP1 wa env S R Rx := k
theorem r_seq (k : u env S { E with nx := fun env1 S1 => v env1 S1 E }) : sSeq u v env S E := k
theorem r_next (k : E.nx env S) : sNext env S E := k
theorem r_break (k : E.bk env S) : sBreak env S E := k
theorem r_cont (k : E.ct env S) : sCont env S E := k
theorem r_ret (k : wa env S E.rt E.ex) : sRet wa env S E := k
theorem r_retN (k : E.rt .non S) : sRetN env S E := k
theorem r_drop (k : wa env S (fun _ S1 => E.nx env S1) E.ex) : sDrop wa env S E := k
theorem r_ifS (k : ta env S (fun b S1 => if b = true then u env S1 E else v env S1 E) E.ex) : sIf ta u v env S E := k
theorem r_asg (k : wa env S (fun d S1 => g d env S1 E.nx) E.ex) : sAsg wa g env S E := k
theorem r_gN {i : Nat} {R : Vars → Sto → Prop} (k : R (env.set i (some d)) S) : gN i d env S R := k
theorem r_gT {n : Nat} {gs : WGs'} {R : Vars → Sto → Prop} (h : xs.length = n) (k : gs xs env S R) : gT n gs (.tup xs) env S R := ⟨xs, rfl, h, k⟩
theorem r_gs0 {R : Vars → Sto → Prop} (k : R env S) : gs0 [] env S R := ⟨rfl, k⟩
theorem r_gs1 {gs : WGs'} {R : Vars → Sto → Prop} (k : g d env S fun env1 S1 => gs xs env1 S1 R) : gs1 g gs (d :: xs) env S R := ⟨d, xs, rfl, k⟩
theorem r_par {i j : Nat} (k : as env S (fun ds S1 => ∃ x y, ds = [x, y] ∧ E.nx ((env.set i (some x)).set j (some y)) S1) E.ex) : sPar i j as env S E := k
theorem r_true {A B : Prop} (k : A) : if true = true then A else B := k
theorem r_false {A B : Prop} (k : B) : if false = true then A else B := k
theorem r_trueR {c : Bool} {A B : Prop} (h : c = true) (k : A) : if c = true then A else B := by rw [if_pos h]; exact k
theorem r_falseR {c : Bool} {A B : Prop} (h : c = false) (k : B) : if c = true then A else B := by rw [if_neg (by rw [h]; decide)]; exact k
theorem r_both {c : Bool} {A B : Prop} (k1 : c = true → A) (k2 : c = false → B) : if c = true then A else B := by
  cases c with
  | true => exact k1 rfl
  | false => exact k2 rfl
theorem r_bl {b : Bool} {Q : Bool → Prop} (k : Q b) : ∃ c, D.bl b = D.bl c ∧ Q c := ⟨b, rfl, k⟩
theorem r_in {Q : Int → Prop} (k : Q i) : ∃ c, D.int i = D.int c ∧ Q c := ⟨i, rfl, k⟩
theorem r_two {Q : D → D → Prop} (k : Q a b) : ∃ x y, [a, b] = [x, y] ∧ Q x y := ⟨a, b, rfl, k⟩
theorem r_addI (k : R (.int (i + j)) S) : dAdd (.int i) (.int j) S R := k
theorem r_addT (h : xs.length + ys.length ≤ sizeLine) (k : R (.tup (xs ++ ys)) S) : dAdd (.tup xs) (.tup ys) S R := ⟨h, k⟩
theorem r_addL (h : xs.length + ys.length ≤ sizeLine) (k : R (.lst (xs ++ ys)) S) : dAdd (.lst xs) (.lst ys) S R := ⟨xs, ys, rfl, rfl, h, k⟩
theorem r_subI (k : R (.int (i - j)) S) : dSub (.int i) (.int j) S R := k
theorem r_mulI (h : CMulW i j) (k : R (.int (i * j)) S) : dMul (.int i) (.int j) S R := ⟨h, k⟩
theorem r_divI (h : j ≠ 0 ∧ j.natAbs.log2 < 9000) (k : R (.int (i.fdiv j)) S) : dDiv (.int i) (.int j) S R := ⟨h, k⟩
theorem r_modI (h : j ≠ 0) (k : R (.int (i.fmod j)) S) : dMod (.int i) (.int j) S R := ⟨h, k⟩
theorem r_powI (h : CPow i j) (k : R (.int (i ^ j.toNat)) S) : dPow (.int i) (.int j) S R := ⟨h, k⟩
theorem r_negI (k : R (.int (-i)) S) : dNeg (.int i) S R := k
theorem r_lt (k : R (.bl (decide (i < j))) S) : dLt (.int i) (.int j) S R := k
theorem r_le (k : R (.bl (decide (i ≤ j))) S) : dLe (.int i) (.int j) S R := k
theorem r_gt (k : R (.bl (decide (j < i))) S) : dGt (.int i) (.int j) S R := k
theorem r_ge (k : R (.bl (decide (j ≤ i))) S) : dGe (.int i) (.int j) S R := k
theorem r_is (k : R (.bl (isNon a)) S) : dIs a .non S R := k
theorem r_isNot (k : R (.bl (!isNon a)) S) : dIsNot a .non S R := k
theorem r_eqI (k : R (.bl (decide (i = j))) S) : dEq (.int i) (.int j) S R := k
theorem r_neI (k : R (.bl (!decide (i = j))) S) : dNe (.int i) (.int j) S R := k
theorem r_eqS {x y : Str} (k : R (.bl (decide (x = y))) S) : dEq (.str x) (.str y) S R := k
theorem r_neS {x y : Str} (k : R (.bl (!decide (x = y))) S) : dNe (.str x) (.str y) S R := k
theorem r_ixT (h : atI xs i = some d) (k : R d S) : dIx (.tup xs) (.int i) S R := ⟨d, h, k⟩
theorem r_ixL (h : atI xs i = some d) (k : R d S) : dIx (.lst xs) (.int i) S R := ⟨xs, d, rfl, h, k⟩
theorem r_ixC (h : atI xs i = some d) (k : R d S) : dIx (.scr xs) (.int i) S R := ⟨xs, d, rfl, h, k⟩
theorem r_ixM {n : Nat} (hs : S[n]? = some xs) (h : atI xs i = some d) (k : R d S) : dIx (.mu n) (.int i) S R := ⟨xs, d, hs, h, k⟩
theorem r_lenT (k : R (.int xs.length) S) : dLen [.tup xs] S R := k
theorem r_lenL (k : R (.int xs.length) S) : dLen [.lst xs] S R := ⟨xs, rfl, k⟩
theorem r_lenC (k : R (.int xs.length) S) : dLen [.scr xs] S R := ⟨xs, rfl, k⟩
theorem r_lenM {n : Nat} (hs : S[n]? = some xs) (k : R (.int xs.length) S) : dLen [.mu n] S R := ⟨xs, hs, k⟩
theorem r_abs (k : R (.int (if i < 0 then -i else i)) S) : dAbs [.int i] S R := k
theorem r_max (k : R (.int (if j > i then j else i)) S) : dMax2 [.int i, .int j] S R := k
theorem r_min (k : R (.int (if j < i then j else i)) S) : dMin2 [.int i, .int j] S R := k
theorem r_intI (k : R (.int i) S) : dInt [.int i] S R := k
theorem r_intB {b : Bool} (k : R (.int (if b then 1 else 0)) S) : dInt [.bl b] S R := k
theorem r_tupL (k : R (.tup xs) S) : dTupOf [.lst xs] S R := ⟨xs, rfl, k⟩
theorem r_tupT (k : R (.tup xs) S) : dTupOf [.tup xs] S R := k
theorem r_tupM {n : Nat} (hs : S[n]? = some xs) (k : R (.tup xs) S) : dTupOf [.mu n] S R := ⟨xs, hs, k⟩
theorem r_allL {bs : List Bool} (k : R (.bl (bs.all id)) S) : dAll [.lst (bs.map D.bl)] S R := ⟨bs, rfl, k⟩
theorem r_gcd (k : R (.int ((Nat.gcd i.natAbs j.natAbs : Nat) : Int)) S) : dGcd [.int i, .int j] S R := k
theorem r_isi {f : D → Bool} {n : String} (h : plainD a = true) (k : R (.bl (f a)) S) : (∃ c, [a, D.ty n] = [c, D.ty n]) ∧ dIsi f [a, .ty n] S R := ⟨⟨a, rfl⟩, h, k⟩
theorem r_for {wi : WI'} (k : wi env S (fun src S1 => loop src.ck g u E src.xs env S1) E.ex) : sFor wi g u env S E := k
theorem r_wiT {R : Src → Sto → Prop} (k : wa env S (fun d S1 => ∃ xs, d = .tup xs ∧ R ⟨xs, fun _ => True⟩ S1) Rx) : wiT wa env S R Rx := k
theorem r_wiL {R : Src → Sto → Prop} (k : wa env S (fun d S1 => ∃ xs, itemsL d S1 = some xs ∧ R ⟨xs, fun S => itemsL d S = some xs⟩ S1) Rx) : wiL wa env S R Rx := k
theorem r_wiR1 {R : Src → Sto → Prop} (k : as env S (fun ds S1 => ∃ j : Int, ds = [.int j] ∧ -(2 ^ 62) ≤ j ∧ j < 2 ^ 62 ∧ R ⟨intsD 0 j.toNat, fun _ => True⟩ S1) Rx) : wiR1 as env S R Rx := k
theorem r_lc {wi : WI'} {b : Bd} {tt : WT'} {te : WE'} {own : List Nat} (k : wi env S (fun src S1 => comp src.ck b tt te own env (fun acc S2 => R (.lst acc) S2) src.xs [] S1) Rx) : wLc wi b tt te own env S R Rx := k
theorem r_app (k : wa env S (fun o S1 => ∃ i, o = .mu i ∧ wb env S1 (fun d S2 => ∃ ds, S2[i]? = some ds ∧ ds.length < sizeLine ∧ E.nx env (S2.set i (ds ++ [d]))) E.ex) E.ex) : sApp wa wb env S E := k
theorem r_setIx {we : WE'} (k : we env S (fun d S1 => wa env S1 (fun o S2 => wb env S2 (fun k S3 => ∃ i z ds j, o = .mu i ∧ k = .int z ∧ S3[i]? = some ds ∧ ixN ds.length z = some j ∧ E.nx env (S3.set i (ds.set j d))) E.ex) E.ex) E.ex) : sSetIx wa wb we env S E := k
end
/-! a loop, a comprehension by what holds -/
theorem loop_by {ck : Sto → Prop} {g : WG'} {u : WS'} {E : Ds} (I : Nat → Vars → Sto → Prop) {xs : List D} {env : Vars} {S : Sto} (h0 : I 0 env S)
    (hs : ∀ (i : Nat) (d : D) (env : Vars) (S : Sto) (N : Vars → Sto → Prop), xs[i]? = some d → I i env S → (∀ e s, I (i + 1) e s → N e s) → ck S ∧ g d env S fun env1 S1 => u env1 S1 { E with nx := N, ct := N, bk := E.nx })
    (hd : ∀ env S, I xs.length env S → ck S ∧ E.nx env S) : loop ck g u E xs env S := by
  have key : ∀ n i env S, n = xs.length - i → i ≤ xs.length → I i env S → loop ck g u E (xs.drop i) env S := by
    intro n
    induction n with
    | zero =>
      intro i env S hn hi h
      have e : i = xs.length := by omega
      subst e
      rw [List.drop_length]
      exact hd env S h
    | succ n ih =>
      intro i env S hn hi h
      have hlt : i < xs.length := by omega
      rw [List.drop_eq_getElem_cons hlt]
      exact hs i xs[i] env S _ (List.getElem?_eq_getElem hlt) h fun e s q => ih (i + 1) e s (by omega) hlt q
  simpa using key xs.length 0 env S rfl (Nat.zero_le _) h0
theorem comp_by {ck : Sto → Prop} {b : Bd} {tt : WT'} {te : WE'} {own : List Nat} {env : Vars} {Rf : List D → Sto → Prop} (I : Nat → List D → Sto → Prop) {xs : List D} {S : Sto} (h0 : I 0 [] S)
    (hs : ∀ (i : Nat) (d : D) (acc : List D) (S : Sto) (N : List D → Sto → Prop), xs[i]? = some d → I i acc S → (∀ a s, I (i + 1) a s → N a s) →
      ck S ∧ bindE b d (wipeE env own) fun env1 => tt env1 S (fun ok S2 => if ok = true then te env1 S2 (fun y S3 => acc.length < sizeLine ∧ N (acc ++ [y]) S3) noX else N acc S2) noX)
    (hd : ∀ acc S, I xs.length acc S → ck S ∧ Rf acc S) : comp ck b tt te own env Rf xs [] S := by
  have key : ∀ n i acc S, n = xs.length - i → i ≤ xs.length → I i acc S → comp ck b tt te own env Rf (xs.drop i) acc S := by
    intro n
    induction n with
    | zero =>
      intro i acc S hn hi h
      have e : i = xs.length := by omega
      subst e
      rw [List.drop_length]
      exact hd acc S h
    | succ n ih =>
      intro i acc S hn hi h
      have hlt : i < xs.length := by omega
      rw [List.drop_eq_getElem_cons hlt]
      exact hs i xs[i] acc S _ (List.getElem?_eq_getElem hlt) h fun a s q => ih (i + 1) a s (by omega) hlt q
  simpa using key xs.length 0 [] S rfl (Nat.zero_le _) h0
end DL
namespace DL
open PySem PySem.Spec PyProof.Rows L2
section
variable {S : Sto} {R : KR} {a b : D} {xs : List D}
theorem atI_0 : atI (a :: xs) 0 = some a := by
  unfold atI ixN
  rw [if_pos (Int.le_refl 0), if_pos (by simp only [List.length_cons]; omega)]
  rfl
theorem atI_1 : atI (a :: b :: xs) 1 = some b := by
  unfold atI ixN
  rw [if_pos (by decide), if_pos (by simp only [List.length_cons]; omega)]
  rfl
theorem r_ix0T (k : R a S) : dIx (.tup (a :: xs)) (.int 0) S R := ⟨a, atI_0, k⟩
theorem r_ix1T (k : R b S) : dIx (.tup (a :: b :: xs)) (.int 1) S R := ⟨b, atI_1, k⟩
theorem size100 {n : Nat} (h : n ≤ 100) : n ≤ sizeLine := Nat.le_trans h (by decide)
theorem r_sizeT {A : Prop} (k : A) : [a, b].length ≤ sizeLine ∧ A := ⟨size100 (by simp), k⟩
theorem r_sizeL {A : Prop} (k : A) : [a].length ≤ sizeLine ∧ A := ⟨size100 (by simp), k⟩
end
/-! ### parts as ratios -/
def pt (q : Rat) : D := .tup [.int q.num, .int q.den]
def Sz (n : Nat) (q : Rat) : Prop := q.num.natAbs < 2 ^ n ∧ q.den < 2 ^ n
theorem Sz.mono {n m : Nat} {q : Rat} (h : Sz n q) (l : n ≤ m) : Sz m q := ⟨Nat.lt_of_lt_of_le h.1 (Nat.pow_le_pow_right (by decide) l), Nat.lt_of_lt_of_le h.2 (Nat.pow_le_pow_right (by decide) l)⟩
theorem norm_num {a : Int} {b : Nat} (h : b ≠ 0) : (Rat.normalize a b h).num = a / ((a.natAbs.gcd b : Nat) : Int) := by rw [Rat.normalize_eq]
theorem norm_den {a : Int} {b : Nat} (h : b ≠ 0) : (Rat.normalize a b h).den = b / a.natAbs.gcd b := by rw [Rat.normalize_eq]
theorem norm_sz {a : Int} {b n : Nat} (h : b ≠ 0) (ha : a.natAbs < 2 ^ n) (hb : b < 2 ^ n) : Sz n (Rat.normalize a b h) := by
  refine ⟨?_, ?_⟩
  · rw [norm_num]
    have e : (a / ((a.natAbs.gcd b : Nat) : Int)).natAbs ≤ a.natAbs := Int.natAbs_ediv_le_natAbs _ _
    omega
  · rw [norm_den]
    exact Nat.lt_of_le_of_lt (Nat.div_le_self _ _) hb
end DL

set_option maxHeartbeats 4000000
namespace DL
open PySem PySem.Spec PyProof.Rows L2
/-! ### a comprehension whose list grows later -/
def wLcM (wi : WI') (b : Bd) (tt : WT') (te : WE') (own : List Nat) : WE' := fun env S R Rx => wi env S (fun src S1 => comp src.ck b tt te own env (fun acc S2 => R (.mu S2.length) (S2 ++ [acc])) src.xs [] S1) Rx
section
variable {X : Cx} {T : List (Addr × Str)} {W : WX}
theorem comp_turnsM {K : PySem.W.Frag} {Wn Wm : WX} {wi : WI'} {b : Bd} {tt : WT'} {te : WE'} {own : List Nat} {σ : L2.St} {H : Hp} {Q : VK} (ho : ∀ i ∈ b.all, i ∈ own) (h : lE K T W (wLcM wi b tt te own) σ H Q) :
    tLc (lI K T W wi) (bdG K b) (lT K T Wn tt) (lE K T Wm te) own σ H Q := by
  obtain ⟨G, env, S, m, R, Rx, he, hp, h, hk, hx⟩ := h
  refine ⟨G, env, S, m, _, Rx, he, hp, h, fun src S1 m1 G1 H1 J h1 s1 p1 hw => fun Da nD => ?_, hx⟩
  have he1 := he.mono hp s1
  have gD : G1 Da = none := none_of (fun a o q => ⟨o, p1.sub a o q⟩) nD
  have neD : ∀ {a o}, H1 a = some o → a ≠ Da := fun q => ne_of_none q nD
  have lists : ∀ {vs : List V} {m2 G2 H2 S2}, Rp K T m2 S2 G2 H2 → H2 Da = some (.lst vs) → G2 Da = none → ∀ ws, Rp K T m2 S2 G2 (upd H2 Da (.lst ws)) := fun {vs m2 G2 H2 S2} p2 hD gD ws => by
    refine ⟨fun a o q => ?_, p2.nd, p2.len, p2.sto, tabs_keep p2.tabs (fun a o q n => ?_), p2.nt⟩
    · rw [upd_ne (fun z => by rw [z, gD] at q; cases q)]
      exact p2.sub a o q
    · rw [upd_ne (fun z => by rw [z, hD] at q; cases q; exact n _ rfl)]
      exact q
  refine ⟨fun i n H' => n = src.xs.length - i ∧ i ≤ src.xs.length ∧ ∃ m2 G2 S2 acc vs, Rp K T m2 S2 G2 H' ∧ Stp m1 G1 H1 m2 G2 H' ∧ H' Da = some (.lst vs) ∧ G2 Da = none ∧ DRs K m2 G2 acc vs ∧ comp src.ck b tt te own env (fun acc S2 => R (.mu S2.length) (S2 ++ [acc])) (src.xs.drop i) acc S2,
    ⟨src.xs.length, by simp, Nat.zero_le _, m1, G1, S1, [], [], ?_, ?_, upd_same, gD, .nil, by simpa using h1⟩, ?_⟩
  · refine ⟨fun a o q => ?_, p1.nd, p1.len, p1.sto, tabs_keep p1.tabs (fun a o q n => ?_), p1.nt⟩
    · rw [upd_ne (neD (p1.sub a o q))]
      exact p1.sub a o q
    · rw [upd_ne (neD q)]
      exact q
  · exact ⟨⟨[], by simp, by simp⟩, fun _ _ q _ => q, fun _ o q => ⟨o, q⟩, fun a o q g _ => ⟨by rw [upd_ne (neD q)]; exact q, g⟩⟩
  · rintro i n H' ⟨rfl, hi, m2, G2, S2, acc, vs, p2, s2, hD, gD2, da, hc⟩
    by_cases hlt : i < src.xs.length
    · have e : src.xs.drop i = src.xs[i] :: src.xs.drop (i + 1) := List.drop_eq_getElem_cons hlt
      rw [e] at hc
      obtain ⟨hck, hc⟩ := hc
      obtain ⟨g1, g2⟩ := hw.1 i src.xs[i] S2 m2 G2 H' (List.getElem?_eq_getElem hlt) hck p2 s2
      refine .inr ⟨g1, fun H3 => ∃ m2 G2 S2 acc vs, Rp K T m2 S2 G2 H3 ∧ Stp m1 G1 H1 m2 G2 H3 ∧ H3 Da = some (.lst vs) ∧ G2 Da = none ∧ DRs K m2 G2 acc vs ∧ comp src.ck b tt te own env (fun acc S2 => R (.mu S2.length) (S2 ++ [acc])) (src.xs.drop (i + 1)) acc S2, fun H3 q => ⟨src.xs.length - (i + 1), by omega, rfl, hlt, q⟩, fun x H3 y => ?_⟩
      obtain ⟨m3, G3, s3, p3, d3⟩ := g2 x H3 y
      obtain ⟨hD3, gD3⟩ := s3.frame Da _ hD gD2 (by intro ps z; cases z)
      have s13 := s2.trans s3
      refine bind_rel p3 ho d3 (wipe_rel (he1.mono p1 s13) own) hc fun env3 σ3 h3 e3 w3 => ⟨w3.trans (wipe_wipe fun _ q => q), G3, env3, S2, m3, _, _, e3, p3, h3, fun ok S4 m4 G4 H4 h4 s4 p4 => ?_, exl_no⟩
      obtain ⟨hD4, gD4⟩ := s4.frame Da _ hD3 gD3 (by intro ps z; cases z)
      cases ok with
      | true =>
        refine ⟨G4, env3, S4, m4, _, _, e3.mono p3 s4, p4, h4, fun yd S5 yv m5 G5 H5 ⟨hl5, h5⟩ s5 p5 d5 => ?_, exl_no⟩
        obtain ⟨hD5, gD5⟩ := s5.frame Da _ hD4 gD4 (by intro ps z; cases z)
        have da5 := ((da.mono p2 s3).mono p3 s4).mono p4 s5
        have s15 := (s13.trans s4).trans s5
        refine ⟨vs, hD5, by rw [← da5.length]; exact hl5, m5, G5, S5, _, _, lists p5 hD5 gD5 _, ⟨s15.grow, s15.keep, s15.dom, fun a o q g n => ?_⟩, upd_same, gD5, da5.append (DRs.one d5), h5⟩
        rw [upd_ne (neD q)]
        exact s15.frame a o q g n
      | false => exact ⟨m4, G4, S4, acc, vs, p4, s13.trans s4, hD4, gD4, (da.mono p2 s3).mono p3 s4, h4⟩
    · have e : i = src.xs.length := by omega
      subst e
      rw [List.drop_length] at hc
      refine .inl ⟨hw.2 S2 m2 G2 H' hc.1 p2 s2, ?_⟩
      have gne : ∀ {a o}, G2 a = some o → a ≠ Da := fun q => ne_of_none q gD2
      have g1 : ∀ {a o}, G1 a = some o → a ≠ Da := fun q => ne_of_none q gD
      have dm : Da ∉ m2 := fun z => by
        obtain ⟨ws, e⟩ := p2.lists z
        rw [gD2] at e
        cases e
      have up : Stp m2 G2 G2 (m2 ++ [Da]) (upd G2 Da (.lst vs)) (upd G2 Da (.lst vs)) :=
        ⟨⟨[Da], rfl, fun a ha => by rw [List.mem_singleton.mp ha]; exact gD2⟩, fun a o q _ => by rw [upd_ne (gne q)]; exact q, fun a o q => ⟨o, by rw [upd_ne (gne q)]; exact q⟩, fun a o q g _ => by rw [g] at q; cases q⟩
      have s3 : Stp m1 G1 H1 (m2 ++ [Da]) (upd G2 Da (.lst vs)) H' := by
        obtain ⟨l, e1, e2⟩ := s2.grow
        refine ⟨⟨l ++ [Da], by rw [e1, List.append_assoc], fun a ha => ?_⟩, fun a o q n => ?_, fun a o q => ?_, fun a o q g n => ?_⟩
        · rcases List.mem_append.mp ha with ha | ha
          · exact e2 a ha
          · rw [List.mem_singleton.mp ha]
            exact gD
        · rw [upd_ne (g1 q)]
          exact s2.keep a o q n
        · rw [upd_ne (g1 q)]
          exact s2.dom a o q
        · rw [upd_ne (neD q)]
          exact s2.frame a o q g n
      have r3 : Rp K T (m2 ++ [Da]) (S2 ++ [acc]) (upd G2 Da (.lst vs)) H' := by
        refine ⟨fun a o q => ?_, ?_, ?_, fun i a xs q1 q2 => ?_, p2.tabs, nt_upd p2.nt (by intro ps z; cases z)⟩
        · by_cases z : a = Da
          · subst z
            rw [upd_same] at q
            cases q
            exact hD
          · rw [upd_ne z] at q
            exact p2.sub a o q
        · rw [List.nodup_append]
          refine ⟨p2.nd, by simp, fun a ha b hb => ?_⟩
          rw [List.mem_singleton.mp hb]
          intro z
          rw [z] at ha
          exact dm ha
        · rw [List.length_append, List.length_append, p2.len]
          rfl
        · by_cases z : i < m2.length
          · rw [List.getElem?_append_left z] at q1
            rw [List.getElem?_append_left (by rw [← p2.len]; exact z)] at q2
            obtain ⟨ws, q3, q4⟩ := p2.sto i a xs q1 q2
            exact ⟨ws, by rw [upd_ne (gne q3)]; exact q3, q4.mono p2 up⟩
          · have hi2 : i = m2.length := by
              have := (List.getElem?_eq_some_iff.mp q1).1
              rw [List.length_append] at this
              have : [Da].length = 1 := rfl
              omega
            rw [hi2, List.getElem?_append_right (Nat.le_refl _), Nat.sub_self] at q1
            rw [hi2, p2.len, List.getElem?_append_right (Nat.le_refl _), Nat.sub_self] at q2
            have q1 : Da = a := Option.some.inj q1
            have q2 : acc = xs := Option.some.inj q2
            subst q1
            subst q2
            exact ⟨vs, upd_same, da.mono p2 up⟩
      refine hk _ _ _ (m2 ++ [Da]) _ H' hc.2 (s1.trans s3) r3 (.mu ?_)
      rw [← p2.len, List.getElem?_append_right (Nat.le_refl _), Nat.sub_self]
      rfl
theorem pd_lcM {elt tg iter : Expr} {ifs : List Expr} {scope : Scope} {own : List (Str × Nat)} {pos : Pos} {wi : WI'} {b : Bd} {tt : WT'} {te : WE'} (hc : X.calm = true) (hN : X.N.Nodup) (hi : PID X T W tg iter wi) (ok : BlkOk X.N X.env.scope scope own) (ho : ∀ i ∈ b.all, i ∈ own.map (·.2))
    (hg : ∀ (s : Shared) (H : Hp) (C : Addr) (cl : List (Str × Addr)) (fp : List Addr), PG (X.blk s H scope (compEnvC scope cl C X.env) fp) tg (bdG X.K b))
    (ht : ∀ (s : Shared) (H : Hp) (C : Addr) (cl : List (Str × Addr)) (fp : List Addr), PTsD (X.blk s H scope (compEnvC scope cl C X.env) fp) T (fun _ _ _ _ => False) ifs tt)
    (he : ∀ (s : Shared) (H : Hp) (C : Addr) (cl : List (Str × Addr)) (fp : List Addr), PD (X.blk s H scope (compEnvC scope cl C X.env) fp) T (fun _ _ _ _ => False) elt te) (hs : ∀ x, foldedSetIterable iter X.env x = pure x := by intro _; rfl) :
    PD X T W (.ListComp elt [⟨tg, iter, ifs, 0⟩] scope pos) (wLcM wi b tt te (own.map (·.2))) :=
  pe_imp (pe_lc (tt := lT X.K T (fun _ _ _ _ => False) tt) (te := lE X.K T (fun _ _ _ _ => False) te) hc hN hi ok hg ht he hs) fun σ H Q h => comp_turnsM ho h
theorem psd_setLcM (i : Nat) {y : Str} {py : Pos} {elt tg iter : Expr} {ifs : List Expr} {scope : Scope} {own : List (Str × Nat)} {pos spos : Pos} {wi : WI'} {b : Bd} {tt : WT'} {te : WE'} (hc : X.calm = true) (hN : X.N.Nodup) (hy : X.N[i]? = some y) (hyl : X.env.scope.names.lookup y = some .local)
    (hsw : swapsWith (.ListComp elt [⟨tg, iter, ifs, 0⟩] scope pos) (some (.Name y py)) spos.line X.env = pure true) (hi : PID X T W tg iter wi) (ok : BlkOk X.N X.env.scope scope own) (ho : ∀ i ∈ b.all, i ∈ own.map (·.2))
    (hg : ∀ (s : Shared) (H : Hp) (C : Addr) (cl : List (Str × Addr)) (fp : List Addr), PG (X.blk s H scope (compEnvC scope cl C X.env) fp) tg (bdG X.K b))
    (ht : ∀ (s : Shared) (H : Hp) (C : Addr) (cl : List (Str × Addr)) (fp : List Addr), PTsD (X.blk s H scope (compEnvC scope cl C X.env) fp) T (fun _ _ _ _ => False) ifs tt)
    (he : ∀ (s : Shared) (H : Hp) (C : Addr) (cl : List (Str × Addr)) (fp : List Addr), PD (X.blk s H scope (compEnvC scope cl C X.env) fp) T (fun _ _ _ _ => False) elt te) (hs : ∀ x, foldedSetIterable iter X.env x = pure x := by intro _; rfl) :
    PSD X T W (.Assign [.Name y py] (.ListComp elt [⟨tg, iter, ifs, 0⟩] scope pos) spos) (sAsg (wLcM wi b tt te (own.map (·.2))) (gN i)) := by
  refine ps_imp (ps_setLc (tt := lT X.K T (fun _ _ _ _ => False) tt) (te := lE X.K T (fun _ _ _ _ => False) te) hc hN hy hyl hsw hi ok hg ht he hs) fun D σ H ⟨G, env, S, m, E, he, hp, h, l⟩ => ?_
  have key := comp_turnsM (Q := fun x H1 => D.nx (σ.set i (some x)) H1) (Wn := fun _ _ _ _ => False) (Wm := fun _ _ _ _ => False) ho (⟨G, env, S, m, _, _, he, hp, h, fun d S1 v m1 G1 H1 h1 s1 p1 d1 => l.nx _ S1 _ m1 G1 H1 h1 s1 p1 ((he.mono hp s1).set d1), l.ex⟩ : lE X.K T W (wLcM wi b tt te (own.map (·.2))) σ H _)
  exact key
end
end DL

set_option maxHeartbeats 4000000
namespace DL
open PySem PySem.Spec PyProof.Rows L2
/-! ### enumerate of a tuple -/
abbrev enO (j : Addr) : Obj := { cls := .type "enumerate", data := .fields #[.none, .bool false, .ref j, rawInt 0, .none, .none] }
theorem enum_meets {v : Value} {ob : Obj} {Hs : Heap → Prop} (B : Begins v ob Hs) :
    Meets (Builtin.«enumerate.__new__» ⟨[.type "enumerate", v], []⟩) (fun _ R t => Hs t.heap ∧ R (.ok (.ret (.ref (t.heap.push ob).objs.size))) { t with heap := (t.heap.push ob).push (enO t.heap.objs.size) }) :=
  .of_wp fun prog w A R t h => by
    obtain ⟨hp, gn, dr, tok, sys⟩ := t
    obtain ⟨ha, hb⟩ := h
    have sub := sub_enumerate
    have iter : ∀ {A2 : Around} {E2 : Value → Shared → Prop} {Q2 : Value → Shared → Prop}, Q2 (.ref hp.objs.size) ⟨hp.push ob, gn, dr, tok, sys⟩ → wpAny (model prog w) A2 (pyIter v) Q2 E2 ⟨hp, gn, dr, tok, sys⟩ :=
      fun z => B.iter prog w _ _ ⟨hp, gn, dr, tok, sys⟩ _ ha z
    wp_walk using iter
    refine wpAny_stack_any fun stk => wpAny_pure ?_
    split
    · rename_i c _ _ _ _ _
      cases (c == Value.type "enumerate")
      · wp_walk using iter; exact ⟨_, rfl, hb⟩
      · wp_walk using iter; exact ⟨_, rfl, hb⟩
    · wp_walk using iter; exact ⟨_, rfl, hb⟩
/-- the tuple at a, each item with its place in a new pair -/
def ItT (K : PySem.W.Frag) (a : Addr) : It where
  go := fun n H => ∃ (ws : List V) (y : V), SqT K H a ws ∧ ws[n]? = some y
  yld := fun n H v H' => ∃ Tp y, v = .ref Tp ∧ H Tp = none ∧ H' = upd H Tp (.tup [.int (n : Nat), y]) ∧ ∀ ws, SqT K H a ws → ws[n]? = some y
  stop := fun n H => ∃ ws : List V, SqT K H a ws ∧ ws.length = n
structure EnT (a en ti : Addr) (n : Nat) (h : Heap) : Prop where
  enm : ∃ w, IsEnum h en ti ((n : Nat) : Int) w
  itr : h.IsTupleIter ti a n
  et : en ≠ ti
  at_ : a ≠ ti
  ae : a ≠ en
theorem turn_enT {P : Program} {w : World} {K : PySem.W.Frag} {es : List Expr} {kk : Nat} {tpos : Pos} {a en ti : Addr} : Turn P w K (.Tuple es kk tpos) (ItT K a) [en, ti] en (EnT a en ti) where
  mem := List.mem_cons_self
  obj := fun n h z c hc => by
    obtain ⟨w0, hw⟩ := z.enm
    obtain ⟨ob, h1, _, h3⟩ := z.itr
    rcases List.mem_cons.mp hc with rfl | hc
    · exact ⟨_, hw, fun v q => nomatch q⟩
    · rw [List.mem_singleton.mp hc]
      exact ⟨ob, h1, fun v q => by rw [h3] at q; exact nomatch q⟩
  keep := fun n h h2 z k => by
    obtain ⟨w0, hw⟩ := z.enm
    exact ⟨⟨w0, k en List.mem_cons_self _ hw⟩, z.itr.at fun ob q => k ti (List.mem_cons_of_mem _ List.mem_cons_self) ob q, z.et, z.at_, z.ae⟩
  item := by
    intro X e1 e2 e3 cal n pins s σ H E I fp z go
    subst e1 e2 e3
    obtain ⟨w0, hw⟩ := z.enm
    obtain ⟨ws, y, hq, hy⟩ := go
    obtain ⟨its, vals, tp, _⟩ := I.tuple hq
    obtain ⟨u, hu, ru⟩ := vals.get hy
    have nu : its.toArray[n]? = some u := by simpa using hu
    have lt : n < its.toArray.size := (Array.getElem?_eq_some_iff.mp nu).1
    have hd : X.A.in1.handled = none := I.ok.hd cal
    have len : en < s.heap.objs.size := Heap.lt_size hw
    have lti : ti < s.heap.objs.size := by
      obtain ⟨_, q, _⟩ := z.itr
      exact Heap.lt_size q
    refine wpAny_pyNext_enum_itemD (Draws.tuple hd ti a z.at_ its.toArray) hw ⟨z.itr, tp⟩ lt z.et (fun q => ?_) fun v h1 tk hv out st1 pair _ kept => ?_
    · rcases List.mem_cons.mp q with q | q
      · exact z.et q
      · exact z.ae (List.mem_singleton.mp q).symm
    obtain rfl : u = v := Option.some.inj (nu.symm.trans hv)
    refine ⟨_, rfl, wpAny_letOwnedTupleGo_enum (s := { s with heap := h1, toks := tk + 1 }) out fun h2 en2 same => ?_⟩
    have pair2 : h2.get? s.heap.objs.size = some { cls := .type "tuple", data := .seq #[.int n tk, u] } := (same.2 _ (Nat.ne_of_gt len)).trans pair
    have ok : ObjOk X.prog X.w (upd H s.heap.objs.size (.tup [.int (n : Nat), y])) h2 s.heap.objs.size (.tup [.int (n : Nat), y]) :=
      ⟨size100 (Nat.le_of_ble_eq_true rfl), [.int n tk, u], .cons ⟨tk, rfl⟩ (.cons ru .nil), _, pair2, rfl, _, rfl⟩
    have J : Inv X pins σ (upd H s.heap.objs.size (.tup [.int (n : Nat), y])) { s with heap := h2, toks := tk + 1 } :=
      I.turnedNew (ch := [en, ti]) (fun c o hc q => (same.2 c (fun x => hc (by rw [x]; exact List.mem_cons_self))).trans
        (kept c o (fun x => hc (by rw [x]; exact List.mem_cons_self)) (fun x => hc (by rw [x]; exact List.mem_cons_of_mem _ List.mem_cons_self)) q)) fp (Nat.le_refl _) ok
    refine ⟨.ref s.heap.objs.size, _, J, rfl, ⟨_, y, rfl, I.hok.fresh (Nat.le_refl _), rfl, fun vs hvs => by rw [I.tuple_inj hvs hq]; exact hy⟩, ⟨⟨u, ?_⟩, st1.1.at fun o q => (same.2 ti (Ne.symm z.et)).trans q, z.et, z.at_, z.ae⟩, fun c hc => ?_⟩
    · rw [show ((n + 1 : Nat) : Int) = (n : Int) + 1 from by omega]
      exact en2
    · have lt2 : c < s.heap.objs.size := by
        rcases List.mem_cons.mp hc with x | x
        · rw [x]; exact len
        · rw [List.mem_singleton.mp x]; exact lti
      rw [upd_ne (Nat.ne_of_lt lt2)]
      exact (fp c hc).1
  done := by
    intro X e1 e2 e3 cal n pins s σ H E I fp z stop
    subst e1 e2 e3
    obtain ⟨w0, hw⟩ := z.enm
    obtain ⟨ws, hq, hl⟩ := stop
    obtain ⟨its, vals, tp, _⟩ := I.tuple hq
    have hd : X.A.in1.handled = none := I.ok.hd cal
    obtain ⟨f0, f1, f2, f3, f4, f5⟩ := fp ti (List.mem_cons_of_mem _ List.mem_cons_self)
    have hn : n = its.toArray.size := by
      rw [List.size_toArray, ← vals.length]
      exact hl.symm
    exact wpAny_pyNext_enum_endD (Draws.tuple hd ti a z.at_ its.toArray) hw ⟨hn ▸ z.itr, tp⟩ fun h1 ext => ⟨rfl, I.turned (t' := s.toks) (fun b o hb q => ext b o hb q) f0 f1 f3 f4 f5⟩
  self := fun A n s Q E z h => by
    obtain ⟨w0, hw⟩ := z.enm
    exact wpAny_pyIter_enum hw h
def iEnT (K : PySem.W.Frag) (ta : TA) : TI := fun σ H R => ta σ H fun vs H1 => ∃ a ws, vs = [.ref a] ∧ SqT K H1 a ws ∧ R (ItT K a) H1
theorem pi_enT {X : Cx} {e : Expr} {ta : TA} {p pos tpos : Pos} {es : List Expr} {kk : Nat} (hg : Gl X "enumerate") (hm : X.mg "enumerate" = none) (ha : PA X [e] ta) (hs : starEach [e] X.env = [(false, eval e X.env)] := by rfl) :
    PI X (.Tuple es kk tpos) (.Call (.Name "enumerate" p) [e] [] pos) (iEnT X.K ta) := by
  refine ⟨fun pins s σ H R I h => ?_⟩
  refine Call_ (ld_blt I hg hm boot_enumerate (PyProof.Rows.callWith_type1 (thn (ha.run pos pins s σ H _ I h) fun us t ⟨vs, H1, J, rel, a, ws, hv, hq, go⟩ => ?_) hs rfl))
  subst hv
  obtain ⟨u, rfl, ru⟩ := vals1 rel
  cases ru
  obtain ⟨its, vals, tp, _⟩ := J.tuple hq
  have la : a < t.heap.objs.size := by
    obtain ⟨o, ho, _⟩ := id tp
    exact Heap.lt_size ho
  have B := begins_tuple a its.toArray
  refine callType_new F.called_enumerate (by decide) (F.typeCall_enumerate_1 _) (F.newCall_enumerate_1 _) (fun ob => F.args_object_init_2 ob _) F.entry_enumerate_new (enum_meets B) ⟨tp, ?_⟩
  generalize ho : ({ cls := .type "tuple_iterator", data := .fields #[.ref a, .int 0 0] } : Obj) = oi
  have z1 : (t.heap.push oi).objs.size = t.heap.objs.size + 1 := Heap.size_push ..
  have z2 : ((t.heap.push oi).push (enO t.heap.objs.size)).get? (t.heap.objs.size + 1) = some (enO t.heap.objs.size) := by
    have := Heap.get?_push_size (t.heap.push oi) (o := enO t.heap.objs.size) rfl
    rwa [z1] at this
  have z3 : ((t.heap.push oi).push (enO t.heap.objs.size)).get? t.heap.objs.size = some oi := Heap.get?_push_of_some _ (Heap.get?_push_size _ (by rw [← ho]; rfl))
  show _ ∧ _
  rw [z1]
  refine ⟨⟨_, z2, rfl⟩, wpAny_pyIter_enum z2 ?_⟩
  have J2 : Inv X pins σ H1 { t with heap := (t.heap.push oi).push (enO t.heap.objs.size) } := J.kept (t' := t.toks) fun b o q => Heap.get?_push_of_some _ (Heap.get?_push_of_some _ q)
  refine ⟨t.heap.objs.size + 1, [t.heap.objs.size + 1, t.heap.objs.size], EnT a (t.heap.objs.size + 1) t.heap.objs.size, ItT X.K a, H1, rfl, J2, turn_enT, ⟨⟨.none, z2⟩, ⟨oi, z3, ?_, ?_⟩, Nat.succ_ne_self _, Nat.ne_of_lt la, Nat.ne_of_lt (Nat.lt_succ_of_lt la)⟩, fun b hb => ?_, go⟩
  · rw [← ho]
  · rw [← ho]
    rfl
  · have le : t.heap.objs.size ≤ b := by
      rcases List.mem_cons.mp hb with x | x
      · rw [x]
        exact Nat.le_succ _
      · rw [List.mem_singleton.mp x]
        exact Nat.le_refl _
    exact J.fpOk le (J.hok.fresh le)
end DL

set_option maxHeartbeats 4000000
namespace DL
open PySem PySem.Spec PyProof.Rows L2
def wiET (as : WA') : WI' := fun env S R Rx => as env S (fun ds S1 => ∃ xs, ds = [.tup xs] ∧ R ⟨xs.zipIdx.map fun q => D.tup [.int (q.2 : Nat), q.1], fun _ => True⟩ S1) Rx
section
variable {X : Cx} {T : List (Addr × Str)} {W : WX} {pos : Pos} {wo : WE'} {o : Expr}
theorem pid_enumT {es : List Expr} {kk : Nat} {tpos p : Pos} {e : Expr} {as : WA'} (hg : Gl X "enumerate") (hm : X.mg "enumerate" = none) (ha : PAD X T W [e] as)
    (hs : starEach [e] X.env = [(false, eval e X.env)] := by rfl) : PID X T W (.Tuple es kk tpos) (.Call (.Name "enumerate" p) [e] [] pos) (wiET as) := by
  refine pi_imp (pi_enT hg hm ha hs) fun σ H R ⟨G, env, S, m, R', Rx, he, hp, h, hk, hx⟩ => ?_
  refine ⟨G, env, S, m, _, _, he, hp, h, fun ds S1 vs m1 G1 H1 ⟨xs, hd, h1⟩ s1 p1 d1 => ?_, hx⟩
  subst hd
  obtain ⟨x, rfl, da⟩ := one_of d1
  obtain ⟨a, us, rfl, sa, ra0⟩ := tup_at p1 da
  refine ⟨a, us, rfl, sa, hk _ S1 m1 G1 H1 _ h1 s1 p1 ⟨fun i d S2 m2 G2 H2 hd _ p2 s2 => ?_, fun S2 m2 G2 H2 _ p2 s2 => ?_⟩⟩
  · obtain ⟨a', us', ea, sa', ra⟩ := tup_at p2 (da.mono p1 s2)
    cases ea
    rw [List.getElem?_map, List.getElem?_zipIdx] at hd
    cases q1 : xs[i]? with
    | none =>
      rw [q1] at hd
      cases hd
    | some c1 =>
      rw [q1] at hd
      have hd : d = D.tup [.int ((0 + i : Nat) : Int), c1] := (Option.some.inj hd).symm
      subst hd
      obtain ⟨v1, hv1, dv1⟩ := ra.get q1
      refine ⟨⟨us', v1, sa', hv1⟩, fun z H' ⟨Tn, x1, e0, e1, e2, e3⟩ => ?_⟩
      subst e0 e2
      have f1 := e3 us' sa'
      rw [hv1] at f1
      cases f1
      have e : ((0 + i : Nat) : Int) = (i : Int) := by rw [Nat.zero_add]
      rw [e]
      exact pair_new p2 e1 (.int _) dv1
  · obtain ⟨a', us', ea, sa', ra⟩ := tup_at p2 (da.mono p1 s2)
    cases ea
    refine ⟨us', sa', ?_⟩
    rw [← ra.length, List.length_map, List.length_zipIdx]
/-! ### repr of a list of growing lists -/
def toQs (S : Sto) : List D → Option (List PyData)
  | [] => some []
  | x :: xs => match toQ S x, toQs S xs with
    | some p, some ps => some (p :: ps)
    | _, _ => none
def toN (S : Sto) : D → Option PyData
  | .lst xs => (toQs S xs).map .list
  | .mu i => (S[i]?).bind fun xs => (toQs S xs).map .list
  | d => toP S d
theorem toQs_dp {K : PySem.W.Frag} {m : List Addr} {S : Sto} {G H : Hp} (hp : Rp K T m S G H) : ∀ {ds : List D} {vs : List V} {ps : List PyData}, DRs K m G ds vs → toQs S ds = some ps → DpAll K H vs ps
  | _, _, _, .nil, e => by cases (Option.some.inj (by simpa [toQs] using e)); exact .nil
  | _, _, _, .cons (d := d) (ds := ds) h hs, e => by
    unfold toQs at e
    cases q1 : toQ S d with
    | none =>
      rw [q1] at e
      cases e
    | some p =>
      cases q2 : toQs S ds with
      | none =>
        rw [q1, q2] at e
        cases e
      | some ps =>
        rw [q1, q2] at e
        cases e
        exact .cons (toQ_dp hp h q1) (toQs_dp hp hs q2)
theorem toN_dp {K : PySem.W.Frag} {m : List Addr} {S : Sto} {G H : Hp} (hp : Rp K T m S G H) {d : D} {v : V} {p : PyData} (h : DR K m G d v) (e : toN S d = some p) : Dp K H v p := by
  cases d with
  | mu i =>
    have e : ((S[i]?).bind fun xs => (toQs S xs).map PyData.list) = some p := e
    cases q : S[i]? with
    | none =>
      rw [q] at e
      cases e
    | some xs =>
      rw [q] at e
      obtain ⟨ps, e1, rfl⟩ := Option.map_eq_some_iff.mp (show (toQs S xs).map PyData.list = some p from e)
      obtain ⟨a, vs, rfl, _, _, hh, dr⟩ := mu_at hp h q
      exact .lst (.inl (.inl hh)) (toQs_dp hp dr e1)
  | lst xs =>
    obtain ⟨ps, e1, rfl⟩ := Option.map_eq_some_iff.mp (show (toQs S xs).map PyData.list = some p from e)
    cases h with
    | lst hg hm dr => exact .lst (.inl (.inl (hp.sub _ _ hg))) (toQs_dp hp dr e1)
  | _ => exact toP_dp hp h e
def dReprN : FL := fun ds S R => match ds with
  | [a] => ∃ p, toN S a = some p ∧ p.showable = true ∧ p.shown.length ≤ sizeLine ∧ p.depth ≤ 60 ∧ R (.str p.shown) S
  | _ => False
theorem cD_reprN (hg : X.A.guards = some []) (hu : X.A.units + 64 < cLine) : CallR X (.builtin "repr") (lC X.K T dReprN) := by
  intro pins s σ H vs us Q I r ⟨G, ds, S, m, R, dr, hp, h, hk⟩
  obtain ⟨a, p, rfl, h1, h2, h3, h4, h5⟩ : ∃ a p, ds = [a] ∧ toN S a = some p ∧ p.showable = true ∧ p.shown.length ≤ sizeLine ∧ p.depth ≤ 60 ∧ R (.str p.shown) S := by
    unfold dReprN at h
    split at h
    · obtain ⟨p, h⟩ := h
      exact ⟨_, p, rfl, h⟩
    · exact h.elim
  obtain ⟨x, rfl, d1⟩ := one_of dr
  obtain ⟨u, rfl, rx⟩ := vals1 r
  have dp := toN_dp hp d1 h1
  have qv : ∀ t : Tok, ∀ s', Inv X pins σ H s' → EP X pins σ Q (.str p.shown t) s' := fun t s' I' => ⟨.str p.shown, H, I', ⟨t, rfl⟩, hk.at h5 hp (.str _)⟩
  cases dp with
  | non =>
    cases (show u = Value.none from rx)
    exact P.repr_of_none (qv _ _ (I.tok _))
  | bl b =>
    cases (show u = Value.bool b from rx)
    exact P.repr_of_bool (qv _ _ (I.tok _))
  | int i =>
    obtain ⟨t, e⟩ := (show ∃ t, u = Value.int i t from rx)
    subst e
    exact P.repr_of_int (of_decide_eq_true h2) (qv _ _ (I.tok _))
  | str z =>
    obtain ⟨t, e⟩ := (show ∃ t, u = Value.str z t from rx)
    subst e
    exact P.repr_of_str (qv _ _ (I.tok _)) h3
  | lst hs ha =>
    cases (show u = Value.ref _ from rx)
    have nd := hasDict_no (.lst hs ha)
    obtain ⟨as, rd⟩ := Dp.reads I _ _ _ (.lst hs ha) rx
    refine repr_of_reads' rd h2 (fun z => absurd (nd.symm.trans z) Bool.false_ne_true) hg (by omega) (fun _ _ e => e) (fun h' t tk hk' => qv t _ (I.kept hk')) h3
  | tup hs ha =>
    cases (show u = Value.ref _ from rx)
    have nd := hasDict_no (.tup hs ha)
    obtain ⟨as, rd⟩ := Dp.reads I _ _ _ (.tup hs ha) rx
    refine repr_of_reads' rd h2 (fun z => absurd (nd.symm.trans z) Bool.false_ne_true) hg (by omega) (fun _ _ e => e) (fun h' t tk hk' => qv t _ (I.kept hk')) h3
/-! ### xs.clear() -/
def sClear (wo : WE') : WS' := fun env S E => wo env S (fun o S1 => ∃ i xs, o = .mu i ∧ S1[i]? = some xs ∧ E.nx env (S1.set i [])) E.ex
theorem psd_clear {apos cpos : Pos} (ho : PD X T W o wo) (hs : swapsWith (.Call (.Attribute o "clear" apos) [] [] cpos) none pos.line X.env = pure false := by rfl)
    (hbase : attributeBase o "clear" X.env (eval o X.env) = eval o X.env := by rfl) (hline : (apos.endLine == cpos.line) = true := by rfl) :
    PSD X T W (.Expr (.Call (.Attribute o "clear" apos) [] [] cpos) pos) (sClear wo) := by
  refine ps_imp (ps_expr (pe_bm0 PySem.F.plainAttrs_list PySem.F.slot_list_clear PySem.F.type_list_clear mt_clear ho hbase hline) hs) fun D σ H ⟨G, env, S, m, E, he, hp, h, l⟩ => ?_
  refine ⟨G, env, S, m, _, _, he, hp, h, fun x S1 v m1 G1 H1 ⟨i, xs, hi, hS, hn⟩ s1 p1 d1 => ?_, l.ex⟩
  subst hi
  obtain ⟨a, vs, rfl, hm, hg, hh, dr⟩ := mu_at p1 d1 hS
  obtain ⟨q1, q2⟩ := p1.put hm (ds := []) (vs := []) .nil
  exact ⟨.inl ⟨rfl, vs, .inl (.inl hh)⟩, a, vs, rfl, rfl, hh, l.nx _ _ _ _ _ _ hn (s1.trans q2) q1 ((he.mono hp s1).mono p1 q2)⟩
end
end DL

set_option maxHeartbeats 4000000
namespace DL
open PySem PySem.Spec PyProof.Rows L2
/-! ### own errors: raise X('..') -/
/-- the class x of the module, an error over ValueError without own __init__ -/
structure Xc (K : PySem.W.Frag) (mg : Str → Option Value) (x : Str) : Prop where
  at_ : mg x = some (.ref (He.ga K x))
  new_ : PySem.W.excIn K (He.ga K x) He.veBase "ValueError.__new__" = true
  kp : PySem.W.keepIn K (.ref (He.ga K x)) = true
  sub : PySem.W.subIn K (.ref (He.ga K x)) (.type "BaseException") = some true
  ty : PySem.W.typeIn K (.ref (He.ga K x)) = some (.type "type")
/-- the error of a class -/
abbrev erO (K : PySem.W.Frag) (x : Str) : Er := (He.ga K x, none)
def sRaise (e : Er) : WS' := fun env S E => E.ex e env S
section
variable {X : Cx} {T : List (Addr × Str)} {W : WX}
theorem psd_raise {x msg : Str} {j : Nat} {p p2 pos pos' : Pos} (C : Xc X.K X.mg x) (hc : X.calm = true) (hg : Gl X x) (tk : Takes X W) (hdb : (x == ("__debug__" : Str)) = false := by decide) :
    PSD X T W (.Raise (some (.Call (.Name x p) [.Constant (.str msg) j p2] [] pos)) none pos') (sRaise (erO X.K x)) := by
  refine ps_imp (ps_raise hc tk (pmk_own PySem.F.excBase_ValueError C.new_ C.at_ C.kp (raises_own C.sub C.ty) hg hdb)) fun D σ H ⟨G, env, S, m, E, he, hp, h, l⟩ => ?_
  exact l.ex _ env S _ none σ m G H h Stp.refl hp he ⟨rfl, rfl⟩
end
theorem r_raise {e : Er} {env : Vars} {S : Sto} {E : Ds} (k : E.ex e env S) : sRaise e env S E := k
end DL

set_option maxHeartbeats 4000000
namespace DL
open PySem PySem.Spec PyProof.Rows L2
/-! ### isinstance of an error object -/
/-- the error object as it stands -/
theorem er_at {X : Cx} {T : List (Addr × Str)} {pins : List (Addr × Obj)} {σ : L2.St} {H G : Hp} {s : Shared} {m : List Addr} {S : Sto} {C : Addr} {x : V} (I : Inv X pins σ H s) (hp : Rp X.K T m S G H) (d : DR X.K m G (.er C) x) :
    ∃ a oe, x = .ref a ∧ PySem.W.InstAt s.heap a oe C none := by
  cases d with
  | er hg z f =>
    rename_i a oe
    obtain ⟨h1, _⟩ := I.hok a _ (hp.sub _ _ hg)
    obtain ⟨c0, d0, t0, s0⟩ := oe
    obtain ⟨z1, z2⟩ := z
    obtain ⟨vs, f⟩ := f
    dsimp only at z1 z2 f
    subst z1 z2 f
    exact ⟨a, _, rfl, h1, rfl, rfl, trivial⟩
def dIsE (K : PySem.W.Frag) : FL := fun ds S R => match ds with
  | [.er C, .ob c] => ExcC K C ∧ ∃ b, PySem.W.kitOne K (.ref C) (.ref c) = some b ∧ R (.bl b) S
  | [.er C, .ty n] => ExcC K C ∧ ∃ b, PySem.W.kitOne K (.ref C) (.type n) = some b ∧ R (.bl b) S
  | _ => False
section
variable {X : Cx} {T : List (Addr × Str)}
theorem isE_run {pins : List (Addr × Obj)} {σ : L2.St} {H G : Hp} {s : Shared} {m : List Addr} {S : Sto} {C : Addr} {x : V} {u cv : Value} {b : Bool} {Q : VK} (I : Inv X pins σ H s) (hp : Rp X.K T m S G H) (d : DR X.K m G (.er C) x) (rx : RelV x u) (E : ExcC X.K C) (k : PySem.W.kitOne X.K (.ref C) cv = some b) (q : Q (.bl b) H) :
    wpAny (model X.prog X.w) X.A (call (.builtin "isinstance") [u, cv]) (EP X pins σ Q) X.xe s := by
  obtain ⟨a, oe, rfl, J⟩ := er_at I hp d
  cases rx
  exact PySem.W.kia_one (PySem.W.handS_kitx_exc E.hg E.hk E.hs E.hd E.ha E.hn E.ht E.hm) I.kIn J k (fun z => nomatch z) fun tk => ⟨.bl b, H, I.kept (t' := tk) fun _ _ z => z, rfl, q⟩
theorem cD_isE : CallR X (.builtin "isinstance") (lC X.K T (dIsE X.K)) := by
  intro pins s σ H vs us Q I r ⟨G, ds, S, m, R, dr, hp, h, hk⟩
  cases dr with
  | nil => exact h.elim
  | cons d1 dr =>
    rename_i a x _ _
    cases dr with
    | nil => cases a <;> exact h.elim
    | cons d2 dr =>
      rename_i c y _ _
      cases dr with
      | cons d3 dr => cases a <;> first | exact h.elim | (cases c <;> exact h.elim)
      | nil =>
        cases r with
        | cons r1 r =>
          cases r with
          | cons r2 r =>
            cases r
            cases a with
            | er C =>
              cases c with
              | ob c =>
                obtain ⟨E, b, k, q⟩ := h
                cases d2
                cases r2
                exact isE_run I hp d1 r1 E k (hk.at q hp (.bl _))
              | ty n =>
                obtain ⟨E, b, k, q⟩ := h
                cases d2
                cases r2
                exact isE_run I hp d1 r1 E k (hk.at q hp (.bl _))
              | _ => exact h.elim
            | _ => exact h.elim
/-- a tuple of built-in classes -/
def dIsET (K : PySem.W.Frag) : FL := fun ds S R => match ds with
  | [.er C, .tup cs] => ∃ ns : List String, cs = ns.map D.ty ∧ ExcC K C ∧ ∃ b, PySem.W.kitAny K (.ref C) (ns.map Value.type) = some b ∧ R (.bl b) S
  | _ => False
theorem tys_val {K : PySem.W.Frag} {m : List Addr} {G : Hp} : ∀ {ns : List String} {vs : List V} {us : List Value}, DRs K m G (ns.map D.ty) vs → Vals vs us → us = ns.map Value.type
  | [], _, _, .nil, .nil => rfl
  | n :: ns, _, _, .cons d ds, .cons r rs => by
    cases d
    rw [tys_val ds rs]
    exact congrArg (· :: _) (show _ = Value.type n from r)
theorem cD_isET : CallR X (.builtin "isinstance") (lC X.K T (dIsET X.K)) := by
  intro pins s σ H vs us Q I r ⟨G, ds, S, m, R, dr, hp, h, hk⟩
  obtain ⟨C, cs, rfl, ns, rfl, E, b, k, q⟩ : ∃ C cs, ds = [D.er C, .tup cs] ∧ ∃ ns : List String, cs = ns.map D.ty ∧ ExcC X.K C ∧ ∃ b, PySem.W.kitAny X.K (.ref C) (ns.map Value.type) = some b ∧ R (.bl b) S := by
    unfold dIsET at h
    split at h
    · exact ⟨_, _, rfl, h⟩
    · exact h.elim
  cases dr with
  | cons d1 dr =>
    cases dr with
    | cons d2 dr =>
      cases dr
      obtain ⟨u1, u2, rfl, r1, r2⟩ := vals2 r
      obtain ⟨a, oe, rfl, J⟩ := er_at I hp d1
      cases r1
      obtain ⟨t, ws, rfl, sq, dw⟩ := tup_at hp d2
      cases r2
      obtain ⟨its, rv, ⟨o, h1, h2, n, h3⟩, _⟩ := I.tuple sq
      rw [tys_val dw rv] at h3
      obtain ⟨oc, od, dt, sl⟩ := o
      dsimp only at h2 h3
      subst h2 h3
      exact PySem.W.kia_tup (PySem.W.handS_kitx_exc E.hg E.hk E.hs E.hd E.ha E.hn E.ht E.hm) I.kIn J h1 k (fun z => nomatch z) fun tk => ⟨.bl b, H, I.kept (t' := tk) fun _ _ z => z, rfl, hk.at q hp (.bl _)⟩
end
end DL

set_option maxHeartbeats 4000000
namespace DL
open PySem PySem.Spec PyProof.Rows L2
/-! ### a def called from an except suite: its argument is the error that is held -/
/-- the body runs with q's object pinned -/
theorem held_run {P : Program} {w : World} {K : PySem.W.Frag} {mg : Str → Option Value} {base : Heap} {k : Nat} {f : Addr} {nm qn : Str} {pa : Arguments} {bo : List Stmt} {sc : Scope} {v1 v2 v3 v4 v5 v6 oc : Value} {o1 o2 : Option Addr} {sl : Array (Option Value)} {N ps : List Str}
    (at_ : K.lookup f = some ⟨oc, o2, .func (PySem.W.fnOf nm qn pa bo sc v1 v2 v3 v4 o1 v5 v6), sl⟩) (cd : PySem.W.codeIn K v5 qn = true) (fs : FnScope N ps sc)
    {A : Around} {outer : List Env} {s : Shared} {H : Hp} {as : Args} {us : List Value} {vs : List V} {Q : VK} {E : XK} {q : Addr × Obj} (room : L2H.RoomH (k + 1) A) (pk : L2H.PinOk outer H s q) (e0 : Env0 P w K mg base A outer s H)
    (bt : BindsTo s (PySem.W.fnOf nm qn pa bo sc v1 v2 v3 v4 o1 v5 v6) as (ps.zip us)) (rel : Vals vs us) (len : vs.length = ps.length)
    (go : L2H.RoomH k (A.deeper (envOfC qn sc s.heap.objs.size f v5)) → ∃ t, PSs (L2H.cxH (L2.CX P w) P w K mg base N qn sc f v5 A outer s H E q) bo t ∧ t { nx := fun _ H' => Q .non H', rt := Q } (L2.start N vs) H) :
    codeAny (model P w) A (.call (.ref f) as) (CR (L2.CX P w) outer P w H s Q E) s := by
  have kin : K.In s.heap := e0.mod.kin.keeps fun c o z => (e0.bs c o z).1
  have nolim : s.heap.NoLimit := e0.mod.nolimit.keeps fun c o z => (e0.bs c o z).1
  have kinds : ∀ y ∈ ps.zip us, sc.names.lookup y.1 = some .local ∨ (sc.names.lookup y.1 = some .cell ∧ ((cellsFrom (s.heap.objs.size + 1) sc.names []).lookup y.1).isSome = true) := by
    rintro ⟨y, u⟩ hy
    exact (fs.par y (List.of_mem_zip hy).1).elim Or.inl fun z => Or.inr ⟨z, PySem.W.cellsFrom_some _ _ _ (.inl z)⟩
  apply codeAny_call_function room.depth (kin _ _ at_) rfl fs.co fs.gen rfl (PySem.W.codeRec_of kin cd)
  apply bt
  apply wpAny_newFunctionEnv_cells fs.kind kinds
  rintro _ rfl s1 x
  refine ⟨nolim.keeps x.toInCall.keep, codeAny_func ?_⟩
  obtain ⟨t, ht, hq⟩ := go (room.deeper _)
  have J := L2H.inv_startH (CX := L2.CX P w) (E := E) (cd := v5) (f := f) (mg := mg) (K := K) fs pk e0 len rel x
  refine wpAny_mono (ht.run [] s1 (L2.start N vs) H _ J hq) (fun fl s' z => ?_) fun _ _ z => z
  match fl, z with
  | .ret u, ⟨v, σ', H', J', rv, z⟩ => exact ⟨v, H', J'.os, J'.bare, J'.base, J'.hok, rv, z⟩
  | .next, ⟨σ', H', J', z⟩ => exact ⟨V.non, H', J'.os, J'.bare, J'.base, J'.hok, rfl, z⟩
  | .brk, ⟨_, _, _, z⟩ => exact z.elim
  | .cont, ⟨_, _, _, z⟩ => exact z.elim
/-- what a def promises of the held error of the class C, at a -/
structure FnS (P : Program) (w : World) (K : PySem.W.Frag) (mg : Str → Option Value) (base : Heap) (T : List (Addr × Str)) (k : Nat) (f : Addr) (fd : FuncData) (ps : List Str) (p : Addr → Addr → Option Addr → SpD) : Prop where
  run : ∀ (A : Around) (outer : List Env) (s : Shared) (as : Args) (us : List Value) (vs : List V) (ds : List D) (S : Sto) (m : List Addr) (G H : Hp) (R : KR) (Q : VK) (a : Addr) (oe : Obj) (C : Addr) (dd : Option Addr),
    L2H.RoomH k A → L2H.PinOk outer H s (a, oe) → Zc (.ref C) dd oe → (∃ vs, oe.data = .fields vs) → Env0 P w K mg base A outer s H → BindsTo s fd as (ps.zip us) → Vals vs us → DRs K m G ds vs → Rp K T m S G H → ds.length = ps.length → p C a dd ds S R (fun _ _ => False) →
    Okl K T m G H R Q → codeAny (model P w) A (.call (.ref f) as) (CR (L2.CX P w) outer P w H s Q (fun _ _ _ => False)) s
section
variable {P : Program} {w : World} {K : PySem.W.Frag} {mg : Str → Option Value} {base : Heap} {T : List (Addr × Str)} {x qual : Str} {params : Arguments} {body : List Stmt} {scope : Scope} {dvs : List V} {kws : List (Str × V)} {f : Addr} {fd : FuncData}
theorem fn_okS {N ps : List Str} {k : Nat} {p : Addr → Addr → Option Addr → SpD} (F : FunD K x qual params body scope dvs kws f fd) (Sc : FnScope N ps scope)
    (hbody : ∀ (cdv : Value) (A : Around) (outer : List Env) (s : Shared) (H : Hp) (a : Addr) (oe : Obj) (C : Addr) (dd : Option Addr), L2H.RoomH k (A.deeper (envOfC qual scope s.heap.objs.size f cdv)) → Zc (.ref C) dd oe → (∃ vs, oe.data = .fields vs) →
      ∃ u : WS', PSsD (L2H.cxH (L2.CX P w) P w K mg base N qual scope f cdv A outer s H (fun _ _ _ => False) (a, oe)) T (fun _ _ _ _ => False) body u ∧
        ∀ ds S R, ds.length = ps.length → p C a dd ds S R (fun _ _ => False) → u (startE N ds) S { nx := fun _ S' => R .non S', rt := R, bk := fun _ _ => False, ct := fun _ _ => False, ex := fun _ _ _ => False }) :
    FnS P w K mg base T (k + 1) f fd ps p := by
  obtain ⟨oc, od, dV, kV, doc, pm, an, cdv, ct, osl, rfl, lk, hcd, _, _⟩ := F.ex
  refine ⟨fun A outer s as us vs ds S m G H R Q a oe C dd room pk hz hv e0 bt rel dr rp hl hsp hk => ?_⟩
  refine held_run (q := (a, oe)) lk hcd Sc room pk e0 bt rel (by rw [← dr.length]; exact hl) fun room' => ?_
  obtain ⟨u, hu, hq⟩ := hbody cdv A outer s H a oe C dd room' hz hv
  exact ⟨_, hu, G, startE N ds, S, m, _, start_rel dr, rp, hq ds S R hl hsp, fun env S' σ m' G' H' h1 h2 h3 h4 => hk .non S' .non m' G' H' h1 h2 h3 .non, fun _ _ _ _ _ _ z => z.elim, fun _ _ _ _ _ _ z => z.elim, hk, fun _ _ _ _ _ _ _ _ _ z => z.elim⟩
end
/-! ### isinstance of the held error -/
section
variable {X : Cx} {T : List (Addr × Str)} {W : WX}
theorem inst_pin {pins : List (Addr × Obj)} {σ : L2.St} {H : Hp} {s : Shared} {a C : Addr} {oe : Obj} (I : Inv X pins σ H s) (hp : (a, oe) ∈ X.pn) (hz : Zc (.ref C) none oe) (hv : ∃ vs, oe.data = .fields vs) : PySem.W.InstAt s.heap a oe C none := by
  have g := (I.pin (a, oe) (List.mem_append_left _ hp)).1
  obtain ⟨c0, d0, t0, s0⟩ := oe
  obtain ⟨z1, z2⟩ := hz
  obtain ⟨vs, z3⟩ := hv
  dsimp only at z1 z2 z3
  subst z1 z2 z3
  exact ⟨g, rfl, rfl, trivial⟩
def dIsP (K : PySem.W.Frag) (C a : Addr) : FL := fun ds S R => match ds with
  | [.ob b, .ob c] => b = a ∧ ∃ v, PySem.W.kitOne K (.ref C) (.ref c) = some v ∧ R (.bl v) S
  | [.ob b, .ty n] => b = a ∧ ∃ v, PySem.W.kitOne K (.ref C) (.type n) = some v ∧ R (.bl v) S
  | [.ob b, .tup cs] => b = a ∧ ∃ ns : List String, cs = ns.map D.ty ∧ ∃ v, PySem.W.kitAny K (.ref C) (ns.map Value.type) = some v ∧ R (.bl v) S
  | _ => False
theorem cD_isP {a C : Addr} {oe : Obj} (hp : (a, oe) ∈ X.pn) (hz : Zc (.ref C) none oe) (hv : ∃ vs, oe.data = .fields vs) (E : ExcC X.K C) : CallR X (.builtin "isinstance") (lC X.K T (dIsP X.K C a)) := by
  intro pins s σ H vs us Q I r ⟨G, ds, S, m, R, dr, rp, h, hk⟩
  have J := inst_pin I hp hz hv
  match ds, h with
  | [.ob b, .ob c], ⟨e, v, k, q⟩ =>
    subst e
    obtain ⟨y, z, rfl, d1, d2⟩ := two_of dr
    obtain ⟨u1, u2, rfl, r1, r2⟩ := vals2 r
    cases d1
    cases d2
    cases r1
    cases r2
    exact PySem.W.kia_one (PySem.W.handS_kitx_exc E.hg E.hk E.hs E.hd E.ha E.hn E.ht E.hm) I.kIn J k (fun z => nomatch z) fun tk => ⟨.bl v, H, I.kept (t' := tk) fun _ _ z => z, rfl, hk.at q rp (.bl _)⟩
  | [.ob b, .ty n], ⟨e, v, k, q⟩ =>
    subst e
    obtain ⟨y, z, rfl, d1, d2⟩ := two_of dr
    obtain ⟨u1, u2, rfl, r1, r2⟩ := vals2 r
    cases d1
    cases d2
    cases r1
    cases r2
    exact PySem.W.kia_one (PySem.W.handS_kitx_exc E.hg E.hk E.hs E.hd E.ha E.hn E.ht E.hm) I.kIn J k (fun z => nomatch z) fun tk => ⟨.bl v, H, I.kept (t' := tk) fun _ _ z => z, rfl, hk.at q rp (.bl _)⟩
  | [.ob b, .tup cs], ⟨e, ns, e2, v, k, q⟩ =>
    subst e e2
    obtain ⟨y, z, rfl, d1, d2⟩ := two_of dr
    obtain ⟨u1, u2, rfl, r1, r2⟩ := vals2 r
    cases d1
    cases r1
    obtain ⟨t, ws, rfl, sq, dw⟩ := tup_at rp d2
    cases r2
    obtain ⟨its, rv, ⟨o, h1, h2, n, h3⟩, _⟩ := I.tuple sq
    rw [tys_val dw rv] at h3
    obtain ⟨oc, od, dt, sl⟩ := o
    dsimp only at h2 h3
    subst h2 h3
    exact PySem.W.kia_tup (PySem.W.handS_kitx_exc E.hg E.hk E.hs E.hd E.ha E.hn E.ht E.hm) I.kIn J h1 k (fun z => nomatch z) fun tk => ⟨.bl v, H, I.kept (t' := tk) fun _ _ z => z, rfl, hk.at q rp (.bl _)⟩
end
end DL

set_option maxHeartbeats 4000000
namespace DL
open PySem PySem.Spec PyProof.Rows L2
/-! ### return flags(e), in an except suite -/
section
variable {X : Cx} {T : List (Addr × Str)}
theorem pe_held {x n y : Str} {i k : Nat} {a C f : Addr} {oe : Obj} {dd : Option Addr} {pn : List (Addr × Obj)} {fd : FuncData} {p : Addr → Addr → Option Addr → SpD} {p1 p2 pos : Pos} (hz : Zc (.ref C) dd oe) (hv : ∃ vs, oe.data = .fields vs)
    (F : FnS X.prog X.w X.K X.mg X.base T k f fd [y] p) (hr : Room k X.A) (hg : Gl X x) (hm : X.mg x = some (.ref f)) (hk : PySem.W.keepIn X.K (.ref f) = true) (hb : L2.Binds X.K fd [y] [])
    (hN : X.N[i]? = some n) (hvis : Vis X.env.scope n) (hdb : (x == ("__debug__" : Str)) = false := by decide) (hd : (n == ("__debug__" : Str)) = false := by decide) (hcd : (n == ("__classdict__" : Str)) = false := by decide) :
    PE (X.suite a ((a, oe) :: pn)) (.Call (.Name x p1) [.Name n p2] [] pos) (fun σ H Q => σ[i]? = some (some (.ref a)) ∧ ∃ G S m R, Rp X.K T m S G H ∧ p C a dd [.ob a] S R (fun _ _ => False) ∧ Okl X.K T m G H R Q) := by
  refine ⟨fun pins s σ H Q I ⟨hs, G, S, m, R, rp, hp, hok⟩ => ?_⟩
  have hg' : Gl (X.suite a ((a, oe) :: pn)) x := hg
  refine wpAny_Call_Name_kw (ld_glob I hg' hm ?_ hdb)
  have pv : PE (X.suite a ((a, oe) :: pn)) (.Name n p2) (tVar i) := pe_var (X := X.suite a ((a, oe) :: pn)) hN hvis hd hcd
  have ag : PA (X.suite a ((a, oe) :: pn)) [.Name n p2] (tCons (tVar i) tNil) := pa_cons pv pa_nil
  refine PySem.W.callWith_K (h₀ := X.base) I.ok.mod.kin hk (thn (ag.run pos pins s σ H (fun vs H1 => vs = [V.ref a] ∧ H1 = H) I ⟨.ref a, hs, rfl, rfl⟩) fun us s1 ⟨vs, H1, I1, r1, ev, eH⟩ => ⟨I1.kIn, ?_⟩) (by rfl) (by rfl)
  subst ev eH
  obtain ⟨u, rfl, ru⟩ := vals1 r1
  cases ru
  have P1 := I1.pin (a, oe) List.mem_cons_self
  have pk : L2H.PinOk X.stack H1 s1 (a, oe) := ⟨P1.1, P1.2.1, fun z => (List.mem_cons.mp (I1.stkSub a z)).elim P1.2.2.1 P1.2.2.2.1, P1.2.2.2.2⟩
  have room : L2H.RoomH k (X.suite a ((a, oe) :: pn)).A := ⟨hr.dp, hr.un⟩
  have bt := hb s1 [.ref a] I1.kIn rfl
  refine wpAny_call (codeAny_mono (F.run (X.suite a ((a, oe) :: pn)).A X.stack s1 ⟨[.ref a], []⟩ [.ref a] [.ref a] [.ob a] S m G H1 R Q a oe C dd room pk hz hv I1.env0 bt r1 (.cons (.ob a) .nil) rp rfl hp hok) fun rr s2 hq => ?_)
  cases rr with
  | error e =>
    obtain ⟨_, _, _, _, _, _, _, _, _, _, _, _, z⟩ := (show L2.CX X.prog X.w X.stack H1 s1 (fun _ _ _ => False) e s2 from hq)
    exact z.elim
  | ok fl =>
    match fl, hq with
    | .ret u, hq => exact I1.after hq
    | .next, hq => exact hq.elim
    | .brk, hq => exact hq.elim
    | .cont, hq => exact hq.elim
end
/-! ### try: return ("told", call()) / except X as e: return flags(e) -/
/-- what is made of the answer v -/
abbrev Tell := V → Hp → VK → Prop
def tellT : Tell := fun v H Q => [V.str "told", v].length ≤ sizeLine ∧ ∀ p, H p = none → Q (.ref p) (upd H p (.tup [.str "told", v]))
def tellV : Tell := fun v H Q => Q v H
def TTry (K : PySem.W.Frag) (T : List (Addr × Str)) (CS : Addr) (p : Addr → Addr → Option Addr → SpD) (tell : Tell) : (XK → Hp → VK → Prop) → Hp → VK → Prop := fun tl H Q =>
  tl (fun cls dd H' => ∃ C, cls = .ref C ∧ PySem.W.exmOne K cls (.ref CS) = some true ∧ ∀ a, H' a = none → ∃ G S m R, Rp K T m S G H' ∧ p C a dd [.ob a] S R (fun _ _ => False) ∧ Okl K T m G H' R Q) H (fun v H' => tell v H' Q)
section
variable {X : Cx} {T : List (Addr × Str)}
theorem zn_start {f : Addr} {N : List Str} {a : Str} {r : List Str} (h : N = a :: r) : (L2.start N [V.ref f])[0]? = some (some (V.ref f)) := by
  subst h
  rfl
/-- the def as the context of its body, a lambda at f handed to it -/
abbrev zTry (X : Cx) (Ng : List Str) (x : Str) (sg : Scope) (g : Addr) (cdg : Value) (s : Shared) (H : Hp) : Cx := (cxOf C8.CX0 X.prog X.w X.K X.mg X.base Ng x sg g cdg X.A X.stack s H C8.E0).nox
theorem try_gives {xw a n xe xf y q : Str} {sg : Scope} {g CS f : Addr} {cdg : Value} {k : Nat} {fd : FuncData} {p : Addr → Addr → Option Addr → SpD} {tell : Tell} {wrap : Expr → Expr} {p1 p2 p3 p4 p5 p6 p7 p8 p9 pa : Pos}
    (F : FnS X.prog X.w X.K X.mg X.base T k f fd [y] p) (hr : Room (k + 1) X.A) (hgf : sg.names.lookup xf = some .globalImplicit) (hmf : X.mg xf = some (.ref f)) (hkf : PySem.W.keepIn X.K (.ref f) = true) (hbf : L2.Binds X.K fd [y] [])
    (hgc : sg.names.lookup xe = some .globalImplicit) (hmc : X.mg xe = some (.ref CS)) (hdc : (xe == ("__debug__" : Str)) = false) (hdf : (xf == ("__debug__" : Str)) = false) (hln : sg.names.lookup n = some .local) (hdn : (n == ("__debug__" : Str)) = false) (hcn : (n == ("__classdict__" : Str)) = false) (hnd : [a, n].Nodup)
    (hw : ∀ (Y : Cx) (t : TE), PE Y (.Call (.Name a p1) [] [] p2) t → PE Y (wrap (.Call (.Name a p1) [] [] p2)) (fun σ H Q => t σ H fun v H' => tell v H' Q)) :
    LamX.GivesTo X [a, n] xw sg g cdg [.Try [.Return (some (wrap (.Call (.Name a p1) [] [] p2))) p3] [.ExceptHandler (some (.Name xe p4)) (some n) [.Return (some (.Call (.Name xf p5) [.Name n p6] [] p7)) p8] p9] [] [] pa] a q (TTry X.K T CS p tell) := by
  intro fl c' s H Q tl act hc h
  have hgl : Gl (zTry X [a, n] xw sg g cdg s H) xe := hgc
  have hglf : Gl (zTry X [a, n] xw sg g cdg s H) xf := hgf
  have hr2 : Room k (zTry X [a, n] xw sg g cdg s H).A := hr.deeper _
  refine ⟨_, pss_one (ps_try_as (X := zTry X [a, n] xw sg g cdg s H) (c := .ref CS) (i := 1)
      (tb := fun W D σ H => ∃ Ech : XK, (∀ cls d σ' H', Ech cls d H' → W cls d σ' H') ∧ σ[0]? = some (some (.ref fl)) ∧ H c' = some (LamX.CodeO c' q) ∧ tl Ech H fun v H' => tell v H' D.rt)
      (ts := fun e cls dd D σ H => ∃ C, cls = .ref C ∧ (σ.length = 2 → σ[1]? = some (some (.ref e))) ∧ ∃ G S m R, Rp X.K T m S G H ∧ p C e dd [.ob e] S R (fun _ _ => False) ∧ Okl X.K T m G H R D.rt)
      rfl rfl hnd rfl hln ⟨hgl, hdc, .inl hmc⟩ L2.takes0 (fun W pn xe' tk _ => ?_) (fun e oe cls dd pn hz hv => ?_)), ?_⟩
  · refine ⟨fun pins s' σ H' D I ⟨Ech, hW, h1, h2, h3⟩ => ?_⟩
    exact (pss_one (ps_ret (pos := p3) (hw _ _ (act W pn xe' Ech p1 p2 tk hW)))).run pins s' σ H' D I ⟨h1, h2, h3⟩
  · refine ⟨fun pins s' σ H' D I ⟨C, ec, hl, h3⟩ => ?_⟩
    subst ec
    exact (pss_one (ps_ret (pos := p8) (pe_held (X := zTry X [a, n] xw sg g cdg s H) (i := 1) (p1 := p5) (p2 := p6) (pos := p7) (pn := pn) hz hv F hr2 hglf hmf hkf hbf rfl (.inl hln) hdf hdn hcn))).run pins s' σ H' D I ⟨hl I.len, h3⟩
  · refine ⟨_, fun cls d σ' H' z => ?_, zn_start rfl, hc, h⟩
    obtain ⟨C, ec, ex, z⟩ := z
    refine ⟨true, ex, fun _ e ne => ⟨C, ec, fun l => ?_, z e ne⟩, fun b => nomatch b⟩
    rw [List.getElem?_set_self]
    rw [List.length_set] at l
    omega
end
end DL

set_option maxHeartbeats 4000000
namespace DL
open PySem PySem.Spec PyProof.Rows L2
/-! ### l.count(x), l.index(x) of data -/
/-- how many are equal -/
def rCountD (K : PySem.W.Frag) : V → List V → Hp → VK → Prop := fun x xs H Q => ∃ (y : V) (d : PyData) (ds : List PyData), xs = [y] ∧ Dp K H x (.list ds) ∧ Dp K H y d ∧ SeqAt.shaped (.list ds) = true ∧ SeqAt.shaped d = true ∧ Q (.int (ds.countP (fun z => PyData.eqv z d) : Nat)) H
section
variable {X : Cx} {T : List (Addr × Str)} {W : WX}
theorem mt_countD (hu : X.A.units + 65 < cLine) : MtR X "list.count" (rCountD X.K) := by
  intro pins s σ H x xs v us Q I rx rxs ⟨y, d, ds, ex, hl, hy, sl, sd, q⟩
  subst ex
  obtain ⟨uy, rfl, ry⟩ := vals1 rxs
  obtain ⟨bs, rdy⟩ := Dp.reads I d y uy hy ry
  have lay := SeqAt.canLay_of_shaped sl
  cases hl with
  | lst hs ha =>
    cases rx
    obtain ⟨its, rv, ⟨⟨cls, dd, dt, sls⟩, n, ho, hc, hdn, hdt⟩, _⟩ := I.list hs
    dsimp only at hc hdt
    subst hc hdt
    obtain ⟨as, rds⟩ := Dp.readsAll I ds _ its ha rv
    have hm : its.map (SeqAt.readOf s.heap) = ds := SeqAt.readsAll_map ds its as lay rds
    have eqs := SeqAt.items_eqAt (A := X.A) (vs := its.toArray) (show ReadsAll s.heap its.toArray.toList ds as from rds) rdy lay (SeqAt.canLay_of_shaped sd) (room_in_shaped sd hu)
    refine call_meets PySem.F.slot_list_count ⟨_, ho, rfl⟩ PySem.F.entry_list_count (PySem.F.args_list_count_2 _ _) (SeqAt.list_countAt _ its.toArray n dd sls uy fun u => PyData.eqv (SeqAt.readOf s.heap u) d) ⟨ho, eqs, ?_⟩
    have ec : its.toArray.toList.countP (fun u => PyData.eqv (SeqAt.readOf s.heap u) d) = ds.countP fun z => PyData.eqv z d := by
      rw [← hm, List.countP_map]
      rfl
    refine ⟨.int (ds.countP (fun z => PyData.eqv z d) : Nat), H, I.tok _, ⟨s.toks, ?_⟩, q⟩
    rw [ec]
/-- a method of a list, by values -/
abbrev FM := D → List D → Sto → KR → Prop
def lM (K : PySem.W.Frag) (T : List (Addr × Str)) (f : FM) : V → List V → Hp → VK → Prop := fun x xs H Q => ∃ G a ds S m R, DR K m G a x ∧ DRs K m G ds xs ∧ Rp K T m S G H ∧ f a ds S R ∧ Okl K T m G H R Q
def wBmL (f : FM) (wo : WE') (as : WA') : WE' := fun env S R Rx => wo env S (fun o S1 => (∃ xs, itemsL o S1 = some xs) ∧ as env S1 (fun ds S2 => f o ds S2 R) Rx) Rx
theorem pd_bmL {o e : Expr} {es : List Expr} {name : Str} {id : String} {apos cpos : Pos} {f : FM} {wo : WE'} {as : WA'} (slot : Slot "list" name id) (hty : typeOf (.builtin id) = pure (.type "method_descriptor")) (hm : MtR X id (lM X.K T f)) (ho : PD X T W o wo) (ha : PAD X T W (e :: es) as)
    (hbase : attributeBase o name X.env (eval o X.env) = eval o X.env := by rfl)
    (hfew : ((backTo cpos (starEach (e :: es) X.env)).all (fun x => !x.1) && (backToKw cpos (keywordEach [] X.env)).all (fun x => x.1.isSome)
      && decide ((e :: es).length + ([] : List Keyword).length + (if ([] : List Keyword).isEmpty then 0 else 1) < 30)) = true := by rfl)
    (hline : (apos.endLine == cpos.line) = true := by rfl) (hs : starEach (e :: es) X.env = (false, eval e X.env) :: starEach es X.env := by rfl) (hplain : (backTo cpos (starEach es X.env)).any (·.1) = false := by rfl) :
    PD X T W (.Call (.Attribute o name apos) (e :: es) [] cpos) (wBmL f wo as) := by
  refine pe_imp (pe_bm PySem.F.plainAttrs_list slot hty hm ho ha hbase hfew hline hs hplain) fun σ H Q ⟨G, env, S, m, R, Rx, he, hp, h, hk, hx⟩ => ?_
  refine ⟨G, env, S, m, _, _, he, hp, h, fun x S1 v m1 G1 H1 ⟨⟨xs, hxs⟩, h1⟩ s1 p1 d1 => ?_, hx⟩
  obtain ⟨a, vs, rfl, sq, dr⟩ := items_at p1 d1 hxs
  refine ⟨.inl ⟨rfl, vs, sq⟩, G1, env, S1, m1, _, _, he.mono hp s1, p1, h1, fun ds S2 us m2 G2 H2 h2 s2 p2 d2 => ?_, hx.on s1⟩
  exact ⟨G2, x, ds, S2, m2, R, d1.mono p1 s2, d2, p2, h2, hk.on (s1.trans s2)⟩
def dCount : FM := fun a ds S R => ∃ d qs p, ds = [d] ∧ toQ S a = some (.list qs) ∧ toQ S d = some p ∧ SeqAt.shaped (.list qs) = true ∧ SeqAt.shaped p = true ∧ R (.int (qs.countP (fun z => PyData.eqv z p) : Nat)) S
def dIndex : FM := fun a ds S R => ∃ d qs p j z, ds = [d] ∧ toQ S a = some (.list qs) ∧ toQ S d = some p ∧ SeqAt.shaped (.list qs) = true ∧ SeqAt.shaped p = true ∧ qs[j]? = some z ∧ PyData.eqv z p = true ∧
  (∀ (m : Nat) (z' : PyData), m < j → qs[m]? = some z' → PyData.eqv z' p = false) ∧ R (.int (j : Nat)) S
theorem mtD_count (hu : X.A.units + 65 < cLine) : MtR X "list.count" (lM X.K T dCount) := by
  intro pins s σ H x xs v us Q I rx rxs ⟨G, a, ds, S, m, R, da, dr, rp, ⟨d, qs, p, e, h1, h2, h3, h4, h5⟩, hk⟩
  subst e
  obtain ⟨y, rfl, dy⟩ := one_of dr
  exact mt_countD hu pins s σ H x _ v us Q I rx rxs ⟨y, p, qs, rfl, toQ_dp rp da h1, toQ_dp rp dy h2, h3, h4, hk.at h5 rp (.int _)⟩
theorem mtD_index (hu : X.A.units + 65 < cLine) : MtR X "list.index" (lM X.K T dIndex) := by
  intro pins s σ H x xs v us Q I rx rxs ⟨G, a, ds, S, m, R, da, dr, rp, ⟨d, qs, p, j, z, e, h1, h2, h3, h4, h5, h6, h7, h8⟩, hk⟩
  subst e
  obtain ⟨y, rfl, dy⟩ := one_of dr
  have dp := toQ_dp rp da h1
  obtain ⟨b, rfl⟩ : ∃ b, x = .ref b := by
    cases dp
    exact ⟨_, rfl⟩
  exact mt_indexD hu pins s σ H _ _ v us Q I rx rxs ⟨b, y, p, qs, j, z, rfl, rfl, dp, toQ_dp rp dy h2, h3, h4, h5, h6, h7, hk.at h8 rp (.int _)⟩
end
/-! ### the tables of lambdas -/
/-- the def whose code is cdv: its table, lambdas' name in it -/
structure LamD (K : PySem.W.Frag) (base : Heap) (mg : Str → Option Value) (T : List (Addr × Str)) (cdv : Value) (q : Str) : Prop where
  ex : ∃ c P, cdv = .ref c ∧ LamX.TabB base mg c P ∧ (P, q) ∈ T ∧ ∀ p ∈ T, p.1 = P → p.2 = q
def lamQ (x : Str) : Str := x ++ ".<locals>." ++ "<lambda>"
/-- .. of the def x of the module -/
def LamF (K : PySem.W.Frag) (base : Heap) (mg : Str → Option Value) (T : List (Addr × Str)) (x : Str) : Prop := ∀ cdv, CodeAt K (He.ga K x) cdv → LamD K base mg T cdv (lamQ x)
theorem ext_rp {K : PySem.W.Frag} {T : List (Addr × Str)} {m : List Addr} {S : Sto} {G H H1 : Hp} (rp : Rp K T m S G H) (e : LamX.ExtN H H1) (tb : LamX.Tabs T H1) : Rp K T m S G H1 ∧ Stp m G H m G H1 :=
  ⟨⟨fun a o z => e a o (rp.sub a o z) fun ps y => rp.nt a ps (by rw [← y]; exact z), rp.nd, rp.len, rp.sto, tb, rp.nt⟩, ⟨⟨[], by simp, by simp⟩, fun _ _ z _ => z, fun _ o z => ⟨o, z⟩, fun a o z n t => ⟨e a o z t, n⟩⟩⟩
/-! ### word(lambda: body) -/
/-- the def that tries what it is handed -/
structure TryD (P : Program) (w : World) (K : PySem.W.Frag) (mg : Str → Option Value) (base : Heap) (x : Str) (k : Nat) (tt : (XK → Hp → VK → Prop) → Hp → VK → Prop) : Prop where
  ex : ∃ (g : Addr) (a : Str) (Ng : List Str) (pg : Arguments) (bg : List Stmt) (sg : Scope) (dV kV doc pm cdv ct oc : Value) (an od : Option Addr) (osl : Array (Option Value)),
    mg x = some (.ref g) ∧ PySem.W.keepIn K (.ref g) = true ∧ K.lookup g = some ⟨oc, od, .func (PySem.W.fnOf x x pg bg sg dV kV doc pm an cdv ct), osl⟩ ∧ PySem.W.codeIn K cdv x = true ∧ L2.Binds K (PySem.W.fnOf x x pg bg sg dV kV doc pm an cdv ct) [a] [] ∧
    FnScope Ng [a] sg ∧ Ng[0]? = some a ∧ Vis sg a ∧ (a == ("__debug__" : Str)) = false ∧ (a == ("__classdict__" : Str)) = false ∧
    ∀ (X : Cx) (q : Str), X.prog = P → X.w = w → X.K = K → X.mg = mg → X.base = base → Room (k + 1) X.A → LamX.GivesTo X Ng x sg g cdv bg a q tt
/-- what the answer is wrapped in -/
def Wraps (tell : Tell) (tr : D → D) : Prop := ∀ (K : PySem.W.Frag) (T : List (Addr × Str)) (m : List Addr) (G H : Hp) (R : KR) (Q : VK), Okl K T m G H R Q → Okl K T m G H (fun d S => R (tr d) S) (fun v H' => tell v H' Q)
theorem wraps_V : Wraps tellV id := fun _ _ _ _ _ _ _ h => h
theorem wraps_T : Wraps tellT fun d => .tup [.str "told", d] := fun K T m G H R Q hk d S v m' G' H' hr s p dv => ⟨size100 (by simp), fun t nt => by
  obtain ⟨r1, r2⟩ := p.new (o := .tup [.str "told", v]) nt
  exact hk _ S _ m' _ _ hr (s.trans r2) r1 (.tup (SqT.of upd_same) (.cons (.str "told") (.cons (dv.mono p r2) .nil)))⟩
def wTry (K : PySem.W.Frag) (CS : Addr) (fl : Er → Sto → KR → Prop) (tr : D → D) (w : WE') : WE' := fun env S R _ => w env S (fun d S1 => R (tr d) S1) (fun e _ S1 => PySem.W.exmOne K (.ref e.1) (.ref CS) = some true ∧ fl e S1 R)
section
variable {X : Cx} {T : List (Addr × Str)} {W : WX}
theorem pd_try {x q : Str} {k : Nat} {CS : Addr} {pf : Addr → Addr → Option Addr → SpD} {tell : Tell} {tr : D → D} {fl : Er → Sto → KR → Prop} {params : Arguments} {body : Expr} {scope : Scope} {w : WE'} {p1 lpos pos : Pos} (Y : TryD X.prog X.w X.K X.mg X.base x k (TTry X.K T CS pf tell)) (wr : Wraps tell tr)
    (hfl : ∀ (e : Er) (S : Sto) (R : KR) (a : Addr) (dd : Option Addr) (m : List Addr) (G : Hp), DE X.K m G e (.ref e.1) dd → fl e S R → pf e.1 a dd [.ob a] S R (fun _ _ => False)) (hg : Gl X x) (L : LamD X.K X.base X.mg T X.env.code q) (eq : X.env.qual ++ "<lambda>" = q) (hr : Room (k + 2) X.A) (hr1 : Room (k + 1) X.A)
    (Ls : LamX.LamS X.env.scope scope) (hbody : ∀ (A : Around) (outer : List Env) (s : Shared) (H : Hp) (E : XK) (f c' : Addr), Room k (A.deeper (LamX.lamEnv X scope s.heap.objs.size f c')) → PD (LamX.lamCx X A outer s H E scope f c') T (fun cls d _ H' => E cls d H') body w)
    (hdef : defaultsOf params X.env = ([], []) := by rfl) (hbind : ∀ (q : Str) (cl : List (Str × Addr)) (pm cv ctv : Value), bindArgs (PySem.W.kla_fn "<lambda>" q params body scope cl pm cv ctv) ⟨[], []⟩ = pure [] := by intros; rfl) (hdb : (x == ("__debug__" : Str)) = false := by decide) :
    PD X T W (.Call (.Name x p1) [.Lambda params body scope lpos] [] pos) (wTry X.K CS fl tr w) := by
  subst eq
  obtain ⟨g, a, Ng, pg, bg, sg, dV, kV, doc, pm, cdv, ct, oc, an, od, osl, hm, hk, lk, hcg, hb, Sg, hN, hva, hda, hca, gives⟩ := Y.ex
  obtain ⟨c, P, hcode, TB, hmT, hu⟩ := L.ex
  refine pe_imp (LamX.pe_lamcall (t := fun E => lE X.K T (fun cls d _ H' => E cls d H') w) hg hm hk lk hcg hb Sg hN hva (gives X _ rfl rfl rfl rfl rfl hr1) TB hcode hmT hu hr Ls hdef hbind (fun A outer s H E f c' hr' => hbody A outer s H E f c' hr') hdb hda hca) fun σ H Q ⟨G, env, S, m, R, Rx, he, rp, h, hok, hx⟩ => ?_
  refine ⟨rp.tabs, fun H1 ex tb => ?_⟩
  obtain ⟨rp1, st1⟩ := ext_rp rp ex tb
  refine ⟨G, env, S, m, _, _, he, rp1, h, wr _ _ _ _ _ _ _ (hok.on st1), fun e env2 S2 cls dd σ2 m2 G2 H2 ⟨h1, h2⟩ s2 p2 e2 d2 => ?_⟩
  have ec : cls = .ref e.1 := d2.1
  subst ec
  exact ⟨e.1, rfl, h1, fun b nb => ⟨G2, S2, m2, R, p2, hfl e S2 R b dd m2 G2 d2 h2, hok.on (st1.trans s2)⟩⟩
/-! ### a call of what a variable holds -/
/-- the defs at f -/
structure CalV (P : Program) (w : World) (K : PySem.W.Frag) (mg : Str → Option Value) (base : Heap) (T : List (Addr × Str)) (f : Addr) (gd : Bool) (k n : Nat) (p : SpD) : Prop where
  ex : ∃ (fd : FuncData) (ps : List Str), FnD gd P w K mg base T k f fd ps p ∧ ps.length = n ∧ PySem.W.keepIn K (.ref f) = true ∧ Binds K fd ps []
def wCallV (i n : Nat) (fs : List (Addr × SpD)) (as : WA') : WE' := fun env S R Rx => ∃ f p, (f, p) ∈ fs ∧ env[i]? = some (some (.ob f)) ∧ as env S (fun ds S1 => ds.length = n ∧ p ds S1 R (fun e S2 => Rx e env S2)) Rx
theorem pd_callV {x : Str} {i k n : Nat} {gd : Bool} {fs : List (Addr × SpD)} {pp pos : Pos} {e : Expr} {es : List Expr} {as : WA'} (C : ∀ q ∈ fs, CalV X.prog X.w X.K X.mg X.base T q.1 gd k n q.2) (hr : Room k X.A) (hgd : GdOk gd X.A) (tk : Takes X W) (hN : X.N[i]? = some x) (hv : Vis X.env.scope x)
    (ha : PAD X T W (e :: es) as) (hdb : (x == ("__debug__" : Str)) = false := by decide) (hcd : (x == ("__classdict__" : Str)) = false := by decide) (he : starEach (e :: es) X.env = (false, eval e X.env) :: starEach es X.env := by rfl) (hpl : (backTo pos (starEach es X.env)).any (·.1) = false := by rfl) :
    PD X T W (.Call (.Name x pp) (e :: es) [] pos) (wCallV i n fs as) := by
  refine ⟨fun pins s σ H Q I ⟨G, env, S, m, R, Rx, hre, hp, ⟨f, p, hf, hi, h⟩, hok, hx⟩ => ?_⟩
  obtain ⟨fd, ps, F, hl, hk, hb⟩ := (C _ hf).ex
  subst hl
  obtain ⟨v, hs, dv⟩ := hre.at_ i _ hi
  cases dv
  refine wpAny_Call_Name_kw (thn ((pe_var (pos := pp) (i := i) hN hv hdb hcd).run pins s σ H (fun v H1 => v = .ref f ∧ H1 = H) I ⟨.ref f, hs, rfl, rfl⟩) fun u s0 ⟨v, H0, I0, r0, ev, eH⟩ => ?_)
  subst ev eH
  cases r0
  refine PySem.W.callWith_K (h₀ := X.base) I0.ok.mod.kin hk (thn (ha.run pos pins s0 σ H0 (fun vs H1 => ∃ m1 G1 S1 xs, DRs X.K m1 G1 xs vs ∧ Rp X.K T m1 S1 G1 H1 ∧ RE X.K m1 G1 env σ ∧ (xs.length = ps.length ∧ p xs S1 R (fun e S2 => Rx e env S2)) ∧ Okl X.K T m1 G1 H1 R Q ∧ Exl X.K T W m1 G1 H1 Rx) I0
    ⟨G, env, S, m, _, Rx, hre, hp, h, fun xs S1 vs m1 G1 H1 h1 s1 p1 d1 => ⟨m1, G1, S1, xs, d1, p1, hre.mono hp s1, h1, hok.on s1, hx.on s1⟩, hx⟩) fun us s1 ⟨vs, H1, I1, r1, m1, G1, S1, xs, d1, p1, e1, ⟨hl, h1⟩, k1, x1⟩ => ⟨I1.kIn, ?_⟩) he hpl
  exact run_fnD (more := []) (mv := []) (ds := []) F hr hgd hb .nil (fun _ _ => .nil) tk I1 r1 d1 p1 (by rw [List.append_nil]; exact hl) e1 (by rw [List.append_nil]; exact h1) k1 x1
/-! ### {} -/
def wEmp : WE' := fun _ S R _ => R .emp S
end
end DL

set_option maxHeartbeats 4000000
namespace DL
open PySem PySem.Spec PyProof.Rows L2
theorem pd_emp {X : Cx} {T : List (Addr × Str)} {W : WX} {pos : Pos} : PD X T W (.Dict [] [] pos) wEmp := by
  refine pe_imp pe_dnewK fun σ H Q ⟨G, env, S, m, R, Rx, he, hp, h, hk, hx⟩ p np => ?_
  obtain ⟨r1, r2⟩ := hp.new (o := .dK []) np
  exact hk _ S _ m _ _ h r2 r1 (.emp upd_same)
/-! ### the law's call, with tables of lambdas -/
section
variable {gd : Bool} {P : Program} {w : World} {K : PySem.W.Frag} {mg mb : Str → Option Value} {k : Nat} {fa a : Addr} {fd : FuncData} {x : Str} {p : SpD} {s1 : Shared} {us : List Value} {ns : List Int} {cs : List (Addr × Addr)} {T : List (Addr × Str)}
theorem codeHd_down {g h : Heap} {c t : Addr} (d : ∀ (b : Addr) (o : Obj) (vs : Array Value), h.get? b = some o → o.data = .fields vs → 0 < vs.size → g.get? b = some o) (C : PySem.W.CodeHd h c t) : PySem.W.CodeHd g c t := by
  obtain ⟨o, us, file, tf, fl, tg, i1, tx, tt, e1, r1, r2, r⟩ := C
  refine ⟨o, us, file, tf, fl, tg, i1, tx, tt, d c o _ e1 r2 ?_, r1, r2, r⟩
  have r3 := r.1
  cases h0 : us.size with
  | zero =>
    have : us = #[] := Array.size_eq_zero_iff.mp h0
    subst this
    simp at r3
  | succ n => omega
abbrev tabO : Obj := { cls := .none, data := .fields #[] }
/-- what is tracked at first: the script, where it is not known anyway, and the tables -/
def firstH (K : PySem.W.Frag) (a : Addr) (ob : Obj) (vs : List V) (tb : List Addr) : Hp := fun b => if b = a then (if (K.lookup a).isNone then some (.frz ob (.lst vs)) else none) else if b ∈ tb then some (.tbl #[]) else none
def firstG (K : PySem.W.Frag) (a : Addr) (ob : Obj) (vs : List V) : Hp := fun b => if b = a then (if (K.lookup a).isNone then some (.frz ob (.lst vs)) else none) else none
theorem law_tabs (KX : K.In s1.heap) (hns : s1.heap.Ns mainGlobals mg) (hb : s1.heap.Ns builtinsNs mb) (hbb : ∀ x : Str, x ≠ "__name__" → mb x = bootBuiltins x) (hlim : s1.heap.NoLimit) (hg : s1.gens = #[])
    (hT : ∀ q ∈ cs, s1.heap.get? q.2 = some tabO) (nT : ∀ q ∈ cs, K.lookup q.2 = none) (C : ∀ q ∈ cs, PySem.W.CodeHd s1.heap q.1 q.2)
    (hbm : ∃ (bm : Addr) (ob : Obj), mg "__builtins__" = some (.ref bm) ∧ bm ≠ builtinsNs ∧ s1.heap.get? bm = some ob ∧ ob.cls = .type "module" ∧ ob.dict = some builtinsNs ∧ ob.data = .plain)
    (ha : s1.heap.get? a = some { cls := .type "list", data := .seq us.toArray }) (hi : IntsAre us ns) (hl : ns.length ≤ sizeLine) (hr : Room k callerA) (hTc : ∀ q ∈ T, ∃ r ∈ cs, r.2 = q.1)
    (F : ∀ base : Heap, K.In base → base.Ns mainGlobals mg → (∀ q ∈ cs, LamX.TabB base mg q.1 q.2) → FnD gd P w K mg base T k fa fd [x] p) (hbind : ∀ (s : Shared) (u : Value), BindsTo s fd ⟨[u], []⟩ [(x, u)])
    (hp : p [.scr (ns.map D.int)] [] (fun d _ => d = .bl true) fun _ _ => False) :
    codeAny (model P w) callerA (.call (.ref fa) ⟨[.ref a], []⟩) (fun r s' => r = .ok (.ret (.bool true)) ∧ OldK s1.heap s'.heap ∧ s'.os = s1.os ∧ AllBare s'.gens) s1 := by
  have rv : Vals (ns.map V.int) us := vals_ints hi
  have lv : us.length = ns.length := by rw [← rv.length, List.length_map]
  generalize hob : ({ cls := .type "list", data := .seq us.toArray } : Obj) = ob at ha
  generalize htb : cs.map (·.2) = tb
  have tabAt : ∀ b ∈ tb, s1.heap.get? b = some tabO := fun b z => by
    subst htb
    obtain ⟨q, hq, e⟩ := List.mem_map.mp z
    rw [← e]
    exact hT q hq
  have tabK : ∀ b ∈ tb, K.lookup b = none := fun b z => by
    subst htb
    obtain ⟨q, hq, e⟩ := List.mem_map.mp z
    rw [← e]
    exact nT q hq
  have aT : a ∉ tb := fun z => by
    have e := tabAt a z
    rw [ha, ← hob] at e
    exact nomatch congrArg Obj.data (Option.some.inj e)
  generalize hH : firstH K a ob (ns.map V.int) tb = H
  generalize hG : firstG K a ob (ns.map V.int) = G
  have Hb : ∀ b, H b = if b = a then (if (K.lookup a).isNone then some (.frz ob (.lst (ns.map V.int))) else none) else if b ∈ tb then some (.tbl #[]) else none := fun b => by rw [← hH]; rfl
  have Gb : ∀ b, G b = if b = a then (if (K.lookup a).isNone then some (.frz ob (.lst (ns.map V.int))) else none) else none := fun b => by rw [← hG]; rfl
  have Htab : ∀ b ∈ tb, H b = some (.tbl #[]) := fun b z => by
    rw [Hb, if_neg (fun e => aT (by rw [← e]; exact z)), if_pos z]
  have Hno : ∀ b, b ≠ a → b ∉ tb → H b = none := fun b n z => by rw [Hb, if_neg n, if_neg z]
  have Ha : (K.lookup a = none ∧ H a = some (.frz ob (.lst (ns.map V.int)))) ∨ ((∃ o, K.lookup a = some o) ∧ H a = none) := by
    rw [Hb, if_pos rfl]
    cases q : K.lookup a with
    | none => exact .inl ⟨rfl, rfl⟩
    | some o => exact .inr ⟨⟨o, rfl⟩, rfl⟩
  -- an object that is neither a list nor an empty record is not tracked
  have away : ∀ {b : Addr} {o : Obj}, s1.heap.get? b = some o → (∀ z n, o.data ≠ .seq z n) → o.data ≠ .fields #[] → H b = none := fun {b o} e n1 n2 => by
    refine Hno b (fun z => ?_) fun z => ?_
    · rw [z, ha, ← hob] at e
      cases e
      exact n1 _ _ rfl
    · rw [tabAt b z] at e
      cases e
      exact n2 rfl
  have down : ∀ {b : Addr} {o : Obj}, s1.heap.get? b = some o → (∀ z n, o.data ≠ .seq z n) → o.data ≠ .fields #[] → (hidT s1.heap H).get? b = some o := fun e n1 n2 => hidT_get e (away e n1 n2)
  have nsD : ∀ {b : Addr} {mm : Str → Option Value}, s1.heap.Ns b mm → (hidT s1.heap H).Ns b mm := fun ⟨o, es, ep, e, d, r⟩ =>
    ⟨o, es, ep, down e (fun z n y => by rw [d] at y; cases y) (fun y => by rw [d] at y; cases y), d, r⟩
  have kin : K.In (hidT s1.heap H) := fun b o e => by
    refine hidT_get (KX b o e) ?_
    by_cases z : b = a
    · rcases Ha with ⟨q, _⟩ | ⟨_, q⟩
      · rw [z, q] at e
        cases e
      · rw [z]
        exact q
    · exact Hno b z fun y => by
        rw [tabK b y] at e
        cases e
  have md : L2.Mod K mg (hidT s1.heap H) := ⟨kin, nsD hns, ⟨mb, nsD hb, hbb⟩, (let ⟨mc, l1, l2⟩ := hlim; ⟨mc, nsD l1, l2⟩)⟩
  have hok : HOk P w H s1.heap := fun b u e => by
    by_cases z : b = a
    · subst z
      rcases Ha with ⟨_, q⟩ | ⟨_, q⟩
      · rw [q] at e
        cases e
        exact ⟨ha, by rw [List.length_map]; exact hl, us, 0, rv, by rw [ha, ← hob]⟩
      · rw [q] at e
        cases e
    · by_cases y : b ∈ tb
      · rw [Htab b y] at e
        cases e
        exact tabAt b y
      · rw [Hno b z y] at e
        cases e
  have TB : ∀ q ∈ cs, LamX.TabB (hidT s1.heap H) mg q.1 q.2 := fun q hq => by
    refine ⟨codeHd_down (fun b o vs e d l => down e (fun z n y => by rw [d] at y; cases y) fun y => ?_) (C q hq), ?_, fun z => ?_⟩
    · rw [d] at y
      cases y
      simp at l
    · obtain ⟨bm, o, b1, b2, b3, b4, b5, b6⟩ := hbm
      refine ⟨bm, o, b1, b2, fun z => ?_, fun z => ?_, down b3 (fun z n y => by rw [b6] at y; cases y) (fun y => by rw [b6] at y; cases y), b4, b5, b6⟩
      · obtain ⟨o2, es, ep, e, d, _⟩ := hns
        rw [← z, b3] at e
        cases e
        rw [b6] at d
        cases d
      · rw [z, hT q hq] at b3
        cases b3
        cases b6
    · obtain ⟨o2, es, ep, e, d, _⟩ := hns
      rw [z, hT q hq] at e
      cases e
      cases d
  have e0 : Env0 P w K mg (hidT s1.heap H) callerA [] s1 H := ⟨rfl, md, fun b o e => of_hidT e, Nat.le_of_eq (hidT_size _ _), trivial, fun b hb => absurd (show b ∈ ([] : List Addr) from hb) (by simp), hok, .of_eq hg⟩
  have rp : Rp K T [] [] G H := by
    refine ⟨fun b o e => ?_, List.nodup_nil, rfl, fun i b xs h => by simp at h, fun q hq => ?_, fun b ps e => ?_⟩
    · rw [Gb] at e
      by_cases z : b = a
      · rw [if_pos z] at e
        rw [Hb, if_pos z]
        exact e
      · rw [if_neg z] at e
        cases e
    · obtain ⟨r, hr, er⟩ := hTc q hq
      exact LamX.TabS.nil (Htab q.1 (by rw [← htb, ← er]; exact List.mem_map.mpr ⟨r, hr, rfl⟩))
    · rw [Gb] at e
      split at e
      · split at e <;> cases e
      · cases e
  have sf : SqF K G a (ns.map V.int) := by
    rcases Ha with ⟨q, z⟩ | ⟨⟨o, q⟩, _⟩
    · exact .inl ⟨ob, by rw [Gb, if_pos rfl, q] <;> rfl⟩
    · have e := KX a o q
      rw [ha] at e
      cases e
      exact .inr ⟨ob, us.toArray, 0, q, by rw [← hob], by rw [← hob], by rw [← hob], by rw [List.size_toArray, lv]; exact hl, by simpa using rv⟩
  refine codeAny_mono ((F _ kin (nsD hns) TB).run callerA [] s1 ⟨[.ref a], []⟩ [.ref a] [.ref a] [.scr (ns.map D.int)] [] [] G H _ _ (fun v _ => v = .bl true) (fun _ _ _ => False) hr (fun _ => rfl) e0 (hbind s1 (.ref a)) (.cons rfl .nil) (.cons (.scr sf (dInts ns)) .nil) rp rfl hp
    (fun d S v m' G' H' h1 s p' d' => by
      subst h1
      cases d'
      rfl) fun _ _ _ _ _ _ _ h => h.elim) fun r s' h => ?_
  match r, h with
  | .error e, h =>
    obtain ⟨_, _, _, _, _, _, _, _, _, _, _, _, z⟩ := (h : L2.CX P w [] H s1 (fun _ _ _ => False) e s')
    exact z.elim
  | .ok .next, h => exact False.elim h
  | .ok .brk, h => exact False.elim h
  | .ok .cont, h => exact False.elim h
  | .ok (.ret u), h =>
    obtain ⟨v, H', os, bare, un, hok', rr, q1⟩ := (h : CE [] P w H s1 _ u s')
    subst q1
    obtain rfl : u = Value.bool true := rr
    have same : ∀ b o, b ∉ tb → s1.heap.get? b = some o → s'.heap.get? b = some o := fun b o nb e => by
      have free : H b = none → s'.heap.get? b = some o := fun n => un.keep b o e n (fun y => absurd (show b ∈ ([] : List Addr) from y) (by simp)) (by simp)
      by_cases z : b = a
      · subst z
        rcases Ha with ⟨_, q⟩ | ⟨_, q⟩
        · have e2 := (hok' b _ (un.frzs b _ _ q)).1
          rw [ha] at e
          cases e
          exact e2
        · exact free q
      · exact free (Hno b z nb)
    have grown : ∀ b ∈ tb, ∃ more : Array Value, s'.heap.get? b = some { cls := .none, data := .fields more } := fun b z => by
      obtain ⟨more, y⟩ := un.tbls b #[] (Htab b z)
      exact ⟨_, hok' b _ y⟩
    refine ⟨rfl, ⟨fun b o e => ?_, fun b o e => ?_⟩, os, bare⟩
    · by_cases z : b ∈ tb
      · obtain ⟨more, y⟩ := grown b z
        rw [tabAt b z] at e
        cases e
        rw [← htb] at z
        obtain ⟨q, hq, eq⟩ := List.mem_map.mp z
        subst eq
        exact .inr (.inl ⟨((C q hq).tab (hT q hq)).isCodeTable, rfl, #[], more, rfl, by rw [Array.empty_append]; exact y⟩)
      · exact .inl (same b o z e)
    · by_cases z : b ∈ tb
      · obtain ⟨more, y⟩ := grown b z
        exact ⟨_, y⟩
      · exact ⟨o, same b o z e⟩
/-- the goal behind the head, from the law's promise -/
theorem walkT {l : PySem.W.OpenLaw} {n k : Nat} {q : Program} {loose : List Str} {XP : (Str → Option Value) → Heap → Prop} {YP : World → Heap → Prop} {d : DefRec} {x : Str}
    (hn : l.most = some n) (hn2 : n ≤ sizeLine) (hdf : d.params.defaults = []) (hr : Room k callerA)
    (F : ∀ (w : World) (mg : Str → Option Value) (fa : Addr) (h : Heap), YP w h → h.Ns mainGlobals mg → mg d.name = some (.ref fa) →
      ∃ (K : PySem.W.Frag) (fd : FuncData) (p : SpD) (gd : Bool) (cs : List (Addr × Addr)) (T : List (Addr × Str)), K.In h ∧ (∀ (s : Shared) (u : Value), BindsTo s fd ⟨[u], []⟩ [(x, u)]) ∧
        (∀ q ∈ cs, h.get? q.2 = some tabO) ∧ (∀ q ∈ cs, K.lookup q.2 = none) ∧ (∀ q ∈ cs, PySem.W.CodeHd h q.1 q.2) ∧ (∀ q ∈ T, ∃ r ∈ cs, r.2 = q.1) ∧
        (∀ ns : List Int, ns.length ≤ n → (∀ z ∈ ns, Builtin.Int.intBits z ≤ 1048576) → p [.scr (ns.map D.int)] [] (fun d _ => d = .bl true) fun _ _ => False) ∧
        ∀ base : Heap, K.In base → base.Ns mainGlobals mg → (∀ q ∈ cs, LamX.TabB base mg q.1 q.2) → FnD gd l.prog w K mg base T k fa fd [x] p) :
    PySem.W.WalkO q loose XP YP l.row.toRowW d [] (fun f vs => PySem.call f vs) := by
  refine Att.attach_callB hn hdf fun w s₀ s₁ mg mb fa o pm cd doc a vs ns G Y ho hd hcd hmg hobj hints hlen hbits hg => ?_
  obtain ⟨K, fd, p, gd, cs, T, KX, hb, hT, nT, C, hTc, hp, hF⟩ := F w mg fa _ Y G.T.g hmg
  exact law_tabs KX G.T.g G.T.b G.T.builtins G.T.nolimit hg hT nT C G.T.bmain hobj hints (Nat.le_trans hlen hn2) hr hTc hF hb (hp ns hlen hbits)
end
end DL

set_option maxHeartbeats 4000000
namespace DL
open PySem PySem.Spec PyProof.Rows L2
/-! ### the errors of the module -/
def errNames : List Str := ["NoPart", "NoNumber", "NoMoment", "NoClock", "NoHour", "NoTelling", "NoTellings", "NoRow", "Apart", "Twice", "Missing", "NoDeed", "NoAir", "NoSignal", "NoQuarrel", "NoCarriage", "NoLine", "TooMany", "NoText"]
def errWords : List Str := ["part", "number", "moment", "clock", "hour", "telling", "tellings", "row", "apart", "twice", "missing", "deed", "air", "signal", "quarrel", "carriage", "line", "many", "text"]
/-- what isinstance says of the error x -/
structure ErI (K : PySem.W.Frag) (x : Str) : Prop where
  c : ExcC K (He.ga K x)
  one : ∀ y ∈ errNames, PySem.W.kitOne K (.ref (He.ga K x)) (.ref (He.ga K y)) = some (decide (x = y))
  ve : PySem.W.kitOne K (.ref (He.ga K x)) (.type "ValueError") = some true
  no : PySem.W.kitAny K (.ref (He.ga K x)) (["LookupError", "TypeError", "ArithmeticError", "RuntimeError"].map Value.type) = some false
  ex : PySem.W.exmOne K (.ref (He.ga K x)) (.ref (He.ga K "ClockError")) = some true
def excB (K : PySem.W.Frag) (D : Addr) : Bool :=
  decide (PySem.W.findIn K (.ref D) "__getattribute__" = some (some (.builtin "BaseException.__getattribute__"))) && (decide (PySem.W.findIn K (.ref D) "__getattr__" = some none) && (decide (PySem.W.subIn K (.ref D) (.type "BaseException") = some true) && (PySem.W.hasDictIn K D &&
  (decide (PySem.W.findIn K (.ref D) "__class__" = some (some (.builtin "object.__class__"))) && (decide (PySem.W.specialIn K (.builtin "object.__class__") "__get__" = some (some (.builtin "getset_descriptor.__get__"))) && (decide (PySem.W.takesIn K (.builtin "object.__class__") = some true) && decide (PySem.W.mroIn K D (.type "object") = some true)))))))
def errB (K : PySem.W.Frag) (x : Str) : Bool :=
  excB K (He.ga K x) && ((errNames.all fun y => decide (PySem.W.kitOne K (.ref (He.ga K x)) (.ref (He.ga K y)) = some (decide (x = y)))) && (decide (PySem.W.kitOne K (.ref (He.ga K x)) (.type "ValueError") = some true) &&
  (decide (PySem.W.kitAny K (.ref (He.ga K x)) (["LookupError", "TypeError", "ArithmeticError", "RuntimeError"].map Value.type) = some false) && decide (PySem.W.exmOne K (.ref (He.ga K x)) (.ref (He.ga K "ClockError")) = some true))))
theorem excB_ok {K : PySem.W.Frag} {D : Addr} (h : excB K D = true) : ExcC K D := by
  obtain ⟨h1, h⟩ := He.ba h
  obtain ⟨h2, h⟩ := He.ba h
  obtain ⟨h3, h⟩ := He.ba h
  obtain ⟨h4, h⟩ := He.ba h
  obtain ⟨h5, h⟩ := He.ba h
  obtain ⟨h6, h⟩ := He.ba h
  obtain ⟨h7, h8⟩ := He.ba h
  exact ⟨of_decide_eq_true h1, of_decide_eq_true h2, of_decide_eq_true h3, h4, of_decide_eq_true h5, of_decide_eq_true h6, of_decide_eq_true h7, of_decide_eq_true h8⟩
theorem errB_ok {K : PySem.W.Frag} {x : Str} (h : errB K x = true) : ErI K x := by
  obtain ⟨h1, h⟩ := He.ba h
  obtain ⟨h2, h⟩ := He.ba h
  obtain ⟨h3, h⟩ := He.ba h
  obtain ⟨h4, h5⟩ := He.ba h
  exact ⟨excB_ok h1, fun y hy => of_decide_eq_true (List.all_eq_true.mp h2 y hy), of_decide_eq_true h3, of_decide_eq_true h4, of_decide_eq_true h5⟩
/-- what an error without fields is told as -/
def wordOf (x : Str) : Str := (((errNames.zip errWords).find? fun p => p.1 == x).map (·.2)).getD "other"
def flE (K : PySem.W.Frag) (known : List Str) : Er → Sto → KR → Prop := fun e S R => ∃ x ∈ known, e = erO K x ∧ R (.tup [.str (wordOf x)]) S
def pfE (K : PySem.W.Frag) (known : List Str) : Addr → Addr → Option Addr → SpD := fun C a dd ds S R _ => ∃ x ∈ known, C = He.ga K x ∧ dd = none ∧ ds = [.ob a] ∧ R (.tup [.str (wordOf x)]) S
theorem flE_ok {K : PySem.W.Frag} {known : List Str} (e : Er) (S : Sto) (R : KR) (a : Addr) (dd : Option Addr) (m : List Addr) (G : Hp) (d : DE K m G e (.ref e.1) dd) (h : flE K known e S R) : pfE K known e.1 a dd [.ob a] S R (fun _ _ => False) := by
  obtain ⟨x, hx, rfl, h⟩ := h
  exact ⟨x, hx, rfl, d.2, rfl, h⟩
theorem flE_at {K : PySem.W.Frag} {known : List Str} {x : Str} {S : Sto} {R : KR} (E : ErI K x) (hx : x ∈ known) (k : R (.tup [.str (wordOf x)]) S) : PySem.W.exmOne K (.ref (erO K x).1) (.ref (He.ga K "ClockError")) = some true ∧ flE K known (erO K x) S R := ⟨E.ex, x, hx, rfl, k⟩
/-- nothing is promised: any text will do -/
theorem pss_none {X : Cx} {T : List (Addr × Str)} {W : WX} {ss : List Stmt} : PSsD X T W ss (fun _ _ _ => False) := ⟨fun pins s σ H D I ⟨_, _, _, _, _, _, _, h, _⟩ => h.elim⟩
section
variable {X : Cx} {T : List (Addr × Str)}
theorem try_givesT {xw a n xe xf y q : Str} {sg : Scope} {g CS f : Addr} {cdg : Value} {k j kk : Nat} {fd : FuncData} {p : Addr → Addr → Option Addr → SpD} {p1 p2 p3 p4 p5 p6 p7 p8 p9 pa pb pc : Pos}
    (F : FnS X.prog X.w X.K X.mg X.base T k f fd [y] p) (hr : Room (k + 1) X.A) (hgf : sg.names.lookup xf = some .globalImplicit) (hmf : X.mg xf = some (.ref f)) (hkf : PySem.W.keepIn X.K (.ref f) = true) (hbf : L2.Binds X.K fd [y] [])
    (hgc : sg.names.lookup xe = some .globalImplicit) (hmc : X.mg xe = some (.ref CS)) (hdc : (xe == ("__debug__" : Str)) = false) (hdf : (xf == ("__debug__" : Str)) = false) (hln : sg.names.lookup n = some .local) (hdn : (n == ("__debug__" : Str)) = false) (hcn : (n == ("__classdict__" : Str)) = false) (hnd : [a, n].Nodup) :
    LamX.GivesTo X [a, n] xw sg g cdg [.Try [.Return (some (.Tuple [.Constant (.str "told") j pb, .Call (.Name a p1) [] [] p2] kk pc)) p3] [.ExceptHandler (some (.Name xe p4)) (some n) [.Return (some (.Call (.Name xf p5) [.Name n p6] [] p7)) p8] p9] [] [] pa] a q (TTry X.K T CS p tellT) := by
  refine try_gives (wrap := fun e => .Tuple [.Constant (.str "told") j pb, e] kk pc) F hr hgf hmf hkf hbf hgc hmc hdc hdf hln hdn hcn hnd fun Y t h => ?_
  exact pe_imp (pe_tup (pa_cons pe_str (pa_cons h pa_nil))) fun σ H Q z => z
theorem try_givesV {xw a n xe xf y q : Str} {sg : Scope} {g CS f : Addr} {cdg : Value} {k : Nat} {fd : FuncData} {p : Addr → Addr → Option Addr → SpD} {p1 p2 p3 p4 p5 p6 p7 p8 p9 pa : Pos}
    (F : FnS X.prog X.w X.K X.mg X.base T k f fd [y] p) (hr : Room (k + 1) X.A) (hgf : sg.names.lookup xf = some .globalImplicit) (hmf : X.mg xf = some (.ref f)) (hkf : PySem.W.keepIn X.K (.ref f) = true) (hbf : L2.Binds X.K fd [y] [])
    (hgc : sg.names.lookup xe = some .globalImplicit) (hmc : X.mg xe = some (.ref CS)) (hdc : (xe == ("__debug__" : Str)) = false) (hdf : (xf == ("__debug__" : Str)) = false) (hln : sg.names.lookup n = some .local) (hdn : (n == ("__debug__" : Str)) = false) (hcn : (n == ("__classdict__" : Str)) = false) (hnd : [a, n].Nodup) :
    LamX.GivesTo X [a, n] xw sg g cdg [.Try [.Return (some (.Call (.Name a p1) [] [] p2)) p3] [.ExceptHandler (some (.Name xe p4)) (some n) [.Return (some (.Call (.Name xf p5) [.Name n p6] [] p7)) p8] p9] [] [] pa] a q (TTry X.K T CS p tellV) :=
  try_gives (wrap := fun e => e) F hr hgf hmf hkf hbf hgc hmc hdc hdf hln hdn hcn hnd fun Y t h => h
end
/-! ### steps -/
section
variable {env : Vars} {S : Sto} {R : KR} {Rx : KX} {E : Ds} {d a b : D} {wa wb : WE'} {as : WA'} {xs ys : List D}
theorem r_sizeG {A : Prop} (h : xs.length.ble 100 = true) (k : A) : xs.length ≤ sizeLine ∧ A := ⟨size100 (Nat.le_of_ble_eq_true h), k⟩
theorem r_addG (h : (xs.length + ys.length).ble 100 = true) (k : R (.lst (xs ++ ys)) S) : dAdd (.lst xs) (.lst ys) S R := ⟨xs, ys, rfl, rfl, size100 (Nat.le_of_ble_eq_true h), k⟩
theorem r_addTG (h : (xs.length + ys.length).ble 100 = true) (k : R (.tup (xs ++ ys)) S) : dAdd (.tup xs) (.tup ys) S R := ⟨size100 (Nat.le_of_ble_eq_true h), k⟩
theorem r_bmL {f : FM} (k : wa env S (fun o S1 => (∃ xs, itemsL o S1 = some xs) ∧ as env S1 (fun ds S2 => f o ds S2 R) Rx) Rx) : wBmL f wa as env S R Rx := k
theorem r_isL {A : Prop} (k : A) : (∃ ys, itemsL (.lst xs) S = some ys) ∧ A := ⟨⟨xs, rfl⟩, k⟩
theorem r_try {K : PySem.W.Frag} {CS : Addr} {fl : Er → Sto → KR → Prop} {tr : D → D} (k : wa env S (fun d S1 => R (tr d) S1) (fun e _ S1 => PySem.W.exmOne K (.ref e.1) (.ref CS) = some true ∧ fl e S1 R)) : wTry K CS fl tr wa env S R Rx := k
theorem r_emp (k : R .emp S) : wEmp env S R Rx := k
end
theorem r_isP {K : PySem.W.Frag} {x y : Str} {a : Addr} {b : Bool} {S : Sto} {R : KR} (E : ErI K x) (hy : y ∈ errNames) (h : decide (x = y) = b) (k : R (.bl b) S) : dIsP K (He.ga K x) a [.ob a, .ob (He.ga K y)] S R := ⟨rfl, b, by rw [← h]; exact E.one y hy, k⟩
theorem r_isV {K : PySem.W.Frag} {x : Str} {a : Addr} {S : Sto} {R : KR} (E : ErI K x) (k : R (.bl true) S) : dIsP K (He.ga K x) a [.ob a, .ty "ValueError"] S R := ⟨rfl, true, E.ve, k⟩
theorem r_isN {K : PySem.W.Frag} {x : Str} {a : Addr} {S : Sto} {R : KR} (E : ErI K x) (k : R (.bl false) S) : dIsP K (He.ga K x) a [.ob a, .tup [.ty "LookupError", .ty "TypeError", .ty "ArithmeticError", .ty "RuntimeError"]] S R := ⟨rfl, ["LookupError", "TypeError", "ArithmeticError", "RuntimeError"], rfl, false, E.no, k⟩
theorem toPs_bls {S : Sto} : ∀ bs : List Bool, toPs S (bs.map D.bl) = some (bs.map PyData.bool)
  | [] => rfl
  | b :: bs => by
    have ih := toPs_bls (S := S) bs
    simp only [List.map_cons, toPs, toP, ih]
theorem eqv_bb (a b : Bool) : PyData.eqv (.bool a) (.bool b) = decide (a = b) := by cases a <;> cases b <;> rfl
theorem cnt_bls : ∀ bs : List Bool, (bs.map PyData.bool).countP (fun z => PyData.eqv z (.bool true)) = bs.count true
  | [] => rfl
  | b :: bs => by
    rw [List.map_cons, List.countP_cons, List.count_cons, cnt_bls bs, eqv_bb]
    cases b <;> rfl
theorem r_cntB {bs : List Bool} {S : Sto} {R : KR} (h : SeqAt.shaped (.list (bs.map PyData.bool)) = true) (k : R (.int (bs.count true : Nat)) S) : dCount (.lst (bs.map D.bl)) [.bl true] S R := by
  refine ⟨.bl true, bs.map PyData.bool, .bool true, rfl, ?_, rfl, h, rfl, ?_⟩
  · show (toPs S (bs.map D.bl)).map PyData.list = _
    rw [toPs_bls]
    rfl
  · rw [cnt_bls]
    exact k
theorem r_idxB {bs : List Bool} {j : Nat} {S : Sto} {R : KR} (h : SeqAt.shaped (.list (bs.map PyData.bool)) = true) (hj : bs[j]? = some true) (hb : (bs.take j).all (fun b => !b) = true) (k : R (.int (j : Nat)) S) : dIndex (.lst (bs.map D.bl)) [.bl true] S R := by
  refine ⟨.bl true, bs.map PyData.bool, .bool true, j, .bool true, rfl, ?_, rfl, h, rfl, ?_, rfl, fun m z hm hz => ?_, k⟩
  · show (toPs S (bs.map D.bl)).map PyData.list = _
    rw [toPs_bls]
    rfl
  · rw [List.getElem?_map, hj]
    rfl
  · rw [List.getElem?_map] at hz
    cases q : bs[m]? with
    | none =>
      rw [q] at hz
      cases hz
    | some b =>
      rw [q] at hz
      cases hz
      have hm2 : (bs.take j)[m]? = some b := by
        rw [List.getElem?_take_of_lt hm]
        exact q
      have := List.all_eq_true.mp hb b (List.mem_of_getElem? hm2)
      cases b with
      | true => cases this
      | false => rfl
def wNever : WE' := fun _ _ _ _ => False
theorem pd_never {X : Cx} {T : List (Addr × Str)} {W : WX} {e : Expr} : PD X T W e wNever := ⟨fun pins s σ H Q I ⟨_, _, _, _, _, _, _, _, h, _⟩ => h.elim⟩
theorem room65 {k : Nat} {A : Around} (r : Room k A) : A.units + 65 < cLine := by
  have := r.un
  omega
theorem roomH64 {k : Nat} {A : Around} (r : L2H.RoomH k A) : A.units + 64 < cLine := by
  have := r.un
  omega
theorem roomH65 {k : Nat} {A : Around} (r : L2H.RoomH k A) : A.units + 65 < cLine := by
  have := r.un
  omega
theorem ty_list_count : typeOf (.builtin "list.count") = pure (.type "method_descriptor") := PySem.F.type_list_count
theorem ty_list_index : typeOf (.builtin "list.index") = pure (.type "method_descriptor") := PySem.F.type_list_index
/-! ### what is shown -/
structure Shw (w n : Nat) (p : PyData) : Prop where
  sh : p.showable = true
  ls : PyData.leavesShort 341 p = true
  wt : p.weight ≤ w
  dp : p.depth ≤ n
structure ShwA (w n : Nat) (ps : List PyData) : Prop where
  sh : PyData.showableAll ps = true
  ls : PyData.leavesShortAll 341 ps = true
  wt : PyData.weightAll ps ≤ w
  dp : PyData.depthAll ps ≤ n
theorem shown_i' {i : Int} (h : i.natAbs < 2 ^ 1100) : (PyData.shown (.int i)).length ≤ 341 := by
  have e := int_text_length_le10 (k := 340) (by decide) (Nat.lt_of_lt_of_le h (show (2 : Nat) ^ 1100 ≤ 10 ^ 340 by decide))
  show (Str.ofString (toString i)).length ≤ 341
  rw [PySem.ofString_length]
  exact e
theorem Shw.non : Shw 0 0 .none := ⟨rfl, rfl, Nat.le_refl _, by simp [PyData.depth]⟩
theorem Shw.bl {b : Bool} : Shw 0 0 (.bool b) := ⟨rfl, rfl, Nat.le_refl _, by simp [PyData.depth]⟩
theorem Shw.int {i : Int} {b : Nat} (h : i.natAbs < 2 ^ b) (hb : b.ble 1100 = true) : Shw b 0 (.int i) := by
  have hb := Nat.le_of_ble_eq_true hb
  have h2 : i.natAbs < 2 ^ 1100 := Nat.lt_of_lt_of_le h (Nat.pow_le_pow_right (by decide) hb)
  have hl : i.natAbs.log2 < 1100 := PySem.Flt.log2_lt_of (by decide) h2
  refine ⟨?_, ?_, ?_, by simp [PyData.depth]⟩
  · simp only [PyData.showable, decide_eq_true_eq]
    omega
  · simp only [PyData.leavesShort, decide_eq_true_eq]
    exact shown_i' h2
  · simp only [PyData.weight]
    by_cases z : i = 0
    · subst z
      exact Nat.zero_le _
    · have n0 : i.natAbs ≠ 0 := by omega
      rw [if_neg (by simpa using z)]
      have hp : 0 < b := by
        rcases Nat.eq_zero_or_pos b with y | y
        · subst y
          omega
        · exact y
      have := PySem.Flt.log2_lt_of hp h
      omega
theorem Shw.mono {w w' n n' : Nat} {p : PyData} (h : Shw w n p) (l : w ≤ w') (m : n ≤ n') : Shw w' n' p := ⟨h.sh, h.ls, Nat.le_trans h.wt l, Nat.le_trans h.dp m⟩
theorem ShwA.nil : ShwA 0 0 [] := ⟨rfl, rfl, Nat.le_refl _, by simp [PyData.depthAll]⟩
theorem ShwA.cons {w w' n n' : Nat} {p : PyData} {ps : List PyData} (h : Shw w n p) (hs : ShwA w' n' ps) : ShwA (w + 1 + w') (max n n') (p :: ps) := by
  refine ⟨?_, ?_, ?_, ?_⟩
  · simp only [PyData.showableAll, h.sh, hs.sh]
    rfl
  · simp only [PyData.leavesShortAll, h.ls, hs.ls]
    rfl
  · simp only [PyData.weightAll]
    have := h.wt
    have := hs.wt
    omega
  · simp only [PyData.depthAll]
    have := h.dp
    have := hs.dp
    omega
theorem Shw.tup {w n : Nat} {ps : List PyData} (h : ShwA w n ps) : Shw w (n + 1) (.tuple ps) := by
  refine ⟨?_, ?_, ?_, ?_⟩
  · simp only [PyData.showable]
    exact h.sh
  · simp only [PyData.leavesShort]
    exact h.ls
  · simp only [PyData.weight]
    exact h.wt
  · simp only [PyData.depth]
    have := h.dp
    omega
theorem Shw.lst {w n : Nat} {ps : List PyData} (h : ShwA w n ps) : Shw w (n + 1) (.list ps) := by
  refine ⟨?_, ?_, ?_, ?_⟩
  · simp only [PyData.showable]
    exact h.sh
  · simp only [PyData.leavesShort]
    exact h.ls
  · simp only [PyData.weight]
    exact h.wt
  · simp only [PyData.depth]
    have := h.dp
    omega
theorem Shw.txt {x : Str} {w : Nat} (h : (x.cps.toList.all fun c => decide (c < 16 ^ 8)) = true) (hw : x.cps.size.ble w = true) : Shw w 0 (.str x) :=
  ⟨by simp [PyData.showable], by simpa only [PyData.leavesShort] using h, by simp only [PyData.weight]; exact Nat.le_of_ble_eq_true hw, by simp [PyData.depth]⟩
theorem Shw.short {w n : Nat} {p : PyData} (h : Shw w n p) (hw : w.ble 40000 = true) : p.shown.length ≤ sizeLine := by
  have hw := Nat.le_of_ble_eq_true hw
  have h1 := PyData.shown_le 341 (by decide) p h.ls
  have h2 := h.wt
  rw [sizeLine_eq]
  omega
/-- repr of plain data -/
theorem r_reprS {w n : Nat} {a : D} {p : PyData} {S : Sto} {R : KR} (e : toQ S a = some p) (h : Shw w n p) (hw : w.ble 40000 = true) (hn : n.ble 60 = true) (k : R (.str p.shown) S) : dRepr [a] S R :=
  ⟨p, e, h.sh, h.short hw, Nat.le_trans h.dp (Nat.le_of_ble_eq_true hn), k⟩
end DL

set_option maxHeartbeats 4000000
namespace DL
open PySem PySem.Spec PyProof.Rows L2
section
variable {env : Vars} {S : Sto} {R : KR} {Rx : KX} {xs ys : List D} {a b d : D}
theorem r_wiZ {as : WA'} {R : Src → Sto → Prop} (k : as env S (fun ds S1 => ∃ xs ys, ds = [.tup xs, .tup ys] ∧ R ⟨List.zipWith (fun x y => D.tup [x, y]) xs ys, fun _ => True⟩ S1) Rx) : wiZT as env S R Rx := k
theorem r_yes {R : Bool → Sto → Prop} (k : R true S) : wYes env S R Rx := k
theorem b_nm {i : Nat} {Q : Vars → Prop} (k : Q (env.set i (some d))) : bindE (.nm i) d env Q := k
theorem b_tp2 {i j : Nat} {Q : Vars → Prop} (k : Q ((env.set i (some a)).set j (some b))) : bindE (.tp [i, j]) (.tup [a, b]) env Q := ⟨[a, b], rfl, rfl, k⟩
theorem r_trueL {A B : Prop} (k : A) : if true = true then A else B := k
theorem r_falseL {A B : Prop} (k : B) : if false = true then A else B := k
end
theorem map_at {α : Type} {f : α → D} {l : List α} {i : Nat} {d : D} (h : (l.map f)[i]? = some d) : ∃ e, l[i]? = some e ∧ d = f e := by
  rw [List.getElem?_map] at h
  cases q : l[i]? with
  | none => rw [q] at h; cases h
  | some e => rw [q] at h; exact ⟨e, rfl, (Option.some.inj h).symm⟩
theorem rep_succ {i : Nat} : (List.replicate i true).map D.bl ++ [.bl true] = (List.replicate (i + 1) true).map D.bl := by
  rw [List.replicate_succ', List.map_append]
  rfl
theorem all_rep {i : Nat} : (List.replicate i true).all id = true := by
  rw [List.all_eq_true]
  intro x hx
  rw [List.eq_of_mem_replicate hx]
  rfl
theorem zip_cut {xs : List D} : List.zipWith (fun x y => D.tup [x, y]) xs (cutD xs (some 1) none) = List.zipWith (fun x y => D.tup [x, y]) xs (xs.drop 1) := by
  have e : cutD xs (some 1) none = xs.drop 1 := by
    unfold cutD
    rw [show HT.sIx xs.length 0 (some 1) = min 1 xs.length from HT.sIx_nat xs.length 0 1, HT.sIx_none]
    cases xs with
    | nil => rfl
    | cons x xs =>
      rw [show min 1 (x :: xs).length = 1 from by simp only [List.length_cons]; omega]
      apply List.take_of_length_le
      rw [List.length_drop]
      exact Nat.le_refl _
  rw [e]
theorem Sz.mul {p q : Rat} {n m : Nat} (hp : Sz n p) (hq : Sz m q) : Sz (n + m) (p * q) := by
  rw [Rat.mul_def]
  refine norm_sz _ ?_ ?_
  · rw [Int.natAbs_mul, Nat.pow_add]
    exact Nat.mul_lt_mul'' hp.1 hq.1
  · rw [Nat.pow_add]
    exact Nat.mul_lt_mul'' hp.2 hq.2
theorem Sz.add {p q : Rat} {n m : Nat} (hp : Sz n p) (hq : Sz m q) : Sz (n + m + 1) (p + q) := by
  rw [Rat.add_def]
  have h1 : p.num.natAbs * q.den < 2 ^ (n + m) := by rw [Nat.pow_add]; exact Nat.mul_lt_mul'' hp.1 hq.2
  have h2 : q.num.natAbs * p.den < 2 ^ (n + m) := by rw [Nat.add_comm, Nat.pow_add]; exact Nat.mul_lt_mul'' hq.1 hp.2
  have h3 : p.den * q.den < 2 ^ (n + m) := by rw [Nat.pow_add]; exact Nat.mul_lt_mul'' hp.2 hq.2
  have e : 2 ^ (n + m + 1) = 2 ^ (n + m) + 2 ^ (n + m) := by rw [Nat.pow_succ]; omega
  refine norm_sz _ ?_ ?_
  · have : (p.num * (q.den : Int) + q.num * (p.den : Int)).natAbs ≤ (p.num * (q.den : Int)).natAbs + (q.num * (p.den : Int)).natAbs := Int.natAbs_add_le _ _
    rw [Int.natAbs_mul, Int.natAbs_mul, Int.natAbs_natCast, Int.natAbs_natCast] at this
    omega
  · omega
theorem sz24 : Sz 5 (24 : Rat) := ⟨by decide, by decide⟩
theorem norm_sz4 {a : Int} {b n : Nat} (h : b ≠ 0) (ha : a.natAbs < 2 ^ n) (hb : b < 2 ^ n) : Sz n (Rat.normalize a b h) := norm_sz h ha hb
theorem norm_nonneg {a : Int} {b : Nat} (h : b ≠ 0) (ha : 0 ≤ a) : 0 ≤ (Rat.normalize a b h).num := by
  rw [norm_num]
  exact Int.ediv_nonneg ha (by omega)
theorem norm_ne {a : Int} {b : Nat} (h : b ≠ 0) (ha : a ≠ 0) : (Rat.normalize a b h).num ≠ 0 := by
  intro e
  have : Rat.normalize a b h = 0 := Rat.num_eq_zero.mp e
  rw [Rat.normalize_eq_zero] at this
  exact ha this
theorem norm_le12 {a : Int} {b : Nat} (h : b ≠ 0) (ha : a.natAbs ≤ 12) : (Rat.normalize a b h).num.natAbs ≤ 12 * (Rat.normalize a b h).den := by
  have h1 : (Rat.normalize a b h).num.natAbs ≤ 12 := by
    rw [norm_num]
    have := Int.natAbs_ediv_le_natAbs a ((a.natAbs.gcd b : Nat) : Int)
    omega
  have h2 := (Rat.normalize a b h).den_pos
  omega
theorem ints_at {k n : Nat} {d : D} (h : (intsD 0 n)[k]? = some d) : d = .int k ∧ k < n := by
  unfold intsD at h
  rw [List.getElem?_map] at h
  cases q : (List.range n)[k]? with
  | none => rw [q] at h; cases h
  | some j =>
    rw [q] at h
    obtain ⟨h1, h2⟩ := List.getElem?_eq_some_iff.mp q
    rw [List.getElem_range] at h2
    subst h2
    rw [List.length_range] at h1
    exact ⟨by rw [← Option.some.inj h]; show D.int (0 + (k : Int)) = _; rw [Int.zero_add], h1⟩
theorem ints_len {n : Nat} : (intsD 0 n).length = n := by
  unfold intsD
  rw [List.length_map, List.length_range]
theorem of_pair {a b d : D} (h : d ∈ [a, b]) : d = a ∨ d = b := by simpa using h
theorem Sz.neg {n : Nat} {q : Rat} (h : Sz n q) : Sz n (-q) := ⟨by rw [Rat.neg_num, Int.natAbs_neg]; exact h.1, by rw [Rat.neg_den]; exact h.2⟩
theorem Sz.sub {p q : Rat} {n m : Nat} (hp : Sz n p) (hq : Sz m q) : Sz (n + m + 1) (p - q) := by
  rw [Rat.sub_eq_add_neg]
  exact hp.add hq.neg
/-- what the growing sets are -/
theorem pos_of {q : Rat} (h : 0 < q.num) : 0 < q := by
  have h1 : 0 ≤ q := Rat.num_nonneg.mp (by omega)
  have h2 : q ≠ 0 := fun e => by rw [e] at h; exact absurd h (by decide)
  grind
theorem norm_pos {a : Int} {b : Nat} (h : b ≠ 0) (ha : 0 < a) : 0 < Rat.normalize a b h := by
  have h1 := norm_nonneg h (Int.le_of_lt ha)
  have h2 := norm_ne h (show a ≠ 0 by omega)
  exact pos_of (by omega)
theorem num_of {q : Rat} (h : 0 ≤ q) : 0 ≤ q.num := Rat.num_nonneg.mpr h
theorem of_num {q : Rat} (h : 0 ≤ q.num) : 0 ≤ q := Rat.num_nonneg.mp h
/-! repr -/
theorem abs_nat {a : Int} : (if a < 0 then -a else a) = (a.natAbs : Int) := by split <;> omega
theorem lt9000 {n : Nat} (h : n < 2 ^ 12) : n < 2 ^ 9000 := Nat.lt_of_lt_of_le h (Nat.pow_le_pow_right (by decide) (by decide))
theorem of_three {d : D} (h : d ∈ [D.int 1, .int 4, .int 12]) : ∃ k : Int, d = .int k ∧ 0 < k ∧ k ≤ 12 := by
  rcases List.mem_cons.mp h with rfl | h
  · exact ⟨1, rfl, by decide, by decide⟩
  rcases List.mem_cons.mp h with rfl | h
  · exact ⟨4, rfl, by decide, by decide⟩
  rcases List.mem_cons.mp h with rfl | h
  · exact ⟨12, rfl, by decide, by decide⟩
  cases h
theorem of_pm {x : Int} {d : D} (h : d ∈ [D.int x, .int (0 - x)]) : ∃ k : Int, d = .int k ∧ (k = x ∨ k = -x) := by
  rcases List.mem_cons.mp h with rfl | h
  · exact ⟨x, rfl, .inl rfl⟩
  rcases List.mem_cons.mp h with rfl | h
  · exact ⟨_, rfl, .inr (by omega)⟩
  cases h
theorem of_up {x : Int} {d : D} (x0 : 0 ≤ x) (x1 : x < 30) (h : d ∈ [D.int 0, .int x, .int 1]) : ∃ k : Int, d = .int k ∧ 0 ≤ k ∧ k < 30 := by
  rcases List.mem_cons.mp h with rfl | h
  · exact ⟨0, rfl, by decide, by decide⟩
  rcases List.mem_cons.mp h with rfl | h
  · exact ⟨x, rfl, x0, x1⟩
  rcases List.mem_cons.mp h with rfl | h
  · exact ⟨1, rfl, by decide, by decide⟩
  cases h
theorem of_five {a b c d e x : D} (h : x ∈ [a, b, c, d, e]) : x = a ∨ x = b ∨ x = c ∨ x = d ∨ x = e := by
  simpa using h

theorem len_repG {m i : Nat} (h : i ≤ m) (hm : m.ble 1000 = true) : ((List.replicate i true).map D.bl).length < sizeLine := by
  rw [List.length_map, List.length_replicate]
  have := Nat.le_of_ble_eq_true hm
  have : (1001 : Nat) < sizeLine := by decide
  omega
end DL

set_option maxHeartbeats 4000000
namespace DL
open PySem PySem.Spec PyProof.Rows L2
/-! ### facts at the head -/
theorem xc_of {K : PySem.W.Frag} {h : Heap} {mg : Str → Option Value} {x : Str} (X : K.In h) (G : h.Ns mainGlobals mg) (g : (He.Fa.glo x).ok K = true) (c : (He.Fa.exc x).ok K = true) : Xc K mg x := by
  obtain ⟨h1, h2, h3, h4⟩ := He.exc_ok c
  exact ⟨He.glo_ok X G g, h1, h2, h3, h4⟩
abbrev tabT (K : PySem.W.Frag) (tf : List He.Defn) : List (Addr × Str) := tf.map fun p => ((He.cT K p).2, lamQ p.1)
def apartB (K : PySem.W.Frag) (tf : List He.Defn) : Bool := decide ((tf.map fun p => (He.cT K p).2).Nodup) && tf.all fun p => p.2.isNone
theorem nodup_inj {α β : Type} {f : α → β} : ∀ {l : List α}, (l.map f).Nodup → ∀ {a b : α}, a ∈ l → b ∈ l → f a = f b → a = b
  | [], _, _, _, h, _, _ => by cases h
  | x :: l, nd, a, b, ha, hb, e => by
    rw [List.map_cons, List.nodup_cons] at nd
    rcases List.mem_cons.mp ha with rfl | ha2
    · rcases List.mem_cons.mp hb with rfl | hb2
      · rfl
      · exact (nd.1 (by rw [e]; exact List.mem_map.mpr ⟨b, hb2, rfl⟩)).elim
    · rcases List.mem_cons.mp hb with rfl | hb2
      · exact (nd.1 (by rw [← e]; exact List.mem_map.mpr ⟨a, ha2, rfl⟩)).elim
      · exact nodup_inj nd.2 ha2 hb2 e
theorem lamF_of {K : PySem.W.Frag} {base : Heap} {mg : Str → Option Value} {tf : List He.Defn} {x : Str} (ap : apartB K tf = true) (hx : (x, none) ∈ tf) (TB : ∀ q ∈ tf.map (He.cT K), LamX.TabB base mg q.1 q.2) : LamF K base mg (tabT K tf) x := by
  intro cdv ⟨oc, od, fd, osl, lk, e, c, ec⟩
  have hc : He.codeOf K (x, none) = c := He.codeOf_eq (p := (x, none)) lk (e.trans ec)
  obtain ⟨nd, nn⟩ := He.ba ap
  have nd := of_decide_eq_true nd
  have t := TB _ (List.mem_map.mpr ⟨_, hx, rfl⟩)
  refine ⟨(He.cT K (x, none)).1, (He.cT K (x, none)).2, ?_, t, List.mem_map.mpr ⟨_, hx, rfl⟩, fun p hp e1 => ?_⟩
  · rw [ec, ← hc] <;> rfl
  · obtain ⟨q, hq, rfl⟩ := List.mem_map.mp hp
    have := nodup_inj (f := fun p => (He.cT K p).2) nd hq hx e1
    rw [this]
theorem tab_mem {K : PySem.W.Frag} {tf : List He.Defn} : ∀ q ∈ tabT K tf, ∃ r ∈ tf.map (He.cT K), r.2 = q.1 := fun q hq => by
  obtain ⟨p, hp, rfl⟩ := List.mem_map.mp hq
  exact ⟨_, List.mem_map.mpr ⟨p, hp, rfl⟩, rfl⟩
theorem tab_emp {K : PySem.W.Frag} {h : Heap} {tf : List He.Defn} (e : ∀ p ∈ tf, h.get? (He.cT K p).2 = some { cls := .none, data := .fields #[] }) : ∀ q ∈ tf.map (He.cT K), h.get? q.2 = some tabO := fun q hq => by
  obtain ⟨p, hp, rfl⟩ := List.mem_map.mp hq
  exact e p hp
theorem tab_out {K : PySem.W.Frag} {tf : List He.Defn} (e : ∀ p ∈ tf, K.lookup (He.cT K p).2 = none) : ∀ q ∈ tf.map (He.cT K), K.lookup q.2 = none := fun q hq => by
  obtain ⟨p, hp, rfl⟩ := List.mem_map.mp hq
  exact e p hp
theorem tab_hd {K : PySem.W.Frag} {h : Heap} {tf : List He.Defn} (X : K.In h) (e : ∀ p ∈ tf, PySem.W.codeHdIn K (He.cT K p).1 (He.cT K p).2 = true) : ∀ q ∈ tf.map (He.cT K), PySem.W.CodeHd h q.1 q.2 := fun q hq => by
  obtain ⟨p, hp, rfl⟩ := List.mem_map.mp hq
  exact PySem.W.codeHd_of_K X (e p hp)
end DL

set_option maxHeartbeats 4000000
namespace DL
open PySem PySem.Spec PyProof.Rows L2
/-! ### tuples and lists times an int; in -/
def dMulG : F2 := fun a b S R => match a, b with
  | .int i, .int j => CMulW i j ∧ R (.int (i * j)) S
  | .tup xs, .int k => xs ≠ [] ∧ 2 ≤ k ∧ k ≤ 1000 ∧ xs.length ≤ 1000 ∧ R (.tup (List.replicate k.toNat xs).flatten) S
  | .lst xs, .int k => 0 ≤ k ∧ k ≤ 1000 ∧ xs.length * k.toNat ≤ sizeLine ∧ R (.lst (List.replicate k.toNat xs).flatten) S
  | _, _ => False
section
variable {X : Cx} {T : List (Addr × Str)} {W : WX}
theorem DRs.rep {K : PySem.W.Frag} {m : List Addr} {G : Hp} {ds : List D} {vs : List V} (h : DRs K m G ds vs) : ∀ n : Nat, DRs K m G (List.replicate n ds).flatten (List.replicate n vs).flatten
  | 0 => .nil
  | n + 1 => by
    rw [List.replicate_succ, List.replicate_succ, List.flatten_cons, List.flatten_cons]
    exact h.append (DRs.rep h n)
theorem opD_mulG : OpR X (binaryOp .Mult) (lO X.K T dMulG) := by
  intro pins s σ H x y v u Q I rx ry ⟨G, a, b, S, m, R, d1, d2, hp, h, hk⟩
  match a, b, h with
  | .int i, .int j, h =>
    cases d1
    cases d2
    exact op_mulW pins s σ H _ _ v u Q I rx ry ⟨i, j, rfl, rfl, h.1, hk.at h.2 hp (.int _)⟩
  | .tup xs, .int k, h =>
    obtain ⟨h1, h2, h3, h4, h5⟩ := h
    cases d2
    obtain ⟨p, vs, rfl, sq, dr⟩ := tup_at hp d1
    refine op_repT pins s σ H _ _ v u Q I rx ry ⟨p, k, vs, rfl, rfl, sq, fun z => ?_, h2, h3, by rw [← dr.length]; exact h4, tell_tup hp hk (dr.rep _) h5⟩
    have := dr.length
    rw [z] at this
    exact h1 (List.length_eq_zero_iff.mp this)
  | .lst xs, .int k, h =>
    obtain ⟨h1, h2, h3, h4⟩ := h
    cases d2
    obtain ⟨p, vs, rfl, e, dr⟩ := items_atM hp d1 (xs := xs) rfl
    refine op_rep pins s σ H _ _ v u Q I rx ry ⟨p, k, vs, rfl, rfl, e, by omega, by omega, by rw [← dr.length]; exact h3, tell_lst hp hk (dr.rep _) h4⟩
def flatD : D → Bool
  | .non | .bl _ | .int _ | .str _ => true
  | _ => false
def eqD : D → D → Bool
  | .non, .non => true
  | .bl a, .bl b => a == b
  | .bl a, .int b => (if a then (1 : Int) else 0) == b
  | .int a, .bl b => a == (if b then (1 : Int) else 0)
  | .int a, .int b => a == b
  | .str a, .str b => decide (a = b)
  | _, _ => false
def inD (x : D) (xs : List D) : Bool := xs.any fun y => eqD y x
def dIn : F2 := fun a b S R => match b with
  | .tup xs => flatD a = true ∧ xs.all flatD = true ∧ R (.bl (inD a xs)) S
  | b => ∃ xs, itemsL b S = some xs ∧ flatD a = true ∧ xs.all flatD = true ∧ R (.bl (inD a xs)) S
def dNotIn : F2 := fun a b S R => match b with
  | .tup xs => flatD a = true ∧ xs.all flatD = true ∧ R (.bl (!inD a xs)) S
  | b => ∃ xs, itemsL b S = some xs ∧ flatD a = true ∧ xs.all flatD = true ∧ R (.bl (!inD a xs)) S
theorem flat_rel {K : PySem.W.Frag} {m : List Addr} {G : Hp} {d : D} {v : V} (h : DR K m G d v) (f : flatD d = true) : flatV v = true := by
  cases h <;> first | rfl | cases f
theorem flats_rel {K : PySem.W.Frag} {m : List Addr} {G : Hp} : ∀ {ds : List D} {vs : List V}, DRs K m G ds vs → ds.all flatD = true → vs.all flatV = true
  | _, _, .nil, _ => rfl
  | _, _, .cons h hs, f => by
    rw [List.all_cons, Bool.and_eq_true] at f ⊢
    exact ⟨flat_rel h f.1, flats_rel hs f.2⟩
theorem eq_rel {K : PySem.W.Frag} {m : List Addr} {G : Hp} {a b : D} {x y : V} (h1 : DR K m G a x) (h2 : DR K m G b y) (f1 : flatD a = true) (f2 : flatD b = true) : eqV x y = eqD a b := by
  cases h1 <;> first | (cases f1; done) | (cases h2 <;> first | (cases f2; done) | (simp [eqV, eqD]; done) | (simp [eqV, eqD]; rfl) | rfl)
theorem in_rel {K : PySem.W.Frag} {m : List Addr} {G : Hp} {a : D} {x : V} (h : DR K m G a x) (f : flatD a = true) : ∀ {ds : List D} {vs : List V}, DRs K m G ds vs → ds.all flatD = true → inV x vs = inD a ds
  | _, _, .nil, _ => rfl
  | _, _, .cons h1 hs, g => by
    rw [List.all_cons, Bool.and_eq_true] at g
    have ih := in_rel h f hs g.2
    unfold inV inD at ih ⊢
    rw [List.any_cons, List.any_cons, ih, eq_rel h1 h g.1 f]
theorem in_gen {a b : D} {S : Sto} {P : Bool → Prop} (h : (∃ xs, b = .tup xs ∧ flatD a = true ∧ xs.all flatD = true ∧ P (inD a xs)) ∨ ∃ xs, itemsL b S = some xs ∧ flatD a = true ∧ xs.all flatD = true ∧ P (inD a xs))
    {K : PySem.W.Frag} {T : List (Addr × Str)} {m : List Addr} {G H : Hp} {x y : V} (hp : Rp K T m S G H) (d1 : DR K m G a x) (d2 : DR K m G b y) : ∃ p vs, y = .ref p ∧ (SqL K H p vs ∨ SqT K H p vs) ∧ flatV x = true ∧ vs.all flatV = true ∧ P (inV x vs) := by
  rcases h with ⟨xs, rfl, f1, f2, h⟩ | ⟨xs, hi, f1, f2, h⟩
  · obtain ⟨p, vs, rfl, sq, dr⟩ := tup_at hp d2
    exact ⟨p, vs, rfl, .inr sq, flat_rel d1 f1, flats_rel dr f2, by rw [in_rel d1 f1 dr f2]; exact h⟩
  · obtain ⟨p, vs, rfl, sq, dr⟩ := items_at hp d2 hi
    exact ⟨p, vs, rfl, .inl sq, flat_rel d1 f1, flats_rel dr f2, by rw [in_rel d1 f1 dr f2]; exact h⟩
theorem opD_in : OpR X (compareOp .In) (lO X.K T dIn) := by
  intro pins s σ H x y v u Q I rx ry ⟨G, a, b, S, m, R, d1, d2, hp, h, hk⟩
  have h2 : (∃ xs, b = .tup xs ∧ flatD a = true ∧ xs.all flatD = true ∧ R (.bl (inD a xs)) S) ∨ ∃ xs, itemsL b S = some xs ∧ flatD a = true ∧ xs.all flatD = true ∧ R (.bl (inD a xs)) S := by
    unfold dIn at h
    split at h
    · exact .inl ⟨_, rfl, h⟩
    · exact .inr h
  obtain ⟨p, vs, e, sq, f1, f2, q⟩ := in_gen (P := fun z => R (.bl z) S) h2 hp d1 d2
  exact op_in_seq pins s σ H _ _ v u Q I rx ry ⟨p, vs, e, sq, f1, f2, hk.at q hp (.bl _)⟩
theorem opD_notIn : OpR X (compareOp .NotIn) (lO X.K T dNotIn) := by
  intro pins s σ H x y v u Q I rx ry ⟨G, a, b, S, m, R, d1, d2, hp, h, hk⟩
  have h2 : (∃ xs, b = .tup xs ∧ flatD a = true ∧ xs.all flatD = true ∧ R (.bl (!inD a xs)) S) ∨ ∃ xs, itemsL b S = some xs ∧ flatD a = true ∧ xs.all flatD = true ∧ R (.bl (!inD a xs)) S := by
    unfold dNotIn at h
    split at h
    · exact .inl ⟨_, rfl, h⟩
    · exact .inr h
  obtain ⟨p, vs, e, sq, f1, f2, q⟩ := in_gen (P := fun z => R (.bl (!z)) S) h2 hp d1 d2
  exact op_notIn_seq pins s σ H _ _ v u Q I rx ry ⟨p, vs, e, sq, f1, f2, hk.at q hp (.bl _)⟩
def wChain (f f' : F2) (a b c : WE') : WE' := fun env S R Rx => a env S (fun x S1 => b env S1 (fun y S2 => f x y S2 fun z S3 => ∃ k, z = .bl k ∧ if k = true then c env S3 (fun w S4 => f' y w S4 R) Rx else R (.bl false) S3) Rx) Rx
theorem pd_chain {op op' : CmpOp} {f f' : F2} {a b c : Expr} {wa wb wc : WE'} {pos : Pos} (ho : OpR X (compareOp op) (lO X.K T f)) (ho' : OpR X (compareOp op') (lO X.K T f')) (ha : PD X T W a wa) (hb : PD X T W b wb) (hc : PD X T W c wc)
    (hm : lastMarks [op, op'] [b, c] = false := by with_unfolding_all rfl) : PD X T W (.Compare a [op, op'] [b, c] pos) (wChain f f' wa wb wc) := by
  refine pe_imp (pe_chain ho ho' ha hb hc hm) fun σ H Q ⟨G, env, S, m, R, Rx, he, hp, h, hk, hx⟩ => ?_
  refine lE_of he hp h (fun x S1 v m1 G1 H1 h1 s1 p1 d1 => ?_) hx
  refine lE_of (he.mono hp s1) p1 h1 (fun y S2 u m2 G2 H2 h2 s2 p2 d2 => ?_) (hx.on s1)
  refine ⟨G2, x, y, S2, m2, _, d1.mono p1 s2, d2, p2, h2, fun z S3 zv m3 G3 H3 ⟨k, ek, h3⟩ s3 p3 d3 => ?_⟩
  subst ek
  cases d3
  refine ⟨k, rfl, ?_⟩
  have s13 := (s1.trans s2).trans s3
  cases k with
  | true =>
    refine lE_of (he.mono hp s13) p3 h3 (fun w S4 wv m4 G4 H4 h4 s4 p4 d4 => ?_) (hx.on s13)
    exact ⟨G4, y, w, S4, m4, R, (d2.mono p2 s3).mono p3 s4, d4, p4, h4, hk.on (s13.trans s4)⟩
  | false => exact hk.on s13 |>.at h3 p3 (.bl false)
theorem ptd_chain {op op' : CmpOp} {f f' : F2} {a b c : Expr} {wa wb wc : WE'} {pos : Pos} (ho : OpR X (compareOp op) (lO X.K T f)) (ho' : OpR X (compareOp op') (lO X.K T f')) (ha : PD X T W a wa) (hb : PD X T W b wb) (hc : PD X T W c wc)
    (hm : lastMarks [op, op'] [b, c] = false := by with_unfolding_all rfl) : PTD X T W (.Compare a [op, op'] [b, c] pos) (wB (wChain f f' wa wb wc)) := by
  refine pt_imp (pt_chain ho ho' ha hb hc hm) fun σ H Q ⟨G, env, S, m, R, Rx, he, hp, h, hk, hx⟩ => ?_
  refine lE_of he hp h (fun x S1 v m1 G1 H1 h1 s1 p1 d1 => ?_) hx
  refine lE_of (he.mono hp s1) p1 h1 (fun y S2 u m2 G2 H2 h2 s2 p2 d2 => ?_) (hx.on s1)
  refine ⟨G2, x, y, S2, m2, _, d1.mono p1 s2, d2, p2, h2, fun z S3 zv m3 G3 H3 ⟨k, ek, h3⟩ s3 p3 d3 => ?_⟩
  subst ek
  cases d3
  refine ⟨k, rfl, ?_⟩
  have s13 := (s1.trans s2).trans s3
  cases k with
  | true =>
    refine lE_of (he.mono hp s13) p3 h3 (fun w S4 wv m4 G4 H4 h4 s4 p4 d4 => ?_) (hx.on s13)
    refine ⟨G4, y, w, S4, m4, _, (d2.mono p2 s3).mono p3 s4, d4, p4, h4, fun z S5 v5 m5 G5 H5 ⟨k2, e2, h5⟩ s5 p5 d5 => ?_⟩
    subst e2
    cases d5
    exact ⟨k2, rfl, hk k2 S5 m5 G5 H5 h5 ((s13.trans s4).trans s5) p5⟩
  | false =>
    obtain ⟨k2, e2, h4⟩ := h3
    cases e2
    exact ⟨false, rfl, hk false S3 m3 G3 H3 h4 s13 p3⟩
end
section
variable {env : Vars} {S : Sto} {R : KR} {Rx : KX} {wa wb wc : WE'} {a b : D} {xs ys : List D} {i j : Int}
theorem r_chain {f f' : F2} (k : wa env S (fun x S1 => wb env S1 (fun y S2 => f x y S2 fun z S3 => ∃ k, z = .bl k ∧ if k = true then wc env S3 (fun w S4 => f' y w S4 R) Rx else R (.bl false) S3) Rx) Rx) : wChain f f' wa wb wc env S R Rx := k
theorem r_mulGI (h : CMulW i j) (k : R (.int (i * j)) S) : dMulG (.int i) (.int j) S R := ⟨h, k⟩
theorem r_mulGT (h0 : xs ≠ []) (h1 : 2 ≤ i) (h2 : i ≤ 1000) (h3 : xs.length ≤ 1000) (k : R (.tup (List.replicate i.toNat xs).flatten) S) : dMulG (.tup xs) (.int i) S R := ⟨h0, h1, h2, h3, k⟩
theorem r_mulGL (h0 : 0 ≤ i) (h1 : i ≤ 1000) (h2 : xs.length * i.toNat ≤ sizeLine) (k : R (.lst (List.replicate i.toNat xs).flatten) S) : dMulG (.lst xs) (.int i) S R := ⟨h0, h1, h2, k⟩
theorem r_inT (h : flatD a = true) (hs : xs.all flatD = true) (k : R (.bl (inD a xs)) S) : dIn a (.tup xs) S R := ⟨h, hs, k⟩
theorem r_notInT (h : flatD a = true) (hs : xs.all flatD = true) (k : R (.bl (!inD a xs)) S) : dNotIn a (.tup xs) S R := ⟨h, hs, k⟩
end
end DL

set_option maxHeartbeats 4000000
namespace DL
open PySem PySem.Spec PyProof.Rows L2
/-! ### slices -/
theorem cut_to {xs : List D} {k : Nat} : cutD xs none (some (k : Int)) = xs.take k := by
  unfold cutD
  rw [HT.sIx_nat, HT.sIx_none, List.drop_zero, Nat.sub_zero]
  by_cases h : k ≤ xs.length
  · rw [Nat.min_eq_left h]
  · rw [Nat.min_eq_right (by omega), List.take_of_length_le (Nat.le_refl _), List.take_of_length_le (by omega)]
theorem cut_from {xs : List D} {k : Nat} : cutD xs (some (k : Int)) none = xs.drop k := by
  unfold cutD
  rw [HT.sIx_nat, HT.sIx_none]
  by_cases h : k ≤ xs.length
  · rw [Nat.min_eq_left h, List.take_of_length_le (by rw [List.length_drop]; exact Nat.le_refl _)]
  · rw [Nat.min_eq_right (by omega), List.drop_of_length_le (Nat.le_refl _), List.drop_of_length_le (show xs.length ≤ k by omega), List.take_nil]
theorem cut_init {xs : List D} {d : D} : cutD (xs ++ [d]) none (some (-1)) = xs := by
  have hl : (xs ++ [d]).length = xs.length + 1 := by rw [List.length_append, List.length_singleton]
  have e : HT.sIx (xs ++ [d]).length (xs ++ [d]).length (some (-1)) = xs.length := by
    show (if (-1 : Int) < 0 then ((-1 : Int) + ((xs ++ [d]).length : Nat)).toNat else min (-1 : Int).toNat (xs ++ [d]).length) = xs.length
    rw [if_pos (by decide), hl]
    omega
  unfold cutD
  rw [e, HT.sIx_none, List.drop_zero, Nat.sub_zero]
  exact List.take_left
theorem at_last {xs : List D} {d : D} : atI (xs ++ [d]) (-1) = some d := by
  have e : ixN (xs ++ [d]).length (-1) = some xs.length := by
    unfold ixN
    rw [if_neg (by decide), List.length_append, List.length_singleton, if_pos (by omega)]
    congr 1
    omega
  unfold atI
  rw [e]
  show (xs ++ [d])[xs.length]? = some d
  rw [List.getElem?_append_right (Nat.le_refl _), Nat.sub_self]
  rfl
theorem r_cutT {S : Sto} {R : KR} {xs : List D} {lo hi : Option Int} (k : R (.tup (cutD xs lo hi)) S) : dCut (.tup xs) lo hi S R := k
theorem r_cutL {S : Sto} {R : KR} {xs : List D} {lo hi : Option Int} (k : R (.lst (cutD xs lo hi)) S) : dCut (.lst xs) lo hi S R := ⟨xs, rfl, k⟩
theorem r_lstT {S : Sto} {R : KR} {xs : List D} (k : R (.lst xs) S) : dLstOf [.tup xs] S R := k
theorem r_blT {S : Sto} {R : KR} {b : Bool} (hb : b = true) (k : R (.bl true) S) : R (.bl b) S := by
  rw [hb]
  exact k
end DL

set_option maxHeartbeats 4000000
namespace DL
open PySem PySem.Spec PyProof.Rows L2
/-! a tuple turned about: t[::-1] -/
theorem turned_places (many : Nat) : Builtin.Slice.slicePlaces ((many : Int) - 1) (-1) (-1) = many := by
  have no : ¬ ((-1 : Int) > 0) := by decide
  unfold Builtin.Slice.slicePlaces
  rw [if_neg no]
  by_cases z : many = 0
  · subst z
    rfl
  · rw [if_pos (by omega)]
    have e : ((many : Int) - 1 - -1 - 1) / (- -1) + 1 = (many : Int) := by
      rw [show (- -1 : Int) = 1 by decide, Int.ediv_one]
      omega
    rw [e]
    rfl
theorem turned_adjust (many : Nat) : Builtin.Slice.sliceAdjust none none (-1) (many : Int) = ((many : Int) - 1, -1) := rfl
theorem turned_pick {α : Type} (l : List α) : (List.range l.length).filterMap (fun (k : Nat) => l.toArray[(((l.length : Nat) : Int) - 1 + (k : Int) * -1).toNat]?) = l.reverse := by
  have key := pick_run l.reverse.toArray 0 l.length
  have e1 : (List.range l.length).map (fun x => 0 + x) = List.range l.length := by simp
  rw [e1] at key
  have e2 : (l.reverse.toArray.toList.drop 0).take l.length = l.reverse := by
    rw [List.drop_zero, List.take_of_length_le (by rw [List.length_reverse]; exact Nat.le_refl _)]
  rw [e2] at key
  rw [← key]
  have same : ∀ is : List Nat, (∀ k ∈ is, k < l.length) → is.filterMap (fun (k : Nat) => l.toArray[(((l.length : Nat) : Int) - 1 + (k : Int) * -1).toNat]?) = is.filterMap (fun x => l.reverse.toArray[x]?) := fun is => by
    induction is with
    | nil => exact fun _ => rfl
    | cons k is ih =>
      intro hk
      have h1 := hk k List.mem_cons_self
      have e : l.toArray[(((l.length : Nat) : Int) - 1 + (k : Int) * -1).toNat]? = l.reverse.toArray[k]? := by
        have e3 : (((l.length : Nat) : Int) - 1 + (k : Int) * -1).toNat = l.length - 1 - k := by omega
        rw [e3, List.getElem?_toArray, List.getElem?_toArray, List.getElem?_reverse h1]
      rw [List.filterMap_cons, List.filterMap_cons, e, ih fun j hj => hk j (List.mem_cons_of_mem _ hj)]
  exact same _ fun k hk => List.mem_range.mp hk
theorem turned_item {P : Program} {w : World} {A : Around} {Ex : Value → Shared → Prop} {s : Shared} {a sl : Addr} {its : List Value} {tk : Tok} {Q : Value → Shared → Prop} (hz : its.length ≤ sizeLine) (hi : IsTup s.heap a its.toArray) (hs : s.heap.IsSliceOf sl .none .none (.int (-1) tk))
    (k : Q (.ref s.heap.objs.size) { s with heap := s.heap.push { cls := .type "tuple", data := .seq its.reverse.toArray } }) : wpAny (model P w) A (getItem (.ref a) (.ref sl)) Q Ex s := by
  obtain ⟨o1, q1, q2, q3⟩ := id hs
  have isS : s.TypeIs (.ref sl) "slice" := ⟨o1, q1, q2⟩
  unfold getItem
  first | with_reducible refine wpAny_holding ?_ | skip
  first | skip; refine wpAny_bind (wpAny_pure ?_) | skip
  refine wpAny_bind (wpAny_sequenceKey hi.typeIs (by decide) ?_)
  refine wpAny_bind (wpAny_callSpecial?_slot (name := Str.ofString "__getitem__") hi.typeIs PyProof.Rows.slot_tuple_getitem (wpAny_call_entry PyProof.Rows.slot_tuple_getitem hi.typeIs entry_tuple_getitem ?_ (args_tuple_getitem _ _)))
  show wpAny (model P w) _ (Builtin.Tuple.tupleItemsOf (.ref a) >>= fun xs => _) _ _ s
  refine wpAny_bind (tupleItemsOf_ hi (wpAny_bind (wpAny_typeOf isS ?_)))
  rw [if_pos (by decide)]
  have sz : its.toArray.size = its.length := List.size_toArray
  have app : ∀ {Q2 : Int × Int × Nat → Shared → Prop} {B : Around} {Ex2 : Value → Shared → Prop}, Q2 ((its.length : Int) - 1, -1, its.length) s → wpAny (model P w) B (Builtin.Slice.sliceApplied (.ref sl) (pure ((its.toArray.size : Nat) : Int))) Q2 Ex2 s := fun {Q2 B Ex2} q => by
    rw [sz]
    unfold Builtin.Slice.sliceApplied Builtin.Slice.sliceFields
    refine wpAny_bind (wpAny_bind (wpAny_field q1 q3 (x := .none) rfl (wpAny_bind (wpAny_field q1 q3 (x := .none) rfl (wpAny_bind (wpAny_field q1 q3 (x := .int (-1) tk) rfl (wpAny_pure ?_)))))))
    refine wpAny_bind (slicePart_int ?_)
    show wpAny (model P w) _ (if ((-1 : Int) == 0) = true then _ else _) _ _ s
    rw [if_neg (by decide)]
    refine wpAny_bind (slicePart_none (wpAny_bind (slicePart_none (wpAny_bind (wpAny_pure ?_)))))
    show wpAny (model P w) _ (match Builtin.Slice.sliceAdjust none none (-1) (its.length : Int) with | (x, y) => pure (x, (-1 : Int), Builtin.Slice.slicePlaces x y (-1))) _ _ s
    rw [turned_adjust]
    show wpAny (model P w) _ (pure ((its.length : Int) - 1, (-1 : Int), Builtin.Slice.slicePlaces ((its.length : Int) - 1) (-1) (-1))) _ _ s
    rw [turned_places]
    exact wpAny_pure q
  refine wpAny_bind (app ?_)
  have no : ¬ ((((its.length : Int) - 1 == 0) && ((-1 : Int) == 1) && (its.length == its.toArray.size)) = true) := by
    rw [show ((-1 : Int) == 1) = false by decide, Bool.and_false, Bool.false_and]
    decide
  show wpAny (model P w) _ (if (((its.length : Int) - 1 == 0) && ((-1 : Int) == 1) && (its.length == its.toArray.size)) = true then _ else _) _ _ s
  rw [if_neg no, turned_pick]
  have fits : sizeOk (.seq its.reverse.toArray) := by
    show its.reverse.toArray.size ≤ sizeLine
    rw [List.size_toArray, List.length_reverse]
    exact hz
  first
    | exact wpAny_bind (m := Builtin.Tuple.tupleExact its.reverse.toArray) (wpAny_newObj_type (wpAny_pure ⟨_, rfl, wpAny_pure k⟩) fits)
    | exact wpAny_bind (m := Builtin.Tuple.tupleExact its.reverse.toArray) (wpAny_newObj_type (wpAny_bind (wpAny_pure (wpAny_pure ⟨_, rfl, wpAny_pure k⟩))) fits)
    | exact wpAny_bind (wpAny_bind (m := Builtin.Tuple.tupleExact its.reverse.toArray) (wpAny_newObj_type (wpAny_pure (wpAny_pure ⟨_, rfl, wpAny_pure k⟩)) fits))
    | exact wpAny_bind (wpAny_bind (m := Builtin.Tuple.tupleExact its.reverse.toArray) (wpAny_newObj_type (wpAny_pure ⟨_, rfl, wpAny_pure k⟩) fits))
def tTurn (K : PySem.W.Frag) (te : TE) : TE := fun σ H Q => te σ H fun x H1 => ∃ a xs, x = .ref a ∧ SqT K H1 a xs ∧ ∀ p, H1 p = none → Q (.ref p) (upd H1 p (.tup xs.reverse))
def wTurn (wa : WE') : WE' := fun env S R Rx => wa env S (fun d S1 => ∃ xs, d = .tup xs ∧ R (.tup xs.reverse) S1) Rx
section
variable {X : Cx} {T : List (Addr × Str)} {W : WX} {e : Expr} {wa : WE'} {k : Nat} {p1 p2 p3 pos : Pos}
theorem pe_turn {te : TE} (he : PE X e te) : PE X (.Subscript e (.Slice none none (some (.UnaryOp .USub (.Constant (.int 1) k p1) p2)) p3) pos) (tTurn X.K te) := by
  refine ⟨fun pins s σ H Q I h => Subscript_ (thn (he.run pins s σ H _ I h) fun v s1 ⟨x, H1, I1, r1, a, xs, ex, hx, q⟩ => ?_)⟩
  subst ex
  cases r1
  have st : PO X (some (.UnaryOp .USub (.Constant (.int 1) k p1) p2)) (tPart (tUn (rU fun i => .int (-i)) (tC (.int 1)))) := po_some (pe_un un_neg pe_int)
  refine wpAny_Slice (thn (po_none.run pins s1 σ H1 (fun o H2 => o = none ∧ H2 = H1) I1 ⟨rfl, rfl⟩) fun v1 s2 ⟨o1, H2, I2, n1, eo, eH⟩ => ?_)
  subst eo eH
  refine thn (po_none.run pins s2 σ H2 (fun o H3 => o = none ∧ H3 = H2) I2 ⟨rfl, rfl⟩) fun v2 s3 ⟨o2, H3, I3, n2, eo, eH⟩ => ?_
  subst eo eH
  refine thn (st.run pins s3 σ H3 (fun o H4 => o = some (-1) ∧ H4 = H3) I3 ⟨1, rfl, -1, rfl, rfl, rfl⟩) fun v3 s4 ⟨o3, H4, I4, n3, eo, eH⟩ => ?_
  subst eo eH
  cases n1
  cases n2
  cases n3 with
  | int _ tk =>
    have I5 : Inv X pins σ H4 { s4 with heap := s4.heap.push { cls := .type "slice", data := .fields #[.none, .none, .int (-1) tk] } } := I4.kept (t' := s4.toks) fun b ob q => Heap.get?_push_of_some _ q
    obtain ⟨its, r, ht, hz⟩ := I5.tuple hx
    have hl := r.length
    show wpAny (model X.prog X.w) X.A (subscriptTail e (.Slice none none (some (.UnaryOp .USub (.Constant (.int 1) k p1) p2)) p3) (.ref a) (.ref s4.heap.objs.size)) (EP X pins σ Q) X.xe { s4 with heap := s4.heap.push { cls := .type "slice", data := .fields #[.none, .none, .int (-1) tk] } }
    refine tail_any (ops := [.ref a, .ref s4.heap.objs.size]) ht.typeIs PyProof.Rows.slot_tuple_getitem.lookup ?_ (by with_unfolding_all rfl)
    refine turned_item (by omega) ht (Heap.IsSliceOf.new _ _ _ _) ?_
    refine ⟨.ref _, _, I5.laid (t' := s4.toks) (o := .tup xs.reverse) (fun b ob q => Heap.get?_push_of_some _ q) (Nat.le_refl _) ?_, rfl, q _ (I5.hok.fresh (Nat.le_refl _))⟩
    exact ⟨Nat.le_trans (Nat.le_of_eq List.length_reverse) hz, _, r.reverse, IsTup.new _ _⟩
theorem drs_rev {K : PySem.W.Frag} {m : List Addr} {G : Hp} : ∀ {ds : List D} {vs : List V}, DRs K m G ds vs → DRs K m G ds.reverse vs.reverse
  | [], _, .nil => .nil
  | _ :: _, _, .cons h1 h2 => by
    rw [List.reverse_cons, List.reverse_cons]
    exact (drs_rev h2).append (DRs.one h1)
theorem pd_turn (he : PD X T W e wa) : PD X T W (.Subscript e (.Slice none none (some (.UnaryOp .USub (.Constant (.int 1) k p1) p2)) p3) pos) (wTurn wa) := by
  refine pe_imp (pe_turn he) fun σ H Q ⟨G, env, S, m, R, Rx, he, hp, h, hk, hx⟩ => ?_
  refine lE_of he hp h (fun d S1 v m1 G1 H1 ⟨xs, ed, h1⟩ s1 p1 d1 => ?_) hx
  subst ed
  obtain ⟨a, vs, rfl, sq, dr⟩ := tup_at p1 d1
  refine ⟨a, vs, rfl, sq, fun p np => ?_⟩
  obtain ⟨r1, r2⟩ := p1.new (o := .tup vs.reverse) np
  exact hk _ S1 _ m1 _ _ h1 (s1.trans r2) r1 (.tup (SqT.of upd_same) ((drs_rev dr).mono p1 r2))
end
theorem r_turn {env : Vars} {S : Sto} {R : KR} {Rx : KX} {wa : WE'} (k : wa env S (fun d S1 => ∃ xs, d = .tup xs ∧ R (.tup xs.reverse) S1) Rx) : wTurn wa env S R Rx := k

/-! a call by names alone -/
def pickI {α : Type} (is : List Nat) (l : List α) : List α := is.filterMap fun i => l[i]?
theorem pick_vals : ∀ {is : List Nat} {vs : List V} {us : List Value}, Vals vs us → Vals (pickI is vs) (pickI is us)
  | [], _, _, _ => .nil
  | i :: is, vs, us, h => by
    have ih := pick_vals (is := is) h
    have at_ : ∀ {vs : List V} {us : List Value}, Vals vs us → ∀ i : Nat, (vs[i]? = none ∧ us[i]? = none) ∨ ∃ v u, vs[i]? = some v ∧ us[i]? = some u ∧ RelV v u := fun {vs us} h => by
      induction h with
      | nil => exact fun i => .inl ⟨rfl, rfl⟩
      | cons h1 h2 ih =>
        intro i
        cases i with
        | zero => exact .inr ⟨_, _, rfl, rfl, h1⟩
        | succ i => exact ih i
    unfold pickI at ih ⊢
    rcases at_ h i with ⟨e1, e2⟩ | ⟨v, u, e1, e2, r⟩
    · rw [List.filterMap_cons, List.filterMap_cons, e1, e2]
      exact ih
    · rw [List.filterMap_cons, List.filterMap_cons, e1, e2]
      exact .cons r ih
theorem drs_at {K : PySem.W.Frag} {m : List Addr} {G : Hp} : ∀ {ds : List D} {vs : List V}, DRs K m G ds vs → ∀ i : Nat, (ds[i]? = none ∧ vs[i]? = none) ∨ ∃ d v, ds[i]? = some d ∧ vs[i]? = some v ∧ DR K m G d v
  | [], _, .nil, _ => .inl ⟨rfl, rfl⟩
  | _ :: _, _, .cons h1 _, 0 => .inr ⟨_, _, rfl, rfl, h1⟩
  | _ :: _, _, .cons _ h2, i + 1 => drs_at h2 i
theorem pick_drs {K : PySem.W.Frag} {m : List Addr} {G : Hp} : ∀ {is : List Nat} {ds : List D} {vs : List V}, DRs K m G ds vs → DRs K m G (pickI is ds) (pickI is vs)
  | [], _, _, _ => .nil
  | i :: is, ds, vs, h => by
    have ih := pick_drs (is := is) h
    unfold pickI at ih ⊢
    rcases drs_at h i with ⟨e1, e2⟩ | ⟨v, u, e1, e2, r⟩
    · rw [List.filterMap_cons, List.filterMap_cons, e1, e2]
      exact ih
    · rw [List.filterMap_cons, List.filterMap_cons, e1, e2]
      exact .cons r ih
def KwB (fd : FuncData) (ps ks : List Str) (is : List Nat) : Prop := ∀ (s : Shared) (us : List Value), (pickI is us).length = ps.length → BindsTo s fd ⟨[], ks.zip us⟩ (ps.zip (pickI is us))
theorem kwB_of {K : PySem.W.Frag} {x qual : Str} {params : Arguments} {body : List Stmt} {scope : Scope} {kws : List (Str × V)} {f : Addr} {fd : FuncData} {ps ks : List Str} {is : List Nat} (F : FunD K x qual params body scope [] kws f fd)
    (h : ∀ (kV doc pm : Value) (an : Option Addr) (cdv ct : Value) (us : List Value), (pickI is us).length = ps.length → bindArgs (PySem.W.fnOf x qual params body scope .none kV doc pm an cdv ct) ⟨[], ks.zip us⟩ = pure (ps.zip (pickI is us))) : KwB fd ps ks is := by
  intro s us hl
  obtain ⟨oc, od, dV, kV, doc, pm, an, cdv, ct, osl, rfl, _, _, hD, _⟩ := F.ex
  rcases hD with ⟨_, rfl⟩ | ⟨e, _⟩
  · exact .of_eq (h kV doc pm an cdv ct us hl)
  · exact absurd rfl e
def wCallK (p : SpD) (n : Nat) (is : List Nat) (as : WA') : WE' := fun env S R Rx => as env S (fun ds S1 => (pickI is ds).length = n ∧ p (pickI is ds) S1 R (fun e S2 => Rx e env S2)) Rx
theorem r_callK {env : Vars} {S : Sto} {R : KR} {Rx : KX} {p : SpD} {n : Nat} {is : List Nat} {as : WA'} (k : as env S (fun ds S1 => (pickI is ds).length = n ∧ p (pickI is ds) S1 R (fun e S2 => Rx e env S2)) Rx) : wCallK p n is as env S R Rx := k
def PKD (X : Cx) (T : List (Addr × Str)) (W : WX) (kws : List Keyword) (w : WA') : Prop := PK X kws (lA X.K T W w)
theorem pk_imp {X : Cx} {kws : List Keyword} {t t' : TA} (h : PK X kws t) (i : ∀ σ H Q, t' σ H Q → t σ H Q) : PK X kws t' := ⟨fun pos pins s σ H Q I q => h.run pos pins s σ H Q I (i σ H Q q)⟩
section
variable {X : Cx} {T : List (Addr × Str)} {W : WX} {k : Nat} {f : Addr} {fd : FuncData} {ps ks : List Str} {is : List Nat} {p : SpD} {x : Str} {nm : Option Str} {pp pos kpos : Pos} {e : Expr} {kws : List Keyword} {wa : WE'} {as : WA'}
theorem pkd_nil : PKD X T W [] wAs0 := pk_imp pk_nil fun σ H Q ⟨G, env, S, m, R, Rx, he, hp, h, hk, hx⟩ => hk [] S [] m G H h Stp.refl hp .nil
theorem pkd_cons (ha : PD X T W e wa) (hr : PKD X T W kws as) : PKD X T W (⟨nm, e, kpos⟩ :: kws) (wAs1 wa as) := by
  refine pk_imp (pk_cons ha hr) fun σ H Q ⟨G, env, S, m, R, Rx, he, hp, h, hk, hx⟩ => ?_
  refine lE_of he hp h (fun x S1 v m1 G1 H1 h1 s1 p1 d1 => ?_) hx
  exact ⟨G1, env, S1, m1, _, Rx, he.mono hp s1, p1, h1, fun xs S2 vs m2 G2 H2 h2 s2 p2 d2 => hk _ S2 _ m2 G2 H2 h2 (s1.trans s2) p2 (.cons (d1.mono p1 s2) d2), hx.on s1⟩
theorem pd_callK {gd : Bool} (F : FnD gd X.prog X.w X.K X.mg X.base T k f fd ps p) (kb : KwB fd ps ks is) (hr : Room k X.A) (hgd : GdOk gd X.A) (hg : Gl X x) (hm : X.mg x = some (.ref f)) (hk : PySem.W.keepIn X.K (.ref f) = true) (tk : Takes X W) (ha : PKD X T W kws as)
    (hdb : (x == ("__debug__" : Str)) = false := by decide) (hall : (backToKw pos (keywordEach kws X.env)).all (·.1.isSome) = true := by rfl) (hks : (backToKw pos (keywordEach kws X.env)).filterMap (·.1) = ks := by rfl)
    (hpl : ((backTo pos (starEach [] X.env)).any (·.1) || (backToKw pos (keywordEach kws X.env)).any (·.1.isNone)) = false := by rfl) : PD X T W (.Call (.Name x pp) [] kws pos) (wCallK p ps.length is as) := by
  refine ⟨fun pins s σ H Q I ⟨G, env, S, m, R, Rx, hre, hp, h, hok, hx⟩ => ?_⟩
  refine wpAny_Call_Name_kw (ld_glob I hg hm ?_ hdb)
  refine PySem.W.callWith_KW0 (h₀ := X.base) I.ok.mod.kin hk hall (thn (ha.run pos pins s σ H (fun vs H1 => ∃ m1 G1 S1 xs, DRs X.K m1 G1 xs vs ∧ Rp X.K T m1 S1 G1 H1 ∧ RE X.K m1 G1 env σ ∧ ((pickI is xs).length = ps.length ∧ p (pickI is xs) S1 R (fun e S2 => Rx e env S2)) ∧ Okl X.K T m1 G1 H1 R Q ∧ Exl X.K T W m1 G1 H1 Rx) I
    ⟨G, env, S, m, _, Rx, hre, hp, h, fun xs S1 vs m1 G1 H1 h1 s1 p1 d1 => ⟨m1, G1, S1, xs, d1, p1, hre.mono hp s1, h1, hok.on s1, hx.on s1⟩, hx⟩) fun us s1 ⟨vs, H1, I1, r1, m1, G1, S1, xs, d1, p1, e1, ⟨hl1, h1⟩, k1, x1⟩ => ⟨I1.kIn, ?_⟩) hpl
  rw [hks]
  have d2 := pick_drs (is := is) d1
  have r2 := pick_vals (is := is) r1
  have l2 : (pickI is us).length = ps.length := by rw [← r2.length, ← d2.length]; exact hl1
  refine wpAny_call (codeAny_mono (F.run X.A X.stack s1 ⟨[], ks.zip us⟩ (pickI is us) (pickI is vs) (pickI is xs) S1 m1 G1 H1 R _ Q (WE W σ) hr hgd I1.env0 (kb s1 us l2) r2 d2 p1 hl1 h1 k1
    (fun e S' cls dd m' G' H' q1 q2 q3 q4 => x1 e env S' cls dd σ m' G' H' q1 q2 q3 (e1.mono p1 q2) q4)) fun rr s' hq => ?_)
  cases rr with
  | error er => exact passAt tk σ pins H1 s1 er s' I1 hq
  | ok fl =>
    cases fl with
    | ret u => exact I1.after hq
    | _ => exact False.elim hq
end
/-- what a call by names wants of a def -/
structure CalK (gd : Bool) (P : Program) (w : World) (K : PySem.W.Frag) (mg : Str → Option Value) (base : Heap) (T : List (Addr × Str)) (x : Str) (k n : Nat) (ks : List Str) (is : List Nat) (p : SpD) : Prop where
  ex : ∃ (f : Addr) (fd : FuncData) (ps : List Str), FnD gd P w K mg base T k f fd ps p ∧ KwB fd ps ks is ∧ ps.length = n ∧ mg x = some (.ref f) ∧ PySem.W.keepIn K (.ref f) = true
theorem CalK.up {gd : Bool} {P : Program} {w : World} {K : PySem.W.Frag} {mg : Str → Option Value} {base : Heap} {T : List (Addr × Str)} {x : Str} {j k n : Nat} {ks : List Str} {is : List Nat} {p : SpD} (C : CalK gd P w K mg base T x j n ks is p) (h : j ≤ k) : CalK gd P w K mg base T x k n ks is p := by
  obtain ⟨f, fd, ps, F, r⟩ := C.ex
  exact ⟨f, fd, ps, F.mono h, r⟩
section
variable {X : Cx} {T : List (Addr × Str)} {W : WX} {k n : Nat} {ks : List Str} {is : List Nat} {p : SpD} {x : Str} {pp pos : Pos} {kws : List Keyword} {as : WA'}
theorem pd_ownK {gd : Bool} (C : CalK gd X.prog X.w X.K X.mg X.base T x k n ks is p) (hr : Room k X.A) (hgd : GdOk gd X.A) (hg : Gl X x) (tk : Takes X W) (ha : PKD X T W kws as) (hdb : (x == ("__debug__" : Str)) = false := by decide)
    (hall : (backToKw pos (keywordEach kws X.env)).all (·.1.isSome) = true := by rfl) (hks : (backToKw pos (keywordEach kws X.env)).filterMap (·.1) = ks := by rfl)
    (hpl : ((backTo pos (starEach [] X.env)).any (·.1) || (backToKw pos (keywordEach kws X.env)).any (·.1.isNone)) = false := by rfl) : PD X T W (.Call (.Name x pp) [] kws pos) (wCallK p n is as) := by
  obtain ⟨f, fd, ps, F, kb, hl, hm, hk⟩ := C.ex
  rw [← hl]
  exact pd_callK F kb hr hgd hg hm hk tk ha hdb hall hks hpl
/-! list(t), a list that will grow -/
def dLstM : FL := fun ds S R => ∃ a xs, ds = [a] ∧ (a = .tup xs ∨ itemsL a S = some xs) ∧ R (.mu S.length) (S ++ [xs])
theorem cD_lstM : CallR X (.type "list") (lC X.K T dLstM) := by
  intro pins s σ H vs us Q I r ⟨G, ds, S, m, R, dr, hp, ⟨a, xs, e, h, hR⟩, hk⟩
  subst e
  obtain ⟨x, rfl, d1⟩ := one_of dr
  rcases h with rfl | h
  · obtain ⟨p, ws, rfl, sq, dw⟩ := tup_at hp d1
    refine call_list_of pins s σ H _ us Q I r ⟨p, ws, rfl, .inr sq, fun q np => ?_⟩
    obtain ⟨r1, r2, r3⟩ := hp.newMu np dw
    exact hk _ _ _ _ _ _ hR r2 r1 (.mu r3)
  · obtain ⟨p, ws, rfl, sq, dw⟩ := items_at hp d1 h
    refine call_list_of pins s σ H _ us Q I r ⟨p, ws, rfl, .inl sq, fun q np => ?_⟩
    obtain ⟨r1, r2, r3⟩ := hp.newMu np dw
    exact hk _ _ _ _ _ _ hR r2 r1 (.mu r3)
theorem r_lstM {S : Sto} {R : KR} {xs : List D} (k : R (.mu S.length) (S ++ [xs])) : dLstM [.tup xs] S R := ⟨_, xs, rfl, .inl rfl, k⟩
end
end DL

set_option maxHeartbeats 4000000
namespace DL
open PySem PySem.Spec PyProof.Rows L2

/-! x, y, z = a, b, c -/
def sPar3 (i j l : Nat) (as : WA') : WS' := fun env S E => as env S (fun ds S1 => ∃ x y z, ds = [x, y, z] ∧ E.nx (((env.set i (some x)).set j (some y)).set l (some z)) S1) E.ex
section
variable {X : Cx} {T : List (Addr × Str)} {W : WX} {as : WA'} {pos : Pos}
theorem psd_par3 (i j l : Nat) {x y z : Str} {a b c : Expr} {px py pz pt : Pos} {kt k2 pt2} (hc : X.calm = true) (hN : X.N.Nodup) (hi : X.N[i]? = some x) (hj : X.N[j]? = some y) (hl : X.N[l]? = some z) (hij : i ≠ j) (hil : i ≠ l) (hjl : j ≠ l)
    (hx : X.env.scope.names.lookup x = some .local) (hy : X.env.scope.names.lookup y = some .local) (hz : X.env.scope.names.lookup z = some .local) (h : PAD X T W [a, b, c] as)
    (hw : swappedStores [.Tuple [.Name x px, .Name y py, .Name z pz] kt pt] (.Tuple [a, b, c] k2 pt2) X.env = pure (some [x, y, z]))
    (hs : swapsWithSole [.Tuple [.Name x px, .Name y py, .Name z pz] kt pt] (.Tuple [a, b, c] k2 pt2) pos.line X.env = pure false := by rfl) :
    PSD X T W (.Assign [.Tuple [.Name x px, .Name y py, .Name z pz] kt pt] (.Tuple [a, b, c] k2 pt2) pos) (sPar3 i j l as) := by
  refine ps_imp (ps_par3 hc hN hi hj hl hij hil hjl hx hy hz h hw hs) fun D σ H ⟨G, env, S, m, E, he, hp, h, lk⟩ => ?_
  refine ⟨G, env, S, m, _, _, he, hp, h, fun ds S1 vs m1 G1 H1 ⟨d1, d2, d3, hd, h1⟩ s1 p1 dr => ?_, lk.ex⟩
  subst hd
  cases dr with
  | cons r1 r2 =>
    cases r2 with
    | cons r2 r3 =>
      cases r3 with
      | cons r3 r4 =>
        cases r4
        exact ⟨_, _, _, rfl, lk.nx _ S1 _ m1 G1 H1 h1 s1 p1 ((((he.mono hp s1).set r1).set r2).set r3)⟩
end
section
variable {env : Vars} {S : Sto} {E : Ds} {as : WA'} {a b c : D}
theorem r_par3 {i j l : Nat} (k : as env S (fun ds S1 => ∃ x y z, ds = [x, y, z] ∧ E.nx (((env.set i (some x)).set j (some y)).set l (some z)) S1) E.ex) : sPar3 i j l as env S E := k
theorem r_three {Q : D → D → D → Prop} (k : Q a b c) : ∃ x y z, [a, b, c] = [x, y, z] ∧ Q x y z := ⟨a, b, c, rfl, k⟩
end
end DL

set_option maxHeartbeats 4000000
namespace DL
open PySem PySem.Spec PyProof.Rows L2
/-- o[k] = .., as one of several targets -/
def gSubD (wo wk : WE') : WG' := fun d env S R => wo env S (fun o S2 => wk env S2 (fun k S3 => ∃ i z ds j, o = .mu i ∧ k = .int z ∧ S3[i]? = some ds ∧ ixN ds.length z = some j ∧ R env (S3.set i (ds.set j d))) noX) noX
theorem pgd_sub {X : Cx} {T : List (Addr × Str)} {W : WX} {o k : Expr} {p : Pos} {wo wk : WE'} (ho : PD X T W o wo) (hk : PD X T W k wk) (ha : PG X (.Subscript o k p) (gSub (lE X.K T W wo) (lE X.K T W wk) rSetL)) : PGD X T (.Subscript o k p) (gSubD wo wk) := by
  refine pg_imp ha fun v σ H Q ⟨G, d, env, S, m, R, d1, he, hp, h, hq⟩ => ?_
  refine ⟨G, env, S, m, _, _, he, hp, h, fun x S2 u m2 G2 H2 h2 s2 p2 d2 => ?_, exl_no⟩
  have he2 := he.mono hp s2
  refine ⟨G2, env, S2, m2, _, _, he2, p2, h2, fun y S3 z m3 G3 H3 h3 s3 p3 d3 => ?_, exl_no⟩
  obtain ⟨i, n, ds, j, rfl, rfl, hS, hj, hn⟩ := h3
  cases d3
  obtain ⟨a, vs, rfl, hm, hg, hh, dr⟩ := mu_at p3 (d2.mono p2 s3) hS
  obtain ⟨q1, q2⟩ := p3.put (vs := vs.set j v) hm (dr.set j ((d1.mono hp s2).mono p2 s3))
  exact ⟨a, vs, n, j, rfl, rfl, hh, by rw [← dr.length]; exact hj, hq _ _ _ _ _ _ hn ((s2.trans s3).trans q2) q1 ((he2.mono p2 s3).mono p3 q2)⟩
theorem r_gSub {wo wk : WE'} {d : D} {env : Vars} {S : Sto} {R : Vars → Sto → Prop} (k : wo env S (fun o S2 => wk env S2 (fun k S3 => ∃ i z ds j, o = .mu i ∧ k = .int z ∧ S3[i]? = some ds ∧ ixN ds.length z = some j ∧ R env (S3.set i (ds.set j d))) noX) noX) : gSubD wo wk d env S R := k
end DL

set_option maxHeartbeats 4000000
namespace DL
open PySem PySem.Spec PyProof.Rows L2
section
variable {X : Cx} {T : List (Addr × Str)} {W : WX}
/-- [x] * n, a list that will grow -/
def dMulM : F2 := fun a b S R => ∃ xs k, a = .lst xs ∧ b = .int k ∧ 0 ≤ k ∧ k ≤ 1000 ∧ xs.length * k.toNat ≤ sizeLine ∧ R (.mu S.length) (S ++ [(List.replicate k.toNat xs).flatten])
theorem opD_mulM : OpR X (binaryOp .Mult) (lO X.K T dMulM) := by
  intro pins s σ H x y v u Q I rx ry ⟨G, a, b, S, m, R, d1, d2, hp, ⟨xs, k, ea, eb, h1, h2, h3, h4⟩, hk⟩
  subst ea eb
  cases d2
  obtain ⟨p, vs, rfl, e, dr⟩ := items_atM hp d1 (xs := xs) rfl
  refine op_rep pins s σ H _ _ v u Q I rx ry ⟨p, k, vs, rfl, rfl, e, by omega, by omega, by rw [← dr.length]; exact h3, tell_mu hp hk (dr.rep _) h4⟩
theorem r_mulM {xs : List D} {k : Int} {S : Sto} {R : KR} (h0 : 0 ≤ k) (h1 : k ≤ 1000) (h2 : (xs.length * k.toNat).ble 1000 = true) (c : R (.mu S.length) (S ++ [(List.replicate k.toNat xs).flatten])) : dMulM (.lst xs) (.int k) S R :=
  ⟨xs, k, rfl, rfl, h0, h1, Nat.le_trans (Nat.le_of_ble_eq_true h2) (by decide), c⟩
/-- math.lcm -/
def dLcm : FL := fun ds S R => ∃ i j : Int, ds = [.int i, .int j] ∧ i.natAbs < 2 ^ 60 ∧ j.natAbs < 2 ^ 60 ∧ i.natAbs.lcm j.natAbs < 2 ^ 60 ∧ R (.int ((i.natAbs.lcm j.natAbs : Nat) : Int)) S
theorem cD_lcm : CallR X (.builtin "math.lcm") (lC X.K T dLcm) := by
  intro pins s σ H vs us Q I r ⟨G, ds, S, m, R, dr, hp, ⟨i, j, e, hi, hj, hl, h⟩, hk⟩
  subst e
  obtain ⟨x, y, rfl, d1, d2⟩ := two_of dr
  cases d1
  cases d2
  obtain ⟨t, u, rfl⟩ := Vals.int2 r
  refine PySem.W.mg_lcm_v (c := ((i.natAbs.lcm j.natAbs : Nat) : Int)) (Nat.lt_of_lt_of_le hi (by decide)) (Nat.lt_of_lt_of_le hj (by decide)) ?_ ?_ ?_
  · rw [Nat.lcm_one_left]
  · rw [Int.natAbs_natCast]
    exact Nat.lt_of_lt_of_le (PySem.Flt.log2_lt_of (by decide) hl) (by decide)
  · exact ⟨.int _, H, I.tok _, ⟨_, rfl⟩, hk.at h hp (.int _)⟩
theorem r_lcm {i j : Nat} {S : Sto} {R : KR} (hi : i < 2 ^ 60) (hj : j < 2 ^ 60) (hl : i.lcm j < 2 ^ 60) (k : R (.int ((i.lcm j : Nat) : Int)) S) : dLcm [.int (i : Int), .int (j : Int)] S R := by
  refine ⟨i, j, rfl, ?_, ?_, ?_, ?_⟩ <;> simp only [Int.natAbs_natCast] <;> assumption
/-- xs[::-1] of a list -/
def wRevL (w : WE') : WE' := fun env S R Rx => w env S (fun d S1 => ∃ xs, itemsL d S1 = some xs ∧ R (.lst xs.reverse) S1) Rx
theorem pd_revL2 {e : Expr} {w : WE'} {k : Nat} {p1 p2 p3 pos : Pos} (h : PD X T W e w) : PD X T W (.Subscript e (.Slice none none (some (.UnaryOp .USub (.Constant (.int 1) k p1) p2)) p3) pos) (wRevL w) := by
  refine pe_imp (pe_revL h) fun σ H Q ⟨G, env, S, m, R, Rx, he, hp, h, hk, hx⟩ => ?_
  refine lE_of he hp h (fun d S1 v m1 G1 H1 ⟨xs, h1, h2⟩ s1 p1 d1 => ?_) hx
  obtain ⟨a, vs, rfl, h3, h4⟩ := items_at p1 d1 h1
  refine ⟨a, vs, rfl, h3, ?_⟩
  exact tell_lst p1 (hk.on s1) (drs_rev h4) h2
theorem r_revL {w : WE'} {env : Vars} {S : Sto} {R : KR} {Rx : KX} (k : w env S (fun d S1 => ∃ xs, itemsL d S1 = some xs ∧ R (.lst xs.reverse) S1) Rx) : wRevL w env S R Rx := k
/-- sum(xs), max(xs) of a list of ints -/
def dSumL : FL := fun ds S R => ∃ (a : D) (ns : List Int), ds = [a] ∧ itemsL a S = some (ns.map D.int) ∧ R (.int ns.sum) S
theorem ints_vs {K : PySem.W.Frag} {m : List Addr} {G : Hp} : ∀ {ns : List Int} {vs : List V}, DRs K m G (ns.map D.int) vs → vs = ns.map V.int
  | [], _, .nil => rfl
  | n :: ns, _, .cons h t => by
    cases h
    rw [ints_vs t]
    rfl
theorem cD_sumL (hc : X.calm = true) : CallR X (.builtin "sum") (lC X.K T dSumL) := by
  intro pins s σ H vs us Q I r ⟨G, ds, S, m, R, dr, hp, ⟨a, ns, e, h1, h⟩, hk⟩
  subst e
  obtain ⟨x, rfl, d1⟩ := one_of dr
  obtain ⟨p, ws, rfl, h3, h4⟩ := items_at hp d1 h1
  have := ints_vs h4
  subst this
  exact cr_sum hc pins s σ H _ us Q I r ⟨p, ns, rfl, h3, hk.at h hp (.int _)⟩
theorem r_sumL {ns : List Int} {S : Sto} {R : KR} (k : R (.int ns.sum) S) : dSumL [.lst (ns.map D.int)] S R := ⟨_, ns, rfl, rfl, k⟩
end
/-! a comprehension within one -/
theorem relabel_at {env : Env} {x : Str} : ∀ {names : List (Str × NameKind)}, (match names.lookup x with | some .cell => true | some .free => true | _ => false) = true →
    (match (names.map fun (n, k) => if (k == NameKind.free && env.scope.kind == .function && env.kindOf n == some .cell) then (n, NameKind.cell) else (n, k)).lookup x with | some .cell => true | some .free => true | _ => false) = true
  | [], h => by simp at h
  | (n, k) :: r, h => by
    have ih := relabel_at (env := env) (x := x) (names := r)
    show (match ((if (k == NameKind.free && env.scope.kind == .function && env.kindOf n == some .cell) = true then (n, NameKind.cell) else (n, k)) :: (r.map fun (n, k) => if (k == NameKind.free && env.scope.kind == .function && env.kindOf n == some .cell) then (n, NameKind.cell) else (n, k))).lookup x with | some .cell => true | some .free => true | _ => false) = true
    have e2 : ∀ q : NameKind, (match ((n, q) :: r).lookup x with | some .cell => true | some .free => true | _ => false) = true → (match ((n, q) :: (r.map fun (n, k) => if (k == NameKind.free && env.scope.kind == .function && env.kindOf n == some .cell) then (n, NameKind.cell) else (n, k))).lookup x with | some .cell => true | some .free => true | _ => false) = true := fun q h => by
      simp only [List.lookup_cons] at h ⊢
      cases e : x == n with
      | true =>
        rw [e] at h
        exact h
      | false =>
        rw [e] at h
        exact ih h
    by_cases c : (k == NameKind.free && env.scope.kind == .function && env.kindOf n == some .cell) = true
    · rw [if_pos c]
      refine e2 .cell ?_
      simp only [List.lookup_cons] at h ⊢
      cases e : x == n with
      | true => rfl
      | false =>
        rw [e] at h
        exact h
    · rw [if_neg c]
      exact e2 k h
theorem blkOk_rel {N : List Str} {sc scope : Scope} {own : List (Str × Nat)} {env : Env} (h : blkC N sc scope own = true) : BlkOk N (relabel sc env) scope own := by
  refine blkOk_by ?_
  unfold blkC at h ⊢
  simp only [Bool.and_eq_true] at h ⊢
  obtain ⟨h1, h4⟩ := h
  refine ⟨h1, ?_⟩
  rw [List.all_eq_true] at h4 ⊢
  intro y hy
  have := h4 y hy
  cases e : y.2 <;> rw [e] at this <;> first | exact relabel_at this | exact this | rfl
end DL

set_option maxHeartbeats 4000000
namespace DL
open PySem PySem.Spec PyProof.Rows L2
/-! `str` of a number -/
variable {X : Cx} {T : List (Addr × Str)}
def dStrI : FL := fun ds S R => match ds with
  | [.int i] => i.natAbs.log2 < 1920 ∧ R (.str (toString i)) S
  | _ => False
theorem cD_strI : CallR X (.type "str") (lC X.K T dStrI) := by
  intro pins s σ H vs us Q I r ⟨G, ds, S, m, R, dr, hp, h, hk⟩
  match ds, h with
  | [.int i], h =>
    obtain ⟨x, rfl, d1⟩ := one_of dr
    cases d1
    exact call_str_int pins s σ H _ us Q I r ⟨i, rfl, h.1, hk.at h.2 hp (.str _)⟩
end DL

set_option maxHeartbeats 0
set_option maxHeartbeats 4000000
set_option maxHeartbeats 0
namespace DL
open PySem PySem.Spec PyProof.Rows L2
abbrev known : List Str := ["NoRow", "NoTellings"]
def topS (i : Nat) : Stmt := PySem.Challenge.pw_gunclocks_k35_rows_that_keep_tellings.main.body.getD i (.Pass ⟨0, 0, 0, 0⟩)
abbrev s_is_whole : Stmt := topS 24
abbrev s_is_part : Stmt := topS 25
abbrev s_difference_of : Stmt := topS 26
abbrev s_is_below : Stmt := topS 27
abbrev s_is_clock_number : Stmt := topS 31
abbrev s_are_bounds : Stmt := topS 32
abbrev s_is_telling : Stmt := topS 33
abbrev s_are_tellings : Stmt := topS 34
abbrev s_is_row : Stmt := topS 35
abbrev s_check_tellings : Stmt := topS 36
abbrev s_check_row : Stmt := topS 37
abbrev s_is_between : Stmt := topS 38
abbrev s_is_kept : Stmt := topS 39
abbrev s_kept_by : Stmt := topS 41
abbrev s_law_cell_at : Stmt := topS 43
abbrev s_law_next : Stmt := topS 44
abbrev s_law_pen_of : Stmt := topS 45
abbrev s_law_draw : Stmt := topS 46
abbrev s_law_made : Stmt := topS 47
abbrev s_law_plus : Stmt := topS 48
abbrev s_law_minus : Stmt := topS 49
abbrev s_law_product : Stmt := topS 50
abbrev s_law_by : Stmt := topS 51
abbrev s_law_below : Stmt := topS 52
abbrev s_law_total : Stmt := topS 53
abbrev s_law_whole : Stmt := topS 54
abbrev s_law_is_part : Stmt := topS 55
abbrev s_law_is_clock : Stmt := topS 56
abbrev s_law_part : Stmt := topS 57
abbrev s_law_above : Stmt := topS 58
abbrev s_law_odd : Stmt := topS 59
abbrev s_law_telling : Stmt := topS 60
abbrev s_law_tellings : Stmt := topS 61
abbrev s_law_together : Stmt := topS 62
abbrev s_law_flags : Stmt := topS 63
abbrev s_law_said : Stmt := topS 64
abbrev s_law_due : Stmt := topS 65
abbrev s_law_edge : Stmt := topS 66
abbrev s_law_is_row : Stmt := topS 67
abbrev s_law : Stmt := topS 68
def d_is_whole : He.DefD := ⟨("is_whole", none), "is_whole", "is_whole", defArgs s_is_whole, defBody s_is_whole, defScope s_is_whole, [], []⟩
def d_is_part : He.DefD := ⟨("is_part", none), "is_part", "is_part", defArgs s_is_part, defBody s_is_part, defScope s_is_part, [], []⟩
def d_difference_of : He.DefD := ⟨("difference_of", none), "difference_of", "difference_of", defArgs s_difference_of, defBody s_difference_of, defScope s_difference_of, [], []⟩
def d_is_below : He.DefD := ⟨("is_below", none), "is_below", "is_below", defArgs s_is_below, defBody s_is_below, defScope s_is_below, [], []⟩
def d_is_clock_number : He.DefD := ⟨("is_clock_number", none), "is_clock_number", "is_clock_number", defArgs s_is_clock_number, defBody s_is_clock_number, defScope s_is_clock_number, [], []⟩
def d_are_bounds : He.DefD := ⟨("are_bounds", none), "are_bounds", "are_bounds", defArgs s_are_bounds, defBody s_are_bounds, defScope s_are_bounds, [], []⟩
def d_is_telling : He.DefD := ⟨("is_telling", none), "is_telling", "is_telling", defArgs s_is_telling, defBody s_is_telling, defScope s_is_telling, [], []⟩
def d_are_tellings : He.DefD := ⟨("are_tellings", none), "are_tellings", "are_tellings", defArgs s_are_tellings, defBody s_are_tellings, defScope s_are_tellings, [], []⟩
def d_is_row : He.DefD := ⟨("is_row", none), "is_row", "is_row", defArgs s_is_row, defBody s_is_row, defScope s_is_row, [], []⟩
def d_check_tellings : He.DefD := ⟨("check_tellings", none), "check_tellings", "check_tellings", defArgs s_check_tellings, defBody s_check_tellings, defScope s_check_tellings, [], []⟩
def d_check_row : He.DefD := ⟨("check_row", none), "check_row", "check_row", defArgs s_check_row, defBody s_check_row, defScope s_check_row, [], []⟩
def d_is_between : He.DefD := ⟨("is_between", none), "is_between", "is_between", defArgs s_is_between, defBody s_is_between, defScope s_is_between, [], []⟩
def d_is_kept : He.DefD := ⟨("is_kept", none), "is_kept", "is_kept", defArgs s_is_kept, defBody s_is_kept, defScope s_is_kept, [], []⟩
def d_kept_by : He.DefD := ⟨("kept_by", none), "kept_by", "kept_by", defArgs s_kept_by, defBody s_kept_by, defScope s_kept_by, [], []⟩
def d_law_cell_at : He.DefD := ⟨("_law_cell_at", none), "_law_cell_at", "_law_cell_at", defArgs s_law_cell_at, defBody s_law_cell_at, defScope s_law_cell_at, [], []⟩
def d_law_next : He.DefD := ⟨("_law_next", none), "_law_next", "_law_next", defArgs s_law_next, defBody s_law_next, defScope s_law_next, [], []⟩
def d_law_pen_of : He.DefD := ⟨("_law_pen_of", none), "_law_pen_of", "_law_pen_of", defArgs s_law_pen_of, defBody s_law_pen_of, defScope s_law_pen_of, [], []⟩
def d_law_draw : He.DefD := ⟨("_law_draw", none), "_law_draw", "_law_draw", defArgs s_law_draw, defBody s_law_draw, defScope s_law_draw, [], []⟩
def d_law_made : He.DefD := ⟨("_law_made", none), "_law_made", "_law_made", defArgs s_law_made, defBody s_law_made, defScope s_law_made, [], []⟩
def d_law_plus : He.DefD := ⟨("_law_plus", none), "_law_plus", "_law_plus", defArgs s_law_plus, defBody s_law_plus, defScope s_law_plus, [], []⟩
def d_law_minus : He.DefD := ⟨("_law_minus", none), "_law_minus", "_law_minus", defArgs s_law_minus, defBody s_law_minus, defScope s_law_minus, [], []⟩
def d_law_below : He.DefD := ⟨("_law_below", none), "_law_below", "_law_below", defArgs s_law_below, defBody s_law_below, defScope s_law_below, [], []⟩
def d_law_whole : He.DefD := ⟨("_law_whole", none), "_law_whole", "_law_whole", defArgs s_law_whole, defBody s_law_whole, defScope s_law_whole, [], []⟩
def d_law_is_part : He.DefD := ⟨("_law_is_part", none), "_law_is_part", "_law_is_part", defArgs s_law_is_part, defBody s_law_is_part, defScope s_law_is_part, [], []⟩
def d_law_part : He.DefD := ⟨("_law_part", none), "_law_part", "_law_part", defArgs s_law_part, defBody s_law_part, defScope s_law_part, [], []⟩
def d_law_above : He.DefD := ⟨("_law_above", none), "_law_above", "_law_above", defArgs s_law_above, defBody s_law_above, defScope s_law_above, [], []⟩
def d_law_odd : He.DefD := ⟨("_law_odd", none), "_law_odd", "_law_odd", defArgs s_law_odd, defBody s_law_odd, defScope s_law_odd, [], []⟩
def d_law_telling : He.DefD := ⟨("_law_telling", none), "_law_telling", "_law_telling", defArgs s_law_telling, defBody s_law_telling, defScope s_law_telling, [], []⟩
def d_law_tellings : He.DefD := ⟨("_law_tellings", none), "_law_tellings", "_law_tellings", defArgs s_law_tellings, defBody s_law_tellings, defScope s_law_tellings, [], []⟩
def d_law_flags : He.DefD := ⟨("_law_flags", none), "_law_flags", "_law_flags", defArgs s_law_flags, defBody s_law_flags, defScope s_law_flags, [], []⟩
def d_law_said : He.DefD := ⟨("_law_said", none), "_law_said", "_law_said", defArgs s_law_said, defBody s_law_said, defScope s_law_said, [], []⟩
def d_law_due : He.DefD := ⟨("_law_due", none), "_law_due", "_law_due", defArgs s_law_due, defBody s_law_due, defScope s_law_due, [], []⟩
def d_law_edge : He.DefD := ⟨("_law_edge", none), "_law_edge", "_law_edge", defArgs s_law_edge, defBody s_law_edge, defScope s_law_edge, [], []⟩
def d_law_is_row : He.DefD := ⟨("_law_is_row", none), "_law_is_row", "_law_is_row", defArgs s_law_is_row, defBody s_law_is_row, defScope s_law_is_row, [], []⟩
def d_law : He.DefD := ⟨("law", none), "law", "law", defArgs s_law, defBody s_law, defScope s_law, [], []⟩
def fns0 : List He.DefD := [d_is_whole, d_is_part, d_difference_of, d_is_below, d_is_clock_number, d_are_bounds, d_is_telling, d_are_tellings, d_is_row, d_check_tellings, d_check_row, d_is_between]
def fns1 : List He.DefD := [d_is_kept, d_kept_by, d_law_cell_at, d_law_next, d_law_pen_of, d_law_draw, d_law_made, d_law_plus, d_law_minus, d_law_below, d_law_whole, d_law_is_part]
def fns2 : List He.DefD := [d_law_part, d_law_above, d_law_odd, d_law_telling, d_law_tellings, d_law_flags, d_law_said, d_law_due, d_law_edge, d_law_is_row, d_law]
def fns : List He.DefD := fns0 ++ fns1 ++ fns2
def fas0 : List He.Fa := [.glo "is_whole", .glo "is_part", .glo "difference_of", .glo "is_below", .glo "is_clock_number", .glo "are_bounds", .glo "is_telling", .glo "are_tellings", .glo "is_row", .glo "check_tellings", .glo "check_row", .glo "is_between"]
def fas1 : List He.Fa := [.glo "is_kept", .glo "kept_by", .glo "_law_cell_at", .glo "_law_next", .glo "_law_pen_of", .glo "_law_draw", .glo "_law_made", .glo "_law_plus", .glo "_law_minus", .glo "_law_below", .glo "_law_whole", .glo "_law_is_part"]
def fas2 : List He.Fa := [.glo "_law_part", .glo "_law_above", .glo "_law_odd", .glo "_law_telling", .glo "_law_tellings", .glo "_law_flags", .glo "_law_said", .glo "_law_due", .glo "_law_edge", .glo "_law_is_row", .glo "law", .glo "NoPart"]
def fas3 : List He.Fa := [.glo "NoNumber", .glo "NoMoment", .glo "NoClock", .glo "NoHour", .glo "NoTelling", .glo "NoTellings", .glo "NoRow", .glo "Apart", .glo "Twice", .glo "Missing", .glo "NoDeed", .glo "NoAir"]
def fas4 : List He.Fa := [.glo "NoSignal", .glo "NoQuarrel", .glo "NoCarriage", .glo "NoLine", .glo "TooMany", .glo "NoText", .glo "ClockError", .free "len", .free "isinstance", .free "tuple", .free "int", .free "bool"]
def fas5 : List He.Fa := [.free "abs", .free "max", .free "min", .free "range", .free "all", .free "any", .free "zip", .free "list", .free "repr", .free "enumerate", .free "str", .free "LookupError"]
def fas6 : List He.Fa := [.free "TypeError", .free "ArithmeticError", .free "RuntimeError", .free "ValueError", .free "sum", .free "sorted", .int "CLOCKS" 6, .int "MOST_TELLINGS" 16, .glo "NOUGHT", .exc "NoTellings", .exc "NoRow"]
def fas : List He.Fa := fas0 ++ fas1 ++ fas2 ++ fas3 ++ fas4 ++ fas5 ++ fas6
def tfs : List He.Defn := [("law", none)]
def exs (K : PySem.W.Frag) : Bool := (He.tupB K "NOUGHT" [.int 0, .int 1] && (He.eqO (PySem.W.nsIn K mainGlobals "gcd") (some (some (.builtin "math.gcd"))) && (errB K "NoRow" && (errB K "NoTellings" && apartB K tfs))))
abbrev Rw : PySem.W.OpenRow := PySem.W.OpenLaw.row PySem.Challenge.rw_gunclocks_k35_rows_that_keep_tellings
abbrev hkX : PySem.W.Hook := He.hookX 4 fas fns [] tfs exs
def obX (s : PySem.W.SharedT) : He.AlX := He.obsX 4 fas fns [] tfs exs (HandSHeadRun.getT s)
theorem obX_eq (s : PySem.W.SharedT) : obX s = hkX.obs s.abs := He.obsX_eq (HandSHeadRun.getT_eq s)
def nm0 : List PySem.Str := ["ClockError", "NoPart", "NoNumber", "NoMoment", "NoClock", "NoHour", "NoTelling", "NoTellings", "NoRow", "Apart", "Twice", "Missing"]
def nm1 : List PySem.Str := ["NoDeed", "NoAir", "NoSignal", "NoQuarrel", "NoCarriage", "NoLine", "TooMany", "NoText", "NOUGHT", "is_whole", "is_part", "difference_of"]
def nm2 : List PySem.Str := ["is_below", "CLOCKS", "MOST_TELLINGS", "is_clock_number", "are_bounds", "is_telling", "are_tellings", "is_row", "check_tellings", "check_row", "is_between", "is_kept"]
def nm3 : List PySem.Str := ["kept_by", "_law_cell_at", "_law_next", "_law_pen_of", "_law_draw", "_law_made", "_law_plus", "_law_minus", "_law_product", "_law_by", "_law_below", "_law_total"]
def nm4 : List PySem.Str := ["_law_whole", "_law_is_part", "_law_is_clock", "_law_part", "_law_above", "_law_odd", "_law_telling", "_law_tellings", "_law_together", "_law_flags", "_law_said", "_law_due"]
def nm5 : List PySem.Str := ["_law_edge", "_law_is_row"]
def nms : List PySem.Str := nm0 ++ nm1 ++ nm2 ++ nm3 ++ nm4 ++ nm5
theorem runX (w : World) : HandSHeadRun.RunEqI Rw (PySem.W.view Rw.prog [0, 68]) hkX obX 9000 nms w := by
  unfold HandSHeadRun.RunEqI
  kernel_rfl

end DL

set_option maxHeartbeats 4000000
namespace DL
open PySem PySem.Spec PyProof.Rows L2
structure Fr (mg : Str → Option Value) : Prop where
  len_ : mg "len" = none
  isinstance_ : mg "isinstance" = none
  tuple_ : mg "tuple" = none
  int_ : mg "int" = none
  bool_ : mg "bool" = none
  abs_ : mg "abs" = none
  max_ : mg "max" = none
  min_ : mg "min" = none
  range_ : mg "range" = none
  all_ : mg "all" = none
  any_ : mg "any" = none
  zip_ : mg "zip" = none
  list_ : mg "list" = none
  repr_ : mg "repr" = none
  enumerate_ : mg "enumerate" = none
  str_ : mg "str" = none
  LookupError_ : mg "LookupError" = none
  TypeError_ : mg "TypeError" = none
  ArithmeticError_ : mg "ArithmeticError" = none
  RuntimeError_ : mg "RuntimeError" = none
  ValueError_ : mg "ValueError" = none
  sum_ : mg "sum" = none
  sorted_ : mg "sorted" = none

def isWhole : D → Bool
  | .int _ => true
  | _ => false
def isPart : D → Bool
  | .tup [.int a, .int b] => decide (0 < b) && decide (Nat.gcd a.natAbs b.natAbs = 1)
  | _ => false
def p_is_whole : SpD := fun ds S R _ => ∃ d, ds = [d] ∧ plainD d = true ∧ R (.bl (isWhole d)) S
/-- of a tuple: its items plain -/
def plain2 : D → Bool
  | .tup [a, b] => plainD a && plainD b
  | d => plainD d
def p_is_part : SpD := fun ds S R _ => ∃ d, ds = [d] ∧ plain2 d = true ∧ R (.bl (isPart d)) S
def p_check_part (K : PySem.W.Frag) : SpD := fun ds S R Rx => ∃ d, ds = [d] ∧ plain2 d = true ∧ (isPart d = true → R .non S) ∧ (isPart d = false → Rx (erO K "NoPart") S)
theorem nat_ne {b : Int} (h : b ≠ 0) : b.natAbs ≠ 0 := by omega
/-- top over bottom, of either sign -/
def over (a b : Int) (h : b ≠ 0) : Rat := Rat.normalize (if b < 0 then -a else a) b.natAbs (nat_ne h)
def p_lowest : SpD := fun ds S R _ => ∃ (a b : Int) (h : b ≠ 0), ds = [.int a, .int b] ∧ b.natAbs < 2 ^ 9000 ∧ R (pt (over a b h)) S
abbrev Sm (q : Rat) : Prop := Sz 4000 q
def p_sum_of : SpD := fun ds S R _ => ∃ p q : Rat, ds = [pt p, pt q] ∧ Sm p ∧ Sm q ∧ R (pt (p + q)) S
def p_product_of : SpD := fun ds S R _ => ∃ p q : Rat, ds = [pt p, pt q] ∧ Sm p ∧ Sm q ∧ R (pt (p * q)) S
def p_difference_of : SpD := fun ds S R _ => ∃ p q : Rat, ds = [pt p, pt q] ∧ Sm p ∧ Sm q ∧ R (pt (p - q)) S
def p_is_below : SpD := fun ds S R _ => ∃ p q : Rat, ds = [pt p, pt q] ∧ Sm p ∧ Sm q ∧ R (.bl (decide (p < q))) S
def p_opposite : SpD := fun ds S R _ => ∃ p : Rat, ds = [pt p] ∧ R (pt (-p)) S
/-- a part from 0 on -/
def isUp : D → Bool
  | .tup [.int a, .int b] => isPart (.tup [.int a, .int b]) && decide (0 ≤ a)
  | _ => false
def p_is_from_nought : SpD := fun ds S R _ => ∃ d, ds = [d] ∧ plain2 d = true ∧ R (.bl (isUp d)) S
def two (K : PySem.W.Frag) (f : Rat → Rat → D) : SpD := fun ds S R Rx => ∃ a b, ds = [a, b] ∧ plain2 a = true ∧ (isPart a = true → plain2 b = true) ∧ (isPart a = false → Rx (erO K "NoPart") S) ∧ (isPart a = true → isPart b = false → Rx (erO K "NoPart") S) ∧
  ∀ p q : Rat, a = pt p → b = pt q → Sm p ∧ Sm q ∧ R (f p q) S
def p_added (K : PySem.W.Frag) : SpD := two K fun p q => pt (p + q)
def p_less (K : PySem.W.Frag) : SpD := two K fun p q => pt (p - q)
def p_times (K : PySem.W.Frag) : SpD := two K fun p q => pt (p * q)
def p_is_less (K : PySem.W.Frag) : SpD := two K fun p q => .bl (decide (p < q))
theorem isPart_pt (q : Rat) : isPart (pt q) = true := by
  show (decide (0 < (q.den : Int)) && decide (Nat.gcd q.num.natAbs (q.den : Int).natAbs = 1)) = true
  have h1 := q.den_nz
  have h2 : Nat.gcd q.num.natAbs q.den = 1 := q.reduced
  rw [Bool.and_eq_true]
  refine ⟨decide_eq_true (by omega), decide_eq_true ?_⟩
  rw [Int.natAbs_natCast]
  exact h2
theorem isPart_at {d : D} (h : isPart d = true) : ∃ q : Rat, d = pt q := by
  unfold isPart at h
  split at h
  · rename_i a b
    obtain ⟨h1, h2⟩ := Bool.and_eq_true_iff.mp h
    have h1 := of_decide_eq_true h1
    have h2 := of_decide_eq_true h2
    refine ⟨⟨a, b.natAbs, by omega, h2⟩, ?_⟩
    show D.tup [.int a, .int b] = .tup [.int a, .int (b.natAbs : Int)]
    rw [Int.natAbs_of_nonneg (by omega)]
  · cases h
theorem pt_inj {p q : Rat} (h : pt p = pt q) : p = q := by
  have h1 : D.tup [.int p.num, .int p.den] = .tup [.int q.num, .int q.den] := h
  injection h1 with h2
  injection h2 with h3 h4
  injection h3 with h3
  injection h4 with h4 h5
  injection h4 with h4
  exact Rat.ext h3 (by omega)
theorem cm_of {i j : Int} {n m : Nat} (hi : i.natAbs < 2 ^ n) (hj : j.natAbs < 2 ^ m) (h : n + m ≤ 900000) : CMulW i j :=
  wide_mul (a := n + 1) (b := m + 1) (Nat.lt_of_lt_of_le hi (Nat.pow_le_pow_right (by decide) (by omega))) (Nat.lt_of_lt_of_le hj (Nat.pow_le_pow_right (by decide) (by omega))) (by omega) (by omega) (by omega)
theorem Sm.n {q : Rat} (h : Sm q) : q.num.natAbs < 2 ^ 4000 := h.1
theorem Sm.d {q : Rat} (h : Sm q) : (q.den : Int).natAbs < 2 ^ 4000 := by
  rw [Int.natAbs_natCast]
  exact h.2
theorem den_mul {p q : Rat} (hp : Sm p) (hq : Sm q) : p.den * q.den < 2 ^ 9000 := by
  have := Nat.mul_lt_mul'' hp.2 hq.2
  rw [← Nat.pow_add] at this
  exact Nat.lt_of_lt_of_le this (Nat.pow_le_pow_right (by decide) (by decide))
theorem den_nz2 (p q : Rat) : p.den * q.den ≠ 0 := Nat.mul_ne_zero p.den_nz q.den_nz
theorem log_of {n k : Nat} (h : n < 2 ^ k) (hk : 0 < k) : n.log2 < k := PySem.Flt.log2_lt_of hk h
theorem fdiv_nat {a : Int} {g : Nat} : a.fdiv (g : Int) = a / (g : Int) := Int.fdiv_eq_ediv_of_nonneg a (by omega)
theorem gcd_pos' {a : Int} {b : Nat} (h : b ≠ 0) : 0 < a.natAbs.gcd b := Nat.gcd_pos_of_pos_right _ (Nat.pos_of_ne_zero h)
theorem r_ixP0 {S : Sto} {R : KR} {q : Rat} (k : R (.int q.num) S) : dIx (pt q) (.int 0) S R := ⟨_, atI_0, k⟩
theorem r_ixP1 {S : Sto} {R : KR} {q : Rat} (k : R (.int q.den) S) : dIx (pt q) (.int 1) S R := ⟨_, atI_1, k⟩
theorem normal_pt {a : Int} {b : Nat} (h : b ≠ 0) : pt (Rat.normalize a b h) = .tup [.int (a.fdiv ((a.natAbs.gcd b : Nat) : Int)), .int (((b : Nat) : Int).fdiv ((a.natAbs.gcd b : Nat) : Int))] := by
  show D.tup [.int _, .int ((Rat.normalize a b h).den : Int)] = _
  rw [norm_num, norm_den, fdiv_nat, fdiv_nat, Int.natCast_ediv]
theorem gcd_side {a : Int} {b : Nat} (h : b ≠ 0) (hb : b < 2 ^ 9000) : ((a.natAbs.gcd b : Nat) : Int) ≠ 0 ∧ ((a.natAbs.gcd b : Nat) : Int).natAbs.log2 < 9000 := by
  have hg := gcd_pos' (a := a) h
  have hgl : a.natAbs.gcd b ≤ b := Nat.gcd_le_right _ (Nat.pos_of_ne_zero h)
  exact ⟨by omega, by rw [Int.natAbs_natCast]; exact log_of (by omega) (by decide)⟩
theorem lt_pt {p q : Rat} : decide (p.num * (q.den : Int) < q.num * (p.den : Int)) = decide (p < q) := by rw [decide_eq_decide, Rat.lt_iff]
theorem gain_le {q : Rat} (h : q.num.natAbs ≤ 12 * q.den) : decide ((if q.num < 0 then -q.num else q.num) ≤ 12 * (q.den : Int)) = true := decide_eq_true (by split <;> omega)

theorem i_is_whole {S : Sto} {R : KR} {Rx : Er → Sto → Prop} {a : D} (h : plainD a = true) (k : R (.bl (isWhole a)) S) : ([a] ++ ([] : List D)).length = 1 ∧ p_is_whole ([a] ++ []) S R Rx := ⟨rfl, a, rfl, h, k⟩
theorem i_is_part {S : Sto} {R : KR} {Rx : Er → Sto → Prop} {a : D} (h : plain2 a = true) (k : R (.bl (isPart a)) S) : ([a] ++ ([] : List D)).length = 1 ∧ p_is_part ([a] ++ []) S R Rx := ⟨rfl, a, rfl, h, k⟩
theorem isWhole_of {a : D} (h : isWhole a = true) : ∃ i, a = .int i := by
  cases a <;> first | exact ⟨_, rfl⟩ | cases h
theorem isPart_l {a b : D} (h : isWhole a = false) : isPart (.tup [a, b]) = false := by
  cases a <;> first | rfl | cases h
theorem isPart_r {a b : D} (h : isWhole b = false) : isPart (.tup [a, b]) = false := by
  cases a <;> cases b <;> first | rfl | cases h
theorem isPart_2 {d : D} (h : ¬ ∃ a b, d = .tup [a, b]) : isPart d = false := by
  unfold isPart
  split
  · exact absurd ⟨_, _, rfl⟩ h
  · rfl
theorem len_2 {xs : List D} (h : ¬ ∃ a b, D.tup xs = .tup [a, b]) : (!decide (((xs.length : Nat) : Int) = 2)) = true := by
  match xs, h with
  | [], _ => rfl
  | [a], _ => rfl
  | [a, b], h => exact absurd ⟨a, b, rfl⟩ h
  | a :: b :: c :: r, _ => rw [decide_eq_false (by simp only [List.length_cons]; omega)]; rfl

section
variable {K : PySem.W.Frag} {S : Sto} {R : KR} {Rx : Er → Sto → Prop} {p q : Rat} {d a b : D}
theorem i_check_part (h : plain2 d = true) (k : isPart d = true → R .non S) (x : isPart d = false → Rx (erO K "NoPart") S) : ([d] ++ ([] : List D)).length = 1 ∧ p_check_part K ([d] ++ []) S R Rx := ⟨rfl, d, rfl, h, k, x⟩
theorem i_lowest {a b : Int} (h : b ≠ 0) (hb : b.natAbs < 2 ^ 9000) (k : R (pt (over a b h)) S) : ([D.int a, .int b] ++ ([] : List D)).length = 2 ∧ p_lowest ([D.int a, .int b] ++ []) S R Rx := ⟨rfl, a, b, h, rfl, hb, k⟩
theorem i_sum_of (hp : Sm p) (hq : Sm q) (k : R (pt (p + q)) S) : ([pt p, pt q] ++ ([] : List D)).length = 2 ∧ p_sum_of ([pt p, pt q] ++ []) S R Rx := ⟨rfl, p, q, rfl, hp, hq, k⟩
theorem i_product_of (hp : Sm p) (hq : Sm q) (k : R (pt (p * q)) S) : ([pt p, pt q] ++ ([] : List D)).length = 2 ∧ p_product_of ([pt p, pt q] ++ []) S R Rx := ⟨rfl, p, q, rfl, hp, hq, k⟩
theorem two_pt {f : Rat → Rat → D} (hp : Sm p) (hq : Sm q) (k : R (f p q) S) : ([pt p, pt q] ++ ([] : List D)).length = 2 ∧ two K f ([pt p, pt q] ++ []) S R Rx :=
  ⟨rfl, pt p, pt q, rfl, rfl, fun _ => rfl, fun z => (by rw [isPart_pt] at z; cases z), fun _ z => (by rw [isPart_pt] at z; cases z), fun p' q' e1 e2 => by rw [← pt_inj e1, ← pt_inj e2]; exact ⟨hp, hq, k⟩⟩
theorem i_added (hp : Sm p) (hq : Sm q) (k : R (pt (p + q)) S) : ([pt p, pt q] ++ ([] : List D)).length = 2 ∧ p_added K ([pt p, pt q] ++ []) S R Rx := two_pt hp hq k
theorem i_less (hp : Sm p) (hq : Sm q) (k : R (pt (p - q)) S) : ([pt p, pt q] ++ ([] : List D)).length = 2 ∧ p_less K ([pt p, pt q] ++ []) S R Rx := two_pt hp hq k
theorem i_times (hp : Sm p) (hq : Sm q) (k : R (pt (p * q)) S) : ([pt p, pt q] ++ ([] : List D)).length = 2 ∧ p_times K ([pt p, pt q] ++ []) S R Rx := two_pt hp hq k
theorem i_is_less (hp : Sm p) (hq : Sm q) (k : R (.bl (decide (p < q))) S) : ([pt p, pt q] ++ ([] : List D)).length = 2 ∧ p_is_less K ([pt p, pt q] ++ []) S R Rx := two_pt hp hq k
theorem two_bad1 {f : Rat → Rat → D} (h1 : plain2 a = true) (h : isPart a = false) (k : Rx (erO K "NoPart") S) : two K f [a, b] S R Rx :=
  ⟨a, b, rfl, h1, fun z => (by rw [h] at z; cases z), fun _ => k, fun _ _ => k, fun p q e1 _ => by subst e1; rw [isPart_pt] at h; cases h⟩
theorem two_bad2 {f : Rat → Rat → D} (h2 : plain2 b = true) (h : isPart b = false) (k : Rx (erO K "NoPart") S) : two K f [pt p, b] S R Rx :=
  ⟨pt p, b, rfl, rfl, fun _ => h2, fun _ => k, fun _ _ => k, fun p q _ e2 => by subst e2; rw [isPart_pt] at h; cases h⟩
theorem over_nat {a : Int} {b : Nat} (h : ((b : Nat) : Int) ≠ 0) (h' : b ≠ 0) : over a b h = Rat.normalize a b h' := by
  unfold over
  have e : (if ((b : Nat) : Int) < 0 then -a else a) = a := if_neg (by omega)
  simp only [e, Int.natAbs_natCast]
end
/-! ### the law's own defs -/
def Pen (S : Sto) (i : Nat) : Prop := ∃ a b c : Int, S[i]? = some [.int a, .int b, .int c]
structure Stm (i : Nat) (S S' : Sto) : Prop where
  le : S.length ≤ S'.length
  keep : ∀ j, j < S.length → j ≠ i → S'[j]? = S[j]?
  pen : Pen S' i
theorem Stm.trans {i : Nat} {S S1 S2 : Sto} (h : Stm i S S1) (g : Stm i S1 S2) : Stm i S S2 :=
  ⟨Nat.le_trans h.le g.le, fun j hj hn => (g.keep j (Nat.lt_of_lt_of_le hj h.le) hn).trans (h.keep j hj hn), g.pen⟩
theorem Pen.lt {S : Sto} {i : Nat} (h : Pen S i) : i < S.length := by
  obtain ⟨a, b, c, h⟩ := h
  exact (List.getElem?_eq_some_iff.mp h).1
theorem Stm.of {i : Nat} {S : Sto} (h : Pen S i) : Stm i S S := ⟨Nat.le_refl _, fun _ _ _ => rfl, h⟩
theorem Stm.set {i : Nat} {S : Sto} {a b c : Int} (h : i < S.length) : Stm i S (S.set i [.int a, .int b, .int c]) :=
  ⟨Nat.le_of_eq List.length_set.symm, fun j hj hn => List.getElem?_set_ne (fun e => hn e.symm), a, b, c, List.getElem?_set_self h⟩
theorem Stm.new {i : Nat} {S : Sto} {xs : List D} (h : Pen S i) : Stm i S (S ++ [xs]) := by
  obtain ⟨a, b, c, e⟩ := h
  refine ⟨by rw [List.length_append]; omega, fun j hj hn => List.getElem?_append_left hj, a, b, c, ?_⟩
  rw [List.getElem?_append_left (List.getElem?_eq_some_iff.mp e).1]
  exact e
theorem Stm.put {i n : Nat} {S S' : Sto} {xs : List D} (h : Stm i S S') (hn : S.length ≤ n) (hi : n ≠ i) : Stm i S (S'.set n xs) := by
  refine ⟨by rw [List.length_set]; exact h.le, fun j hj hn' => ?_, ?_⟩
  · rw [List.getElem?_set_ne (by omega)]
    exact h.keep j hj hn'
  · obtain ⟨a, b, c, e⟩ := h.pen
    exact ⟨a, b, c, by rw [List.getElem?_set_ne hi]; exact e⟩
theorem Stm.pen0 {i : Nat} {S S' : Sto} (h : Stm i S S') : Pen S' i := h.pen
def p_law_cell_at : SpD := fun ds S R _ => ∃ ns : List Int, ds = [.scr (ns.map D.int), .int 0] ∧ ∀ z, R (.int z) S
def p_law_next : SpD := fun ds S R _ => ∃ a : Int, ds = [.int a] ∧ ∀ r : Int, 0 ≤ r → r < 2 ^ 31 → R (.int r) S
def p_law_pen_of : SpD := fun ds S R _ => ∃ z : Int, ds = [.int z] ∧ ∀ a b c : Int, R (.mu S.length) (S ++ [[.int a, .int b, .int c]])
def p_law_draw : SpD := fun ds S R _ => ∃ (i : Nat) (m : Int), ds = [.mu i, .int m] ∧ 0 < m ∧ m < 2 ^ 60 ∧ Pen S i ∧ ∀ (x : Int) S', 0 ≤ x → x < m → Stm i S S' → R (.int x) S'
def p_law_made : SpD := fun ds S R _ => ∃ (a : Int) (b : Nat) (h : b ≠ 0), ds = [.int a, .int b] ∧ b < 2 ^ 9000 ∧ R (pt (Rat.normalize a b h)) S
def ptwo (f : Rat → Rat → D) : SpD := fun ds S R _ => ∃ p q : Rat, ds = [pt p, pt q] ∧ Sm p ∧ Sm q ∧ R (f p q) S
def p_law_sum : SpD := ptwo fun p q => pt (p + q)
def p_law_rest : SpD := ptwo fun p q => pt (p - q)
def p_law_prod : SpD := ptwo fun p q => pt (p * q)
def p_law_under : SpD := ptwo fun p q => .bl (decide (p < q))
section
variable {S : Sto} {R : KR} {Rx : Er → Sto → Prop} {p q : Rat} {i : Nat} {a : Int}
theorem i_next (k : ∀ r : Int, 0 ≤ r → r < 2 ^ 31 → R (.int r) S) : ([D.int a] ++ ([] : List D)).length = 1 ∧ p_law_next ([D.int a] ++ []) S R Rx := ⟨rfl, a, rfl, k⟩
theorem i_draw (h0 : 0 < a) (h1 : a < 2 ^ 60) (hp : Pen S i) (k : ∀ (x : Int) S', 0 ≤ x → x < a → Stm i S S' → R (.int x) S') : ([D.mu i, D.int a] ++ ([] : List D)).length = 2 ∧ p_law_draw ([D.mu i, D.int a] ++ []) S R Rx := ⟨rfl, i, a, rfl, h0, h1, hp, k⟩
theorem i_made {a c : Int} {b : Nat} (h0 : b ≠ 0) (hc : c = (b : Int)) (hb : b < 2 ^ 9000) (k : R (pt (Rat.normalize a b h0)) S) : ([D.int a, D.int c] ++ ([] : List D)).length = 2 ∧ p_law_made ([D.int a, D.int c] ++ []) S R Rx := by
  subst hc
  exact ⟨rfl, a, b, h0, rfl, hb, k⟩
theorem i_sum (hp : Sm p) (hq : Sm q) (k : R (pt (p + q)) S) : ([pt p, pt q] ++ ([] : List D)).length = 2 ∧ p_law_sum ([pt p, pt q] ++ []) S R Rx := ⟨rfl, p, q, rfl, hp, hq, k⟩
theorem i_rest (hp : Sm p) (hq : Sm q) (k : R (pt (p - q)) S) : ([pt p, pt q] ++ ([] : List D)).length = 2 ∧ p_law_rest ([pt p, pt q] ++ []) S R Rx := ⟨rfl, p, q, rfl, hp, hq, k⟩
theorem i_prod (hp : Sm p) (hq : Sm q) (k : R (pt (p * q)) S) : ([pt p, pt q] ++ ([] : List D)).length = 2 ∧ p_law_prod ([pt p, pt q] ++ []) S R Rx := ⟨rfl, p, q, rfl, hp, hq, k⟩
theorem i_under (hp : Sm p) (hq : Sm q) (k : R (.bl (decide (p < q))) S) : ([pt p, pt q] ++ ([] : List D)).length = 2 ∧ p_law_under ([pt p, pt q] ++ []) S R Rx := ⟨rfl, p, q, rfl, hp, hq, k⟩
theorem r_ixIn {xs : List D} {i : Int} (h0 : 0 ≤ i) (h1 : i < xs.length) (k : ∀ d ∈ xs, R d S) : dIx (.lst xs) (.int i) S R := by
  obtain ⟨n, rfl⟩ := Int.eq_ofNat_of_zero_le h0
  have hn : n < xs.length := by omega
  refine ⟨xs, xs[n], rfl, ?_, k _ (List.getElem_mem hn)⟩
  unfold atI ixN
  rw [if_pos h0, if_pos (by omega)]
  show xs[n]? = _
  exact List.getElem?_eq_getElem hn
end
theorem fmod_lo {a : Int} {m : Int} (h : 0 < m) : 0 ≤ a.fmod m := Int.fmod_nonneg_of_pos a h
theorem fmod_hi {a : Int} {m : Int} (h : 0 < m) : a.fmod m < m := Int.fmod_lt_of_pos a h
theorem p31 {a : Int} (h0 : 0 ≤ a) (h1 : a < 2 ^ 31) : a.natAbs < 2 ^ 31 := by omega
theorem small_log {m : Int} (h0 : 0 < m) (h1 : m < 2 ^ 60) : m ≠ 0 ∧ m.natAbs.log2 < 9000 := ⟨by omega, log_of (Nat.lt_of_lt_of_le (show m.natAbs < 2 ^ 60 by omega) (Nat.pow_le_pow_right (by decide) (by decide))) (by decide)⟩
theorem fmod_nat {a b : Nat} : (a : Int).fmod (b : Int) = ((a % b : Nat) : Int) := by
  rw [Int.fmod_eq_emod_of_nonneg _ (by omega)]
  rfl
abbrev ptP (q : Rat) : PyData := .tuple [.int q.num, .int q.den]
theorem shw_pt {q : Rat} {n : Nat} (h : Sz n q) (hn : n.ble 1100 = true) : Shw (n + 1 + (n + 1 + 0)) 1 (ptP q) :=
  .tup (.cons (.int h.1 hn) (.cons (.int (by rw [Int.natAbs_natCast]; exact h.2) hn) .nil))
section
variable {env : Vars} {S : Sto} {E : Ds} {u v : WS'}
theorem seq_by (Q : Vars → Sto → Prop) (h : ∀ N : Vars → Sto → Prop, (∀ e s, Q e s → N e s) → u env S { E with nx := N }) (k : ∀ e s, Q e s → v e s E) : sSeq u v env S E := h _ k
theorem r_size0 {A : Prop} (k : A) : ([] : List D).length ≤ sizeLine ∧ A := ⟨size100 (by decide), k⟩
theorem r_size3 {a b c : D} {A : Prop} (k : A) : [a, b, c].length ≤ sizeLine ∧ A := ⟨size100 (Nat.le_of_ble_eq_true rfl), k⟩
end

theorem max_nat {a : Int} : (if 0 - a > a then 0 - a else a) = (a.natAbs : Int) := by split <;> omega
abbrev p_law_plus : SpD := p_law_sum
abbrev p_law_minus : SpD := p_law_rest
abbrev p_law_product : SpD := p_law_prod
abbrev p_law_below : SpD := p_law_under
theorem sz0 : Sz 1 (0 : Rat) := ⟨by decide, by decide⟩
theorem sz1 : Sz 1 (1 : Rat) := ⟨by decide, by decide⟩
def absR (q : Rat) : Rat := ⟨(q.num.natAbs : Int), q.den, q.den_nz, by rw [Int.natAbs_natCast]; exact q.reduced⟩
theorem sz_abs {n : Nat} {q : Rat} (h : Sz n q) : Sz n (absR q) := ⟨by show ((q.num.natAbs : Int)).natAbs < _; rw [Int.natAbs_natCast]; exact h.1, h.2⟩
theorem absR_0 {q : Rat} : 0 ≤ absR q := of_num (show (0 : Int) ≤ (q.num.natAbs : Int) by omega)
theorem stm_st {S : Sto} {xs : List D} {i : Nat} (h : Pen S i) : Pen (S ++ [xs]) i := (Stm.new h).pen
theorem isUp_pt {q : Rat} : isUp (pt q) = decide (0 ≤ q.num) := by
  show (isPart (pt q) && decide (0 ≤ q.num)) = _
  rw [isPart_pt, Bool.true_and]
theorem isUp_no {d : D} (h : isPart d = false) : isUp d = false := by
  unfold isUp
  split
  · rw [h]
    rfl
  · rfl
section
variable {K : PySem.W.Frag} {S : Sto} {R : KR} {Rx : Er → Sto → Prop} {p q : Rat} {d a b : D} {A B : Prop} {c : Bool} {Z : Prop} [Decidable Z]
theorem i_difference_of (hp : Sm p) (hq : Sm q) (k : R (pt (p - q)) S) : ([pt p, pt q] ++ ([] : List D)).length = 2 ∧ p_difference_of ([pt p, pt q] ++ []) S R Rx := ⟨rfl, p, q, rfl, hp, hq, k⟩
theorem i_is_below (hp : Sm p) (hq : Sm q) (k : R (.bl (decide (p < q))) S) : ([pt p, pt q] ++ ([] : List D)).length = 2 ∧ p_is_below ([pt p, pt q] ++ []) S R Rx := ⟨rfl, p, q, rfl, hp, hq, k⟩
theorem i_opposite (k : R (pt (-p)) S) : ([pt p] ++ ([] : List D)).length = 1 ∧ p_opposite ([pt p] ++ []) S R Rx := ⟨rfl, p, rfl, k⟩
theorem i_is_part_pt (k : R (.bl true) S) : ([pt p] ++ ([] : List D)).length = 1 ∧ p_is_part ([pt p] ++ []) S R Rx := ⟨rfl, _, rfl, rfl, by rw [isPart_pt]; exact k⟩
theorem i_is_up (z : plain2 d = true) (k : R (.bl (isUp d)) S) : ([d] ++ ([] : List D)).length = 1 ∧ p_is_from_nought ([d] ++ []) S R Rx := ⟨rfl, d, rfl, z, k⟩
theorem r_bothT (k1 : c = true → A) (k2 : c = false → B) : if c = true then A else B := by
  cases c with
  | true => rw [if_pos rfl]; exact k1 rfl
  | false => rw [if_neg (by decide)]; exact k2 rfl
theorem r_bothF (k1 : c = false → A) (k2 : c = true → B) : if (!c) = true then A else B := by
  cases c with
  | true => exact (if_neg (show ¬ (!true) = true by decide)).mpr (k2 rfl)
  | false => exact (if_pos (show (!false) = true from rfl)).mpr (k1 rfl)
theorem r_bothD (k1 : Z → A) (k2 : ¬ Z → B) : if decide Z = true then A else B := by
  by_cases h : Z
  · rw [if_pos (decide_eq_true h)]; exact k1 h
  · rw [if_neg (by rw [decide_eq_false h]; decide)]; exact k2 h
theorem r_bothN (k1 : ¬ Z → A) (k2 : Z → B) : if (!decide Z) = true then A else B := by
  by_cases h : Z
  · rw [if_neg (by rw [decide_eq_true h]; decide)]; exact k2 h
  · rw [if_pos (by rw [decide_eq_false h]; rfl)]; exact k1 h
theorem r_blE {u v : Bool} (k : R (.bl u) S) (e : u = v) : R (.bl v) S := e ▸ k
/-- each kind of a part: one that is, one that is none -/
theorem i_part_c (z : plain2 d = true) (k1 : ∀ q, d = pt q → R (.bl true) S) (k2 : isPart d = false → R (.bl false) S) : ([d] ++ ([] : List D)).length = 1 ∧ p_is_part ([d] ++ []) S R Rx := by
  refine ⟨rfl, d, rfl, z, ?_⟩
  cases e : isPart d with
  | true =>
    obtain ⟨q, rfl⟩ := isPart_at e
    exact k1 q rfl
  | false => exact k2 e
theorem i_up_c (z : plain2 d = true) (k1 : ∀ q : Rat, d = pt q → 0 ≤ q → R (.bl true) S) (k2 : isUp d = false → R (.bl false) S) : ([d] ++ ([] : List D)).length = 1 ∧ p_is_from_nought ([d] ++ []) S R Rx := by
  refine ⟨rfl, d, rfl, z, ?_⟩
  cases e : isUp d with
  | true =>
    cases e2 : isPart d with
    | true =>
      obtain ⟨q, rfl⟩ := isPart_at e2
      rw [isUp_pt] at e
      exact k1 q rfl (of_num (of_decide_eq_true e))
    | false => rw [isUp_no e2] at e; cases e
  | false => exact k2 e
end

theorem comp_all {ck : Sto → Prop} {b : Bd} {te : WE'} {own : List Nat} {env : Vars} {Rf : List D → Sto → Prop} {xs : List D} {S : Sto} (f : D → Bool) (hl : xs.length ≤ 1000) (hck : ck S)
    (hs : ∀ (d : D) (N : D → Sto → Prop), d ∈ xs → N (.bl (f d)) S → bindE b d (wipeE env own) fun env1 => te env1 S N noX) (hd : Rf ((xs.map f).map D.bl) S) : comp ck b wYes te own env Rf xs [] S := by
  refine comp_by (fun i acc S1 => S = S1 ∧ acc = ((xs.take i).map f).map D.bl) ⟨rfl, rfl⟩ ?_ ?_
  · intro i d acc S1 N hi hI hN
    obtain ⟨rfl, rfl⟩ := hI
    refine ⟨hck, ?_⟩
    have h1 : i < xs.length := (List.getElem?_eq_some_iff.mp hi).1
    refine hs d (fun y S3 => _ ∧ N (_ ++ [y]) S3) (List.mem_of_getElem? hi) ⟨?_, hN _ _ ⟨rfl, ?_⟩⟩
    · rw [List.length_map, List.length_map, List.length_take]
      have : (1001 : Nat) < sizeLine := by decide
      omega
    · rw [List.take_add_one, hi, List.map_append, List.map_append]
      rfl
  · intro acc S1 hI
    obtain ⟨rfl, rfl⟩ := hI
    refine ⟨hck, ?_⟩
    rw [List.take_length]
    exact hd
theorem all_map {xs : List D} {f : D → Bool} : (xs.map f).all id = xs.all f := by
  rw [List.all_map]
  rfl
/-- each item told by what it stands for -/
theorem comp_map {α : Type} {ck : Sto → Prop} {b : Bd} {te : WE'} {own : List Nat} {env : Vars} {Rf : List D → Sto → Prop} {S : Sto} (l : List α) (g f : α → D) (hl : l.length ≤ 1000) (hck : ck S)
    (hs : ∀ (a : α) (N : D → Sto → Prop), a ∈ l → N (f a) S → bindE b (g a) (wipeE env own) fun env1 => te env1 S N noX) (hd : Rf (l.map f) S) : comp ck b wYes te own env Rf (l.map g) [] S := by
  refine comp_by (fun i acc S1 => S = S1 ∧ acc = (l.take i).map f) ⟨rfl, rfl⟩ ?_ ?_
  · intro i d acc S1 N hi hI hN
    obtain ⟨rfl, rfl⟩ := hI
    obtain ⟨a, ha, rfl⟩ := map_at hi
    refine ⟨hck, ?_⟩
    refine hs a (fun y S3 => _ ∧ N (_ ++ [y]) S3) (List.mem_of_getElem? ha) ⟨?_, hN _ _ ⟨rfl, ?_⟩⟩
    · rw [List.length_map, List.length_take]
      have : (1001 : Nat) < sizeLine := by decide
      omega
    · rw [List.take_add_one, ha, List.map_append]
      rfl
  · intro acc S1 hI
    obtain ⟨rfl, rfl⟩ := hI
    refine ⟨hck, ?_⟩
    rw [List.length_map, List.take_length]
    exact hd
/-- items drawn one behind the other -/
theorem comp_pen {α : Type} {ck : Sto → Prop} {b : Bd} {te : WE'} {own : List Nat} {env : Vars} {Rf : List D → Sto → Prop} {xs : List D} {S0 S : Sto} {i : Nat} (P : α → Prop) (g : α → D) (hl : xs.length ≤ 1000) (h0 : Stm i S0 S) (hck : ∀ S', Stm i S0 S' → ck S')
    (hs : ∀ (d : D) (S1 : Sto) (N : D → Sto → Prop), d ∈ xs → Stm i S0 S1 → (∀ a S2, P a → Stm i S0 S2 → N (g a) S2) → bindE b d (wipeE env own) fun env1 => te env1 S1 N noX)
    (hd : ∀ (l : List α) S', l.length = xs.length → (∀ a ∈ l, P a) → Stm i S0 S' → Rf (l.map g) S') : comp ck b wYes te own env Rf xs [] S := by
  refine comp_by (fun k acc S1 => ∃ l : List α, acc = l.map g ∧ l.length = k ∧ (∀ a ∈ l, P a) ∧ Stm i S0 S1) ⟨[], rfl, rfl, fun a h => (by cases h), h0⟩ ?_ ?_
  · intro k d acc S1 N hi ⟨l, hacc, hlen, hP, st⟩ hN
    subst hacc
    have hk := (List.getElem?_eq_some_iff.mp hi).1
    refine ⟨hck _ st, ?_⟩
    refine hs d S1 (fun y S3 => _ ∧ N (_ ++ [y]) S3) (List.mem_of_getElem? hi) st fun a S2 ha s2 => ⟨?_, hN _ _ ⟨l ++ [a], by rw [List.map_append]; rfl, by rw [List.length_append, hlen]; rfl, ?_, s2⟩⟩
    · rw [List.length_map, hlen]
      have : (1001 : Nat) < sizeLine := by decide
      omega
    · intro x hx
      rcases List.mem_append.mp hx with hx | hx
      · exact hP x hx
      · rw [List.mem_singleton.mp hx]
        exact ha
  · intro acc S1 ⟨l, hacc, hlen, hP, st⟩
    subst hacc
    exact ⟨hck _ st, hd l S1 hlen hP st⟩

theorem cut_len {xs : List D} {lo hi : Option Int} : (cutD xs lo hi).length ≤ xs.length := by
  unfold cutD
  rw [List.length_take, List.length_drop]
  omega
theorem cut_mem {xs : List D} {lo hi : Option Int} {d : D} (h : d ∈ cutD xs lo hi) : d ∈ xs := List.mem_of_mem_drop (List.mem_of_mem_take h)
theorem ixN_in {n : Nat} {z : Int} (h0 : 0 ≤ z) (h1 : z < (n : Int)) : ixN n z = some z.toNat := by
  unfold ixN
  rw [if_pos h0, if_pos (by omega)]
theorem atI_in {xs : List D} {z : Int} (h0 : 0 ≤ z) (h1 : z < (xs.length : Int)) : ∃ d ∈ xs, atI xs z = some d := by
  have hn : z.toNat < xs.length := by omega
  refine ⟨xs[z.toNat], List.getElem_mem hn, ?_⟩
  unfold atI
  rw [ixN_in h0 h1]
  exact List.getElem?_eq_getElem hn
theorem r_ixMIn {S : Sto} {R : KR} {xs : List D} {n : Nat} {z : Int} (hs : S[n]? = some xs) (h0 : 0 ≤ z) (h1 : z < (xs.length : Int)) (k : ∀ d ∈ xs, R d S) : dIx (.mu n) (.int z) S R := by
  obtain ⟨d, hd, e⟩ := atI_in h0 h1
  exact ⟨xs, d, hs, e, k d hd⟩
theorem r_ixTIn {S : Sto} {R : KR} {xs : List D} {z : Int} (h0 : 0 ≤ z) (h1 : z < (xs.length : Int)) (k : ∀ d ∈ xs, R d S) : dIx (.tup xs) (.int z) S R := by
  obtain ⟨d, hd, e⟩ := atI_in h0 h1
  exact ⟨d, e, k d hd⟩
theorem r_seqS {u v : WS'} {env : Vars} {S : Sto} {E : Ds} (k : sSeq u v env S E) : sSeq u v env S E := k
theorem r_rng1 {j : Int} {Q : Int → Prop} (h0 : -(2 ^ 62) ≤ j) (h1 : j < 2 ^ 62) (k : Q j) : ∃ i : Int, [D.int j] = [D.int i] ∧ -(2 ^ 62) ≤ i ∧ i < 2 ^ 62 ∧ Q i := ⟨j, rfl, h0, h1, k⟩
theorem r_ix0L {a : D} {xs : List D} {S : Sto} {R : KR} (k : R a S) : dIx (.lst (a :: xs)) (.int 0) S R := r_ixL atI_0 k
theorem r_muE {n : Nat} {Q : Nat → Prop} (k : Q n) : ∃ i, D.mu n = .mu i ∧ Q i := ⟨n, rfl, k⟩
theorem r_itL {xs : List D} {S : Sto} {Q : List D → Prop} (k : Q xs) : ∃ ys, itemsL (.lst xs) S = some ys ∧ Q ys := ⟨xs, rfl, k⟩
theorem r_itT {xs : List D} {Q : List D → Prop} (k : Q xs) : ∃ ys, D.tup xs = .tup ys ∧ Q ys := ⟨xs, rfl, k⟩
theorem r_neSS {S : Sto} {R : KR} {x y : Str} (e : x = y) (k : R (.bl false) S) : dNe (.str x) (.str y) S R := by
  subst e
  show R (.bl (!decide (x = x))) S
  rw [decide_eq_true rfl]
  exact k
theorem sto_at {S : Sto} {xs : List D} : (S ++ [xs])[S.length]? = some xs := by rw [List.getElem?_append_right (Nat.le_refl _), Nat.sub_self]; rfl
theorem sto_set {S : Sto} {xs ys : List D} : (S ++ [xs]).set S.length ys = S ++ [ys] := by
  rw [List.set_append, if_neg (by omega), Nat.sub_self]
  rfl
/-- what stood last stands yet behind some draws -/
theorem st_at {i : Nat} {S S' : Sto} {xs : List D} (h : Stm i (S ++ [xs]) S') (hp : i < S.length := by first | assumption | (apply Pen.lt; assumption)) : S'[S.length]? = some xs := by
  rw [h.keep S.length (by rw [List.length_append, List.length_singleton]; omega) (by omega)]
  exact sto_at

theorem toPs_app {S : Sto} : ∀ {xs ys : List D} {ps qs : List PyData}, toPs S xs = some ps → toPs S ys = some qs → toPs S (xs ++ ys) = some (ps ++ qs)
  | [], _, _, _, h1, h2 => by
    simp only [toPs, Option.some.injEq] at h1
    subst h1
    exact h2
  | x :: xs, ys, ps, qs, h1, h2 => by
    unfold toPs at h1
    split at h1
    · rename_i p ps' e1 e2
      cases h1
      have := toPs_app e2 h2
      show toPs S (x :: (xs ++ ys)) = _
      simp only [toPs, e1, this]
      rfl
    · cases h1

/-! what is shown -/
structure Shx (w n : Nat) (p : PyData) : Prop where
  sh : p.showable = true
  ls : PyData.leavesShort 580 p = true
  wt : p.weight ≤ w
  dp : p.depth ≤ n
structure ShxA (w n : Nat) (ps : List PyData) : Prop where
  sh : PyData.showableAll ps = true
  ls : PyData.leavesShortAll 580 ps = true
  wt : PyData.weightAll ps ≤ w
  dp : PyData.depthAll ps ≤ n
theorem shown_x {i : Int} (h : i.natAbs < 2 ^ 1900) : (PyData.shown (.int i)).length ≤ 580 := by
  have e := int_text_length_le10 (k := 579) (by decide) (Nat.lt_of_lt_of_le h (show (2 : Nat) ^ 1900 ≤ 10 ^ 579 by decide))
  show (Str.ofString (toString i)).length ≤ 580
  rw [PySem.ofString_length]
  exact e
theorem Shx.non : Shx 0 0 .none := ⟨rfl, rfl, Nat.le_refl _, by simp [PyData.depth]⟩
theorem Shx.bl {b : Bool} : Shx 0 0 (.bool b) := ⟨rfl, rfl, Nat.le_refl _, by simp [PyData.depth]⟩
theorem Shx.int {i : Int} {b : Nat} (h : i.natAbs < 2 ^ b) (hb : b.ble 1900 = true) : Shx b 0 (.int i) := by
  have hb := Nat.le_of_ble_eq_true hb
  have h2 : i.natAbs < 2 ^ 1900 := Nat.lt_of_lt_of_le h (Nat.pow_le_pow_right (by decide) hb)
  have hl : i.natAbs.log2 < 1900 := PySem.Flt.log2_lt_of (by decide) h2
  refine ⟨?_, ?_, ?_, by simp [PyData.depth]⟩
  · simp only [PyData.showable, decide_eq_true_eq]
    omega
  · simp only [PyData.leavesShort, decide_eq_true_eq]
    exact shown_x h2
  · simp only [PyData.weight]
    by_cases z : i = 0
    · subst z
      exact Nat.zero_le _
    · have n0 : i.natAbs ≠ 0 := by omega
      rw [if_neg (by simpa using z)]
      have hp : 0 < b := by
        rcases Nat.eq_zero_or_pos b with y | y
        · subst y
          omega
        · exact y
      have := PySem.Flt.log2_lt_of hp h
      omega
theorem Shx.mono {w w' n n' : Nat} {p : PyData} (h : Shx w n p) (l : w ≤ w') (m : n ≤ n') : Shx w' n' p := ⟨h.sh, h.ls, Nat.le_trans h.wt l, Nat.le_trans h.dp m⟩
theorem ShxA.nil : ShxA 0 0 [] := ⟨rfl, rfl, Nat.le_refl _, by simp [PyData.depthAll]⟩
theorem ShxA.cons {w w' n n' : Nat} {p : PyData} {ps : List PyData} (h : Shx w n p) (hs : ShxA w' n' ps) : ShxA (w + 1 + w') (max n n') (p :: ps) := by
  refine ⟨?_, ?_, ?_, ?_⟩
  · simp only [PyData.showableAll, h.sh, hs.sh]
    rfl
  · simp only [PyData.leavesShortAll, h.ls, hs.ls]
    rfl
  · simp only [PyData.weightAll]
    have := h.wt
    have := hs.wt
    omega
  · simp only [PyData.depthAll]
    have := h.dp
    have := hs.dp
    omega
theorem Shx.tup {w n : Nat} {ps : List PyData} (h : ShxA w n ps) : Shx w (n + 1) (.tuple ps) := by
  refine ⟨?_, ?_, ?_, ?_⟩
  · simp only [PyData.showable]
    exact h.sh
  · simp only [PyData.leavesShort]
    exact h.ls
  · simp only [PyData.weight]
    exact h.wt
  · simp only [PyData.depth]
    have := h.dp
    omega
theorem Shx.lst {w n : Nat} {ps : List PyData} (h : ShxA w n ps) : Shx w (n + 1) (.list ps) := by
  refine ⟨?_, ?_, ?_, ?_⟩
  · simp only [PyData.showable]
    exact h.sh
  · simp only [PyData.leavesShort]
    exact h.ls
  · simp only [PyData.weight]
    exact h.wt
  · simp only [PyData.depth]
    have := h.dp
    omega
theorem Shx.txt {x : Str} {w : Nat} (h : (x.cps.toList.all fun c => decide (c < 16 ^ 8)) = true) (hw : x.cps.size.ble w = true) : Shx w 0 (.str x) :=
  ⟨by simp [PyData.showable], by simpa only [PyData.leavesShort] using h, by simp only [PyData.weight]; exact Nat.le_of_ble_eq_true hw, by simp [PyData.depth]⟩
theorem Shx.short {w n : Nat} {p : PyData} (h : Shx w n p) (hw : w.ble 28000 = true) : p.shown.length ≤ sizeLine := by
  have hw := Nat.le_of_ble_eq_true hw
  have h1 := PyData.shown_le 580 (by decide) p h.ls
  have h2 := h.wt
  rw [sizeLine_eq]
  omega

theorem shx_pt {q : Rat} {n : Nat} (h : Sz n q) (hn : n.ble 1900 = true) : Shx (n + 1 + (n + 1 + 0)) 1 (ptP q) :=
  .tup (.cons (.int h.1 hn) (.cons (.int (by rw [Int.natAbs_natCast]; exact h.2) hn) .nil))
def ShD (w n : Nat) (d : D) : Prop := ∃ p, (∀ S, toQ S d = some p) ∧ (∀ S, toP S d = some p) ∧ Shx w n p
def ShDs (w n : Nat) (xs : List D) : Prop := ∃ ps, (∀ S, toPs S xs = some ps) ∧ ShxA w n ps
def shD (d : D) : Str := ((toQ [] d).map PyData.shown).getD ""
section
variable {w w' n n' b : Nat} {d : D} {xs ys : List D} {q : Rat} {S : Sto} {R : KR}
theorem ShD.mono (h : ShD w n d) (l : w ≤ w') (m : n ≤ n') : ShD w' n' d := let ⟨p, h0, h1, h2⟩ := h; ⟨p, h0, h1, h2.mono l m⟩
theorem ShDs.mono (h : ShDs w n xs) (l : w ≤ w') (m : n ≤ n') : ShDs w' n' xs := let ⟨ps, h1, h2⟩ := h; ⟨ps, h1, ⟨h2.sh, h2.ls, Nat.le_trans h2.wt l, Nat.le_trans h2.dp m⟩⟩
theorem ShD.non : ShD 0 0 .non := ⟨_, fun _ => rfl, fun _ => rfl, Shx.non⟩
theorem ShD.bl {c : Bool} : ShD 0 0 (.bl c) := ⟨_, fun _ => rfl, fun _ => rfl, Shx.bl⟩
theorem ShD.int {i : Int} (h : i.natAbs < 2 ^ b) (hb : b.ble 1900 = true) : ShD b 0 (.int i) := ⟨_, fun _ => rfl, fun _ => rfl, Shx.int h hb⟩
theorem ShD.nat {k : Nat} (h : k < 2 ^ 20) : ShD 20 0 (.int (k : Int)) := .int (by rw [Int.natAbs_natCast]; exact h) rfl
theorem ShD.lit {i : Int} (h : decide (i.natAbs < 2 ^ 20) = true) : ShD 20 0 (.int i) := .int (of_decide_eq_true h) rfl
theorem ShD.str {x : Str} (h : (x.cps.toList.all fun c => decide (c < 16 ^ 8)) = true) (hw : x.cps.size.ble 60 = true) : ShD 60 0 (.str x) := ⟨_, fun _ => rfl, fun _ => rfl, Shx.txt h hw⟩
theorem ShD.pt (h : Sz b q) (hb : b.ble 1900 = true) : ShD (b + 1 + (b + 1 + 0)) 1 (pt q) := ⟨ptP q, fun _ => rfl, fun _ => rfl, shx_pt h hb⟩
theorem ShDs.nil : ShDs 0 0 [] := ⟨[], fun _ => rfl, ShxA.nil⟩
theorem ShDs.cons (h : ShD w n d) (hs : ShDs w' n' xs) : ShDs (w + 1 + w') (max n n') (d :: xs) := by
  obtain ⟨p, _, e, h⟩ := h
  obtain ⟨ps, es, hs⟩ := hs
  refine ⟨p :: ps, fun S => ?_, ShxA.cons h hs⟩
  simp only [toPs, e S, es S]
theorem ShD.tup (h : ShDs w n xs) : ShD w (n + 1) (.tup xs) := by
  obtain ⟨ps, es, hs⟩ := h
  have e : ∀ S, toP S (.tup xs) = some (.tuple ps) := fun S => by simp only [toP, es S]; rfl
  exact ⟨.tuple ps, e, e, Shx.tup hs⟩
theorem ShD.lst (h : ShDs w n xs) : ShD w (n + 1) (.lst xs) := by
  obtain ⟨ps, es, hs⟩ := h
  have e : ∀ S, toP S (.lst xs) = some (.list ps) := fun S => by simp only [toP, es S]; rfl
  exact ⟨.list ps, e, e, Shx.lst hs⟩
theorem ShDs.of {k : Nat} : ∀ {xs : List D}, (∀ x ∈ xs, ShD w n x) → xs.length ≤ k → ShDs (k * (w + 1)) n xs
  | [], _, _ => ShDs.nil.mono (Nat.zero_le _) (Nat.zero_le _)
  | x :: xs, h, hl => by
    have h1 := h x List.mem_cons_self
    have hk : k = (k - 1) + 1 := by
      rw [List.length_cons] at hl
      omega
    have h2 := ShDs.of (k := k - 1) (fun y hy => h y (List.mem_cons_of_mem _ hy)) (by rw [List.length_cons] at hl; omega)
    refine (ShDs.cons h1 h2).mono ?_ (by rw [Nat.max_self]; exact Nat.le_refl _)
    rw [hk, Nat.add_mul]
    simp only [Nat.add_sub_cancel]
    omega
theorem ShxA.append {ps qs : List PyData} (h : ShxA w n ps) (h' : ShxA w' n' qs) : ShxA (w + w') (max n n') (ps ++ qs) := by
  have e : ∀ ps : List PyData, PyData.weightAll (ps ++ qs) = PyData.weightAll ps + PyData.weightAll qs := fun ps => by
    induction ps with
    | nil => simp [PyData.weightAll]
    | cons p ps ih =>
      simp only [List.cons_append, PyData.weightAll, ih]
      omega
  have e1 : ∀ ps : List PyData, PyData.showableAll (ps ++ qs) = (PyData.showableAll ps && PyData.showableAll qs) := fun ps => by
    induction ps with
    | nil => simp [PyData.showableAll]
    | cons p ps ih => simp only [List.cons_append, PyData.showableAll, ih, Bool.and_assoc]
  have e2 : ∀ ps : List PyData, PyData.leavesShortAll 580 (ps ++ qs) = (PyData.leavesShortAll 580 ps && PyData.leavesShortAll 580 qs) := fun ps => by
    induction ps with
    | nil => simp [PyData.leavesShortAll]
    | cons p ps ih => simp only [List.cons_append, PyData.leavesShortAll, ih, Bool.and_assoc]
  have e3 : ∀ ps : List PyData, PyData.depthAll (ps ++ qs) ≤ max (PyData.depthAll ps) (PyData.depthAll qs) := fun ps => by
    induction ps with
    | nil => simp [PyData.depthAll]
    | cons p ps ih =>
      simp only [List.cons_append, PyData.depthAll]
      omega
  have := e3 ps
  exact ⟨by rw [e1, h.sh, h'.sh]; rfl, by rw [e2, h.ls, h'.ls]; rfl, by rw [e]; have := h.wt; have := h'.wt; omega, by have := h.dp; have := h'.dp; omega⟩
theorem ShDs.append (h : ShDs w n xs) (h' : ShDs w' n' ys) : ShDs (w + w') (max n n') (xs ++ ys) := by
  obtain ⟨ps, es, hs⟩ := h
  obtain ⟨qs, eq, hq⟩ := h'
  exact ⟨ps ++ qs, fun S => toPs_app (es S) (eq S), hs.append hq⟩
theorem ShD.toQ (h : ShD w n d) : ∃ p, (∀ S, toQ S d = some p) ∧ Shx w n p ∧ shD d = p.shown := by
  obtain ⟨p, e, _, h⟩ := h
  exact ⟨p, e, h, by unfold shD; rw [e]; rfl⟩
theorem r_reprD (h : ShD w n d) (hw : w.ble 28000 = true) (hn : n.ble 60 = true) (k : R (.str (shD d)) S) : dRepr [d] S R := by
  obtain ⟨p, e, hs, e2⟩ := h.toQ
  rw [e2] at k
  exact ⟨p, e S, hs.sh, hs.short hw, Nat.le_trans hs.dp (Nat.le_of_ble_eq_true hn), k⟩
end
/-! what may be handed in for a part; a tuple of such; a tuple of these -/
def Pz (n : Nat) (d : D) : Prop := plain2 d = true ∧ ∀ a b : Int, d = .tup [.int a, .int b] → a.natAbs < 2 ^ n ∧ b.natAbs < 2 ^ n
def Qz (n : Nat) (d : D) : Prop := plainD d = true ∧ ∀ xs, d = .tup xs → xs.length ≤ 100 ∧ ∀ x ∈ xs, Pz n x
def Tz (n : Nat) (d : D) : Prop := plainD d = true ∧ ∀ xs, d = .tup xs → xs.length ≤ 100 ∧ ∀ x ∈ xs, Qz n x
section
variable {n m : Nat} {d x : D} {xs : List D} {q : Rat}
theorem Pz.mono (h : Pz n d) (k : n ≤ m) : Pz m d := ⟨h.1, fun a b e => let ⟨h1, h2⟩ := h.2 a b e; ⟨Nat.lt_of_lt_of_le h1 (Nat.pow_le_pow_right (by decide) k), Nat.lt_of_lt_of_le h2 (Nat.pow_le_pow_right (by decide) k)⟩⟩
theorem Qz.mono (h : Qz n d) (k : n ≤ m) : Qz m d := ⟨h.1, fun xs e => ⟨(h.2 xs e).1, fun x hx => ((h.2 xs e).2 x hx).mono k⟩⟩
theorem Tz.mono (h : Tz n d) (k : n ≤ m) : Tz m d := ⟨h.1, fun xs e => ⟨(h.2 xs e).1, fun x hx => ((h.2 xs e).2 x hx).mono k⟩⟩
theorem Pz.pt (h : Sz n q) : Pz n (pt q) := ⟨rfl, fun a b e => by
  have e : D.tup [.int q.num, .int (q.den : Int)] = .tup [.int a, .int b] := e
  cases e
  exact ⟨h.1, by rw [Int.natAbs_natCast]; exact h.2⟩⟩
theorem Pz.sz (h : Pz n (DL.pt q)) : Sz n q := by
  have := h.2 q.num q.den rfl
  rw [Int.natAbs_natCast] at this
  exact this
theorem Pz.p2 (h : Pz n d) : plain2 d = true := h.1
theorem Pz.pD (h : Pz n d) : plainD d = true := by
  have := h.1
  unfold plain2 at this
  split at this
  · rfl
  · exact this
theorem Pz.no (h : plainD d = true) (t : isTup d = false) : Pz n d := by
  refine ⟨?_, fun a b e => by subst e; cases t⟩
  unfold plain2
  split
  · cases t
  · exact h
theorem Pz.two {a b : Int} (h1 : a.natAbs < 2 ^ n) (h2 : b.natAbs < 2 ^ n) : Pz n (.tup [.int a, .int b]) := ⟨rfl, fun a' b' e => by cases e; exact ⟨h1, h2⟩⟩
theorem Qz.tup (h0 : xs.length.ble 100 = true) (h : ∀ x ∈ xs, Pz n x) : Qz n (.tup xs) := ⟨rfl, fun ys e => by cases e; exact ⟨Nat.le_of_ble_eq_true h0, h⟩⟩
theorem Qz.tup' (h0 : xs.length ≤ 100) (h : ∀ x ∈ xs, Pz n x) : Qz n (.tup xs) := ⟨rfl, fun ys e => by cases e; exact ⟨h0, h⟩⟩
theorem Qz.no (h : plainD d = true) (t : isTup d = false) : Qz n d := ⟨h, fun xs e => by subst e; cases t⟩
theorem Tz.tup (h0 : xs.length ≤ 100) (h : ∀ x ∈ xs, Qz n x) : Tz n (.tup xs) := ⟨rfl, fun ys e => by cases e; exact ⟨h0, h⟩⟩
theorem Tz.no (h : plainD d = true) (t : isTup d = false) : Tz n d := ⟨h, fun xs e => by subst e; cases t⟩
/-- closed things -/
def pzB (n : Nat) : D → Bool
  | .tup [.int a, .int b] => decide (a.natAbs < 2 ^ n) && decide (b.natAbs < 2 ^ n)
  | .tup [a, b] => plainD a && plainD b
  | d => plainD d
theorem pz_of (h : pzB n d = true) : Pz n d := by
  unfold pzB at h
  split at h
  · obtain ⟨h1, h2⟩ := Bool.and_eq_true_iff.mp h
    exact Pz.two (of_decide_eq_true h1) (of_decide_eq_true h2)
  · rename_i a b hne
    exact ⟨h, fun x y e => by cases e; exact by cases hne x y rfl rfl⟩
  · rename_i h1 h2
    refine ⟨?_, fun x y e => (h1 x y e).elim⟩
    unfold plain2
    split
    · rename_i a b
      exact (h2 a b rfl).elim
    · exact h
def qzB (n : Nat) : D → Bool
  | .tup xs => decide (xs.length ≤ 100) && xs.all (pzB n)
  | d => plainD d
theorem qz_of (h : qzB n d = true) : Qz n d := by
  unfold qzB at h
  split at h
  · obtain ⟨h1, h2⟩ := Bool.and_eq_true_iff.mp h
    exact Qz.tup (Nat.ble_eq_true_of_le (of_decide_eq_true h1)) fun x hx => pz_of (List.all_eq_true.mp h2 x hx)
  · rename_i hn
    refine ⟨h, fun xs e => (hn xs e).elim⟩
def tzB (n : Nat) : D → Bool
  | .tup xs => decide (xs.length ≤ 100) && xs.all (qzB n)
  | d => plainD d
theorem tz_of (h : tzB n d = true) : Tz n d := by
  unfold tzB at h
  split at h
  · obtain ⟨h1, h2⟩ := Bool.and_eq_true_iff.mp h
    exact Tz.tup (of_decide_eq_true h1) fun x hx => qz_of (List.all_eq_true.mp h2 x hx)
  · rename_i hn
    refine ⟨h, fun xs e => (hn xs e).elim⟩
theorem Qz.at (h : Qz n (.tup xs)) (hx : x ∈ xs) : Pz n x := (h.2 xs rfl).2 x hx
theorem Qz.len (h : Qz n (.tup xs)) : xs.length ≤ 100 := (h.2 xs rfl).1
theorem Tz.at (h : Tz n (.tup xs)) (hx : x ∈ xs) : Qz n x := (h.2 xs rfl).2 x hx
theorem Tz.len (h : Tz n (.tup xs)) : xs.length ≤ 100 := (h.2 xs rfl).1
/-- no tuple of k -/
def NotN (k : Nat) (d : D) : Prop := ∀ xs, d = .tup xs → xs.length ≠ k
theorem NotN.ne {k : Nat} (h : NotN k (.tup xs)) : (!decide (((xs.length : Nat) : Int) = (k : Int))) = true := by
  have := h xs rfl
  rw [decide_eq_false (by omega)]
  rfl
theorem NotN.not {k : Nat} (h : xs.length ≠ k) : NotN k (.tup xs) := fun ys e => by cases e; exact h
theorem NotN.no {k : Nat} (h : isTup d = false) : NotN k d := fun ys e => by subst e; cases h
theorem tup_2 (d : D) : (∃ a b, d = .tup [a, b]) ∨ NotN 2 d := by
  by_cases h : ∃ xs, d = .tup xs ∧ xs.length = 2
  · obtain ⟨xs, rfl, h⟩ := h
    match xs, h with
    | [a, b], _ => exact .inl ⟨a, b, rfl⟩
  · exact .inr fun xs e z => h ⟨xs, e, z⟩
theorem tup_4 (d : D) : (∃ a b c e, d = .tup [a, b, c, e]) ∨ NotN 4 d := by
  by_cases h : ∃ xs, d = .tup xs ∧ xs.length = 4
  · obtain ⟨xs, rfl, h⟩ := h
    match xs, h with
    | [a, b, c, e], _ => exact .inl ⟨a, b, c, e, rfl⟩
  · exact .inr fun xs e z => h ⟨xs, e, z⟩
theorem tup_7 (d : D) : (∃ a b c e f g i, d = .tup [a, b, c, e, f, g, i]) ∨ NotN 7 d := by
  by_cases h : ∃ xs, d = .tup xs ∧ xs.length = 7
  · obtain ⟨xs, rfl, h⟩ := h
    match xs, h with
    | [a, b, c, e, f, g, i], _ => exact .inl ⟨a, b, c, e, f, g, i, rfl⟩
  · exact .inr fun xs e z => h ⟨xs, e, z⟩
end

end DL

set_option maxHeartbeats 4000000
namespace DL
open PySem PySem.Spec PyProof.Rows L2
theorem isPart_int {a : Int} {b : Nat} (h : b ≠ 0) : PyData.eqv (ptP (Rat.normalize a b h)) (.tuple [.int a, .int b]) = decide (Nat.gcd a.natAbs b = 1) := by
  have e1 : (Rat.normalize a b h).num = a / ((a.natAbs.gcd b : Nat) : Int) := norm_num h
  have e2 : (Rat.normalize a b h).den = b / a.natAbs.gcd b := norm_den h
  by_cases g : Nat.gcd a.natAbs b = 1
  · rw [g] at e1 e2
    have e1 : (Rat.normalize a b h).num = a := by rw [e1]; simp
    have e2 : (Rat.normalize a b h).den = b := by rw [e2]; simp
    simp only [ptP, e1, e2, g]
    simp [PyData.eqv, PyData.eqvAll]
  · rw [decide_eq_false g]
    have gp := gcd_pos' (a := a) h
    have hl : b / a.natAbs.gcd b < b := Nat.div_lt_self (by omega) (by omega)
    have n2 : (((Rat.normalize a b h).den : Nat) : Int) ≠ (b : Int) := by rw [e2]; omega
    have e3 : PyData.eqv (ptP (Rat.normalize a b h)) (.tuple [.int a, .int b]) = (decide ((Rat.normalize a b h).num = a) && decide ((((Rat.normalize a b h).den : Nat) : Int) = (b : Int))) := by
      simp only [ptP, PyData.eqv, PyData.eqvAll, Bool.and_true]
      rfl
    rw [e3, decide_eq_false n2, Bool.and_false]

def oddL : List D := [.non, .bl true, .bl false, .int (-1), .int 0, .int 6, .int (10 ^ 39), .str "", .str "1", .str "ball", .lst [], .tup [], .emp, .tup [.int 0, .int 0], .tup [.int 2, .int 4], .tup [.int 1, .int (-1)], .tup [.bl true, .int 1],
  .lst [.int 1, .int 2], .tup [.int 1], .tup [.int 0, .int 1, .int 1], .tup [.int 1, .int 2]]
theorem odd_pz {d : D} (h : d ∈ oddL) : Pz 5 d := pz_of (List.all_eq_true.mp (show oddL.all (pzB 5) = true by decide +kernel) d h)
theorem odd_qz {d : D} (h : d ∈ oddL) : Qz 5 d := qz_of (List.all_eq_true.mp (show oddL.all (qzB 5) = true by decide +kernel) d h)
theorem odd_tz {d : D} (h : d ∈ oddL) : Tz 5 d := tz_of (List.all_eq_true.mp (show oddL.all (tzB 5) = true by decide +kernel) d h)

theorem num_pos {q : Rat} (h : 0 < q) : 0 < q.num := by
  have h3 := Rat.num_nonneg.mpr (Rat.le_of_lt h)
  have h4 : q.num ≠ 0 := fun e => by
    have := Rat.num_eq_zero.mp e
    rw [this] at h
    exact absurd h (by decide)
  omega
theorem div_norm {p q : Rat} (h : 0 < q.num) : p / q = Rat.normalize (p.num * q.den) (p.den * q.num.natAbs) (Nat.mul_ne_zero p.den_nz (by omega)) := by
  have h1 : (q⁻¹).num = q.den := by
    rw [Rat.num_inv, Int.sign_eq_one_of_pos h, Int.one_mul]
  have h2 : (q⁻¹).den = q.num.natAbs := by
    rw [Rat.den_inv, if_neg (by omega)]
  rw [Rat.div_def, Rat.mul_def]
  congr 1
  · rw [h1]
  · rw [h2]
theorem Sz.div {p q : Rat} {n m : Nat} (hp : Sz n p) (hq : Sz m q) (h : 0 < q) : Sz (n + m) (p / q) := by
  rw [div_norm (num_pos h)]
  refine norm_sz _ ?_ ?_
  · rw [Int.natAbs_mul, Int.natAbs_natCast, Nat.pow_add]
    exact Nat.mul_lt_mul'' hp.1 hq.2
  · rw [Nat.pow_add]
    exact Nat.mul_lt_mul'' hp.2 hq.1
def p_divided : SpD := fun ds S R _ => ∃ p q : Rat, ds = [pt p, pt q] ∧ 0 < q ∧ Sm p ∧ Sm q ∧ R (pt (p / q)) S
def p_law_by : SpD := p_divided
theorem eqv_pt {p q : Rat} : PyData.eqv (ptP p) (ptP q) = decide (p = q) := by
  have e : PyData.eqv (ptP p) (ptP q) = (decide (p.num = q.num) && decide ((p.den : Int) = q.den)) := by
    simp [PyData.eqv, PyData.eqvAll]
    rfl
  rw [e]
  by_cases h : p = q
  · subst h
    simp
  · rw [decide_eq_false h]
    by_cases h1 : p.num = q.num
    · have h2 : ¬ (p.den : Int) = q.den := fun z => h (Rat.ext h1 (by omega))
      rw [decide_eq_false h2, Bool.and_false]
    · rw [decide_eq_false h1, Bool.false_and]
section
variable {S : Sto} {R : KR} {Rx : Er → Sto → Prop} {p q : Rat}
theorem r_eqPt (k : R (.bl (decide (p = q))) S) : dEq (pt p) (pt q) S R := ⟨ptP p, ptP q, rfl, rfl, rfl, rfl, by rw [eqv_pt]; exact k⟩
theorem r_nePt (k : R (.bl (!decide (p = q))) S) : dNe (pt p) (pt q) S R := ⟨ptP p, ptP q, rfl, rfl, rfl, rfl, by rw [eqv_pt]; exact k⟩
theorem r_eqN (k : R (.bl (decide (p = 0))) S) : dEq (pt p) (.tup [.int 0, .int 1]) S R := r_eqPt (q := 0) k
theorem r_neN (k : R (.bl (!decide (p = 0))) S) : dNe (pt p) (.tup [.int 0, .int 1]) S R := r_nePt (q := 0) k
theorem i_divided (h0 : 0 < q) (hp : Sm p) (hq : Sm q) (k : R (pt (p / q)) S) : ([pt p, pt q] ++ ([] : List D)).length = 2 ∧ p_divided ([pt p, pt q] ++ []) S R Rx := ⟨rfl, p, q, rfl, h0, hp, hq, k⟩
theorem i_by (h0 : 0 < q) (hp : Sm p) (hq : Sm q) (k : R (pt (p / q)) S) : ([pt p, pt q] ++ ([] : List D)).length = 2 ∧ p_law_by ([pt p, pt q] ++ []) S R Rx := ⟨rfl, p, q, rfl, h0, hp, hq, k⟩
/-! nought as the module has it -/
abbrev v_NOUGHT : D := .tup [.int 0, .int 1]
theorem n_difference_of1 (hq : Sm q) (k : R (pt (0 - q)) S) : ([v_NOUGHT, pt q] ++ ([] : List D)).length = 2 ∧ p_difference_of ([v_NOUGHT, pt q] ++ []) S R Rx := ⟨rfl, 0, q, rfl, sz0.mono (by decide), hq, k⟩
theorem n_rest1 (hq : Sm q) (k : R (pt (0 - q)) S) : ([D.tup [.int 0, .int 1], pt q] ++ ([] : List D)).length = 2 ∧ p_law_rest ([D.tup [.int 0, .int 1], pt q] ++ []) S R Rx := ⟨rfl, 0, q, rfl, sz0.mono (by decide), hq, k⟩
/-- between two parts, each none where it is no bound -/
abbrev eD : Option Rat → D
  | none => .non
  | some q => pt q
def lowB (o : Option Rat) (a : Rat) : Bool := match o with
  | none => true
  | some l => !decide (a < l)
def highB (o : Option Rat) (a : Rat) : Bool := match o with
  | none => true
  | some h => !decide (h < a)
def p_is_between : SpD := fun ds S R _ => ∃ (q : Rat) (l h : Option Rat), ds = [pt q, eD l, eD h] ∧ Sm q ∧ (∀ x, l = some x → Sm x) ∧ (∀ x, h = some x → Sm x) ∧ R (.bl (lowB l q && highB h q)) S
theorem i_between {l h : Option Rat} (hq : Sm q) (h1 : ∀ x, l = some x → Sm x) (h2 : ∀ x, h = some x → Sm x) (k : R (.bl (lowB l q && highB h q)) S) : ([pt q, eD l, eD h] ++ ([] : List D)).length = 3 ∧ p_is_between ([pt q, eD l, eD h] ++ []) S R Rx := ⟨rfl, q, l, h, rfl, hq, h1, h2, k⟩
theorem i_between2 {a b : Rat} (hq : Sm q) (h1 : Sm a) (h2 : Sm b) (k : R (.bl (!decide (q < a) && !decide (b < q))) S) : ([pt q, pt a, pt b] ++ ([] : List D)).length = 3 ∧ p_is_between ([pt q, pt a, pt b] ++ []) S R Rx := i_between (l := some a) (h := some b) hq (fun x e => by cases e; exact h1) (fun x e => by cases e; exact h2) k
end
def isClk : D → Bool
  | .int i => decide (0 ≤ i) && decide (i < 6)
  | _ => false
abbrev v_CLOCKS : D := .int 6
def p_is_clock_number : SpD := fun ds S R _ => ∃ d, ds = [d] ∧ plainD d = true ∧ R (.bl (isClk d)) S
def p_law_whole : SpD := p_is_whole
def p_law_is_clock : SpD := p_is_clock_number
def p_law_is_part : SpD := fun ds S R _ => ∃ d, ds = [d] ∧ Pz 8000 d ∧ R (.bl (isPart d)) S
def p_law_part : SpD := fun ds S R _ => ∃ (i : Nat) (m : Int), ds = [.mu i, .int m] ∧ 0 ≤ m ∧ m ≤ 100000 ∧ Pen S i ∧ ∀ (q : Rat) S', Sz 20 q → (q.den ≤ 12 ∧ (q.num.natAbs : Int) ≤ m) → Stm i S S' → R (pt q) S'
def p_law_above : SpD := fun ds S R _ => ∃ (i : Nat) (m : Int), ds = [.mu i, .int m] ∧ 0 ≤ m ∧ m ≤ 100000 ∧ Pen S i ∧ ∀ (q : Rat) S', 0 ≤ q → Sz 20 q → (q.den ≤ 12 ∧ (q.num.natAbs : Int) ≤ m) → Stm i S S' → R (pt q) S'
def p_law_odd : SpD := fun ds S R _ => ∃ i : Nat, ds = [.mu i] ∧ Pen S i ∧ ∀ d S', d ∈ oddL → Stm i S S' → R d S'
section
variable {K : PySem.W.Frag} {S : Sto} {R : KR} {Rx : Er → Sto → Prop} {p q : Rat} {d a b : D} {i : Nat} {m : Int}
theorem isClk_nat {n : Nat} (z : n < 6) : isClk (.int (n : Int)) = true := by
  show (decide (0 ≤ (n : Int)) && decide ((n : Int) < 6)) = true
  rw [decide_eq_true (by omega), decide_eq_true (by omega)]
  rfl
theorem isClk_at (h : isClk d = true) : ∃ n : Nat, d = .int n ∧ n < 6 := by
  cases d with
  | int i =>
    have h : (decide (0 ≤ i) && decide (i < 6)) = true := h
    obtain ⟨h1, h2⟩ := Bool.and_eq_true_iff.mp h
    have h1 := of_decide_eq_true h1
    have h2 := of_decide_eq_true h2
    exact ⟨i.toNat, by rw [Int.toNat_of_nonneg h1], by omega⟩
  | _ => cases h
theorem isClk_int {i : Int} : isClk (.int i) = (decide (0 ≤ i) && decide (i < 6)) := rfl
theorem i_is_clock_number (z : plainD d = true) (k : R (.bl (isClk d)) S) : ([d] ++ ([] : List D)).length = 1 ∧ p_is_clock_number ([d] ++ []) S R Rx := ⟨rfl, d, rfl, z, k⟩
theorem i_lis_clock (z : plainD d = true) (k : R (.bl (isClk d)) S) : ([d] ++ ([] : List D)).length = 1 ∧ p_law_is_clock ([d] ++ []) S R Rx := ⟨rfl, d, rfl, z, k⟩
theorem clk_cases (k1 : ∀ n : Nat, d = .int n → n < 6 → R (.bl true) S) (k2 : isClk d = false → R (.bl false) S) : R (.bl (isClk d)) S := by
  cases e : isClk d with
  | true =>
    obtain ⟨n, rfl, h⟩ := isClk_at e
    exact k1 n rfl h
  | false => exact k2 e
theorem i_clk_c (z : plainD d = true) (k1 : ∀ n : Nat, d = .int n → n < 6 → R (.bl true) S) (k2 : isClk d = false → R (.bl false) S) : ([d] ++ ([] : List D)).length = 1 ∧ p_is_clock_number ([d] ++ []) S R Rx := ⟨rfl, d, rfl, z, clk_cases k1 k2⟩
theorem i_lclk_c (z : plainD d = true) (k1 : ∀ n : Nat, d = .int n → n < 6 → R (.bl true) S) (k2 : isClk d = false → R (.bl false) S) : ([d] ++ ([] : List D)).length = 1 ∧ p_law_is_clock ([d] ++ []) S R Rx := ⟨rfl, d, rfl, z, clk_cases k1 k2⟩
theorem i_lis_part (z : Pz 8000 d) (k : R (.bl (isPart d)) S) : ([d] ++ ([] : List D)).length = 1 ∧ p_law_is_part ([d] ++ []) S R Rx := ⟨rfl, d, rfl, z, k⟩
theorem i_lpart_c (z : Pz 8000 d) (k1 : ∀ q, d = pt q → R (.bl true) S) (k2 : isPart d = false → R (.bl false) S) : ([d] ++ ([] : List D)).length = 1 ∧ p_law_is_part ([d] ++ []) S R Rx := by
  refine i_lis_part z ?_
  cases e : isPart d with
  | true =>
    obtain ⟨q, rfl⟩ := isPart_at e
    exact k1 q rfl
  | false => exact k2 e
theorem i_whole {d : D} (z : plainD d = true) (k : R (.bl (isWhole d)) S) : ([d] ++ ([] : List D)).length = 1 ∧ p_law_whole ([d] ++ []) S R Rx := ⟨rfl, d, rfl, z, k⟩
theorem i_part12 (h0 : 0 ≤ m) (h1 : m ≤ 100000) (hp : Pen S i) (k : ∀ (q : Rat) S', Sz 20 q → (q.den ≤ 12 ∧ (q.num.natAbs : Int) ≤ m) → Stm i S S' → R (pt q) S') : ([D.mu i, D.int m] ++ ([] : List D)).length = 2 ∧ p_law_part ([D.mu i, D.int m] ++ []) S R Rx := ⟨rfl, i, m, rfl, h0, h1, hp, k⟩
theorem i_above12 (h0 : 0 ≤ m) (h1 : m ≤ 100000) (hp : Pen S i) (k : ∀ (q : Rat) S', 0 ≤ q → Sz 20 q → (q.den ≤ 12 ∧ (q.num.natAbs : Int) ≤ m) → Stm i S S' → R (pt q) S') : ([D.mu i, D.int m] ++ ([] : List D)).length = 2 ∧ p_law_above ([D.mu i, D.int m] ++ []) S R Rx := ⟨rfl, i, m, rfl, h0, h1, hp, k⟩
theorem i_part (h0 : 0 ≤ m) (h1 : m ≤ 100000) (hp : Pen S i) (k : ∀ (q : Rat) S', Sz 20 q → Stm i S S' → R (pt q) S') : ([D.mu i, D.int m] ++ ([] : List D)).length = 2 ∧ p_law_part ([D.mu i, D.int m] ++ []) S R Rx := i_part12 h0 h1 hp fun q S' h _ st => k q S' h st
theorem i_above (h0 : 0 ≤ m) (h1 : m ≤ 100000) (hp : Pen S i) (k : ∀ (q : Rat) S', 0 ≤ q → Sz 20 q → Stm i S S' → R (pt q) S') : ([D.mu i, D.int m] ++ ([] : List D)).length = 2 ∧ p_law_above ([D.mu i, D.int m] ++ []) S R Rx := i_above12 h0 h1 hp fun q S' h1 h _ st => k q S' h1 h st
theorem norm_le {a : Int} {b : Nat} (h : b ≠ 0) : (Rat.normalize a b h).num.natAbs ≤ a.natAbs ∧ (Rat.normalize a b h).den ≤ b := by
  refine ⟨?_, ?_⟩
  · rw [norm_num]
    exact Int.natAbs_ediv_le_natAbs _ _
  · rw [norm_den]
    exact Nat.div_le_self _ _
theorem i_odd (hp : Pen S i) (k : ∀ d S', d ∈ oddL → Stm i S S' → R d S') : ([D.mu i] ++ ([] : List D)).length = 1 ∧ p_law_odd ([D.mu i] ++ []) S R Rx := ⟨rfl, i, rfl, hp, k⟩
theorem of_four {a b c e x : D} (h : x ∈ [a, b, c, e]) : x = a ∨ x = b ∨ x = c ∨ x = e := by simpa using h
theorem of_bottom {x : Int} {d : D} (x0 : 0 ≤ x) (x1 : x < 6) (h : d ∈ [D.int 1, .int 1, .int (1 + x), .int 12]) : ∃ n : Nat, d = .int n ∧ 0 < n ∧ n ≤ 12 := by
  rcases of_four h with rfl | rfl | rfl | rfl
  · exact ⟨1, rfl, by decide, by decide⟩
  · exact ⟨1, rfl, by decide, by decide⟩
  · obtain ⟨k, rfl⟩ := Int.eq_ofNat_of_zero_le x0
    exact ⟨1 + k, by rw [Int.natCast_add]; rfl, by omega, by omega⟩
  · exact ⟨12, rfl, by decide, by decide⟩
end

end DL

set_option maxHeartbeats 4000000
namespace DL
open PySem PySem.Spec PyProof.Rows L2
local macro_rules | `(tactic| walk_at "go1") => `(tactic| first
  | with_reducible refine r_seq ?_ | with_reducible refine r_asg ?_ | with_reducible refine r_ret ?_ | with_reducible refine r_ifS ?_ | with_reducible refine r_drop ?_ | with_reducible refine r_par ?_ | with_reducible refine r_next ?_ | with_reducible refine r_retN ?_
  | ((with_reducible refine' r_var ?hv ?_); (case hv => rfl)) | with_reducible refine r_c ?_ | with_reducible refine r_bin ?_ | with_reducible refine r_un ?_ | with_reducible refine r_as1 ?_ | with_reducible refine r_as0 ?_
  | with_reducible refine r_cb ?_ | with_reducible refine r_call ?_ | with_reducible refine r_B ?_ | with_reducible refine r_notT ?_ | with_reducible refine r_andT ?_ | with_reducible refine r_orT ?_
  | with_reducible refine r_andV ?_ | with_reducible refine r_orV ?_ | with_reducible refine r_notV ?_ | with_reducible refine r_if ?_ | with_reducible refine r_tup ?_ | with_reducible refine r_lst ?_ | with_reducible refine r_mu ?_
  | with_reducible refine r_cut ?_ | with_reducible refine r_p0 ?_ | with_reducible refine r_p1 ?_ | with_reducible refine r_gN ?_ | ((with_reducible refine r_gT ?hv ?_); (case hv => rfl)) | with_reducible refine r_gs1 ?_ | with_reducible refine r_gs0 ?_
  | ((with_reducible refine r_trueR ?hv ?_); (case hv => first | rfl | assumption)) | ((with_reducible refine r_falseR ?hv ?_); (case hv => first | rfl | assumption)) | with_reducible refine r_bl ?_ | with_reducible refine r_in ?_ | with_reducible refine r_two ?_
  | with_reducible refine r_addI ?_ | with_reducible refine r_subI ?_ | with_reducible refine r_mulI ?_ ?_ | with_reducible refine r_divI ?_ ?_ | with_reducible refine r_modI ?_ ?_ | with_reducible refine r_powI ?_ ?_ | with_reducible refine r_negI ?_
  | with_reducible refine r_lt ?_ | with_reducible refine r_le ?_ | with_reducible refine r_gt ?_ | with_reducible refine r_ge ?_ | with_reducible refine r_is ?_ | with_reducible refine r_isNot ?_ | with_reducible refine r_eqI ?_ | with_reducible refine r_neI ?_ | with_reducible refine r_eqS ?_ | with_reducible refine r_neS ?_
  | with_reducible refine r_ixP0 ?_ | with_reducible refine r_ixP1 ?_ | with_reducible refine r_ix0T ?_ | with_reducible refine r_ix1T ?_ | with_reducible refine r_lenT ?_ | with_reducible refine r_lenL ?_ | with_reducible refine r_lenC ?_
  | with_reducible refine r_abs ?_ | with_reducible refine r_max ?_ | with_reducible refine r_min ?_ | with_reducible refine r_intI ?_ | with_reducible refine r_intB ?_ | with_reducible refine r_tupL ?_ | with_reducible refine r_tupT ?_
  | with_reducible refine r_gcd ?_ | ((with_reducible refine r_isi ?hv ?_); (case hv => first | rfl | assumption)) | with_reducible refine r_sizeT ?_ | with_reducible refine r_sizeL ?_)
local macro_rules | `(tactic| walk_at "go") => `(tactic| repeat' walk_at "go1")
local macro_rules | `(tactic| walk_at "go1") => `(tactic| first
  | with_reducible refine r_lc ?_ | with_reducible refine r_wiT ?_ | with_reducible refine r_wiZ ?_ | with_reducible refine r_wiL ?_ | with_reducible refine r_wiR1 ?_ | with_reducible refine r_for ?_ | with_reducible refine r_yes ?_
  | with_reducible refine b_nm ?_ | with_reducible refine r_setD0 ?_ | with_reducible refine r_setD1 ?_ | ((with_reducible refine' r_setDT ?hv ?_); (case hv => rfl)) | with_reducible refine r_setsD ?_ | with_reducible refine r_setsCut ?_ | with_reducible refine b_tp2 ?_ | with_reducible refine r_trueL ?_ | with_reducible refine r_falseL ?_ )

local macro_rules | `(tactic| walk_at "go1") => `(tactic| first
  | with_reducible refine r_size0 ?_ | with_reducible refine r_size3 ?_ | with_reducible refine r_app ?_ | with_reducible refine r_setIx ?_ | ((with_reducible refine' r_sizeG ?hv ?_); (case hv => rfl)) | ((with_reducible refine' r_addG ?hv ?_); (case hv => rfl)) | ((with_reducible refine' r_addTG ?hv ?_); (case hv => rfl))
  | with_reducible refine r_bmL ?_ | with_reducible refine r_isL ?_ | with_reducible refine r_try ?_ | with_reducible refine r_emp ?_ | with_reducible refine r_raise ?_ | with_reducible refine r_chain ?_ | with_reducible refine r_mulGI ?_ ?_
  | with_reducible refine r_wiET ?_ | with_reducible refine r_telLen ?_ | with_reducible refine r_telsLen ?_ | with_reducible refine r_rowLen ?_ | ((with_reducible refine' r_telT ?hv ?_); (case hv => rfl)))

local macro_rules | `(tactic| walk_at "szs") => `(tactic| first
  | assumption
  | ((with_reducible apply Sz.add); walk_at "szs"; walk_at "szs")
  | ((with_reducible apply Sz.sub); walk_at "szs"; walk_at "szs")
  | ((with_reducible apply Sz.mul); walk_at "szs"; walk_at "szs")
  | ((with_reducible apply Sz.neg); walk_at "szs")
  | (apply Pz.sz; assumption) | exact sz0 | exact sz1 | exact sz24
  | ((with_reducible apply sz_abs); walk_at "szs"))
local macro_rules | `(tactic| walk_at "sz") => `(tactic| (apply Sz.mono; walk_at "szs"; exact Nat.le_of_ble_eq_true rfl))
local macro_rules | `(tactic| walk_at "pen") => `(tactic| first | assumption | (apply Stm.pen; assumption) | (apply stm_st; assumption) | (apply stm_st; apply Stm.pen; assumption))
local macro_rules | `(tactic| walk_at "stm") => `(tactic| first | assumption | exact Stm.of (by walk_at "pen") | (refine Stm.trans ?_ (by assumption); walk_at "stm") | (refine Stm.trans ?_ (Stm.new (by walk_at "pen")); walk_at "stm"))
local macro_rules | `(tactic| walk_at "side") => `(tactic| first | assumption | rfl | omega | decide | walk_at "sz" | walk_at "pen")
local macro_rules | `(tactic| walk_at "au") => `(tactic| repeat' walk_at "au1")
local macro_rules | `(tactic| walk_at "au1") => `(tactic| first
  | walk_at "go1"
  | (with_reducible refine i_next ?_; intro r _ _)
  | (with_reducible refine i_draw ?a ?b ?c ?_; (case a => walk_at "side"); (case b => walk_at "side"); (case c => walk_at "pen"); intro x S' _ _ _)
  | (with_reducible refine i_sum_of ?a ?b ?_; (case a => walk_at "sz"); (case b => walk_at "sz"))
  | (with_reducible refine i_difference_of ?a ?b ?_; (case a => walk_at "sz"); (case b => walk_at "sz"))
  | (with_reducible refine i_product_of ?a ?b ?_; (case a => walk_at "sz"); (case b => walk_at "sz"))
  | (with_reducible refine i_is_below ?a ?b ?_; (case a => walk_at "sz"); (case b => walk_at "sz"))
  | (with_reducible refine i_added ?a ?b ?_; (case a => walk_at "sz"); (case b => walk_at "sz"))
  | (with_reducible refine i_less ?a ?b ?_; (case a => walk_at "sz"); (case b => walk_at "sz"))
  | (with_reducible refine i_times ?a ?b ?_; (case a => walk_at "sz"); (case b => walk_at "sz"))
  | (with_reducible refine i_is_less ?a ?b ?_; (case a => walk_at "sz"); (case b => walk_at "sz"))
  | (with_reducible refine i_sum ?a ?b ?_; (case a => walk_at "sz"); (case b => walk_at "sz"))
  | (with_reducible refine i_rest ?a ?b ?_; (case a => walk_at "sz"); (case b => walk_at "sz"))
  | (with_reducible refine i_prod ?a ?b ?_; (case a => walk_at "sz"); (case b => walk_at "sz"))
  | (with_reducible refine i_under ?a ?b ?_; (case a => walk_at "sz"); (case b => walk_at "sz"))
  | with_reducible refine i_is_part_pt ?_
  | with_reducible refine r_intB ?_
  | (with_reducible refine r_rng1 ?a ?b ?_; (case a => decide); (case b => decide)) | with_reducible refine r_ix0L ?_ | with_reducible refine r_muE ?_ | with_reducible refine r_itL ?_ | with_reducible refine r_itT ?_
  | with_reducible refine r_par3 ?_ | with_reducible refine r_three ?_ | with_reducible refine r_gSub ?_ | with_reducible refine r_lstM ?_ | with_reducible refine r_lstT ?_ | with_reducible refine r_turn ?_ | with_reducible refine r_callK ?_
  | with_reducible refine i_opposite ?_
  | ((with_reducible refine' r_ixT ?hv ?_); (case hv => rfl))
  | ((with_reducible refine' r_ixL ?hv ?_); (case hv => rfl)) | fail)
local macro_rules | `(tactic| walk_at "au1") => `(tactic| first
  | (with_reducible refine r_modI ?a ?_; (case a => decide))
  | (with_reducible refine r_divI ?a ?_; (case a => exact ⟨by decide, by decide⟩))
  | (with_reducible refine r_powI ?a ?_; (case a => exact ⟨by decide, by decide, by decide⟩)) | fail)
local macro_rules | `(tactic| walk_at "br") => `(tactic| first
  | (with_reducible refine r_bothT ?_ ?_ <;> intro z)
  | (with_reducible refine r_bothF ?_ ?_ <;> intro z)
  | (with_reducible refine r_bothD ?_ ?_ <;> intro z)
  | (with_reducible refine r_bothN ?_ ?_ <;> intro z)
  | (with_reducible refine r_both ?_ ?_ <;> intro z) | fail)
local macro_rules | `(tactic| walk_at "ab") => `(tactic| repeat' first | walk_at "au1" | walk_at "br")

local macro_rules | `(tactic| walk_at "shd") => `(tactic| first
  | assumption | exact ShD.non | exact ShD.bl | exact ShD.lit (by decide) | exact ShD.str (by decide +kernel) (by decide +kernel)
  | (apply ShD.nat; omega)
  | (apply ShD.pt (by walk_at "szs"); exact (Nat.ble_eq_true_of_le (of_decide_eq_true rfl)))
  | (apply ShD.tup; walk_at "shds") | (apply ShD.lst; walk_at "shds"))
local macro_rules | `(tactic| walk_at "shds") => `(tactic| first
  | assumption | exact ShDs.nil | (apply ShDs.cons; walk_at "shd"; walk_at "shds"))

local macro_rules | `(tactic| walk_at "au1") => `(tactic| first
  | (with_reducible refine r_neSS rfl ?_)
  | ((with_reducible refine' r_reprD ?a ?b ?c ?_); (case a => walk_at "shd"); (case b => rfl); (case c => rfl)) | fail)

local macro_rules | `(tactic| walk_at "szs") => `(tactic| ((with_reducible apply Sz.div); walk_at "szs"; walk_at "szs"; assumption))
local macro_rules | `(tactic| walk_at "au1") => `(tactic| first
  | with_reducible refine r_eqPt ?_ | with_reducible refine r_nePt ?_ | with_reducible refine r_eqN ?_ | with_reducible refine r_neN ?_
  | (with_reducible refine n_difference_of1 ?a ?_; (case a => walk_at "sz"))
  | (with_reducible refine n_rest1 ?a ?_; (case a => walk_at "sz"))
  | (with_reducible refine i_divided ?z ?a ?b ?_; (case z => assumption); (case a => walk_at "sz"); (case b => walk_at "sz"))
  | (with_reducible refine i_by ?z ?a ?b ?_; (case z => assumption); (case a => walk_at "sz"); (case b => walk_at "sz"))
  | (with_reducible refine i_between2 ?a ?b ?c ?_; (case a => walk_at "sz"); (case b => walk_at "sz"); (case c => walk_at "sz")) | fail)
local macro_rules | `(tactic| walk_at "pD") => `(tactic| first | rfl | assumption | (apply Pz.pD; assumption))
local macro_rules | `(tactic| walk_at "p2") => `(tactic| first | rfl | assumption | (apply Pz.p2; assumption))
local macro_rules | `(tactic| walk_at "pz") => `(tactic| first | assumption | (apply Pz.mono; (first | assumption | (apply Pz.pt; walk_at "szs")); exact Nat.le_of_ble_eq_true rfl))
local macro_rules | `(tactic| walk_at "au1") => `(tactic| first
  | (with_reducible refine i_part ?a ?b ?c ?_; (case a => walk_at "side"); (case b => walk_at "side"); (case c => walk_at "pen"); intro q S' _ _)
  | (with_reducible refine i_above ?a ?b ?c ?_; (case a => walk_at "side"); (case b => walk_at "side"); (case c => walk_at "pen"); intro q S' _ _ _)
  | (with_reducible refine i_odd ?c ?_; (case c => walk_at "pen"); intro d S' _ _)
  | ((with_reducible refine i_clk_c ?a ?b ?c); (case a => walk_at "pD"); all_goals first | (intro (z : _ = false)) | (intro n e _; subst e))
  | ((with_reducible refine i_lclk_c ?a ?b ?c); (case a => walk_at "pD"); all_goals first | (intro (z : _ = false)) | (intro n e _; subst e))
  | ((with_reducible refine i_part_c ?a ?b ?c); (case a => walk_at "p2"); all_goals first | (intro (z : _ = false)) | (intro q e; subst e))
  | ((with_reducible refine i_up_c ?a ?b ?c); (case a => walk_at "p2"); all_goals first | (intro (z : _ = false)) | (intro q e _; subst e))
  | ((with_reducible refine i_lpart_c ?a ?b ?c); (case a => walk_at "pz"); all_goals first | (intro (z : _ = false)) | (intro q e; subst e)) | fail)

abbrev v_MOST_TELLINGS : D := .int 16
abbrev v_MOST_STEPS : D := .int 60
structure Tel where
  one : Nat
  other : Nat
  low : Option Rat
  high : Option Rat
abbrev telD (t : Tel) : D := .tup [.int t.one, .int t.other, eD t.low, eD t.high]
def telsD (ts : List Tel) : D := .tup (ts.map telD)
/-- bounds that may be, of at most n bits -/
def BndOk (n : Nat) : Option Rat → Option Rat → Prop
  | none, none => False
  | some l, some h => l ≤ h ∧ Sz n l ∧ Sz n h
  | some l, none => Sz n l
  | none, some h => Sz n h
structure TelOk (n : Nat) (t : Tel) : Prop where
  one : t.one < 6
  other : t.other < 6
  ne : t.one ≠ t.other
  bnd : BndOk n t.low t.high
structure TelsOk (n : Nat) (ts : List Tel) : Prop where
  len : ts.length ≤ 16
  ea : ∀ t ∈ ts, TelOk n t
def rowD (r : List Rat) : D := .tup (r.map pt)
structure RowOk (n : Nat) (r : List Rat) : Prop where
  len : r.length = 6
  nil : r[0]? = some 0
  ea : ∀ q ∈ r, Sz n q
def isNought : D → Bool
  | .tup [.int a, .int b] => decide (a = 0) && decide (b = 1)
  | _ => false
def isRow : D → Bool
  | .tup xs => decide (xs.length = 6) && (xs.all isPart && isNought (xs.headD .non))
  | _ => false
def rg (r : List Rat) (i : Nat) : Rat := r.getD i 0
def keptB (t : Tel) (r : List Rat) : Bool := lowB t.low (rg r t.other - rg r t.one) && highB t.high (rg r t.other - rg r t.one)
def brokenR (r : List Rat) (ts : List Tel) : Option Nat := ts.findIdx? fun t => !keptB t r
def oN : Option Nat → D
  | none => .non
  | some n => .int n
def neI : D → D → Bool
  | .int i, .int j => !decide (i = j)
  | _, _ => false
def ltP : D → D → Bool
  | .tup [.int a, .int b], .tup [.int c, .int d] => decide (a * d < c * b)
  | _, _ => false
theorem ltP_pt {p q : Rat} : ltP (pt p) (pt q) = decide (p < q) := lt_pt
def bndB (l h : D) : Bool := cond (isNon l) (isPart h) (cond (isNon h) (isPart l) (isPart l && (isPart h && !ltP h l)))
def isTel : D → Bool
  | .tup [a, b, l, h] => isClk a && (isClk b && (neI a b && bndB l h))
  | _ => false
def isTels : D → Bool
  | .tup xs => decide (xs.length ≤ 16) && xs.all isTel
  | _ => false
def p_are_bounds : SpD := fun ds S R _ => ∃ l h, ds = [l, h] ∧ Pz 4000 l ∧ Pz 4000 h ∧ R (.bl (bndB l h)) S
def p_is_telling : SpD := fun ds S R _ => ∃ d, ds = [d] ∧ Qz 4000 d ∧ R (.bl (isTel d)) S
def p_are_tellings : SpD := fun ds S R _ => ∃ d, ds = [d] ∧ Tz 4000 d ∧ R (.bl (isTels d)) S
def p_is_row : SpD := fun ds S R _ => ∃ d, ds = [d] ∧ Qz 4000 d ∧ R (.bl (isRow d)) S
def p_check_number (K : PySem.W.Frag) : SpD := fun ds S R Rx => ∃ d, ds = [d] ∧ plainD d = true ∧ (isClk d = true → R .non S) ∧ (isClk d = false → Rx (erO K "NoNumber") S)
def p_check_telling (K : PySem.W.Frag) : SpD := fun ds S R Rx => ∃ d, ds = [d] ∧ Qz 4000 d ∧ (isTel d = true → R .non S) ∧ (isTel d = false → Rx (erO K "NoTelling") S)
def p_check_tellings (K : PySem.W.Frag) : SpD := fun ds S R Rx => ∃ d, ds = [d] ∧ Tz 4000 d ∧ (isTels d = true → R .non S) ∧ (isTels d = false → Rx (erO K "NoTellings") S)
def p_check_row (K : PySem.W.Frag) : SpD := fun ds S R Rx => ∃ d, ds = [d] ∧ Qz 4000 d ∧ (isRow d = true → R .non S) ∧ (isRow d = false → Rx (erO K "NoRow") S)
def p_is_kept : SpD := fun ds S R _ => ∃ t r, ds = [telD t, rowD r] ∧ TelOk 1500 t ∧ RowOk 1500 r ∧ R (.bl (keptB t r)) S
def p_first_not_kept : SpD := fun ds S R _ => ∃ ts r, ds = [telsD ts, rowD r] ∧ TelsOk 1500 ts ∧ RowOk 1500 r ∧ R (oN (brokenR r ts)) S
def p_first_broken (K : PySem.W.Frag) : SpD := fun ds S R Rx => ∃ d e, ds = [d, e] ∧ ((Tz 4000 d ∧ isTels d = false ∧ Rx (erO K "NoTellings") S) ∨ ∃ ts, d = telsD ts ∧ TelsOk 1500 ts ∧
  ((Qz 4000 e ∧ isRow e = false ∧ Rx (erO K "NoRow") S) ∨ ∃ r, e = rowD r ∧ RowOk 1500 r ∧ R (oN (brokenR r ts)) S))
theorem kept_at {t : Tel} {r : List Rat} (h : lowB t.low (rg r t.other - rg r t.one) = true) : keptB t r = highB t.high (rg r t.other - rg r t.one) := by
  unfold keptB
  rw [h, Bool.true_and]
theorem kept_no {t : Tel} {r : List Rat} (h : lowB t.low (rg r t.other - rg r t.one) = false) : keptB t r = false := by
  unfold keptB
  rw [h, Bool.false_and]
section
variable {K : PySem.W.Frag} {S : Sto} {R : KR} {Rx : Er → Sto → Prop} {p q : Rat} {d e a b : D} {i n m : Nat} {t : Tel} {ts : List Tel} {r : List Rat} {l h : Option Rat}
theorem BndOk.mono {n m : Nat} (z : BndOk n l h) (k : n ≤ m) : BndOk m l h := by
  cases l <;> cases h <;> first | exact z.elim | exact Sz.mono z k | exact ⟨z.1, z.2.1.mono k, z.2.2.mono k⟩
theorem TelOk.mono {n m : Nat} (z : TelOk n t) (k : n ≤ m) : TelOk m t := ⟨z.one, z.other, z.ne, z.bnd.mono k⟩
theorem TelsOk.mono {n m : Nat} (z : TelsOk n ts) (k : n ≤ m) : TelsOk m ts := ⟨z.len, fun t ht => (z.ea t ht).mono k⟩
theorem RowOk.mono {n m : Nat} (z : RowOk n r) (k : n ≤ m) : RowOk m r := ⟨z.len, z.nil, fun q hq => (z.ea q hq).mono k⟩
theorem RowOk.get {n k : Nat} (z : RowOk n r) (hk : k < 6) : r[k]? = some (rg r k) ∧ Sz n (rg r k) := by
  have hl : k < r.length := by rw [z.len]; exact hk
  have e : r[k]? = some (rg r k) := by
    unfold rg
    rw [List.getD_eq_getElem?_getD, List.getElem?_eq_getElem hl]
    rfl
  exact ⟨e, z.ea _ (List.mem_of_getElem? e)⟩
theorem BndOk.lo {n : Nat} {q : Rat} (z : BndOk n (some q) h) : Sz n q := by
  cases h <;> first | exact z | exact z.2.1
theorem BndOk.hi {n : Nat} {q : Rat} (z : BndOk n l (some q)) : Sz n q := by
  cases l <;> first | exact z | exact z.2.2
theorem TelOk.lo {n : Nat} {q : Rat} (z : TelOk n t) (e : t.low = some q) : Sz n q := BndOk.lo (h := t.high) (by rw [← e]; exact z.bnd)
theorem TelOk.hi {n : Nat} {q : Rat} (z : TelOk n t) (e : t.high = some q) : Sz n q := BndOk.hi (l := t.low) (by rw [← e]; exact z.bnd)
theorem atI_nat {xs : List D} {k : Nat} (e : xs[k]? = some d) : atI xs (k : Int) = some d := by
  have hk := (List.getElem?_eq_some_iff.mp e).1
  unfold atI ixN
  rw [if_pos (by omega), if_pos (by omega)]
  simpa using e
theorem r_ixRow {n k : Nat} (z : RowOk n r) (hk : k < 6) (c : R (pt (rg r k)) S) : dIx (rowD r) (.int (k : Int)) S R :=
  ⟨_, atI_nat (by rw [List.getElem?_map, (z.get hk).1]; rfl), c⟩
theorem r_ixRow0 {n : Nat} (z : RowOk n r) (c : R (pt 0) S) : dIx (rowD r) (.int 0) S R := by
  have e0 : rg r 0 = 0 := by
    have := (z.get (show 0 < 6 by decide)).1
    rw [z.nil] at this
    exact (Option.some.inj this).symm
  refine r_ixRow (k := 0) z (by decide) ?_
  rw [e0]
  exact c
theorem r_ixTels {k : Nat} (hk : ts[k]? = some t) (c : R (telD t) S) : dIx (telsD ts) (.int (k : Int)) S R :=
  ⟨_, atI_nat (by rw [List.getElem?_map, hk]; rfl), c⟩
theorem r_telsLen (k : R (.int (ts.length : Nat)) S) : dLen [telsD ts] S R := by
  show R (.int ((ts.map telD).length : Nat)) S
  rw [List.length_map]
  exact k
theorem r_itTels {Q : List D → Prop} (k : Q (ts.map telD)) : ∃ ys, telsD ts = .tup ys ∧ Q ys := ⟨_, rfl, k⟩
theorem r_itRow {Q : List D → Prop} (k : Q (r.map pt)) : ∃ ys, rowD r = .tup ys ∧ Q ys := ⟨_, rfl, k⟩
theorem r_rowLen (k : R (.int ((r.map pt).length : Nat)) S) : dLen [rowD r] S R := k
theorem r_wiET {as : WA'} {env : Vars} {RS : Src → Sto → Prop} {Rz : KX} (k : as env S (fun ds S1 => ∃ xs, ds = [.tup xs] ∧ RS ⟨xs.zipIdx.map fun q => D.tup [.int (q.2 : Nat), q.1], fun _ => True⟩ S1) Rz) : wiET as env S RS Rz := k
theorem r_itE {xs : List D} {Q : List D → Prop} (k : Q xs) : ∃ ys, [D.tup xs] = [D.tup ys] ∧ Q ys := ⟨xs, rfl, k⟩
theorem r_itET {Q : List D → Prop} (k : Q (ts.map telD)) : ∃ ys, [telsD ts] = [D.tup ys] ∧ Q ys := ⟨_, rfl, k⟩
theorem isNon_eD : isNon (eD l) = l.isNone := by cases l <;> rfl
theorem isTel_no (z : NotN 4 d) : isTel d = false := by
  unfold isTel
  split
  · exact absurd rfl (z _ rfl)
  · rfl
theorem ne_nat {x y : Nat} (z : x ≠ y) : neI (.int (x : Int)) (.int (y : Int)) = true := by
  show (!decide _) = true
  rw [decide_eq_false (by omega)]
  rfl
theorem isTel_tel (z : TelOk n t) : isTel (telD t) = true := by
  show (isClk (.int t.one) && (isClk (.int t.other) && (neI (.int t.one) (.int t.other) && bndB (eD t.low) (eD t.high)))) = true
  rw [isClk_nat z.one, isClk_nat z.other, ne_nat z.ne]
  have b := z.bnd
  cases el : t.low with
  | none =>
    cases eh : t.high with
    | none =>
      rw [el, eh] at b
      exact b.elim
    | some q => exact isPart_pt q
  | some p =>
    cases eh : t.high with
    | none => exact isPart_pt p
    | some q =>
      rw [el, eh] at b
      show (isPart (pt p) && (isPart (pt q) && !ltP (pt q) (pt p))) = true
      rw [isPart_pt, isPart_pt, ltP_pt, decide_eq_false (Rat.not_lt.mpr b.1)]
      rfl
theorem bnd_at (za : Pz n a) (zb : Pz n b) (z : bndB a b = true) : ∃ l h, a = eD l ∧ b = eD h ∧ BndOk n l h := by
  unfold bndB at z
  cases ea : isNon a with
  | true =>
    rw [ea] at z
    obtain ⟨q, rfl⟩ := isPart_at z
    have : a = .non := by cases a <;> first | rfl | cases ea
    exact ⟨none, some q, this, rfl, zb.sz⟩
  | false =>
    rw [ea] at z
    cases eb : isNon b with
    | true =>
      rw [eb] at z
      obtain ⟨q, rfl⟩ := isPart_at z
      have : b = .non := by cases b <;> first | rfl | cases eb
      exact ⟨some q, none, rfl, this, za.sz⟩
    | false =>
      rw [eb] at z
      have z : (isPart a && (isPart b && !ltP b a)) = true := z
      simp only [Bool.and_eq_true] at z
      obtain ⟨p, rfl⟩ := isPart_at z.1
      obtain ⟨q, rfl⟩ := isPart_at z.2.1
      have z3 := z.2.2
      rw [ltP_pt] at z3
      have z3 : ¬ q < p := by simpa using z3
      exact ⟨some p, some q, rfl, rfl, Rat.not_lt.mp z3, za.sz, zb.sz⟩
theorem tel_at (hz : Qz n d) (z : isTel d = true) : ∃ t, d = telD t ∧ TelOk n t := by
  rcases tup_4 d with ⟨a, b, l, h, rfl⟩ | hn
  · have z : (isClk a && (isClk b && (neI a b && bndB l h))) = true := z
    simp only [Bool.and_eq_true] at z
    obtain ⟨h1, h2, h3, h4⟩ := z
    obtain ⟨i, rfl, hi⟩ := isClk_at h1
    obtain ⟨j, rfl, hj⟩ := isClk_at h2
    obtain ⟨l, h, rfl, rfl, hb⟩ := bnd_at (hz.at (by simp)) (hz.at (by simp)) h4
    have h3 : ¬ i = j := fun e => by simp [neI, e] at h3
    exact ⟨⟨i, j, l, h⟩, rfl, hi, hj, h3, hb⟩
  · rw [isTel_no hn] at z
    cases z
theorem tels_at' {xs : List D} (hz : ∀ x ∈ xs, Qz n x) (z : xs.all isTel = true) : ∃ ts : List Tel, xs = ts.map telD ∧ ∀ t ∈ ts, TelOk n t := by
  induction xs with
  | nil => exact ⟨[], rfl, fun c hc => by cases hc⟩
  | cons x xs ih =>
    rw [List.all_cons, Bool.and_eq_true] at z
    obtain ⟨c, rfl, hc⟩ := tel_at (hz x List.mem_cons_self) z.1
    obtain ⟨cs, rfl, hcs⟩ := ih (fun y hy => hz y (List.mem_cons_of_mem _ hy)) z.2
    exact ⟨c :: cs, rfl, fun y hy => by
      rcases List.mem_cons.mp hy with rfl | hy
      · exact hc
      · exact hcs y hy⟩
theorem tels_at (hz : Tz n d) (z : isTels d = true) : ∃ ts, d = telsD ts ∧ TelsOk n ts := by
  cases d with
  | tup xs =>
    have z : (decide (xs.length ≤ 16) && xs.all isTel) = true := z
    obtain ⟨z1, z2⟩ := Bool.and_eq_true_iff.mp z
    obtain ⟨ts, rfl, ht⟩ := tels_at' (fun x hx => hz.at hx) z2
    have z1 := of_decide_eq_true z1
    rw [List.length_map] at z1
    exact ⟨ts, rfl, z1, ht⟩
  | _ => cases z
theorem isTels_tels (z : TelsOk n ts) : isTels (telsD ts) = true := by
  show (decide ((ts.map telD).length ≤ 16) && (ts.map telD).all isTel) = true
  rw [List.length_map, decide_eq_true z.len, Bool.true_and, List.all_eq_true]
  intro x hx
  obtain ⟨t, ht, rfl⟩ := List.mem_map.mp hx
  exact isTel_tel (z.ea t ht)
theorem pz_eD (z : ∀ q, l = some q → Sz n q) : Pz n (eD l) := by
  cases l with
  | none => exact Pz.no rfl rfl
  | some q => exact .pt (z q rfl)
theorem tel_qz (z : TelOk n t) : Qz n (telD t) := Qz.tup rfl fun x hx => by
  simp only [List.mem_cons, List.not_mem_nil, or_false] at hx
  rcases hx with rfl | rfl | rfl | rfl
  · exact Pz.no rfl rfl
  · exact Pz.no rfl rfl
  · exact pz_eD fun q e => z.lo e
  · exact pz_eD fun q e => z.hi e
theorem tels_tz (z : TelsOk n ts) : Tz n (telsD ts) := Tz.tup (by rw [List.length_map]; have := z.len; omega) fun x hx => by
  obtain ⟨t, ht, rfl⟩ := List.mem_map.mp hx
  exact tel_qz (z.ea t ht)
theorem isNought_at (z : isNought d = true) : d = pt 0 := by
  unfold isNought at z
  split at z
  · obtain ⟨h1, h2⟩ := Bool.and_eq_true_iff.mp z
    rw [of_decide_eq_true h1, of_decide_eq_true h2]
    rfl
  · cases z
theorem parts_at {xs : List D} (z : xs.all isPart = true) : ∃ r : List Rat, xs = r.map pt := by
  induction xs with
  | nil => exact ⟨[], rfl⟩
  | cons y ys ih =>
    rw [List.all_cons, Bool.and_eq_true] at z
    obtain ⟨q, rfl⟩ := isPart_at z.1
    obtain ⟨r, rfl⟩ := ih z.2
    exact ⟨q :: r, rfl⟩
theorem row_at (hz : Qz n d) (z : isRow d = true) : ∃ r, d = rowD r ∧ RowOk n r := by
  cases d with
  | tup xs =>
    have z : (decide (xs.length = 6) && (xs.all isPart && isNought (xs.headD .non))) = true := z
    simp only [Bool.and_eq_true] at z
    obtain ⟨z1, z2, z3⟩ := z
    obtain ⟨r, rfl⟩ := parts_at z2
    have z1 := of_decide_eq_true z1
    rw [List.length_map] at z1
    refine ⟨r, rfl, z1, ?_, fun q hq => (hz.at (List.mem_map_of_mem hq)).sz⟩
    cases r with
    | nil => cases z1
    | cons q r =>
      have := isNought_at z3
      rw [pt_inj this]
      rfl
  | _ => cases z
theorem isRow_row (z : RowOk n r) : isRow (rowD r) = true := by
  show (decide ((r.map pt).length = 6) && ((r.map pt).all isPart && isNought ((r.map pt).headD .non))) = true
  have h1 : (r.map pt).all isPart = true := by
    rw [List.all_eq_true]
    intro x hx
    obtain ⟨q, _, rfl⟩ := List.mem_map.mp hx
    exact isPart_pt q
  rw [List.length_map, decide_eq_true z.len, h1]
  cases r with
  | nil => exact absurd z.len (by decide)
  | cons q r =>
    have := z.nil
    simp only [List.getElem?_cons_zero, Option.some.injEq] at this
    rw [this]
    rfl
theorem row_qz (z : RowOk n r) : Qz n (rowD r) := Qz.tup' (by rw [List.length_map, z.len]; decide) fun x hx => by
  obtain ⟨q, hq, rfl⟩ := List.mem_map.mp hx
  exact .pt (z.ea q hq)
theorem i_are_bounds (z1 : Pz 4000 a) (z2 : Pz 4000 b) (k : R (.bl (bndB a b)) S) : ([a, b] ++ ([] : List D)).length = 2 ∧ p_are_bounds ([a, b] ++ []) S R Rx := ⟨rfl, a, b, rfl, z1, z2, k⟩
theorem i_is_telling (z : Qz 4000 d) (k : R (.bl (isTel d)) S) : ([d] ++ ([] : List D)).length = 1 ∧ p_is_telling ([d] ++ []) S R Rx := ⟨rfl, d, rfl, z, k⟩
theorem i_are_tellings (z : Tz 4000 d) (k : R (.bl (isTels d)) S) : ([d] ++ ([] : List D)).length = 1 ∧ p_are_tellings ([d] ++ []) S R Rx := ⟨rfl, d, rfl, z, k⟩
theorem i_is_row (z : Qz 4000 d) (k : R (.bl (isRow d)) S) : ([d] ++ ([] : List D)).length = 1 ∧ p_is_row ([d] ++ []) S R Rx := ⟨rfl, d, rfl, z, k⟩
theorem i_check_number (z : plainD d = true) (k : isClk d = true → R .non S) (x : isClk d = false → Rx (erO K "NoNumber") S) : ([d] ++ ([] : List D)).length = 1 ∧ p_check_number K ([d] ++ []) S R Rx := ⟨rfl, d, rfl, z, k, x⟩
theorem i_check_number_ok (hn : n < 6) (k : R .non S) : ([D.int (n : Int)] ++ ([] : List D)).length = 1 ∧ p_check_number K ([D.int (n : Int)] ++ []) S R Rx := i_check_number rfl (fun _ => k) fun z => by rw [isClk_nat hn] at z; cases z
theorem i_check_telling (z : Qz 4000 d) (k : isTel d = true → R .non S) (x : isTel d = false → Rx (erO K "NoTelling") S) : ([d] ++ ([] : List D)).length = 1 ∧ p_check_telling K ([d] ++ []) S R Rx := ⟨rfl, d, rfl, z, k, x⟩
theorem i_check_tellings (z : Tz 4000 d) (k : isTels d = true → R .non S) (x : isTels d = false → Rx (erO K "NoTellings") S) : ([d] ++ ([] : List D)).length = 1 ∧ p_check_tellings K ([d] ++ []) S R Rx := ⟨rfl, d, rfl, z, k, x⟩
theorem i_check_tellings_ok (z : TelsOk 4000 ts) (k : R .non S) : ([telsD ts] ++ ([] : List D)).length = 1 ∧ p_check_tellings K ([telsD ts] ++ []) S R Rx := i_check_tellings (tels_tz z) (fun _ => k) fun e => by rw [isTels_tels z] at e; cases e
theorem i_check_row (z : Qz 4000 d) (k : isRow d = true → R .non S) (x : isRow d = false → Rx (erO K "NoRow") S) : ([d] ++ ([] : List D)).length = 1 ∧ p_check_row K ([d] ++ []) S R Rx := ⟨rfl, d, rfl, z, k, x⟩
theorem i_is_kept (z : TelOk 1500 t) (y : RowOk 1500 r) (k : R (.bl (keptB t r)) S) : ([telD t, rowD r] ++ ([] : List D)).length = 2 ∧ p_is_kept ([telD t, rowD r] ++ []) S R Rx := ⟨rfl, t, r, rfl, z, y, k⟩
theorem i_first_not_kept (z : TelsOk 1500 ts) (y : RowOk 1500 r) (k : R (oN (brokenR r ts)) S) : ([telsD ts, rowD r] ++ ([] : List D)).length = 2 ∧ p_first_not_kept ([telsD ts, rowD r] ++ []) S R Rx := ⟨rfl, ts, r, rfl, z, y, k⟩
theorem i_first_broken (z : TelsOk 1500 ts) (y : RowOk 1500 r) (k : R (oN (brokenR r ts)) S) : ([telsD ts, rowD r] ++ ([] : List D)).length = 2 ∧ p_first_broken K ([telsD ts, rowD r] ++ []) S R Rx := ⟨rfl, _, _, rfl, .inr ⟨ts, rfl, z, .inr ⟨r, rfl, y, k⟩⟩⟩
theorem i_first_broken_r (z : TelsOk 1500 ts) (y : Qz 4000 e) (w : isRow e = false) (x : Rx (erO K "NoRow") S) : ([telsD ts, e] ++ ([] : List D)).length = 2 ∧ p_first_broken K ([telsD ts, e] ++ []) S R Rx := ⟨rfl, _, _, rfl, .inr ⟨ts, rfl, z, .inl ⟨y, w, x⟩⟩⟩
theorem i_first_broken_t (z : Tz 4000 d) (w : isTels d = false) (x : Rx (erO K "NoTellings") S) : ([d, e] ++ ([] : List D)).length = 2 ∧ p_first_broken K ([d, e] ++ []) S R Rx := ⟨rfl, _, _, rfl, .inl ⟨z, w, x⟩⟩
end
theorem broken_take {r : List Rat} {ts : List Tel} {i : Nat} {t : Tel} (h : ts[i]? = some t) (hk : ∀ u ∈ ts.take i, keptB u r = true) (hb : keptB t r = false) : brokenR r ts = some i := by
  unfold brokenR
  rw [List.findIdx?_eq_some_iff_getElem]
  obtain ⟨hl, rfl⟩ := List.getElem?_eq_some_iff.mp h
  refine ⟨hl, by rw [hb]; rfl, fun j hj => ?_⟩
  have := hk ts[j] (List.mem_take_iff_getElem.mpr ⟨j, by omega, rfl⟩)
  rw [this]
  decide
theorem broken_all {r : List Rat} {ts : List Tel} (hk : ∀ u ∈ ts, keptB u r = true) : brokenR r ts = none := by
  unfold brokenR
  rw [List.findIdx?_eq_none_iff]
  intro x hx
  rw [hk x hx]
  rfl

end DL

set_option maxHeartbeats 4000000
namespace DL
/-! arcs, walks, and lengths that settle -/
structure Arc where
  b : Nat
  e : Nat
  l : Rat
  n : Nat
  s : Int
def upd6 {α : Type} (f : Nat → α) (v : Nat) (x : α) : Nat → α := fun w => if w = v then x else f w
theorem upd6_same {α : Type} {f : Nat → α} {v : Nat} {x : α} : upd6 f v x v = x := if_pos rfl
theorem upd6_ne {α : Type} {f : Nat → α} {v w : Nat} {x : α} (h : w ≠ v) : upd6 f v x w = f w := if_neg h
abbrev Lens := Nat → Option Rat
abbrev Lasts := Nat → Option Arc
structure BF where
  len : Lens
  last : Lasts
  sh : Option Nat
def better (d : Rat) : Option Rat → Bool
  | none => true
  | some y => decide (d < y)
def relax (x : BF) (a : Arc) : BF :=
  match x.len a.b with
  | none => x
  | some d => if better (d + a.l) (x.len a.e) = true then ⟨upd6 x.len a.e (some (d + a.l)), upd6 x.last a.e (some a), some a.e⟩ else x
def pass (arcs : List Arc) (len : Lens) (last : Lasts) : BF := arcs.foldl relax ⟨len, last, none⟩
def settle : Nat → List Arc → Lens → Lasts → Option Nat → BF
  | 0, _, len, last, sh => ⟨len, last, sh⟩
  | k + 1, arcs, len, last, _ =>
    match (pass arcs len last).sh with
    | none => pass arcs len last
    | some v => settle k arcs (pass arcs len last).len (pass arcs len last).last (some v)
/-- this arc makes nothing shorter -/
def Okx (len : Lens) (a : Arc) : Prop := ∀ d, len a.b = some d → ∃ y, len a.e = some y ∧ y ≤ d + a.l
theorem relax_or (x : BF) (a : Arc) : (relax x a = x ∧ Okx x.len a) ∨ ∃ d, x.len a.b = some d ∧ (∀ y, x.len a.e = some y → d + a.l < y) ∧ relax x a = ⟨upd6 x.len a.e (some (d + a.l)), upd6 x.last a.e (some a), some a.e⟩ := by
  unfold relax
  cases e : x.len a.b with
  | none => exact .inl ⟨rfl, fun d h => by rw [e] at h; cases h⟩
  | some d =>
    simp only
    cases e2 : x.len a.e with
    | none =>
      refine .inr ⟨d, rfl, fun y h => (by cases h), ?_⟩
      exact if_pos rfl
    | some y =>
      by_cases h : d + a.l < y
      · refine .inr ⟨d, rfl, fun y' h' => by cases h'; exact h, ?_⟩
        exact if_pos (decide_eq_true h)
      · refine .inl ⟨?_, fun d' h' => ?_⟩
        · exact if_neg (by show ¬ decide (d + a.l < y) = true; rw [decide_eq_false h]; decide)
        · rw [e] at h'
          cases h'
          exact ⟨y, e2, Rat.not_lt.mp h⟩
theorem relax_sh (x : BF) (a : Arc) (h : (relax x a).sh = none) : x.sh = none ∧ relax x a = x ∧ Okx x.len a := by
  rcases relax_or x a with ⟨e, o⟩ | ⟨d, _, _, e⟩
  · rw [e] at h
    exact ⟨h, e, o⟩
  · rw [e] at h
    cases h
theorem fold_none : ∀ (arcs : List Arc) (x : BF), (arcs.foldl relax x).sh = none → arcs.foldl relax x = x ∧ ∀ a ∈ arcs, Okx x.len a
  | [], x, _ => ⟨rfl, fun a h => by cases h⟩
  | a :: arcs, x, h => by
    have ih := fold_none arcs (relax x a) h
    have h2 : (relax x a).sh = none := by rw [← ih.1]; exact h
    obtain ⟨_, e, o⟩ := relax_sh x a h2
    show arcs.foldl relax (relax x a) = x ∧ _
    rw [e] at ih ⊢
    exact ⟨ih.1, fun c hc => by
      rcases List.mem_cons.mp hc with rfl | hc
      · exact o
      · exact ih.2 c hc⟩
theorem pass_none {arcs : List Arc} {len : Lens} {last : Lasts} (h : (pass arcs len last).sh = none) : (pass arcs len last).len = len ∧ (pass arcs len last).last = last ∧ ∀ a ∈ arcs, Okx len a := by
  have := fold_none arcs ⟨len, last, none⟩ h
  unfold pass
  rw [this.1]
  exact ⟨rfl, rfl, this.2⟩
/-- where it settles, no arc makes anything shorter -/
theorem settle_ok {arcs : List Arc} : ∀ (k : Nat) (len : Lens) (last : Lasts) (sh : Option Nat), (settle (k + 1) arcs len last sh).sh = none → ∀ a ∈ arcs, Okx (settle (k + 1) arcs len last sh).len a
  | k, len, last, sh, h => by
    unfold settle at h ⊢
    cases e : (pass arcs len last).sh with
    | none =>
      simp only
      obtain ⟨h1, _, h3⟩ := pass_none e
      rw [h1]
      exact h3
    | some v =>
      simp only [e] at h ⊢
      cases k with
      | zero => cases h
      | succ k => exact settle_ok k _ _ _ h
/-- what each step keeps -/
theorem fold_inv {arcs : List Arc} (I : Lens → Lasts → Prop) (hs : ∀ (x : BF) (a : Arc), a ∈ arcs → I x.len x.last → I (relax x a).len (relax x a).last) : ∀ (l : List Arc) (x : BF), (∀ a ∈ l, a ∈ arcs) → I x.len x.last → I (l.foldl relax x).len (l.foldl relax x).last
  | [], x, _, h => h
  | a :: l, x, hl, h => fold_inv I hs l (relax x a) (fun c hc => hl c (List.mem_cons_of_mem _ hc)) (hs x a (hl a List.mem_cons_self) h)
theorem settle_inv {arcs : List Arc} (I : Lens → Lasts → Prop) (hs : ∀ (x : BF) (a : Arc), a ∈ arcs → I x.len x.last → I (relax x a).len (relax x a).last) : ∀ (k : Nat) (len : Lens) (last : Lasts) (sh : Option Nat), I len last → I (settle k arcs len last sh).len (settle k arcs len last sh).last
  | 0, _, _, _, h => h
  | k + 1, len, last, sh, h => by
    have h2 : I (pass arcs len last).len (pass arcs len last).last := fold_inv I hs arcs ⟨len, last, none⟩ (fun _ h => h) h
    unfold settle
    cases e : (pass arcs len last).sh with
    | none => exact h2
    | some v => exact settle_inv I hs k _ _ _ h2
/-! walks -/
inductive Wk (arcs : List Arc) : Nat → Nat → Rat → Prop
  | nil (v : Nat) : Wk arcs v v 0
  | snoc {u : Nat} {x : Rat} (a : Arc) : Wk arcs u a.b x → a ∈ arcs → Wk arcs u a.e (x + a.l)
theorem Wk.trans {arcs : List Arc} {u v w : Nat} {x y : Rat} (h : Wk arcs u v x) (g : Wk arcs v w y) : Wk arcs u w (x + y) := by
  induction g with
  | nil => rw [Rat.add_zero]; exact h
  | snoc a _ ha ih =>
    have := Wk.snoc a ih ha
    rw [Rat.add_assoc] at this
    exact this
theorem Wk.one {arcs : List Arc} {a : Arc} (h : a ∈ arcs) : Wk arcs a.b a.e a.l := by
  have := Wk.snoc a (Wk.nil a.b) h
  rw [Rat.zero_add] at this
  exact this
/-- lengths that no arc shortens: along a walk -/
theorem Wk.le {arcs : List Arc} {len : Lens} (ok : ∀ a ∈ arcs, Okx len a) {u v : Nat} {x : Rat} (w : Wk arcs u v x) {d : Rat} (h : len u = some d) : ∃ y, len v = some y ∧ y ≤ d + x := by
  induction w with
  | nil => exact ⟨d, h, by grind⟩
  | snoc a _ ha ih =>
    obtain ⟨y, e, hy⟩ := ih
    obtain ⟨z, e2, hz⟩ := ok a ha y e
    exact ⟨z, e2, by grind⟩
def Neg (arcs : List Arc) : Prop := ∃ v x, Wk arcs v v x ∧ x < 0
theorem not_neg {arcs : List Arc} {len : Lens} (ok : ∀ a ∈ arcs, Okx len a) (hf : ∀ v x, Wk arcs v v x → x < 0 → ∃ d, len v = some d) : ¬ Neg arcs := by
  rintro ⟨v, x, w, hx⟩
  obtain ⟨d, hd⟩ := hf v x w hx
  obtain ⟨y, e, hy⟩ := w.le ok hd
  rw [hd] at e
  cases e
  grind
/-! back along what was kept -/
inductive Ch (last : Lasts) : Nat → Nat → Nat → Rat → Prop
  | nil (v : Nat) : Ch last 0 v v 0
  | cons {m v : Nat} {s : Rat} {w : Nat} {a : Arc} : last w = some a → Ch last m a.b v s → Ch last (m + 1) w v (a.l + s)
theorem Ch.trans {last : Lasts} {m n u v w : Nat} {s t : Rat} (h : Ch last m u v s) (g : Ch last n v w t) : Ch last (m + n) u w (s + t) := by
  induction h with
  | nil =>
    rw [Nat.zero_add, Rat.zero_add]
    exact g
  | cons e _ ih =>
    have := Ch.cons e (ih g)
    rw [← Rat.add_assoc] at this
    rw [Nat.add_right_comm]
    exact this
/-- what holds of what was kept -/
structure Kp (arcs : List Arc) (len : Lens) (last : Lasts) : Prop where
  at_ : ∀ v a, last v = some a → a.e = v ∧ a ∈ arcs ∧ ∃ d y, len a.b = some d ∧ len v = some y ∧ d + a.l ≤ y
  neg : ∀ m v s, Ch last m v v s → 1 ≤ m → s < 0
theorem Ch.tele {arcs : List Arc} {len : Lens} {last : Lasts} (at_ : ∀ v a, last v = some a → a.e = v ∧ a ∈ arcs ∧ ∃ d y, len a.b = some d ∧ len v = some y ∧ d + a.l ≤ y) {m u v : Nat} {s : Rat} (h : Ch last m u v s) {d : Rat} (hd : len u = some d) : ∃ y, len v = some y ∧ y + s ≤ d := by
  induction h generalizing d with
  | nil => exact ⟨d, hd, by grind⟩
  | cons e _ ih =>
    obtain ⟨_, _, d', y', h1, h2, h3⟩ := at_ _ _ e
    rw [hd] at h2
    cases h2
    obtain ⟨y, hy, hl⟩ := ih h1
    exact ⟨y, hy, by grind⟩
/-- a chain over the new kept ones: the same as of old, or by the new one -/
theorem ch_or {last : Lasts} {v : Nat} {a : Arc} {m w z : Nat} {s : Rat} (h : Ch (upd6 last v (some a)) m w z s) :
    Ch last m w z s ∨ ∃ p q s1 s2, m = p + 1 + q ∧ Ch last p w v s1 ∧ Ch (upd6 last v (some a)) p w v s1 ∧ Ch (upd6 last v (some a)) q a.b z s2 ∧ s = s1 + (a.l + s2) := by
  induction h with
  | nil => exact .inl (.nil _)
  | @cons m z s w c e g ih =>
    by_cases hw : w = v
    · subst hw
      rw [upd6_same] at e
      cases e
      exact .inr ⟨0, m, 0, s, by omega, .nil _, .nil _, g, by grind⟩
    · have e' := e
      rw [upd6_ne hw] at e'
      rcases ih with h1 | ⟨p, q, s1, s2, h1, h2, h3, h4, h5⟩
      · exact .inl (.cons e' h1)
      · exact .inr ⟨p + 1, q, c.l + s1, s2, by omega, .cons e' h2, .cons e h3, h4, by grind⟩
theorem relax_kp {arcs : List Arc} (x : BF) (a : Arc) (ha : a ∈ arcs) (h : Kp arcs x.len x.last) : Kp arcs (relax x a).len (relax x a).last := by
  rcases relax_or x a with ⟨e, _⟩ | ⟨d, hd, hlt, e⟩
  · rw [e]
    exact h
  rw [e]
  show Kp arcs (upd6 x.len a.e (some (d + a.l))) (upd6 x.last a.e (some a))
  have key : ∀ m s, Ch (upd6 x.last a.e (some a)) m a.b a.e s → a.l + s < 0 := by
    intro m
    induction m using Nat.strongRecOn with
    | ind m ih =>
      intro s hc
      have old : ∀ p s, Ch x.last p a.b a.e s → a.l + s < 0 := fun p s hp => by
        obtain ⟨y, hy, hl⟩ := hp.tele h.at_ hd
        have := hlt y hy
        grind
      rcases ch_or hc with h1 | ⟨p, q, s1, s2, hm, h2, _, h4, rfl⟩
      · exact old _ _ h1
      · have g1 := old _ _ h2
        have g2 := ih q (by omega) s2 h4
        grind
  refine ⟨fun v c hc => ?_, fun m v s hc hm => ?_⟩
  · by_cases hv : v = a.e
    · subst hv
      rw [upd6_same] at hc
      cases hc
      refine ⟨rfl, ha, ?_⟩
      by_cases hb : a.b = a.e
      · refine ⟨d + a.l, d + a.l, ?_, upd6_same, ?_⟩
        · rw [hb]
          exact upd6_same
        · have := hlt d (by rw [← hb]; exact hd)
          grind
      · exact ⟨d, d + a.l, by rw [upd6_ne hb]; exact hd, upd6_same, Rat.le_refl⟩
    · rw [upd6_ne hv] at hc
      obtain ⟨h1, h2, d', y', h3, h4, h5⟩ := h.at_ v c hc
      refine ⟨h1, h2, ?_⟩
      by_cases hb : c.b = a.e
      · have := hlt d' (by rw [← hb]; exact h3)
        exact ⟨d + a.l, y', by rw [hb]; exact upd6_same, by rw [upd6_ne hv]; exact h4, by grind⟩
      · exact ⟨d', y', by rw [upd6_ne hb]; exact h3, by rw [upd6_ne hv]; exact h4, h5⟩
  · rcases ch_or hc with h1 | ⟨p, q, s1, s2, hm2, h2, h3, h4, rfl⟩
    · exact h.neg m v s h1 hm
    · have := key (q + p) (s2 + s1) (h4.trans h3)
      grind
theorem kp_0 {arcs : List Arc} {len : Lens} : Kp arcs len (fun _ => none) := ⟨fun v a h => (by cases h), fun m v s h hm => (by
  cases h with
  | nil => omega
  | cons e _ => cases e)⟩
theorem settle_kp {arcs : List Arc} (k : Nat) (len : Lens) (sh : Option Nat) : Kp arcs (settle k arcs len (fun _ => none) sh).len (settle k arcs len (fun _ => none) sh).last :=
  settle_inv (Kp arcs) relax_kp k len _ sh kp_0
/-! when each was made shorter -/
structure Tm (arcs done : List Arc) (k : Nat) (T : Nat → Nat) (x : BF) : Prop where
  le : ∀ v, T v ≤ k
  pt : ∀ v a, x.last v = some a → T v ≤ T a.b + 1
  ex : ∀ v, 1 ≤ T v → ∃ a, x.last v = some a
  old : ∀ a ∈ arcs, T a.b + 1 < k → Okx x.len a
  new : ∀ a ∈ done, T a.b < k → Okx x.len a
  sh : ∀ v, x.sh = some v → T v = k
theorem okx_less {x : BF} {a c : Arc} {d : Rat} (hd : x.len a.b = some d) (hlt : ∀ y, x.len a.e = some y → d + a.l < y) (hc : c.b ≠ a.e) (h : Okx x.len c) : Okx (upd6 x.len a.e (some (d + a.l))) c := by
  intro d' e
  rw [upd6_ne hc] at e
  obtain ⟨y, e2, hy⟩ := h d' e
  by_cases he : c.e = a.e
  · refine ⟨d + a.l, by rw [he]; exact upd6_same, ?_⟩
    have := hlt y (by rw [← he]; exact e2)
    grind
  · exact ⟨y, by rw [upd6_ne he]; exact e2, hy⟩
theorem relax_tm {arcs done : List Arc} {k : Nat} {T : Nat → Nat} {x : BF} {a : Arc} (ha : a ∈ arcs) (hk : 1 ≤ k) (h : Tm arcs done k T x) : ∃ T', Tm arcs (done ++ [a]) k T' (relax x a) := by
  rcases relax_or x a with ⟨e, o⟩ | ⟨d, hd, hlt, e⟩
  · rw [e]
    refine ⟨T, h.le, h.pt, h.ex, h.old, fun c hc hT => ?_, h.sh⟩
    rcases List.mem_append.mp hc with hc | hc
    · exact h.new c hc hT
    · rw [List.mem_singleton.mp hc]
      exact o
  · rw [e]
    have hT : k ≤ T a.b + 1 := by
      refine Decidable.byContradiction fun n => ?_
      obtain ⟨y, e2, hy⟩ := h.old a ha (by omega) d hd
      have := hlt y e2
      grind
    have le' : ∀ w, T w ≤ upd6 T a.e k w := fun w => by
      by_cases hw : w = a.e
      · subst hw
        rw [upd6_same]
        exact h.le _
      · rw [upd6_ne hw]
        exact Nat.le_refl _
    refine ⟨upd6 T a.e k, fun v => ?_, fun v c hc => ?_, fun v hv => ?_, fun c hc hTc => ?_, fun c hc hTc => ?_, fun v hv => ?_⟩
    · by_cases hv : v = a.e
      · subst hv
        rw [upd6_same]
        exact Nat.le_refl _
      · rw [upd6_ne hv]
        exact h.le v
    · have hc : upd6 x.last a.e (some a) v = some c := hc
      by_cases hv : v = a.e
      · subst hv
        rw [upd6_same] at hc ⊢
        cases hc
        have := le' a.b
        omega
      · rw [upd6_ne hv] at hc ⊢
        have := h.pt v c hc
        have := le' c.b
        omega
    · show ∃ c, upd6 x.last a.e (some a) v = some c
      by_cases hv2 : v = a.e
      · subst hv2
        exact ⟨a, upd6_same⟩
      · rw [upd6_ne hv2] at hv ⊢
        exact h.ex v hv
    · have hne : c.b ≠ a.e := fun z => by
        rw [z, upd6_same] at hTc
        omega
      rw [upd6_ne hne] at hTc
      exact okx_less hd hlt hne (h.old c hc hTc)
    · have hne : c.b ≠ a.e := fun z => by
        rw [z, upd6_same] at hTc
        omega
      rw [upd6_ne hne] at hTc
      rcases List.mem_append.mp hc with hc | hc
      · exact okx_less hd hlt hne (h.new c hc hTc)
      · rw [List.mem_singleton.mp hc] at hne ⊢
        intro d' e'
        have e' : upd6 x.len a.e (some (d + a.l)) a.b = some d' := e'
        rw [upd6_ne hne, hd] at e'
        cases e'
        exact ⟨d + a.l, upd6_same, Rat.le_refl⟩
    · have hv : some a.e = some v := hv
      cases hv
      exact upd6_same
theorem fold_tm {arcs : List Arc} {k : Nat} (hk : 1 ≤ k) : ∀ (l done : List Arc) (T : Nat → Nat) (x : BF), (∀ a ∈ l, a ∈ arcs) → Tm arcs done k T x → ∃ T', Tm arcs (done ++ l) k T' (l.foldl relax x)
  | [], done, T, x, _, h => ⟨T, by rw [List.append_nil]; exact h⟩
  | a :: l, done, T, x, hl, h => by
    obtain ⟨T1, h1⟩ := relax_tm (hl a List.mem_cons_self) hk h
    obtain ⟨T2, h2⟩ := fold_tm hk l (done ++ [a]) T1 (relax x a) (fun c hc => hl c (List.mem_cons_of_mem _ hc)) h1
    refine ⟨T2, ?_⟩
    rw [List.append_assoc] at h2
    exact h2
theorem pass_tm {arcs : List Arc} {k : Nat} {T : Nat → Nat} {len : Lens} {last : Lasts} {sh : Option Nat} (h : Tm arcs arcs k T ⟨len, last, sh⟩) : ∃ T', Tm arcs arcs (k + 1) T' (pass arcs len last) := by
  have h0 : Tm arcs [] (k + 1) T ⟨len, last, none⟩ := ⟨fun v => Nat.le_succ_of_le (h.le v), h.pt, h.ex, fun a ha hT => h.new a ha (by omega), fun a ha => (by cases ha), fun v hv => (by cases hv)⟩
  exact fold_tm (by omega) arcs [] T _ (fun _ h => h) h0
theorem settle_tm {arcs : List Arc} : ∀ (j k : Nat) (T : Nat → Nat) (len : Lens) (last : Lasts) (sh : Option Nat), Tm arcs arcs k T ⟨len, last, sh⟩ → ∀ v, (settle j arcs len last sh).sh = some v → ∃ T', Tm arcs arcs (k + j) T' (settle j arcs len last sh)
  | 0, k, T, len, last, sh, h, v, hv => ⟨T, h⟩
  | j + 1, k, T, len, last, sh, h, v, hv => by
    obtain ⟨T1, h1⟩ := pass_tm h
    unfold settle at hv ⊢
    cases e : (pass arcs len last).sh with
    | none =>
      simp only [e] at hv
      cases hv
    | some w =>
      simp only [e] at hv ⊢
      have h1' : Tm arcs arcs (k + 1) T1 ⟨(pass arcs len last).len, (pass arcs len last).last, some w⟩ := ⟨h1.le, h1.pt, h1.ex, h1.old, h1.new, fun v hv => h1.sh v (by rw [e]; exact hv)⟩
      obtain ⟨T2, h2⟩ := settle_tm j (k + 1) T1 _ _ _ h1' v hv
      exact ⟨T2, by rw [show k + (j + 1) = k + 1 + j by omega]; exact h2⟩
theorem tm_0 {arcs : List Arc} {len : Lens} {sh : Option Nat} (hsh : sh = none) : Tm arcs arcs 0 (fun _ => 0) ⟨len, fun _ => none, sh⟩ := ⟨fun _ => Nat.le_refl _, fun v a h => (by cases h), fun v h => (by omega), fun a _ h => (by omega), fun a _ h => (by omega), fun v h => (by subst hsh; cases h)⟩
/-- so many steps back as it was made shorter -/
theorem tm_back {arcs : List Arc} {k : Nat} {T : Nat → Nat} {x : BF} (h : Tm arcs arcs k T x) : ∀ (m v : Nat), m ≤ T v → ∃ w s, Ch x.last m v w s
  | 0, v, _ => ⟨v, 0, .nil v⟩
  | m + 1, v, hm => by
    obtain ⟨a, ha⟩ := h.ex v (by omega)
    have := h.pt v a ha
    obtain ⟨w, s, hc⟩ := tm_back h m a.b (by omega)
    exact ⟨w, _, .cons ha hc⟩
theorem settle_back {arcs : List Arc} {len : Lens} {j v : Nat} (h : (settle j arcs len (fun _ => none) none).sh = some v) : ∃ w s, Ch (settle j arcs len (fun _ => none) none).last j v w s := by
  obtain ⟨T, hT⟩ := settle_tm j 0 _ len _ none (tm_0 rfl) v h
  have := hT.sh v h
  exact tm_back hT j v (by omega)
end DL

set_option maxHeartbeats 4000000
namespace DL
theorem pigeon : ∀ (n : Nat) (f : Nat → Nat), (∀ i, i ≤ n → f i < n) → ∃ i j, i < j ∧ j ≤ n ∧ f i = f j
  | 0, f, h => absurd (h 0 (Nat.le_refl _)) (by omega)
  | n + 1, f, h => by
    by_cases hc : ∃ i, i ≤ n ∧ f i = f (n + 1)
    · obtain ⟨i, hi, e⟩ := hc
      exact ⟨i, n + 1, by omega, Nat.le_refl _, e⟩
    · have hne : ∀ i, i ≤ n → f i ≠ f (n + 1) := fun i hi e => hc ⟨i, hi, e⟩
      obtain ⟨i, j, hij, hj, e⟩ := pigeon n (fun i => if f i = n then f (n + 1) else f i) fun i hi => by
        have h1 := h i (by omega)
        have h2 := h (n + 1) (Nat.le_refl _)
        have h3 := hne i hi
        show (if f i = n then f (n + 1) else f i) < n
        split
        · omega
        · omega
      refine ⟨i, j, hij, by omega, ?_⟩
      have e : (if f i = n then f (n + 1) else f i) = (if f j = n then f (n + 1) else f j) := e
      have h1 := hne i (by omega)
      have h2 := hne j hj
      split at e <;> split at e <;> omega
theorem Ch.det {last : Lasts} {m u x y : Nat} {s t : Rat} (h : Ch last m u x s) (g : Ch last m u y t) : x = y ∧ s = t := by
  induction h generalizing y t with
  | nil =>
    cases g
    exact ⟨rfl, rfl⟩
  | cons e _ ih =>
    cases g with
    | cons e2 g2 =>
      rw [e] at e2
      cases e2
      obtain ⟨h1, h2⟩ := ih g2
      exact ⟨h1, by rw [h2]⟩
theorem Ch.split {last : Lasts} : ∀ {m n u w : Nat} {s : Rat}, Ch last (m + n) u w s → ∃ x s1 s2, Ch last m u x s1 ∧ Ch last n x w s2 ∧ s = s1 + s2
  | 0, n, u, w, s, h => ⟨u, 0, s, .nil u, by rw [Nat.zero_add] at h; exact h, by grind⟩
  | m + 1, n, u, w, s, h => by
    rw [Nat.add_right_comm] at h
    cases h with
    | cons e g =>
      obtain ⟨x, s1, s2, h1, h2, h3⟩ := g.split
      exact ⟨x, _, s2, .cons e h1, h2, by grind⟩
/-- so many steps back as there are clocks: on a cycle -/
theorem ch_cycle {last : Lasts} {n v w : Nat} {s : Rat} (hb : ∀ m u t, m ≤ n → Ch last m v u t → u < n) (h : Ch last n v w s) : ∃ p t, 1 ≤ p ∧ p ≤ n ∧ Ch last p w w t := by
  have at_ : ∀ i, i ≤ n → ∃ u t, Ch last i v u t := fun i hi => by
    obtain ⟨x, s1, s2, h1, _, _⟩ := (show Ch last (i + (n - i)) v w s by rw [Nat.add_sub_cancel' hi]; exact h).split
    exact ⟨x, s1, h1⟩
  let f : Nat → Nat := fun i => if hi : i ≤ n then (at_ i hi).choose else 0
  have hf : ∀ i (hi : i ≤ n), ∃ t, Ch last i v (f i) t := fun i hi => by
    have := (at_ i hi).choose_spec
    show ∃ t, Ch last i v (if hi : i ≤ n then (at_ i hi).choose else 0) t
    rw [dif_pos hi]
    exact this
  obtain ⟨i, j, hij, hj, e⟩ := pigeon n f fun i hi => by
    obtain ⟨t, ht⟩ := hf i hi
    exact hb i _ t hi ht
  obtain ⟨ti, hi'⟩ := hf i (by omega)
  obtain ⟨tj, hj'⟩ := hf j hj
  rw [← e] at hj'
  -- from the clock x = f i: back to x by j - i steps
  obtain ⟨x, s1, s2, h1, h2, _⟩ := (show Ch last (i + (j - i)) v (f i) tj by rw [Nat.add_sub_cancel' (by omega)]; exact hj').split
  have ex := (h1.det hi').1
  subst ex
  obtain ⟨y, s3, s4, h3, h4, _⟩ := (show Ch last (j + (n - j)) v w s by rw [Nat.add_sub_cancel' hj]; exact h).split
  have ey := (h3.det hj').1
  subst ey
  -- x back to x by j - i, x to w by n - j
  have h5 := h2.trans h4
  rw [Nat.add_comm] at h5
  obtain ⟨z, s5, s6, h6, h7, _⟩ := h5.split
  have ez := (h6.det h4).1
  subst ez
  exact ⟨j - i, s6, by omega, by omega, h7⟩
/-! a chain with its arcs -/
inductive Chl (last : Lasts) : List Arc → Nat → Nat → Prop
  | nil (v : Nat) : Chl last [] v v
  | cons {w v : Nat} {a : Arc} {as : List Arc} : last w = some a → Chl last as a.b v → Chl last (a :: as) w v
def sumA (as : List Arc) : Rat := as.foldr (fun a x => a.l + x) 0
theorem Ch.arcs {last : Lasts} {m u v : Nat} {s : Rat} (h : Ch last m u v s) : ∃ as, Chl last as u v ∧ as.length = m ∧ sumA as = s := by
  induction h with
  | nil => exact ⟨[], .nil _, rfl, rfl⟩
  | cons e _ ih =>
    obtain ⟨as, h1, h2, h3⟩ := ih
    exact ⟨_ :: as, .cons e h1, by rw [List.length_cons, h2], by show _ + sumA as = _; rw [h3]⟩
theorem Chl.ch {last : Lasts} {as : List Arc} {u v : Nat} (h : Chl last as u v) : Ch last as.length u v (sumA as) := by
  induction h with
  | nil => exact .nil _
  | cons e _ ih => exact .cons e ih
/-- a walk with its arcs, in order -/
inductive Wkl (arcs : List Arc) : List Arc → Nat → Nat → Prop
  | nil (v : Nat) : Wkl arcs [] v v
  | cons {v : Nat} {a : Arc} {as : List Arc} : a ∈ arcs → Wkl arcs as a.e v → Wkl arcs (a :: as) a.b v
theorem Wkl.snoc {arcs as : List Arc} {u : Nat} {a : Arc} (h : Wkl arcs as u a.b) (ha : a ∈ arcs) : Wkl arcs (as ++ [a]) u a.e := by
  generalize hb : a.b = b at h
  induction h with
  | nil =>
    subst hb
    exact .cons ha (.nil _)
  | cons hc _ ih => exact .cons hc (ih hb)
theorem Chl.walk {arcs : List Arc} {len : Lens} {last : Lasts} (k : Kp arcs len last) {as : List Arc} {u v : Nat} (h : Chl last as u v) : Wkl arcs as.reverse v u := by
  induction h with
  | nil => exact .nil _
  | cons e _ ih =>
    obtain ⟨h1, h2, _⟩ := k.at_ _ _ e
    rw [List.reverse_cons, ← h1]
    exact ih.snoc h2
theorem Wkl.wk {arcs as : List Arc} {u v : Nat} (h : Wkl arcs as u v) : Wk arcs u v (sumA as) := by
  induction h with
  | nil => exact .nil _
  | cons ha _ ih => exact (Wk.one ha).trans ih
theorem sumA_append {as bs : List Arc} : sumA (as ++ bs) = sumA as + sumA bs := by
  induction as with
  | nil =>
    show sumA bs = 0 + sumA bs
    rw [Rat.zero_add]
  | cons a as ih =>
    show a.l + sumA (as ++ bs) = a.l + sumA as + sumA bs
    rw [ih, Rat.add_assoc]
theorem sumA_reverse {as : List Arc} : sumA as.reverse = sumA as := by
  induction as with
  | nil => rfl
  | cons a as ih =>
    rw [List.reverse_cons, sumA_append, ih]
    show sumA as + (a.l + 0) = a.l + sumA as
    grind
theorem Chl.end_ {last : Lasts} : ∀ {as : List Arc} {u v : Nat}, Chl last as u v → ∀ i, i < as.length → ∃ w, Chl last (as.take i) u w
  | [], _, _, _, i, h => absurd h (Nat.not_lt_zero _)
  | a :: as, u, v, h, 0, _ => ⟨u, .nil u⟩
  | a :: as, u, v, h, i + 1, hi => by
    cases h with
    | cons e g =>
      obtain ⟨w, hw⟩ := g.end_ i (by simpa using hi)
      exact ⟨w, .cons e hw⟩
/-- all clocks of arcs are less than six -/
def Six (arcs : List Arc) : Prop := ∀ a ∈ arcs, a.b < 6 ∧ a.e < 6
theorem ch_six {arcs : List Arc} {len : Lens} {last : Lasts} (k : Kp arcs len last) (h6 : Six arcs) {m v u : Nat} {t : Rat} (hv : v < 6) (h : Ch last m v u t) : u < 6 := by
  induction h with
  | nil => exact hv
  | cons e _ ih => exact ih (h6 _ (k.at_ _ _ e).2.1).1
theorem sh_six {arcs : List Arc} {len : Lens} {last : Lasts} : ∀ (l : List Arc) (x : BF) (v : Nat), (∀ a ∈ l, a.e < 6) → (∀ v, x.sh = some v → v < 6) → (l.foldl relax x).sh = some v → v < 6
  | [], x, v, _, h, e => h v e
  | a :: l, x, v, hl, h, e => sh_six (arcs := arcs) (len := len) (last := last) l (relax x a) v (fun c hc => hl c (List.mem_cons_of_mem _ hc)) (fun w hw => by
      rcases relax_or x a with ⟨e1, _⟩ | ⟨d, _, _, e1⟩
      · rw [e1] at hw
        exact h w hw
      · rw [e1] at hw
        have hw : some a.e = some w := hw
        cases hw
        exact hl a List.mem_cons_self) e
theorem settle_six {arcs : List Arc} (h6 : Six arcs) : ∀ (k : Nat) (len : Lens) (last : Lasts) (sh : Option Nat), (∀ v, sh = some v → v < 6) → ∀ v, (settle k arcs len last sh).sh = some v → v < 6
  | 0, _, _, _, h, v, e => h v e
  | k + 1, len, last, sh, h, v, e => by
    unfold settle at e
    have hp : ∀ w, (pass arcs len last).sh = some w → w < 6 := fun w hw => sh_six (arcs := arcs) (len := len) (last := last) arcs _ w (fun a ha => (h6 a ha).2) (fun v hv => by cases hv) hw
    cases e1 : (pass arcs len last).sh with
    | none =>
      simp only [e1] at e
      cases e
    | some w =>
      simp only [e1] at e
      exact settle_six h6 k _ _ _ (fun u hu => by cases hu; exact hp _ e1) v e
/-- a ring where it doesn't settle: six steps back, and round -/
theorem settle_ring {arcs : List Arc} (h6 : Six arcs) {len : Lens} {v : Nat} (h : (settle 6 arcs len (fun _ => none) none).sh = some v) :
    ∃ w s, Ch (settle 6 arcs len (fun _ => none) none).last 6 v w s ∧ w < 6 ∧ ∃ as : List Arc, 1 ≤ as.length ∧ as.length ≤ 6 ∧ Chl (settle 6 arcs len (fun _ => none) none).last as w w ∧ sumA as < 0 ∧
      ∀ i, 1 ≤ i → i < as.length → ¬ Chl (settle 6 arcs len (fun _ => none) none).last (as.take i) w w := by
  have kp := settle_kp (arcs := arcs) 6 len none
  obtain ⟨w, s, hc⟩ := settle_back h
  have hv := settle_six h6 6 len _ none (fun v hv => by cases hv) v h
  have hw := ch_six kp h6 hv hc
  obtain ⟨p, t, h1, h2, h3⟩ := ch_cycle (fun m u t _ g => ch_six kp h6 hv g) hc
  -- the least one
  have key : ∀ n p t, p ≤ n → 1 ≤ p → p ≤ 6 → Ch (settle 6 arcs len (fun _ => none) none).last p w w t → ∃ p t, 1 ≤ p ∧ p ≤ 6 ∧ Ch (settle 6 arcs len (fun _ => none) none).last p w w t ∧ ∀ i, 1 ≤ i → i < p → ∀ t, ¬ Ch (settle 6 arcs len (fun _ => none) none).last i w w t := by
    intro n
    induction n with
    | zero => intro p t h1 h2; omega
    | succ n ih =>
      intro p t h1 h2 h3 h4
      by_cases hm : ∃ i t, 1 ≤ i ∧ i < p ∧ Ch (settle 6 arcs len (fun _ => none) none).last i w w t
      · obtain ⟨i, t', g1, g2, g3⟩ := hm
        exact ih i t' (by omega) g1 (by omega) g3
      · exact ⟨p, t, h2, h3, h4, fun i g1 g2 t' g3 => hm ⟨i, t', g1, g2, g3⟩⟩
  obtain ⟨p, t, g1, g2, g3, g4⟩ := key p p t (Nat.le_refl _) h1 h2 h3
  obtain ⟨as, e1, e2, e3⟩ := g3.arcs
  refine ⟨w, s, hc, hw, as, by omega, by omega, e1, ?_, fun i i1 i2 hi => ?_⟩
  · rw [e3]
    exact kp.neg p w t g3 g1
  · have := hi.ch
    rw [List.length_take, Nat.min_eq_left (Nat.le_of_lt i2)] at this
    exact g4 i i1 (by omega) _ this
theorem settle_neg {arcs : List Arc} (h6 : Six arcs) {len : Lens} {v : Nat} (h : (settle 6 arcs len (fun _ => none) none).sh = some v) : Neg arcs := by
  obtain ⟨w, _, _, _, as, h1, h2, h3, h4, _⟩ := settle_ring h6 h
  have := (h3.walk (settle_kp 6 len none)).wk
  rw [sumA_reverse] at this
  exact ⟨w, _, this, h4⟩
/-! lengths are those of walks -/
theorem settle_sound {arcs : List Arc} (Q : Nat → Rat → Prop) (hq : ∀ a ∈ arcs, ∀ x, Q a.b x → Q a.e (x + a.l)) (k : Nat) (len : Lens) (last : Lasts) (sh : Option Nat) (h0 : ∀ v x, len v = some x → Q v x) :
    ∀ v x, (settle k arcs len last sh).len v = some x → Q v x :=
  settle_inv (arcs := arcs) (fun len _ => ∀ v x, len v = some x → Q v x) (fun x a ha h => by
    rcases relax_or x a with ⟨e, _⟩ | ⟨d, hd, _, e⟩
    · rw [e]
      exact h
    · rw [e]
      intro v y hv
      have hv : upd6 x.len a.e (some (d + a.l)) v = some y := hv
      by_cases hve : v = a.e
      · subst hve
        rw [upd6_same] at hv
        cases hv
        exact hq a ha d (h _ _ hd)
      · rw [upd6_ne hve] at hv
        exact h v y hv) k len last sh h0
theorem settle_less {arcs : List Arc} (k : Nat) (len : Lens) (last : Lasts) (sh : Option Nat) : ∀ v x, len v = some x → ∃ y, (settle k arcs len last sh).len v = some y ∧ y ≤ x := by
  intro v x h
  exact settle_inv (arcs := arcs) (fun l _ => ∃ y, l v = some y ∧ y ≤ x) (fun z a ha ⟨y, hy, hl⟩ => by
    rcases relax_or z a with ⟨e, _⟩ | ⟨d, hd, hlt, e⟩
    · rw [e]
      exact ⟨y, hy, hl⟩
    · rw [e]
      show ∃ y, upd6 z.len a.e (some (d + a.l)) v = some y ∧ y ≤ x
      by_cases hve : v = a.e
      · subst hve
        rw [upd6_same]
        have := hlt y hy
        exact ⟨_, rfl, by grind⟩
      · rw [upd6_ne hve]
        exact ⟨y, hy, hl⟩) k len last sh ⟨x, h, Rat.le_refl⟩
/-- it settles from noughts just where no ring is below nought -/
def zeros : Lens := fun _ => some 0
theorem settle_agree {arcs : List Arc} (h6 : Six arcs) : (settle 6 arcs zeros (fun _ => none) none).sh = none ↔ ¬ Neg arcs := by
  constructor
  · intro h
    exact not_neg (settle_ok 5 _ _ _ h) fun v x _ _ => by
      obtain ⟨y, hy, _⟩ := settle_less (arcs := arcs) 6 zeros (fun _ => none) none v 0 rfl
      exact ⟨y, hy⟩
  · intro h
    cases e : (settle 6 arcs zeros (fun _ => none) none).sh with
    | none => rfl
    | some v => exact (h (settle_neg h6 e)).elim
/-- the nearest way from one clock -/
def from_ (c : Nat) : Lens := fun v => if v = c then some 0 else none
structure Near (arcs : List Arc) (c v : Nat) (o : Option Rat) : Prop where
  some_ : ∀ x, o = some x → Wk arcs c v x ∧ ∀ y, Wk arcs c v y → x ≤ y
  none_ : o = none → ∀ y, ¬ Wk arcs c v y
theorem Near.eq {arcs : List Arc} {c v : Nat} {o o' : Option Rat} (h : Near arcs c v o) (g : Near arcs c v o') : o = o' := by
  cases o with
  | none =>
    cases o' with
    | none => rfl
    | some y => exact absurd (g.some_ y rfl).1 (h.none_ rfl y)
  | some x =>
    cases o' with
    | none => exact absurd (h.some_ x rfl).1 (g.none_ rfl x)
    | some y =>
      have h1 := (h.some_ x rfl).2 y (g.some_ y rfl).1
      have h2 := (g.some_ y rfl).2 x (h.some_ x rfl).1
      rw [Rat.le_antisymm h1 h2]
theorem near_of {arcs : List Arc} {len : Lens} {c : Nat} (ok : ∀ a ∈ arcs, Okx len a) (sound : ∀ v x, len v = some x → Wk arcs c v x) (h0 : len c = some 0) (v : Nat) : Near arcs c v (len v) := by
  refine ⟨fun x e => ⟨sound v x e, fun y w => ?_⟩, fun e y w => ?_⟩
  · obtain ⟨z, hz, hl⟩ := w.le ok h0
    rw [e] at hz
    cases hz
    rw [Rat.zero_add] at hl
    exact hl
  · obtain ⟨z, hz, _⟩ := w.le ok h0
    rw [e] at hz
    cases hz
theorem settle_near {arcs : List Arc} (h6 : Six arcs) (hn : ¬ Neg arcs) (c v : Nat) : (settle 6 arcs (from_ c) (fun _ => none) none).sh = none ∧ Near arcs c v ((settle 6 arcs (from_ c) (fun _ => none) none).len v) := by
  have hs : (settle 6 arcs (from_ c) (fun _ => none) none).sh = none := by
    cases e : (settle 6 arcs (from_ c) (fun _ => none) none).sh with
    | none => rfl
    | some v => exact (hn (settle_neg h6 e)).elim
  have sound := settle_sound (arcs := arcs) (Wk arcs c) (fun a ha x w => .snoc a w ha) 6 (from_ c) (fun _ => none) none fun v x e => by
    unfold from_ at e
    split at e
    · rename_i h
      cases e
      rw [h]
      exact .nil c
    · cases e
  refine ⟨hs, near_of (settle_ok 5 _ _ _ hs) sound ?_ v⟩
  obtain ⟨y, hy, hl⟩ := settle_less (arcs := arcs) 6 (from_ c) (fun _ => none) none c 0 (if_pos rfl)
  have : ¬ y < 0 := fun z => hn ⟨c, y, sound c y hy, z⟩
  rw [hy]
  congr 1
  grind
/-! nearest ways between all -/
abbrev Mat := Nat → Nat → Option Rat
def minO : Option Rat → Option Rat → Option Rat
  | none, b => b
  | some a, none => some a
  | some a, some b => if b < a then some b else some a
def addO : Option Rat → Option Rat → Option Rat
  | some a, some b => some (a + b)
  | _, _ => none
/-- no greater than -/
def leO : Option Rat → Option Rat → Prop
  | _, none => True
  | none, some _ => False
  | some a, some b => a ≤ b
def updM (F : Mat) (i j : Nat) (x : Option Rat) : Mat := fun a b => if a = i ∧ b = j then x else F a b
def fwAt (m : Nat) (F : Mat) (p : Nat × Nat) : Mat := updM F p.1 p.2 (minO (F p.1 p.2) (addO (F p.1 m) (F m p.2)))
def pairs6 : List (Nat × Nat) := (List.range 6).flatMap fun i => (List.range 6).map fun j => (i, j)
def fwStage (F : Mat) (m : Nat) : Mat := pairs6.foldl (fwAt m) F
def fw (F : Mat) : Mat := (List.range 6).foldl fwStage F
theorem leO_some {a b : Rat} : leO (some a) (some b) ↔ a ≤ b := Iff.rfl
theorem leO_no {b : Rat} : ¬ leO none (some b) := fun h => h
theorem leO_non {a : Option Rat} : leO a none := by cases a <;> exact trivial
theorem leO.refl {a : Option Rat} : leO a a := by
  cases a with
  | none => exact trivial
  | some a => exact Rat.le_refl
theorem minO_l {a b : Option Rat} : leO (minO a b) a := by
  cases a with
  | none => exact leO_non
  | some a =>
    cases b with
    | none => exact leO.refl
    | some b =>
      show leO (if b < a then some b else some a) (some a)
      by_cases h : b < a
      · rw [if_pos h]
        exact Rat.le_of_lt h
      · rw [if_neg h]
        exact Rat.le_refl
theorem minO_r {a b : Option Rat} : leO (minO a b) b := by
  cases a with
  | none => exact leO.refl
  | some a =>
    cases b with
    | none => exact leO_non
    | some b =>
      show leO (if b < a then some b else some a) (some b)
      by_cases h : b < a
      · rw [if_pos h]
        exact Rat.le_refl
      · rw [if_neg h]
        exact Rat.not_lt.mp h
theorem leO.trans {a b c : Option Rat} (h : leO a b) (g : leO b c) : leO a c := by
  cases c with
  | none => exact leO_non
  | some c =>
    cases b with
    | none => exact (leO_no g).elim
    | some b =>
      cases a with
      | none => exact (leO_no h).elim
      | some a => exact Rat.le_trans (leO_some.mp h) (leO_some.mp g)
theorem minO_or (a b : Option Rat) : minO a b = a ∨ minO a b = b := by
  cases a with
  | none => exact .inr rfl
  | some a =>
    cases b with
    | none => exact .inl rfl
    | some b =>
      show (if b < a then some b else some a) = _ ∨ (if b < a then some b else some a) = _
      by_cases h : b < a
      · rw [if_pos h]
        exact .inr rfl
      · rw [if_neg h]
        exact .inl rfl
theorem le_minO {a b c : Option Rat} (h : leO c a) (g : leO c b) : leO c (minO a b) := by
  rcases minO_or a b with e | e <;> rw [e] <;> assumption
theorem addO_le {a b c d : Option Rat} (h : leO a c) (g : leO b d) : leO (addO a b) (addO c d) := by
  cases c with
  | none => exact leO_non
  | some c =>
    cases d with
    | none => exact leO_non
    | some d =>
      cases a with
      | none => exact (leO_no h).elim
      | some a =>
        cases b with
        | none => exact (leO_no g).elim
        | some b =>
          show a + b ≤ c + d
          have h : a ≤ c := h
          have g : b ≤ d := g
          grind
theorem addO_assoc {a b c : Option Rat} : addO (addO a b) c = addO a (addO b c) := by
  cases a <;> cases b <;> cases c <;> simp only [addO]
  rw [Rat.add_assoc]
theorem minO_self {a b : Option Rat} (h : leO a b) : minO a b = a := by
  cases a with
  | none =>
    cases b with
    | none => rfl
    | some b => exact (leO_no h).elim
  | some a =>
    cases b with
    | none => rfl
    | some b =>
      show (if b < a then some b else some a) = some a
      exact if_neg (Rat.not_lt.mpr h)
theorem addO_nn {a : Option Rat} {x : Rat} (h : 0 ≤ x) : leO a (addO a (some x)) ∧ leO a (addO (some x) a) := by
  cases a with
  | none => exact ⟨leO_non, leO_non⟩
  | some a =>
    constructor
    · show a ≤ a + x
      grind
    · show a ≤ x + a
      grind
theorem updM_same {F : Mat} {i j : Nat} {x : Option Rat} : updM F i j x i j = x := if_pos ⟨rfl, rfl⟩
theorem updM_ne {F : Mat} {i j a b : Nat} {x : Option Rat} (h : ¬ (a = i ∧ b = j)) : updM F i j x a b = F a b := if_neg h
/-- one stage, place by place, is as all at once, where the clock between isn't nearer to itself -/
theorem stage_at {m : Nat} {x : Rat} (h0 : 0 ≤ x) : ∀ (l : List (Nat × Nat)) (F0 F : Mat), F0 m m = some x → (∀ i j, F i j = F0 i j ∨ F i j = minO (F0 i j) (addO (F0 i m) (F0 m j))) → (∀ i, F i m = F0 i m) → (∀ j, F m j = F0 m j) →
    (∀ i j, (l.foldl (fwAt m) F) i j = F i j ∨ (l.foldl (fwAt m) F) i j = minO (F0 i j) (addO (F0 i m) (F0 m j))) ∧ (∀ i, (l.foldl (fwAt m) F) i m = F0 i m) ∧ (∀ j, (l.foldl (fwAt m) F) m j = F0 m j) ∧
      ∀ i j, (i, j) ∈ l → (l.foldl (fwAt m) F) i j = minO (F0 i j) (addO (F0 i m) (F0 m j))
  | [], F0, F, hm, h1, h2, h3 => ⟨fun i j => .inl rfl, h2, h3, fun i j h => by cases h⟩
  | p :: l, F0, F, hm, h1, h2, h3 => by
    have hmin : ∀ a b : Option Rat, minO (minO a b) b = minO a b := fun a b => minO_self minO_r
    have e0 : fwAt m F p = updM F p.1 p.2 (minO (F p.1 p.2) (addO (F0 p.1 m) (F0 m p.2))) := by
      unfold fwAt
      rw [h2, h3]
    have ev : minO (F p.1 p.2) (addO (F0 p.1 m) (F0 m p.2)) = minO (F0 p.1 p.2) (addO (F0 p.1 m) (F0 m p.2)) := by
      rcases h1 p.1 p.2 with e | e
      · rw [e]
      · rw [e]
        exact hmin _ _
    rw [ev] at e0
    have g1 : ∀ i j, fwAt m F p i j = F0 i j ∨ fwAt m F p i j = minO (F0 i j) (addO (F0 i m) (F0 m j)) := fun i j => by
      rw [e0]
      by_cases h : i = p.1 ∧ j = p.2
      · obtain ⟨rfl, rfl⟩ := h
        exact .inr updM_same
      · rw [updM_ne h]
        exact h1 i j
    have g2 : ∀ i, fwAt m F p i m = F0 i m := fun i => by
      rw [e0]
      by_cases h : i = p.1 ∧ m = p.2
      · obtain ⟨rfl, h⟩ := h
        rw [← h, updM_same, hm]
        exact minO_self (addO_nn h0).1
      · rw [updM_ne h]
        exact h2 i
    have g3 : ∀ j, fwAt m F p m j = F0 m j := fun j => by
      rw [e0]
      by_cases h : m = p.1 ∧ j = p.2
      · obtain ⟨h, rfl⟩ := h
        rw [← h, updM_same, hm]
        exact minO_self (addO_nn h0).2
      · rw [updM_ne h]
        exact h3 j
    obtain ⟨k1, k2, k3, k4⟩ := stage_at h0 l F0 (fwAt m F p) hm g1 g2 g3
    refine ⟨fun i j => ?_, k2, k3, fun i j h => ?_⟩
    · show (l.foldl (fwAt m) (fwAt m F p)) i j = F i j ∨ (l.foldl (fwAt m) (fwAt m F p)) i j = _
      rcases k1 i j with e | e
      · rw [e, e0]
        by_cases h : i = p.1 ∧ j = p.2
        · obtain ⟨rfl, rfl⟩ := h
          exact .inr updM_same
        · rw [updM_ne h]
          exact .inl rfl
      · exact .inr e
    · show (l.foldl (fwAt m) (fwAt m F p)) i j = _
      rcases List.mem_cons.mp h with h | h
      · rcases k1 i j with e | e
        · rw [e, e0, ← h]
          exact updM_same
        · exact e
      · exact k4 i j h
theorem pairs6_mem {i j : Nat} : (i, j) ∈ pairs6 ↔ i < 6 ∧ j < 6 := by
  unfold pairs6
  simp
theorem stage_eq {F : Mat} {m : Nat} {x : Rat} (h0 : 0 ≤ x) (hm : F m m = some x) {i j : Nat} (hi : i < 6) (hj : j < 6) : fwStage F m i j = minO (F i j) (addO (F i m) (F m j)) :=
  (stage_at h0 pairs6 F F hm (fun _ _ => .inl rfl) (fun _ => rfl) (fun _ => rfl)).2.2.2 i j (pairs6_mem.mpr ⟨hi, hj⟩)
/-- what all places keep -/
theorem fwAt_le {m : Nat} {F : Mat} {p : Nat × Nat} (i j : Nat) : leO (fwAt m F p i j) (F i j) := by
  unfold fwAt
  by_cases h : i = p.1 ∧ j = p.2
  · obtain ⟨rfl, rfl⟩ := h
    rw [updM_same]
    exact minO_l
  · rw [updM_ne h]
    exact leO.refl
theorem fold_le (m : Nat) : ∀ (l : List (Nat × Nat)) (F : Mat) (i j : Nat), leO ((l.foldl (fwAt m) F) i j) (F i j)
  | [], F, i, j => leO.refl
  | p :: l, F, i, j => (fold_le m l (fwAt m F p) i j).trans (fwAt_le i j)
theorem stages_le : ∀ (l : List Nat) (F : Mat) (i j : Nat), leO ((l.foldl fwStage F) i j) (F i j)
  | [], F, i, j => leO.refl
  | m :: l, F, i, j => (stages_le l (fwStage F m) i j).trans (fold_le m pairs6 F i j)
theorem fwAt_sound {Q : Nat → Nat → Rat → Prop} (ht : ∀ i j k x y, Q i j x → Q j k y → Q i k (x + y)) {m : Nat} {F : Mat} {p : Nat × Nat} (h : ∀ i j x, F i j = some x → Q i j x) : ∀ i j x, fwAt m F p i j = some x → Q i j x := by
  intro i j x e
  unfold fwAt at e
  by_cases hp : i = p.1 ∧ j = p.2
  · obtain ⟨rfl, rfl⟩ := hp
    rw [updM_same] at e
    rcases minO_or (F p.1 p.2) (addO (F p.1 m) (F m p.2)) with e2 | e2
    · rw [e2] at e
      exact h _ _ x e
    · rw [e2] at e
      cases e3 : F p.1 m with
      | none => rw [e3] at e; cases e
      | some a =>
        cases e4 : F m p.2 with
        | none => rw [e3, e4] at e; cases e
        | some b =>
          rw [e3, e4] at e
          cases e
          exact ht _ _ _ a b (h _ _ a e3) (h _ _ b e4)
  · rw [updM_ne hp] at e
    exact h i j x e
theorem fold_sound {Q : Nat → Nat → Rat → Prop} (ht : ∀ i j k x y, Q i j x → Q j k y → Q i k (x + y)) {m : Nat} : ∀ (l : List (Nat × Nat)) (F : Mat), (∀ i j x, F i j = some x → Q i j x) → ∀ i j x, (l.foldl (fwAt m) F) i j = some x → Q i j x
  | [], F, h => h
  | p :: l, F, h => fold_sound ht l (fwAt m F p) (fwAt_sound ht h)
theorem stages_sound {Q : Nat → Nat → Rat → Prop} (ht : ∀ i j k x y, Q i j x → Q j k y → Q i k (x + y)) : ∀ (l : List Nat) (F : Mat), (∀ i j x, F i j = some x → Q i j x) → ∀ i j x, (l.foldl fwStage F) i j = some x → Q i j x
  | [], F, h => h
  | m :: l, F, h => stages_sound ht l (fwStage F m) (fold_sound ht pairs6 F h)
/-- closed by the clocks in l -/
def Closed (l : List Nat) (F : Mat) : Prop := ∀ k ∈ l, ∀ i j, i < 6 → j < 6 → leO (F i j) (addO (F i k) (F k j))
theorem stage_closed {F : Mat} {m : Nat} {x : Rat} {l : List Nat} (h0 : 0 ≤ x) (hm : F m m = some x) (h6 : m < 6) (hl : ∀ k ∈ l, k < 6) (hc : Closed l F) : Closed (l ++ [m]) (fwStage F m) := by
  intro k hk i j hi hj
  have hk6 : k < 6 := by
    rcases List.mem_append.mp hk with hk | hk
    · exact hl k hk
    · rw [List.mem_singleton.mp hk]
      exact h6
  have nn : ∀ a b : Option Rat, leO (addO a b) (addO (addO a (F m m)) b) := fun a b => by
    rw [hm]
    exact addO_le (addO_nn h0).1 leO.refl
  rw [stage_eq h0 hm hi hj, stage_eq h0 hm hi hk6, stage_eq h0 hm hk6 hj]
  have via : leO (minO (F i j) (addO (F i m) (F m j))) (addO (F i m) (F m j)) := minO_r
  rcases List.mem_append.mp hk with hk | hk
  · have cij := hc k hk i j hi hj
    have cmj := hc k hk m j h6 hj
    have cim := hc k hk i m hi h6
    have cmm := hc k hk m m h6 h6
    rcases minO_or (F i k) (addO (F i m) (F m k)) with e1 | e1 <;> rcases minO_or (F k j) (addO (F k m) (F m j)) with e2 | e2 <;> rw [e1, e2]
    · exact minO_l.trans cij
    · refine via.trans ?_
      rw [← addO_assoc]
      exact addO_le cim leO.refl
    · refine via.trans ?_
      rw [addO_assoc]
      exact addO_le leO.refl cmj
    · refine via.trans ((nn _ _).trans ?_)
      have e : addO (addO (F i m) (F m k)) (addO (F k m) (F m j)) = addO (addO (F i m) (addO (F m k) (F k m))) (F m j) := by
        rw [addO_assoc, addO_assoc, addO_assoc]
      rw [e]
      exact addO_le (addO_le leO.refl cmm) leO.refl
  · rw [List.mem_singleton.mp hk]
    have e1 : minO (F i m) (addO (F i m) (F m m)) = F i m := by
      rw [hm]
      exact minO_self (addO_nn h0).1
    have e2 : minO (F m j) (addO (F m m) (F m j)) = F m j := by
      rw [hm]
      exact minO_self (addO_nn h0).2
    rw [e1, e2]
    exact via
theorem stages_closed : ∀ (l done : List Nat) (F : Mat), (∀ k ∈ done, k < 6) → (∀ k ∈ l, k < 6) → (∀ v, v < 6 → ∃ x, F v v = some x) → (∀ v, v < 6 → ∀ x, (l.foldl fwStage F) v v = some x → 0 ≤ x) → Closed done F → Closed (done ++ l) (l.foldl fwStage F)
  | [], done, F, _, _, _, _, hc => by rw [List.append_nil]; exact hc
  | m :: l, done, F, hd, hl, hs, h0, hc => by
    have hm6 := hl m List.mem_cons_self
    have some_of : ∀ (G : Mat) v, v < 6 → leO (G v v) (F v v) → ∃ x, G v v = some x := fun G v hv h => by
      obtain ⟨y, hy⟩ := hs v hv
      rw [hy] at h
      cases e : G v v with
      | none => rw [e] at h; exact (leO_no h).elim
      | some x => exact ⟨x, rfl⟩
    obtain ⟨x, hx⟩ := hs m hm6
    have hx0 : 0 ≤ x := by
      have h1 := stages_le (m :: l) F m m
      obtain ⟨y, hy⟩ := some_of _ m hm6 h1
      have h2 := h0 m hm6 y hy
      rw [hy, hx] at h1
      exact Rat.le_trans h2 (leO_some.mp h1)
    have ih := stages_closed l (done ++ [m]) (fwStage F m) (fun k hk => by
      rcases List.mem_append.mp hk with hk | hk
      · exact hd k hk
      · rw [List.mem_singleton.mp hk]
        exact hm6) (fun k hk => hl k (List.mem_cons_of_mem _ hk)) (fun v hv => some_of _ v hv (fold_le m pairs6 F v v)) h0 (stage_closed hx0 hx hm6 hd hc)
    rw [List.append_assoc] at ih
    exact ih
/-- the matrix at first: of arcs and of no step -/
structure Fw0 (arcs : List Arc) (F : Mat) : Prop where
  sound : ∀ i j x, F i j = some x → Wk arcs i j x
  arc : ∀ a ∈ arcs, leO (F a.b a.e) (some a.l)
  self : ∀ v, v < 6 → ∃ x, F v v = some x ∧ x ≤ 0
theorem fw_neg {arcs : List Arc} {F : Mat} (h : Fw0 arcs F) {v : Nat} {x : Rat} (e : fw F v v = some x) (hx : x < 0) : Neg arcs :=
  ⟨v, x, stages_sound (fun i j k x y h g => h.trans g) (List.range 6) F h.sound v v x e, hx⟩
theorem fw_near {arcs : List Arc} {F : Mat} (h6 : Six arcs) (h : Fw0 arcs F) (h0 : ∀ v, v < 6 → ∀ x, fw F v v = some x → 0 ≤ x) : ¬ Neg arcs ∧ ∀ c v, c < 6 → v < 6 → Near arcs c v (fw F c v) := by
  have hc : Closed (List.range 6) (fw F) := by
    have := stages_closed (List.range 6) [] F (fun k hk => by cases hk) (fun k hk => List.mem_range.mp hk) (fun v hv => let ⟨x, hx, _⟩ := h.self v hv; ⟨x, hx⟩) h0 (fun k hk => by cases hk)
    rw [List.nil_append] at this
    exact this
  have sound : ∀ i j x, fw F i j = some x → Wk arcs i j x := stages_sound (fun i j k x y h g => h.trans g) (List.range 6) F h.sound
  have self : ∀ v, v < 6 → fw F v v = some 0 := fun v hv => by
    obtain ⟨x, hx, hx0⟩ := h.self v hv
    have h1 := stages_le (List.range 6) F v v
    rw [hx] at h1
    have h1 : leO (fw F v v) (some x) := h1
    cases e : fw F v v with
    | none => rw [e] at h1; exact (leO_no h1).elim
    | some y =>
      rw [e] at h1
      have h2 := h0 v hv y e
      have h3 : y ≤ x := h1
      congr 1
      grind
  have ok : ∀ c, c < 6 → ∀ a ∈ arcs, Okx (fw F c) a := fun c hc6 a ha d hd => by
    obtain ⟨b6, e6⟩ := h6 a ha
    have h1 := hc a.b (List.mem_range.mpr b6) c a.e hc6 e6
    have h2 : leO (fw F a.b a.e) (some a.l) := (stages_le (List.range 6) F a.b a.e).trans (h.arc a ha)
    have h3 := h1.trans (addO_le leO.refl h2)
    rw [hd] at h3
    cases e : fw F c a.e with
    | none => rw [e] at h3; exact (leO_no h3).elim
    | some y =>
      rw [e] at h3
      exact ⟨y, rfl, h3⟩
  have near : ∀ c v, c < 6 → Near arcs c v (fw F c v) := fun c v hc6 => near_of (ok c hc6) (sound c) (self c hc6) v
  refine ⟨?_, fun c v hc6 _ => near c v hc6⟩
  rintro ⟨v, x, w, hx⟩
  have hv : v < 6 := by
    cases w with
    | nil => exact absurd hx (by grind)
    | snoc a _ ha => exact (h6 a ha).2
  have := (near v v hv).some_ 0 (self v hv)
  have := this.2 x w
  grind
end DL

set_option maxHeartbeats 4000000
namespace DL
open PySem PySem.Spec PyProof.Rows L2
local macro_rules | `(tactic| walk_at "go1") => `(tactic| first
  | with_reducible refine r_seq ?_ | with_reducible refine r_asg ?_ | with_reducible refine r_ret ?_ | with_reducible refine r_ifS ?_ | with_reducible refine r_drop ?_ | with_reducible refine r_par ?_ | with_reducible refine r_next ?_ | with_reducible refine r_retN ?_
  | ((with_reducible refine' r_var ?hv ?_); (case hv => rfl)) | with_reducible refine r_c ?_ | with_reducible refine r_bin ?_ | with_reducible refine r_un ?_ | with_reducible refine r_as1 ?_ | with_reducible refine r_as0 ?_
  | with_reducible refine r_cb ?_ | with_reducible refine r_call ?_ | with_reducible refine r_B ?_ | with_reducible refine r_notT ?_ | with_reducible refine r_andT ?_ | with_reducible refine r_orT ?_
  | with_reducible refine r_andV ?_ | with_reducible refine r_orV ?_ | with_reducible refine r_notV ?_ | with_reducible refine r_if ?_ | with_reducible refine r_tup ?_ | with_reducible refine r_lst ?_ | with_reducible refine r_mu ?_
  | with_reducible refine r_cut ?_ | with_reducible refine r_p0 ?_ | with_reducible refine r_p1 ?_ | with_reducible refine r_gN ?_ | ((with_reducible refine r_gT ?hv ?_); (case hv => rfl)) | with_reducible refine r_gs1 ?_ | with_reducible refine r_gs0 ?_
  | ((with_reducible refine r_trueR ?hv ?_); (case hv => first | rfl | assumption)) | ((with_reducible refine r_falseR ?hv ?_); (case hv => first | rfl | assumption)) | with_reducible refine r_bl ?_ | with_reducible refine r_in ?_ | with_reducible refine r_two ?_
  | with_reducible refine r_addI ?_ | with_reducible refine r_subI ?_ | with_reducible refine r_mulI ?_ ?_ | with_reducible refine r_divI ?_ ?_ | with_reducible refine r_modI ?_ ?_ | with_reducible refine r_powI ?_ ?_ | with_reducible refine r_negI ?_
  | with_reducible refine r_lt ?_ | with_reducible refine r_le ?_ | with_reducible refine r_gt ?_ | with_reducible refine r_ge ?_ | with_reducible refine r_is ?_ | with_reducible refine r_isNot ?_ | with_reducible refine r_eqI ?_ | with_reducible refine r_neI ?_ | with_reducible refine r_eqS ?_ | with_reducible refine r_neS ?_
  | with_reducible refine r_ixP0 ?_ | with_reducible refine r_ixP1 ?_ | with_reducible refine r_ix0T ?_ | with_reducible refine r_ix1T ?_ | with_reducible refine r_lenT ?_ | with_reducible refine r_lenL ?_ | with_reducible refine r_lenC ?_
  | with_reducible refine r_abs ?_ | with_reducible refine r_max ?_ | with_reducible refine r_min ?_ | with_reducible refine r_intI ?_ | with_reducible refine r_intB ?_ | with_reducible refine r_tupL ?_ | with_reducible refine r_tupT ?_
  | with_reducible refine r_gcd ?_ | ((with_reducible refine r_isi ?hv ?_); (case hv => first | rfl | assumption)) | with_reducible refine r_sizeT ?_ | with_reducible refine r_sizeL ?_)
local macro_rules | `(tactic| walk_at "go") => `(tactic| repeat' walk_at "go1")
local macro_rules | `(tactic| walk_at "go1") => `(tactic| first
  | with_reducible refine r_lc ?_ | with_reducible refine r_wiT ?_ | with_reducible refine r_wiZ ?_ | with_reducible refine r_wiL ?_ | with_reducible refine r_wiR1 ?_ | with_reducible refine r_for ?_ | with_reducible refine r_yes ?_
  | with_reducible refine b_nm ?_ | with_reducible refine r_setD0 ?_ | with_reducible refine r_setD1 ?_ | ((with_reducible refine' r_setDT ?hv ?_); (case hv => rfl)) | with_reducible refine r_setsD ?_ | with_reducible refine r_setsCut ?_ | with_reducible refine b_tp2 ?_ | with_reducible refine r_trueL ?_ | with_reducible refine r_falseL ?_ )

local macro_rules | `(tactic| walk_at "go1") => `(tactic| first
  | with_reducible refine r_size0 ?_ | with_reducible refine r_size3 ?_ | with_reducible refine r_app ?_ | with_reducible refine r_setIx ?_ | ((with_reducible refine' r_sizeG ?hv ?_); (case hv => rfl)) | ((with_reducible refine' r_addG ?hv ?_); (case hv => rfl)) | ((with_reducible refine' r_addTG ?hv ?_); (case hv => rfl))
  | with_reducible refine r_bmL ?_ | with_reducible refine r_isL ?_ | with_reducible refine r_try ?_ | with_reducible refine r_emp ?_ | with_reducible refine r_raise ?_ | with_reducible refine r_chain ?_ | with_reducible refine r_mulGI ?_ ?_
  | with_reducible refine r_wiET ?_ | with_reducible refine r_telLen ?_ | with_reducible refine r_telsLen ?_ | with_reducible refine r_rowLen ?_ | ((with_reducible refine' r_telT ?hv ?_); (case hv => rfl)))

local macro_rules | `(tactic| walk_at "szs") => `(tactic| first
  | assumption
  | ((with_reducible apply Sz.add); walk_at "szs"; walk_at "szs")
  | ((with_reducible apply Sz.sub); walk_at "szs"; walk_at "szs")
  | ((with_reducible apply Sz.mul); walk_at "szs"; walk_at "szs")
  | ((with_reducible apply Sz.neg); walk_at "szs")
  | (apply Pz.sz; assumption) | exact sz0 | exact sz1 | exact sz24
  | ((with_reducible apply sz_abs); walk_at "szs"))
local macro_rules | `(tactic| walk_at "sz") => `(tactic| (apply Sz.mono; walk_at "szs"; exact Nat.le_of_ble_eq_true rfl))
local macro_rules | `(tactic| walk_at "pen") => `(tactic| first | assumption | (apply Stm.pen; assumption) | (apply stm_st; assumption) | (apply stm_st; apply Stm.pen; assumption))
local macro_rules | `(tactic| walk_at "stm") => `(tactic| first | assumption | exact Stm.of (by walk_at "pen") | (refine Stm.trans ?_ (by assumption); walk_at "stm") | (refine Stm.trans ?_ (Stm.new (by walk_at "pen")); walk_at "stm"))
local macro_rules | `(tactic| walk_at "side") => `(tactic| first | assumption | rfl | omega | decide | walk_at "sz" | walk_at "pen")
local macro_rules | `(tactic| walk_at "au") => `(tactic| repeat' walk_at "au1")
local macro_rules | `(tactic| walk_at "au1") => `(tactic| first
  | walk_at "go1"
  | (with_reducible refine i_next ?_; intro r _ _)
  | (with_reducible refine i_draw ?a ?b ?c ?_; (case a => walk_at "side"); (case b => walk_at "side"); (case c => walk_at "pen"); intro x S' _ _ _)
  | (with_reducible refine i_sum_of ?a ?b ?_; (case a => walk_at "sz"); (case b => walk_at "sz"))
  | (with_reducible refine i_difference_of ?a ?b ?_; (case a => walk_at "sz"); (case b => walk_at "sz"))
  | (with_reducible refine i_product_of ?a ?b ?_; (case a => walk_at "sz"); (case b => walk_at "sz"))
  | (with_reducible refine i_is_below ?a ?b ?_; (case a => walk_at "sz"); (case b => walk_at "sz"))
  | (with_reducible refine i_added ?a ?b ?_; (case a => walk_at "sz"); (case b => walk_at "sz"))
  | (with_reducible refine i_less ?a ?b ?_; (case a => walk_at "sz"); (case b => walk_at "sz"))
  | (with_reducible refine i_times ?a ?b ?_; (case a => walk_at "sz"); (case b => walk_at "sz"))
  | (with_reducible refine i_is_less ?a ?b ?_; (case a => walk_at "sz"); (case b => walk_at "sz"))
  | (with_reducible refine i_sum ?a ?b ?_; (case a => walk_at "sz"); (case b => walk_at "sz"))
  | (with_reducible refine i_rest ?a ?b ?_; (case a => walk_at "sz"); (case b => walk_at "sz"))
  | (with_reducible refine i_prod ?a ?b ?_; (case a => walk_at "sz"); (case b => walk_at "sz"))
  | (with_reducible refine i_under ?a ?b ?_; (case a => walk_at "sz"); (case b => walk_at "sz"))
  | with_reducible refine i_is_part_pt ?_
  | with_reducible refine r_intB ?_
  | (with_reducible refine r_rng1 ?a ?b ?_; (case a => decide); (case b => decide)) | with_reducible refine r_ix0L ?_ | with_reducible refine r_muE ?_ | with_reducible refine r_itL ?_ | with_reducible refine r_itT ?_
  | with_reducible refine r_par3 ?_ | with_reducible refine r_three ?_ | with_reducible refine r_gSub ?_ | with_reducible refine r_lstM ?_ | with_reducible refine r_lstT ?_ | with_reducible refine r_turn ?_ | with_reducible refine r_callK ?_
  | with_reducible refine i_opposite ?_
  | ((with_reducible refine' r_ixT ?hv ?_); (case hv => rfl))
  | ((with_reducible refine' r_ixL ?hv ?_); (case hv => rfl)) | fail)
local macro_rules | `(tactic| walk_at "au1") => `(tactic| first
  | (with_reducible refine r_modI ?a ?_; (case a => decide))
  | (with_reducible refine r_divI ?a ?_; (case a => exact ⟨by decide, by decide⟩))
  | (with_reducible refine r_powI ?a ?_; (case a => exact ⟨by decide, by decide, by decide⟩)) | fail)
local macro_rules | `(tactic| walk_at "br") => `(tactic| first
  | (with_reducible refine r_bothT ?_ ?_ <;> intro z)
  | (with_reducible refine r_bothF ?_ ?_ <;> intro z)
  | (with_reducible refine r_bothD ?_ ?_ <;> intro z)
  | (with_reducible refine r_bothN ?_ ?_ <;> intro z)
  | (with_reducible refine r_both ?_ ?_ <;> intro z) | fail)
local macro_rules | `(tactic| walk_at "ab") => `(tactic| repeat' first | walk_at "au1" | walk_at "br")

local macro_rules | `(tactic| walk_at "shd") => `(tactic| first
  | assumption | exact ShD.non | exact ShD.bl | exact ShD.lit (by decide) | exact ShD.str (by decide +kernel) (by decide +kernel)
  | (apply ShD.nat; omega)
  | (apply ShD.pt (by walk_at "szs"); exact (Nat.ble_eq_true_of_le (of_decide_eq_true rfl)))
  | (apply ShD.tup; walk_at "shds") | (apply ShD.lst; walk_at "shds"))
local macro_rules | `(tactic| walk_at "shds") => `(tactic| first
  | assumption | exact ShDs.nil | (apply ShDs.cons; walk_at "shd"; walk_at "shds"))

local macro_rules | `(tactic| walk_at "au1") => `(tactic| first
  | (with_reducible refine r_neSS rfl ?_)
  | ((with_reducible refine' r_reprD ?a ?b ?c ?_); (case a => walk_at "shd"); (case b => rfl); (case c => rfl)) | fail)

local macro_rules | `(tactic| walk_at "szs") => `(tactic| ((with_reducible apply Sz.div); walk_at "szs"; walk_at "szs"; assumption))
local macro_rules | `(tactic| walk_at "au1") => `(tactic| first
  | with_reducible refine r_eqPt ?_ | with_reducible refine r_nePt ?_ | with_reducible refine r_eqN ?_ | with_reducible refine r_neN ?_
  | (with_reducible refine n_difference_of1 ?a ?_; (case a => walk_at "sz"))
  | (with_reducible refine n_rest1 ?a ?_; (case a => walk_at "sz"))
  | (with_reducible refine i_divided ?z ?a ?b ?_; (case z => assumption); (case a => walk_at "sz"); (case b => walk_at "sz"))
  | (with_reducible refine i_by ?z ?a ?b ?_; (case z => assumption); (case a => walk_at "sz"); (case b => walk_at "sz"))
  | (with_reducible refine i_between2 ?a ?b ?c ?_; (case a => walk_at "sz"); (case b => walk_at "sz"); (case c => walk_at "sz")) | fail)
local macro_rules | `(tactic| walk_at "pD") => `(tactic| first | rfl | assumption | (apply Pz.pD; assumption))
local macro_rules | `(tactic| walk_at "p2") => `(tactic| first | rfl | assumption | (apply Pz.p2; assumption))
local macro_rules | `(tactic| walk_at "pz") => `(tactic| first | assumption | (apply Pz.mono; (first | assumption | (apply Pz.pt; walk_at "szs")); exact Nat.le_of_ble_eq_true rfl))
local macro_rules | `(tactic| walk_at "au1") => `(tactic| first
  | (with_reducible refine i_part ?a ?b ?c ?_; (case a => walk_at "side"); (case b => walk_at "side"); (case c => walk_at "pen"); intro q S' _ _)
  | (with_reducible refine i_above ?a ?b ?c ?_; (case a => walk_at "side"); (case b => walk_at "side"); (case c => walk_at "pen"); intro q S' _ _ _)
  | (with_reducible refine i_odd ?c ?_; (case c => walk_at "pen"); intro d S' _ _)
  | ((with_reducible refine i_clk_c ?a ?b ?c); (case a => walk_at "pD"); all_goals first | (intro (z : _ = false)) | (intro n e _; subst e))
  | ((with_reducible refine i_lclk_c ?a ?b ?c); (case a => walk_at "pD"); all_goals first | (intro (z : _ = false)) | (intro n e _; subst e))
  | ((with_reducible refine i_part_c ?a ?b ?c); (case a => walk_at "p2"); all_goals first | (intro (z : _ = false)) | (intro q e; subst e))
  | ((with_reducible refine i_up_c ?a ?b ?c); (case a => walk_at "p2"); all_goals first | (intro (z : _ = false)) | (intro q e _; subst e))
  | ((with_reducible refine i_lpart_c ?a ?b ?c); (case a => walk_at "pz"); all_goals first | (intro (z : _ = false)) | (intro q e; subst e)) | fail)

local macro_rules | `(tactic| walk_at "telok") => `(tactic| first | assumption | (apply TelOk.mono; assumption; exact Nat.le_of_ble_eq_true rfl) | (apply TelsOk.mono; assumption; exact Nat.le_of_ble_eq_true rfl) | (apply RowOk.mono; assumption; exact Nat.le_of_ble_eq_true rfl))
local macro_rules | `(tactic| walk_at "au1") => `(tactic| first
  | with_reducible refine r_telsLen ?_ | with_reducible refine r_itTels ?_ | with_reducible refine r_itRow ?_ | with_reducible refine r_rowLen ?_ | with_reducible refine r_wiET ?_ | with_reducible refine r_itET ?_ | with_reducible refine r_itE ?_
  | (with_reducible refine i_check_tellings_ok ?a ?_; (case a => walk_at "telok"))
  | (with_reducible refine i_check_number_ok ?a ?_; (case a => walk_at "side"))
  | (with_reducible refine i_is_kept ?a ?b ?_; (case a => walk_at "telok"); (case b => walk_at "telok"))
  | (with_reducible refine i_first_not_kept ?a ?b ?_; (case a => walk_at "telok"); (case b => walk_at "telok")) | fail)

/-! ### what a part is over a bottom -/
def zR (B : Nat) (x : Rat) : Int := (x * (B : Rat)).num
def IntB (B : Nat) (x : Rat) : Prop := ∃ z : Int, x * (B : Rat) = z
theorem zR_of {B : Nat} {x : Rat} {z : Int} (h : x * (B : Rat) = z) : zR B x = z := by
  unfold zR
  rw [h]
  rfl
theorem IntB.eq {B : Nat} {x : Rat} (h : IntB B x) : x * (B : Rat) = (zR B x : Rat) := by
  obtain ⟨z, hz⟩ := h
  rw [zR_of hz]
  exact hz
theorem IntB.zero {B : Nat} : IntB B 0 := ⟨0, by rw [Rat.zero_mul]; rfl⟩
theorem IntB.add {B : Nat} {x y : Rat} (h : IntB B x) (g : IntB B y) : IntB B (x + y) := by
  obtain ⟨a, ha⟩ := h
  obtain ⟨b, hb⟩ := g
  exact ⟨a + b, by rw [Rat.add_mul, ha, hb, Rat.intCast_add]⟩
theorem IntB.neg {B : Nat} {x : Rat} (h : IntB B x) : IntB B (-x) := by
  obtain ⟨a, ha⟩ := h
  exact ⟨-a, by rw [Rat.neg_mul, ha, Rat.intCast_neg]⟩
theorem IntB.sub {B : Nat} {x y : Rat} (h : IntB B x) (g : IntB B y) : IntB B (x - y) := by
  rw [Rat.sub_eq_add_neg]
  exact h.add g.neg
theorem zR_add {B : Nat} {x y : Rat} (h : IntB B x) (g : IntB B y) : zR B (x + y) = zR B x + zR B y := by
  refine zR_of ?_
  rw [Rat.add_mul, h.eq, g.eq, Rat.intCast_add]
theorem zR_neg {B : Nat} {x : Rat} (h : IntB B x) : zR B (-x) = -zR B x := by
  refine zR_of ?_
  rw [Rat.neg_mul, h.eq, Rat.intCast_neg]
theorem zR_zero {B : Nat} : zR B 0 = 0 := zR_of (by rw [Rat.zero_mul]; rfl)
theorem zR_lt {B : Nat} (hB : 0 < B) {x y : Rat} (h : IntB B x) (g : IntB B y) : zR B x < zR B y ↔ x < y := by
  have hb : (0 : Rat) < (B : Rat) := by exact_mod_cast hB
  have e1 := h.eq
  have e2 := g.eq
  rw [← Rat.intCast_lt_intCast, ← e1, ← e2]
  exact Rat.mul_lt_mul_right hb
theorem mul_den (q : Rat) : q * (q.den : Rat) = (q.num : Rat) := by
  have h := Rat.num_divInt_den q
  rw [Rat.divInt_eq_div] at h
  have hd : ((q.den : Int) : Rat) ≠ 0 := by
    rw [Rat.intCast_natCast]
    exact_mod_cast q.den_nz
  have e : ((q.den : Int) : Rat) = (q.den : Rat) := Rat.intCast_natCast _
  rw [e] at h hd
  have := Rat.div_mul_cancel (a := (q.num : Rat)) hd
  rw [h] at this
  exact this
/-- a part whose bottom divides the shared one -/
theorem intB_den {B : Nat} {q : Rat} (h : q.den ∣ B) : IntB B q ∧ zR B q = q.num * ((B : Int) / (q.den : Int)) := by
  obtain ⟨k, rfl⟩ := h
  have hd : (q.den : Rat) ≠ 0 := by exact_mod_cast q.den_nz
  have key : q * ((q.den * k : Nat) : Rat) = ((q.num * (k : Int) : Int) : Rat) := by
    rw [Rat.natCast_mul, ← Rat.mul_assoc, mul_den, Rat.intCast_mul]
    rfl
  refine ⟨⟨_, key⟩, ?_⟩
  rw [zR_of key]
  congr 1
  rw [Int.natCast_mul, Int.mul_ediv_cancel_left _ (by have := q.den_nz; omega)]
end DL
namespace DL

end DL

set_option maxHeartbeats 4000000
namespace DL
open PySem PySem.Spec PyProof.Rows L2
local macro_rules | `(tactic| walk_at "go1") => `(tactic| first
  | with_reducible refine r_seq ?_ | with_reducible refine r_asg ?_ | with_reducible refine r_ret ?_ | with_reducible refine r_ifS ?_ | with_reducible refine r_drop ?_ | with_reducible refine r_par ?_ | with_reducible refine r_next ?_ | with_reducible refine r_retN ?_
  | ((with_reducible refine' r_var ?hv ?_); (case hv => rfl)) | with_reducible refine r_c ?_ | with_reducible refine r_bin ?_ | with_reducible refine r_un ?_ | with_reducible refine r_as1 ?_ | with_reducible refine r_as0 ?_
  | with_reducible refine r_cb ?_ | with_reducible refine r_call ?_ | with_reducible refine r_B ?_ | with_reducible refine r_notT ?_ | with_reducible refine r_andT ?_ | with_reducible refine r_orT ?_
  | with_reducible refine r_andV ?_ | with_reducible refine r_orV ?_ | with_reducible refine r_notV ?_ | with_reducible refine r_if ?_ | with_reducible refine r_tup ?_ | with_reducible refine r_lst ?_ | with_reducible refine r_mu ?_
  | with_reducible refine r_cut ?_ | with_reducible refine r_p0 ?_ | with_reducible refine r_p1 ?_ | with_reducible refine r_gN ?_ | ((with_reducible refine r_gT ?hv ?_); (case hv => rfl)) | with_reducible refine r_gs1 ?_ | with_reducible refine r_gs0 ?_
  | ((with_reducible refine r_trueR ?hv ?_); (case hv => first | rfl | assumption)) | ((with_reducible refine r_falseR ?hv ?_); (case hv => first | rfl | assumption)) | with_reducible refine r_bl ?_ | with_reducible refine r_in ?_ | with_reducible refine r_two ?_
  | with_reducible refine r_addI ?_ | with_reducible refine r_subI ?_ | with_reducible refine r_mulI ?_ ?_ | with_reducible refine r_divI ?_ ?_ | with_reducible refine r_modI ?_ ?_ | with_reducible refine r_powI ?_ ?_ | with_reducible refine r_negI ?_
  | with_reducible refine r_lt ?_ | with_reducible refine r_le ?_ | with_reducible refine r_gt ?_ | with_reducible refine r_ge ?_ | with_reducible refine r_is ?_ | with_reducible refine r_isNot ?_ | with_reducible refine r_eqI ?_ | with_reducible refine r_neI ?_ | with_reducible refine r_eqS ?_ | with_reducible refine r_neS ?_
  | with_reducible refine r_ixP0 ?_ | with_reducible refine r_ixP1 ?_ | with_reducible refine r_ix0T ?_ | with_reducible refine r_ix1T ?_ | with_reducible refine r_lenT ?_ | with_reducible refine r_lenL ?_ | with_reducible refine r_lenC ?_
  | with_reducible refine r_abs ?_ | with_reducible refine r_max ?_ | with_reducible refine r_min ?_ | with_reducible refine r_intI ?_ | with_reducible refine r_intB ?_ | with_reducible refine r_tupL ?_ | with_reducible refine r_tupT ?_
  | with_reducible refine r_gcd ?_ | ((with_reducible refine r_isi ?hv ?_); (case hv => first | rfl | assumption)) | with_reducible refine r_sizeT ?_ | with_reducible refine r_sizeL ?_)
local macro_rules | `(tactic| walk_at "go") => `(tactic| repeat' walk_at "go1")
local macro_rules | `(tactic| walk_at "go1") => `(tactic| first
  | with_reducible refine r_lc ?_ | with_reducible refine r_wiT ?_ | with_reducible refine r_wiZ ?_ | with_reducible refine r_wiL ?_ | with_reducible refine r_wiR1 ?_ | with_reducible refine r_for ?_ | with_reducible refine r_yes ?_
  | with_reducible refine b_nm ?_ | with_reducible refine r_setD0 ?_ | with_reducible refine r_setD1 ?_ | ((with_reducible refine' r_setDT ?hv ?_); (case hv => rfl)) | with_reducible refine r_setsD ?_ | with_reducible refine r_setsCut ?_ | with_reducible refine b_tp2 ?_ | with_reducible refine r_trueL ?_ | with_reducible refine r_falseL ?_ )

local macro_rules | `(tactic| walk_at "go1") => `(tactic| first
  | with_reducible refine r_size0 ?_ | with_reducible refine r_size3 ?_ | with_reducible refine r_app ?_ | with_reducible refine r_setIx ?_ | ((with_reducible refine' r_sizeG ?hv ?_); (case hv => rfl)) | ((with_reducible refine' r_addG ?hv ?_); (case hv => rfl)) | ((with_reducible refine' r_addTG ?hv ?_); (case hv => rfl))
  | with_reducible refine r_bmL ?_ | with_reducible refine r_isL ?_ | with_reducible refine r_try ?_ | with_reducible refine r_emp ?_ | with_reducible refine r_raise ?_ | with_reducible refine r_chain ?_ | with_reducible refine r_mulGI ?_ ?_
  | with_reducible refine r_wiET ?_ | with_reducible refine r_telLen ?_ | with_reducible refine r_telsLen ?_ | with_reducible refine r_rowLen ?_ | ((with_reducible refine' r_telT ?hv ?_); (case hv => rfl)))

local macro_rules | `(tactic| walk_at "szs") => `(tactic| first
  | assumption
  | ((with_reducible apply Sz.add); walk_at "szs"; walk_at "szs")
  | ((with_reducible apply Sz.sub); walk_at "szs"; walk_at "szs")
  | ((with_reducible apply Sz.mul); walk_at "szs"; walk_at "szs")
  | ((with_reducible apply Sz.neg); walk_at "szs")
  | (apply Pz.sz; assumption) | exact sz0 | exact sz1 | exact sz24
  | ((with_reducible apply sz_abs); walk_at "szs"))
local macro_rules | `(tactic| walk_at "sz") => `(tactic| (apply Sz.mono; walk_at "szs"; exact Nat.le_of_ble_eq_true rfl))
local macro_rules | `(tactic| walk_at "pen") => `(tactic| first | assumption | (apply Stm.pen; assumption) | (apply stm_st; assumption) | (apply stm_st; apply Stm.pen; assumption))
local macro_rules | `(tactic| walk_at "stm") => `(tactic| first | assumption | exact Stm.of (by walk_at "pen") | (refine Stm.trans ?_ (by assumption); walk_at "stm") | (refine Stm.trans ?_ (Stm.new (by walk_at "pen")); walk_at "stm"))
local macro_rules | `(tactic| walk_at "side") => `(tactic| first | assumption | rfl | omega | decide | walk_at "sz" | walk_at "pen")
local macro_rules | `(tactic| walk_at "au") => `(tactic| repeat' walk_at "au1")
local macro_rules | `(tactic| walk_at "au1") => `(tactic| first
  | walk_at "go1"
  | (with_reducible refine i_next ?_; intro r _ _)
  | (with_reducible refine i_draw ?a ?b ?c ?_; (case a => walk_at "side"); (case b => walk_at "side"); (case c => walk_at "pen"); intro x S' _ _ _)
  | (with_reducible refine i_sum_of ?a ?b ?_; (case a => walk_at "sz"); (case b => walk_at "sz"))
  | (with_reducible refine i_difference_of ?a ?b ?_; (case a => walk_at "sz"); (case b => walk_at "sz"))
  | (with_reducible refine i_product_of ?a ?b ?_; (case a => walk_at "sz"); (case b => walk_at "sz"))
  | (with_reducible refine i_is_below ?a ?b ?_; (case a => walk_at "sz"); (case b => walk_at "sz"))
  | (with_reducible refine i_added ?a ?b ?_; (case a => walk_at "sz"); (case b => walk_at "sz"))
  | (with_reducible refine i_less ?a ?b ?_; (case a => walk_at "sz"); (case b => walk_at "sz"))
  | (with_reducible refine i_times ?a ?b ?_; (case a => walk_at "sz"); (case b => walk_at "sz"))
  | (with_reducible refine i_is_less ?a ?b ?_; (case a => walk_at "sz"); (case b => walk_at "sz"))
  | (with_reducible refine i_sum ?a ?b ?_; (case a => walk_at "sz"); (case b => walk_at "sz"))
  | (with_reducible refine i_rest ?a ?b ?_; (case a => walk_at "sz"); (case b => walk_at "sz"))
  | (with_reducible refine i_prod ?a ?b ?_; (case a => walk_at "sz"); (case b => walk_at "sz"))
  | (with_reducible refine i_under ?a ?b ?_; (case a => walk_at "sz"); (case b => walk_at "sz"))
  | with_reducible refine i_is_part_pt ?_
  | with_reducible refine r_intB ?_
  | (with_reducible refine r_rng1 ?a ?b ?_; (case a => decide); (case b => decide)) | with_reducible refine r_ix0L ?_ | with_reducible refine r_muE ?_ | with_reducible refine r_itL ?_ | with_reducible refine r_itT ?_
  | with_reducible refine r_par3 ?_ | with_reducible refine r_three ?_ | with_reducible refine r_gSub ?_ | with_reducible refine r_lstM ?_ | with_reducible refine r_lstT ?_ | with_reducible refine r_turn ?_ | with_reducible refine r_callK ?_
  | with_reducible refine i_opposite ?_
  | ((with_reducible refine' r_ixT ?hv ?_); (case hv => rfl))
  | ((with_reducible refine' r_ixL ?hv ?_); (case hv => rfl)) | fail)
local macro_rules | `(tactic| walk_at "au1") => `(tactic| first
  | (with_reducible refine r_modI ?a ?_; (case a => decide))
  | (with_reducible refine r_divI ?a ?_; (case a => exact ⟨by decide, by decide⟩))
  | (with_reducible refine r_powI ?a ?_; (case a => exact ⟨by decide, by decide, by decide⟩)) | fail)
local macro_rules | `(tactic| walk_at "br") => `(tactic| first
  | (with_reducible refine r_bothT ?_ ?_ <;> intro z)
  | (with_reducible refine r_bothF ?_ ?_ <;> intro z)
  | (with_reducible refine r_bothD ?_ ?_ <;> intro z)
  | (with_reducible refine r_bothN ?_ ?_ <;> intro z)
  | (with_reducible refine r_both ?_ ?_ <;> intro z) | fail)
local macro_rules | `(tactic| walk_at "ab") => `(tactic| repeat' first | walk_at "au1" | walk_at "br")

local macro_rules | `(tactic| walk_at "shd") => `(tactic| first
  | assumption | exact ShD.non | exact ShD.bl | exact ShD.lit (by decide) | exact ShD.str (by decide +kernel) (by decide +kernel)
  | (apply ShD.nat; omega)
  | (apply ShD.pt (by walk_at "szs"); exact (Nat.ble_eq_true_of_le (of_decide_eq_true rfl)))
  | (apply ShD.tup; walk_at "shds") | (apply ShD.lst; walk_at "shds"))
local macro_rules | `(tactic| walk_at "shds") => `(tactic| first
  | assumption | exact ShDs.nil | (apply ShDs.cons; walk_at "shd"; walk_at "shds"))

local macro_rules | `(tactic| walk_at "au1") => `(tactic| first
  | (with_reducible refine r_neSS rfl ?_)
  | ((with_reducible refine' r_reprD ?a ?b ?c ?_); (case a => walk_at "shd"); (case b => rfl); (case c => rfl)) | fail)

local macro_rules | `(tactic| walk_at "szs") => `(tactic| ((with_reducible apply Sz.div); walk_at "szs"; walk_at "szs"; assumption))
local macro_rules | `(tactic| walk_at "au1") => `(tactic| first
  | with_reducible refine r_eqPt ?_ | with_reducible refine r_nePt ?_ | with_reducible refine r_eqN ?_ | with_reducible refine r_neN ?_
  | (with_reducible refine n_difference_of1 ?a ?_; (case a => walk_at "sz"))
  | (with_reducible refine n_rest1 ?a ?_; (case a => walk_at "sz"))
  | (with_reducible refine i_divided ?z ?a ?b ?_; (case z => assumption); (case a => walk_at "sz"); (case b => walk_at "sz"))
  | (with_reducible refine i_by ?z ?a ?b ?_; (case z => assumption); (case a => walk_at "sz"); (case b => walk_at "sz"))
  | (with_reducible refine i_between2 ?a ?b ?c ?_; (case a => walk_at "sz"); (case b => walk_at "sz"); (case c => walk_at "sz")) | fail)
local macro_rules | `(tactic| walk_at "pD") => `(tactic| first | rfl | assumption | (apply Pz.pD; assumption))
local macro_rules | `(tactic| walk_at "p2") => `(tactic| first | rfl | assumption | (apply Pz.p2; assumption))
local macro_rules | `(tactic| walk_at "pz") => `(tactic| first | assumption | (apply Pz.mono; (first | assumption | (apply Pz.pt; walk_at "szs")); exact Nat.le_of_ble_eq_true rfl))
local macro_rules | `(tactic| walk_at "au1") => `(tactic| first
  | (with_reducible refine i_part ?a ?b ?c ?_; (case a => walk_at "side"); (case b => walk_at "side"); (case c => walk_at "pen"); intro q S' _ _)
  | (with_reducible refine i_above ?a ?b ?c ?_; (case a => walk_at "side"); (case b => walk_at "side"); (case c => walk_at "pen"); intro q S' _ _ _)
  | (with_reducible refine i_odd ?c ?_; (case c => walk_at "pen"); intro d S' _ _)
  | ((with_reducible refine i_clk_c ?a ?b ?c); (case a => walk_at "pD"); all_goals first | (intro (z : _ = false)) | (intro n e _; subst e))
  | ((with_reducible refine i_lclk_c ?a ?b ?c); (case a => walk_at "pD"); all_goals first | (intro (z : _ = false)) | (intro n e _; subst e))
  | ((with_reducible refine i_part_c ?a ?b ?c); (case a => walk_at "p2"); all_goals first | (intro (z : _ = false)) | (intro q e; subst e))
  | ((with_reducible refine i_up_c ?a ?b ?c); (case a => walk_at "p2"); all_goals first | (intro (z : _ = false)) | (intro q e _; subst e))
  | ((with_reducible refine i_lpart_c ?a ?b ?c); (case a => walk_at "pz"); all_goals first | (intro (z : _ = false)) | (intro q e; subst e)) | fail)

local macro_rules | `(tactic| walk_at "telok") => `(tactic| first | assumption | (apply TelOk.mono; assumption; exact Nat.le_of_ble_eq_true rfl) | (apply TelsOk.mono; assumption; exact Nat.le_of_ble_eq_true rfl) | (apply RowOk.mono; assumption; exact Nat.le_of_ble_eq_true rfl))
local macro_rules | `(tactic| walk_at "au1") => `(tactic| first
  | with_reducible refine r_telsLen ?_ | with_reducible refine r_itTels ?_ | with_reducible refine r_itRow ?_ | with_reducible refine r_rowLen ?_ | with_reducible refine r_wiET ?_ | with_reducible refine r_itET ?_ | with_reducible refine r_itE ?_
  | (with_reducible refine i_check_tellings_ok ?a ?_; (case a => walk_at "telok"))
  | (with_reducible refine i_check_number_ok ?a ?_; (case a => walk_at "side"))
  | (with_reducible refine i_is_kept ?a ?b ?_; (case a => walk_at "telok"); (case b => walk_at "telok"))
  | (with_reducible refine i_first_not_kept ?a ?b ?_; (case a => walk_at "telok"); (case b => walk_at "telok")) | fail)

/-- what stood stands yet, more stands behind -/
structure Ext (S S' : Sto) : Prop where
  le : S.length ≤ S'.length
  keep : ∀ j, j < S.length → S'[j]? = S[j]?
theorem Ext.refl {S : Sto} : Ext S S := ⟨Nat.le_refl _, fun _ _ => rfl⟩
theorem Ext.trans {S S1 S2 : Sto} (h : Ext S S1) (g : Ext S1 S2) : Ext S S2 := ⟨Nat.le_trans h.le g.le, fun j hj => (g.keep j (Nat.lt_of_lt_of_le hj h.le)).trans (h.keep j hj)⟩
theorem Ext.new {S : Sto} {xs : List D} : Ext S (S ++ [xs]) := ⟨by rw [List.length_append]; omega, fun j hj => List.getElem?_append_left hj⟩
theorem Ext.put {S S' : Sto} {n : Nat} {xs : List D} (h : Ext S S') (hn : S.length ≤ n) : Ext S (S'.set n xs) := ⟨by rw [List.length_set]; exact h.le, fun j hj => by rw [List.getElem?_set_ne (by omega)]; exact h.keep j hj⟩
theorem Ext.stm {S S' : Sto} {i : Nat} (h : Ext S S') (p : Pen S i) : Stm i S S' := by
  obtain ⟨a, b, c, e⟩ := p
  exact ⟨h.le, fun j hj _ => h.keep j hj, a, b, c, by rw [h.keep i (List.getElem?_eq_some_iff.mp e).1]; exact e⟩
theorem Ext.at {S S' : Sto} {n : Nat} {xs : List D} (h : Ext S S') (e : S[n]? = some xs) : S'[n]? = some xs := by
  rw [h.keep n (List.getElem?_eq_some_iff.mp e).1]
  exact e
theorem Ext.items {S S' : Sto} {d : D} {xs : List D} (h : Ext S S') (e : itemsL d S = some xs) : itemsL d S' = some xs := by
  cases d with
  | mu i => exact h.at e
  | lst ys => exact e
  | scr ys => exact e
  | _ => cases e
structure BotOk (B : Nat) : Prop where
  p : 0 < B
  s : B < 2 ^ 60
abbrev oZ (B : Nat) : Option Rat → D
  | none => .non
  | some x => .int (zR B x)
def lenD (B : Nat) (f : Lens) : List D := (List.range 6).map fun v => oZ B (f v)
def stepD (a : Arc) : D := .tup [.int a.n, .int a.s]
abbrev lastI : Option Arc → D
  | none => .non
  | some a => .tup [.int a.b, stepD a]
def lastD (f : Lasts) : List D := (List.range 6).map fun v => lastI (f v)
def arcD (B : Nat) (a : Arc) : D := .tup [.int a.b, .int a.e, .int (zR B a.l), stepD a]
structure ArcsOk (B : Nat) (as : List Arc) : Prop where
  six : Six as
  int : ∀ a ∈ as, IntB B a.l
def IntL (B : Nat) (f : Lens) : Prop := ∀ v x, f v = some x → IntB B x
/-- the arcs of tellings -/
def arcsT (n : Nat) (t : Tel) : List Arc := (match t.high with | none => [] | some h => [⟨t.one, t.other, h, n, 1⟩]) ++ (match t.low with | none => [] | some l => [⟨t.other, t.one, -l, n, -1⟩])
def arcsFrom : Nat → List Tel → List Arc
  | _, [] => []
  | n, t :: ts => arcsT n t ++ arcsFrom (n + 1) ts
def arcsR (ts : List Tel) : List Arc := arcsFrom 0 ts
def DenB (B : Nat) (ts : List Tel) : Prop := ∀ t ∈ ts, (∀ q, t.low = some q → q.den ∣ B) ∧ ∀ q, t.high = some q → q.den ∣ B
def lcmO (b : Nat) : Option Rat → Nat
  | none => b
  | some q => b.lcm q.den
def botR (ts : List Tel) : Nat := ts.foldl (fun b t => lcmO (lcmO b t.low) t.high) 1
theorem lcmO_dvd {b B : Nat} {o : Option Rat} (hb : b ∣ B) (h : ∀ q, o = some q → q.den ∣ B) : lcmO b o ∣ B := by
  cases o with
  | none => exact hb
  | some q => exact Nat.lcm_dvd hb (h q rfl)
theorem dvd_lcmO {b : Nat} {o : Option Rat} : b ∣ lcmO b o ∧ ∀ q, o = some q → q.den ∣ lcmO b o := by
  cases o with
  | none => exact ⟨Nat.dvd_refl _, fun q e => by cases e⟩
  | some q => exact ⟨Nat.dvd_lcm_left _ _, fun q' e => by cases e; exact Nat.dvd_lcm_right _ _⟩
theorem bot_from {B : Nat} : ∀ (ts : List Tel) (b : Nat), b ∣ B → DenB B ts → (ts.foldl (fun b t => lcmO (lcmO b t.low) t.high) b) ∣ B ∧ b ∣ (ts.foldl (fun b t => lcmO (lcmO b t.low) t.high) b) ∧ DenB (ts.foldl (fun b t => lcmO (lcmO b t.low) t.high) b) ts
  | [], b, hb, _ => ⟨hb, Nat.dvd_refl _, fun t h => by cases h⟩
  | t :: ts, b, hb, h => by
    have ht := h t List.mem_cons_self
    obtain ⟨h1, h2, h3⟩ := bot_from ts (lcmO (lcmO b t.low) t.high) (lcmO_dvd (lcmO_dvd hb ht.1) ht.2) fun u hu => h u (List.mem_cons_of_mem _ hu)
    have g1 := dvd_lcmO (b := b) (o := t.low)
    have g2 := dvd_lcmO (b := lcmO b t.low) (o := t.high)
    refine ⟨h1, Nat.dvd_trans g1.1 (Nat.dvd_trans g2.1 h2), fun u hu => ?_⟩
    rcases List.mem_cons.mp hu with rfl | hu
    · exact ⟨fun q e => Nat.dvd_trans (g1.2 q e) (Nat.dvd_trans g2.1 h2), fun q e => Nat.dvd_trans (g2.2 q e) h2⟩
    · exact h3 u hu
theorem bot_dvd {B : Nat} {ts : List Tel} (h : DenB B ts) : botR ts ∣ B := (bot_from ts 1 (Nat.one_dvd _) h).1
theorem bot_den {ts : List Tel} {B : Nat} (h : DenB B ts) : DenB (botR ts) ts := (bot_from ts 1 (Nat.one_dvd _) h).2.2
theorem bot_ok {B : Nat} {ts : List Tel} (hB : BotOk B) (h : DenB B ts) : BotOk (botR ts) := by
  have := Nat.le_of_dvd hB.p (bot_dvd h)
  have h2 := hB.s
  have h3 := Nat.pos_of_dvd_of_pos (bot_dvd h) hB.p
  exact ⟨h3, by omega⟩
theorem arcs_mem : ∀ {ts : List Tel} {n : Nat} {a : Arc}, a ∈ arcsFrom n ts ↔ ∃ k t, ts[k]? = some t ∧ a ∈ arcsT (n + k) t
  | [], n, a => ⟨fun h => (by cases h), fun ⟨k, t, h, _⟩ => (by simp at h)⟩
  | t :: ts, n, a => by
    show a ∈ arcsT n t ++ arcsFrom (n + 1) ts ↔ _
    rw [List.mem_append, arcs_mem]
    constructor
    · rintro (h | ⟨k, u, h1, h2⟩)
      · exact ⟨0, t, rfl, h⟩
      · exact ⟨k + 1, u, by simpa using h1, by rw [show n + (k + 1) = n + 1 + k by omega]; exact h2⟩
    · rintro ⟨k, u, h1, h2⟩
      cases k with
      | zero =>
        simp only [List.getElem?_cons_zero, Option.some.injEq] at h1
        subst h1
        exact .inl h2
      | succ k => exact .inr ⟨k, u, by simpa using h1, by rw [show n + 1 + k = n + (k + 1) by omega]; exact h2⟩
theorem arcsT_mem {n : Nat} {t : Tel} {a : Arc} : a ∈ arcsT n t ↔ (∃ h, t.high = some h ∧ a = ⟨t.one, t.other, h, n, 1⟩) ∨ ∃ l, t.low = some l ∧ a = ⟨t.other, t.one, -l, n, -1⟩ := by
  unfold arcsT
  rw [List.mem_append]
  cases t.high <;> cases t.low <;> simp
theorem arcs_ok {B n : Nat} {ts : List Tel} (ht : TelsOk n ts) (h : DenB B ts) : ArcsOk B (arcsR ts) := by
  have key : ∀ a ∈ arcsR ts, (a.b < 6 ∧ a.e < 6) ∧ IntB B a.l := fun a ha => by
    obtain ⟨k, t, h1, h2⟩ := arcs_mem.mp ha
    have tm := List.mem_of_getElem? h1
    have tk := ht.ea t tm
    have dn := h t tm
    rcases arcsT_mem.mp h2 with ⟨q, e, rfl⟩ | ⟨q, e, rfl⟩
    · exact ⟨⟨tk.one, tk.other⟩, (intB_den (dn.2 q e)).1⟩
    · exact ⟨⟨tk.other, tk.one⟩, (intB_den (dn.1 q e)).1.neg⟩
  exact ⟨fun a ha => (key a ha).1, fun a ha => (key a ha).2⟩
def turnA (a : Arc) : Arc := ⟨a.e, a.b, a.l, a.n, a.s⟩
def turnR (as : List Arc) : List Arc := as.map turnA
theorem ArcsOk.turn {B : Nat} {as : List Arc} (h : ArcsOk B as) : ArcsOk B (turnR as) := by
  refine ⟨fun a ha => ?_, fun a ha => ?_⟩ <;> obtain ⟨c, hc, rfl⟩ := List.mem_map.mp ha
  · exact ⟨(h.six c hc).2, (h.six c hc).1⟩
  · exact h.int c hc
theorem lenD_at {B v : Nat} {f : Lens} (h : v < 6) : (lenD B f)[v]? = some (oZ B (f v)) := by
  unfold lenD
  rw [List.getElem?_map, List.getElem?_range h]
  rfl
theorem lastD_at {v : Nat} {f : Lasts} (h : v < 6) : (lastD f)[v]? = some (lastI (f v)) := by
  unfold lastD
  rw [List.getElem?_map, List.getElem?_range h]
  rfl
theorem set_map6 {α : Type} {f : Nat → α} {g : α → D} {v : Nat} {x : α} (h : v < 6) : ((List.range 6).map fun w => g (f w)).set v (g x) = (List.range 6).map fun w => g (upd6 f v x w) := by
  refine List.ext_getElem? fun i => ?_
  by_cases hi : i = v
  · subst hi
    rw [List.getElem?_set_self (by simpa using h), List.getElem?_map, List.getElem?_range h]
    simp [upd6_same]
  · rw [List.getElem?_set_ne (Ne.symm hi), List.getElem?_map, List.getElem?_map]
    cases e : (List.range 6)[i]? with
    | none => rfl
    | some w =>
      have : w = i := by
        have := List.getElem?_eq_some_iff.mp e
        obtain ⟨h1, h2⟩ := this
        rw [List.getElem_range] at h2
        exact h2.symm
      simp only [Option.map_some]
      rw [this, upd6_ne hi]
theorem lenD_set {B v : Nat} {f : Lens} {x : Option Rat} (h : v < 6) : (lenD B f).set v (oZ B x) = lenD B (upd6 f v x) := set_map6 (g := oZ B) h
theorem lastD_set {v : Nat} {f : Lasts} {x : Option Arc} (h : v < 6) : (lastD f).set v (lastI x) = lastD (upd6 f v x) := set_map6 (g := lastI) h
theorem lenD_len {B : Nat} {f : Lens} : (lenD B f).length = 6 := by unfold lenD; rw [List.length_map, List.length_range]
theorem lastD_len {f : Lasts} : (lastD f).length = 6 := by unfold lastD; rw [List.length_map, List.length_range]
theorem ix6 {n k : Nat} (h : k < n) : ixN n (k : Int) = some k := by
  unfold ixN
  rw [if_pos (by omega), if_pos (by omega), Int.toNat_natCast]
/-! two lists of the store change -/
def stSet (S : Sto) (i j : Nat) (a b : List D) : Sto := (S.set i a).set j b
section
variable {S : Sto} {i j : Nat} {a b c : List D}
theorem st2_i (h : i ≠ j) : (stSet S i j a b).set i c = stSet S i j c b := by
  unfold stSet
  rw [List.set_comm _ _ (Ne.symm h), List.set_set]
theorem st2_j : (stSet S i j a b).set j c = stSet S i j a c := by
  unfold stSet
  rw [List.set_set]
theorem st2_gi (h : i ≠ j) (hi : i < S.length) : (stSet S i j a b)[i]? = some a := by
  unfold stSet
  rw [List.getElem?_set_ne (Ne.symm h), List.getElem?_set_self hi]
theorem st2_gj (hj : j < S.length) : (stSet S i j a b)[j]? = some b := by
  unfold stSet
  rw [List.getElem?_set_self (by rw [List.length_set]; exact hj)]
theorem st2_ne {k : Nat} (h1 : k ≠ i) (h2 : k ≠ j) : (stSet S i j a b)[k]? = S[k]? := by
  unfold stSet
  rw [List.getElem?_set_ne (Ne.symm h2), List.getElem?_set_ne (Ne.symm h1)]
theorem st2_len : (stSet S i j a b).length = S.length := by
  unfold stSet
  rw [List.length_set, List.length_set]
theorem st2_0 (hi : S[i]? = some a) (hj : S[j]? = some b) : stSet S i j a b = S := by
  refine List.ext_getElem? fun k => ?_
  by_cases h2 : k = j
  · subst h2
    rw [st2_gj (List.getElem?_eq_some_iff.mp hj).1, hj]
  · by_cases h1 : k = i
    · subst h1
      rw [st2_gi h2 (List.getElem?_eq_some_iff.mp hi).1, hi]
    · exact st2_ne h1 h2
theorem st2_items {d : D} {xs : List D} (h1 : d ≠ .mu i) (h2 : d ≠ .mu j) (e : itemsL d S = some xs) : itemsL d (stSet S i j a b) = some xs := by
  cases d with
  | mu k =>
    show (stSet S i j a b)[k]? = _
    rw [st2_ne (fun z => h1 (by rw [z])) (fun z => h2 (by rw [z]))]
    exact e
  | lst ys => exact e
  | scr ys => exact e
  | _ => cases e
end
/-! what the program's defs promise -/
abbrev oNn : Option Nat → D := oN
def p_shared_bottom : SpD := fun ds S R _ => ∃ (ts : List Tel) (B : Nat), ds = [telsD ts] ∧ TelsOk 1500 ts ∧ BotOk B ∧ DenB B ts ∧ R (.int (botR ts : Nat)) S
def p_arcs_of : SpD := fun ds S R _ => ∃ (ts : List Tel) (B : Nat), ds = [telsD ts, .int (B : Nat)] ∧ TelsOk 1500 ts ∧ BotOk B ∧ DenB B ts ∧ R (.mu S.length) (S ++ [(arcsR ts).map (arcD B)])
def p_turned_round : SpD := fun ds S R _ => ∃ (d : D) (B : Nat) (as : List Arc), ds = [d] ∧ itemsL d S = some (as.map (arcD B)) ∧ as.length ≤ 200 ∧ R (.lst ((turnR as).map (arcD B))) S
def p_arcs_without : SpD := fun ds S R _ => ∃ (d : D) (B : Nat) (as : List Arc) (k : Nat), ds = [d, .int (k : Nat)] ∧ itemsL d S = some (as.map (arcD B)) ∧ as.length ≤ 200 ∧ R (.lst ((as.filter fun a => decide (a.n ≠ k)).map (arcD B))) S
def p_part_over : SpD := fun ds S R _ => ∃ (B : Nat) (o : Option Rat), BotOk B ∧ (∀ x, o = some x → IntB B x) ∧ ((ds = [oZ B o, .int (B : Nat)] ∧ R (eD o) S) ∨ (ds = [oZ B o, .int (-(B : Nat))] ∧ R (eD (o.map fun x => -x)) S))
def p_settle : SpD := fun ds S R _ => ∃ (d : D) (i j B : Nat) (as : List Arc) (len : Lens) (last : Lasts), ds = [d, .mu i, .mu j] ∧ itemsL d S = some (as.map (arcD B)) ∧ ArcsOk B as ∧ 0 < B ∧ i ≠ j ∧ d ≠ .mu i ∧ d ≠ .mu j ∧ S[i]? = some (lenD B len) ∧ S[j]? = some (lastD last) ∧ IntL B len ∧
  R (oN (settle 6 as len last none).sh) (stSet S i j (lenD B (settle 6 as len last none).len) (lastD (settle 6 as len last none).last))
def p_steps_back : SpD := fun ds S R _ => ∃ (j : Nat) (last : Lasts) (c b : Nat) (as : List Arc), ds = [.mu j, .int c, .int b] ∧ S[j]? = some (lastD last) ∧ c < 6 ∧ Chl last as c b ∧ 1 ≤ as.length ∧ as.length ≤ 60 ∧ (∀ i, 1 ≤ i → i < as.length → ¬ Chl last (as.take i) c b) ∧ (∀ a ∈ as, a.b < 6) ∧
  R (.mu S.length) (S ++ [as.map stepD])
section
variable {K : PySem.W.Frag} {S : Sto} {R : KR} {Rx : Er → Sto → Prop} {d : D} {B i j k c b n : Nat} {as : List Arc} {ts : List Tel} {o : Option Rat} {len : Lens} {last : Lasts}
theorem i_shared_bottom (h1 : TelsOk 1500 ts) (hB : BotOk B) (h2 : DenB B ts) (g : R (.int (botR ts : Nat)) S) : ([telsD ts] ++ ([] : List D)).length = 1 ∧ p_shared_bottom ([telsD ts] ++ []) S R Rx := ⟨rfl, ts, B, rfl, h1, hB, h2, g⟩
theorem i_arcs_of (h1 : TelsOk 1500 ts) (hB : BotOk B) (h2 : DenB B ts) (g : R (.mu S.length) (S ++ [(arcsR ts).map (arcD B)])) : ([telsD ts, D.int (B : Nat)] ++ ([] : List D)).length = 2 ∧ p_arcs_of ([telsD ts, D.int (B : Nat)] ++ []) S R Rx := ⟨rfl, ts, B, rfl, h1, hB, h2, g⟩
theorem i_turned_round (h : itemsL d S = some (as.map (arcD B))) (hl : as.length ≤ 200) (g : R (.lst ((turnR as).map (arcD B))) S) : ([d] ++ ([] : List D)).length = 1 ∧ p_turned_round ([d] ++ []) S R Rx := ⟨rfl, d, B, as, rfl, h, hl, g⟩
theorem i_arcs_without (h : itemsL d S = some (as.map (arcD B))) (hl : as.length ≤ 200) (g : R (.lst ((as.filter fun a => decide (a.n ≠ k)).map (arcD B))) S) : ([d, D.int (k : Nat)] ++ ([] : List D)).length = 2 ∧ p_arcs_without ([d, D.int (k : Nat)] ++ []) S R Rx := ⟨rfl, d, B, as, k, rfl, h, hl, g⟩
theorem i_part_over (hB : BotOk B) (h : ∀ x, o = some x → IntB B x) (g : R (eD o) S) : ([oZ B o, D.int (B : Nat)] ++ ([] : List D)).length = 2 ∧ p_part_over ([oZ B o, D.int (B : Nat)] ++ []) S R Rx := ⟨rfl, B, o, hB, h, .inl ⟨rfl, g⟩⟩
theorem i_part_under (hB : BotOk B) (h : ∀ x, o = some x → IntB B x) (g : R (eD (o.map fun x => -x)) S) : ([oZ B o, D.int (-(B : Nat))] ++ ([] : List D)).length = 2 ∧ p_part_over ([oZ B o, D.int (-(B : Nat))] ++ []) S R Rx := ⟨rfl, B, o, hB, h, .inr ⟨rfl, g⟩⟩
theorem i_settle (h : itemsL d S = some (as.map (arcD B))) (ho : ArcsOk B as) (hB : 0 < B) (hij : i ≠ j) (h1 : d ≠ .mu i) (h2 : d ≠ .mu j) (h3 : S[i]? = some (lenD B len)) (h4 : S[j]? = some (lastD last)) (h5 : IntL B len)
    (g : R (oN (settle 6 as len last none).sh) (stSet S i j (lenD B (settle 6 as len last none).len) (lastD (settle 6 as len last none).last))) : ([d, D.mu i, D.mu j] ++ ([] : List D)).length = 3 ∧ p_settle ([d, D.mu i, D.mu j] ++ []) S R Rx :=
  ⟨rfl, d, i, j, B, as, len, last, rfl, h, ho, hB, hij, h1, h2, h3, h4, h5, g⟩
theorem i_steps_back (h : S[j]? = some (lastD last)) (hc : c < 6) (h1 : Chl last as c b) (h2 : 1 ≤ as.length) (h3 : as.length ≤ 60) (h4 : ∀ i, 1 ≤ i → i < as.length → ¬ Chl last (as.take i) c b) (h5 : ∀ a ∈ as, a.b < 6) (g : R (.mu S.length) (S ++ [as.map stepD])) :
    ([D.mu j, D.int (c : Nat), D.int (b : Nat)] ++ ([] : List D)).length = 3 ∧ p_steps_back ([D.mu j, D.int (c : Nat), D.int (b : Nat)] ++ []) S R Rx := ⟨rfl, j, last, c, b, as, rfl, h, hc, h1, h2, h3, h4, h5, g⟩
end
theorem over_z {B : Nat} {x : Rat} (h : IntB B x) (h0 : ((B : Nat) : Int) ≠ 0) : over (zR B x) B h0 = x := by
  have n0 : B ≠ 0 := by omega
  rw [over_nat h0 n0, Rat.normalize_eq_mkRat, Rat.mkRat_eq_div, ← h.eq]
  have hb : (B : Rat) ≠ 0 := by exact_mod_cast n0
  exact Rat.mul_div_cancel hb
theorem over_zn {B : Nat} {x : Rat} (h : IntB B x) (h0 : (-((B : Nat) : Int)) ≠ 0) : over (zR B x) (-(B : Int)) h0 = -x := by
  have n0 : B ≠ 0 := by omega
  unfold over
  have e1 : (if -((B : Nat) : Int) < 0 then -zR B x else zR B x) = -zR B x := if_pos (by omega)
  simp only [e1, Int.natAbs_neg, Int.natAbs_natCast]
  rw [Rat.normalize_eq_mkRat, Rat.mkRat_eq_div]
  have e2 : ((-zR B x : Int) : Rat) = (-x) * (B : Rat) := by rw [Rat.intCast_neg, ← h.eq, Rat.neg_mul]
  rw [e2]
  have hb : (B : Rat) ≠ 0 := by exact_mod_cast n0
  exact Rat.mul_div_cancel hb
theorem b_tp4 {env : Vars} {i j k l : Nat} {a b c d : D} {Q : Vars → Prop} (g : Q ((((env.set i (some a)).set j (some b)).set k (some c)).set l (some d))) : bindE (.tp [i, j, k, l]) (.tup [a, b, c, d]) env Q := ⟨[a, b, c, d], rfl, rfl, g⟩
theorem arcs_len : ∀ {ts : List Tel} {n : Nat}, (arcsFrom n ts).length ≤ 2 * ts.length
  | [], _ => Nat.le_refl _
  | t :: ts, n => by
    have ih := arcs_len (ts := ts) (n := n + 1)
    show (arcsT n t ++ arcsFrom (n + 1) ts).length ≤ _
    rw [List.length_append, List.length_cons]
    have : (arcsT n t).length ≤ 2 := by
      unfold arcsT
      cases t.high <;> cases t.low <;> simp
    omega
theorem arcs_take {ts : List Tel} {i : Nat} {t : Tel} (h : ts[i]? = some t) : arcsR (ts.take (i + 1)) = arcsR (ts.take i) ++ arcsT i t := by
  have key : ∀ (ts : List Tel) (n i : Nat), ts[i]? = some t → arcsFrom n (ts.take (i + 1)) = arcsFrom n (ts.take i) ++ arcsT (n + i) t := by
    intro ts
    induction ts with
    | nil => intro n i h; simp at h
    | cons u ts ih =>
      intro n i h
      cases i with
      | zero =>
        simp only [List.getElem?_cons_zero, Option.some.injEq] at h
        subst h
        show arcsT n u ++ [] = [] ++ arcsT (n + 0) u
        rw [List.append_nil, Nat.add_zero]
        rfl
      | succ i =>
        have := ih (n + 1) i (by simpa using h)
        show arcsT n u ++ arcsFrom (n + 1) (ts.take (i + 1)) = (arcsT n u ++ arcsFrom (n + 1) (ts.take i)) ++ _
        rw [this, List.append_assoc, show n + 1 + i = n + (i + 1) by omega]
  have := key ts 0 i h
  rw [Nat.zero_add] at this
  exact this

end DL

set_option maxHeartbeats 4000000
namespace DL
open PySem PySem.Spec PyProof.Rows L2
local macro_rules | `(tactic| walk_at "go1") => `(tactic| first
  | with_reducible refine r_seq ?_ | with_reducible refine r_asg ?_ | with_reducible refine r_ret ?_ | with_reducible refine r_ifS ?_ | with_reducible refine r_drop ?_ | with_reducible refine r_par ?_ | with_reducible refine r_next ?_ | with_reducible refine r_retN ?_
  | ((with_reducible refine' r_var ?hv ?_); (case hv => rfl)) | with_reducible refine r_c ?_ | with_reducible refine r_bin ?_ | with_reducible refine r_un ?_ | with_reducible refine r_as1 ?_ | with_reducible refine r_as0 ?_
  | with_reducible refine r_cb ?_ | with_reducible refine r_call ?_ | with_reducible refine r_B ?_ | with_reducible refine r_notT ?_ | with_reducible refine r_andT ?_ | with_reducible refine r_orT ?_
  | with_reducible refine r_andV ?_ | with_reducible refine r_orV ?_ | with_reducible refine r_notV ?_ | with_reducible refine r_if ?_ | with_reducible refine r_tup ?_ | with_reducible refine r_lst ?_ | with_reducible refine r_mu ?_
  | with_reducible refine r_cut ?_ | with_reducible refine r_p0 ?_ | with_reducible refine r_p1 ?_ | with_reducible refine r_gN ?_ | ((with_reducible refine r_gT ?hv ?_); (case hv => rfl)) | with_reducible refine r_gs1 ?_ | with_reducible refine r_gs0 ?_
  | ((with_reducible refine r_trueR ?hv ?_); (case hv => first | rfl | assumption)) | ((with_reducible refine r_falseR ?hv ?_); (case hv => first | rfl | assumption)) | with_reducible refine r_bl ?_ | with_reducible refine r_in ?_ | with_reducible refine r_two ?_
  | with_reducible refine r_addI ?_ | with_reducible refine r_subI ?_ | with_reducible refine r_mulI ?_ ?_ | with_reducible refine r_divI ?_ ?_ | with_reducible refine r_modI ?_ ?_ | with_reducible refine r_powI ?_ ?_ | with_reducible refine r_negI ?_
  | with_reducible refine r_lt ?_ | with_reducible refine r_le ?_ | with_reducible refine r_gt ?_ | with_reducible refine r_ge ?_ | with_reducible refine r_is ?_ | with_reducible refine r_isNot ?_ | with_reducible refine r_eqI ?_ | with_reducible refine r_neI ?_ | with_reducible refine r_eqS ?_ | with_reducible refine r_neS ?_
  | with_reducible refine r_ixP0 ?_ | with_reducible refine r_ixP1 ?_ | with_reducible refine r_ix0T ?_ | with_reducible refine r_ix1T ?_ | with_reducible refine r_lenT ?_ | with_reducible refine r_lenL ?_ | with_reducible refine r_lenC ?_
  | with_reducible refine r_abs ?_ | with_reducible refine r_max ?_ | with_reducible refine r_min ?_ | with_reducible refine r_intI ?_ | with_reducible refine r_intB ?_ | with_reducible refine r_tupL ?_ | with_reducible refine r_tupT ?_
  | with_reducible refine r_gcd ?_ | ((with_reducible refine r_isi ?hv ?_); (case hv => first | rfl | assumption)) | with_reducible refine r_sizeT ?_ | with_reducible refine r_sizeL ?_)
local macro_rules | `(tactic| walk_at "go") => `(tactic| repeat' walk_at "go1")
local macro_rules | `(tactic| walk_at "go1") => `(tactic| first
  | with_reducible refine r_lc ?_ | with_reducible refine r_wiT ?_ | with_reducible refine r_wiZ ?_ | with_reducible refine r_wiL ?_ | with_reducible refine r_wiR1 ?_ | with_reducible refine r_for ?_ | with_reducible refine r_yes ?_
  | with_reducible refine b_nm ?_ | with_reducible refine r_setD0 ?_ | with_reducible refine r_setD1 ?_ | ((with_reducible refine' r_setDT ?hv ?_); (case hv => rfl)) | with_reducible refine r_setsD ?_ | with_reducible refine r_setsCut ?_ | with_reducible refine b_tp2 ?_ | with_reducible refine r_trueL ?_ | with_reducible refine r_falseL ?_ )

local macro_rules | `(tactic| walk_at "go1") => `(tactic| first
  | with_reducible refine r_size0 ?_ | with_reducible refine r_size3 ?_ | with_reducible refine r_app ?_ | with_reducible refine r_setIx ?_ | ((with_reducible refine' r_sizeG ?hv ?_); (case hv => rfl)) | ((with_reducible refine' r_addG ?hv ?_); (case hv => rfl)) | ((with_reducible refine' r_addTG ?hv ?_); (case hv => rfl))
  | with_reducible refine r_bmL ?_ | with_reducible refine r_isL ?_ | with_reducible refine r_try ?_ | with_reducible refine r_emp ?_ | with_reducible refine r_raise ?_ | with_reducible refine r_chain ?_ | with_reducible refine r_mulGI ?_ ?_
  | with_reducible refine r_wiET ?_ | with_reducible refine r_telLen ?_ | with_reducible refine r_telsLen ?_ | with_reducible refine r_rowLen ?_ | ((with_reducible refine' r_telT ?hv ?_); (case hv => rfl)))

local macro_rules | `(tactic| walk_at "szs") => `(tactic| first
  | assumption
  | ((with_reducible apply Sz.add); walk_at "szs"; walk_at "szs")
  | ((with_reducible apply Sz.sub); walk_at "szs"; walk_at "szs")
  | ((with_reducible apply Sz.mul); walk_at "szs"; walk_at "szs")
  | ((with_reducible apply Sz.neg); walk_at "szs")
  | (apply Pz.sz; assumption) | exact sz0 | exact sz1 | exact sz24
  | ((with_reducible apply sz_abs); walk_at "szs"))
local macro_rules | `(tactic| walk_at "sz") => `(tactic| (apply Sz.mono; walk_at "szs"; exact Nat.le_of_ble_eq_true rfl))
local macro_rules | `(tactic| walk_at "pen") => `(tactic| first | assumption | (apply Stm.pen; assumption) | (apply stm_st; assumption) | (apply stm_st; apply Stm.pen; assumption))
local macro_rules | `(tactic| walk_at "stm") => `(tactic| first | assumption | exact Stm.of (by walk_at "pen") | (refine Stm.trans ?_ (by assumption); walk_at "stm") | (refine Stm.trans ?_ (Stm.new (by walk_at "pen")); walk_at "stm"))
local macro_rules | `(tactic| walk_at "side") => `(tactic| first | assumption | rfl | omega | decide | walk_at "sz" | walk_at "pen")
local macro_rules | `(tactic| walk_at "au") => `(tactic| repeat' walk_at "au1")
local macro_rules | `(tactic| walk_at "au1") => `(tactic| first
  | walk_at "go1"
  | (with_reducible refine i_next ?_; intro r _ _)
  | (with_reducible refine i_draw ?a ?b ?c ?_; (case a => walk_at "side"); (case b => walk_at "side"); (case c => walk_at "pen"); intro x S' _ _ _)
  | (with_reducible refine i_sum_of ?a ?b ?_; (case a => walk_at "sz"); (case b => walk_at "sz"))
  | (with_reducible refine i_difference_of ?a ?b ?_; (case a => walk_at "sz"); (case b => walk_at "sz"))
  | (with_reducible refine i_product_of ?a ?b ?_; (case a => walk_at "sz"); (case b => walk_at "sz"))
  | (with_reducible refine i_is_below ?a ?b ?_; (case a => walk_at "sz"); (case b => walk_at "sz"))
  | (with_reducible refine i_added ?a ?b ?_; (case a => walk_at "sz"); (case b => walk_at "sz"))
  | (with_reducible refine i_less ?a ?b ?_; (case a => walk_at "sz"); (case b => walk_at "sz"))
  | (with_reducible refine i_times ?a ?b ?_; (case a => walk_at "sz"); (case b => walk_at "sz"))
  | (with_reducible refine i_is_less ?a ?b ?_; (case a => walk_at "sz"); (case b => walk_at "sz"))
  | (with_reducible refine i_sum ?a ?b ?_; (case a => walk_at "sz"); (case b => walk_at "sz"))
  | (with_reducible refine i_rest ?a ?b ?_; (case a => walk_at "sz"); (case b => walk_at "sz"))
  | (with_reducible refine i_prod ?a ?b ?_; (case a => walk_at "sz"); (case b => walk_at "sz"))
  | (with_reducible refine i_under ?a ?b ?_; (case a => walk_at "sz"); (case b => walk_at "sz"))
  | with_reducible refine i_is_part_pt ?_
  | with_reducible refine r_intB ?_
  | (with_reducible refine r_rng1 ?a ?b ?_; (case a => decide); (case b => decide)) | with_reducible refine r_ix0L ?_ | with_reducible refine r_muE ?_ | with_reducible refine r_itL ?_ | with_reducible refine r_itT ?_
  | with_reducible refine r_par3 ?_ | with_reducible refine r_three ?_ | with_reducible refine r_gSub ?_ | with_reducible refine r_lstM ?_ | with_reducible refine r_lstT ?_ | with_reducible refine r_turn ?_ | with_reducible refine r_callK ?_
  | with_reducible refine i_opposite ?_
  | ((with_reducible refine' r_ixT ?hv ?_); (case hv => rfl))
  | ((with_reducible refine' r_ixL ?hv ?_); (case hv => rfl)) | fail)
local macro_rules | `(tactic| walk_at "au1") => `(tactic| first
  | (with_reducible refine r_modI ?a ?_; (case a => decide))
  | (with_reducible refine r_divI ?a ?_; (case a => exact ⟨by decide, by decide⟩))
  | (with_reducible refine r_powI ?a ?_; (case a => exact ⟨by decide, by decide, by decide⟩)) | fail)
local macro_rules | `(tactic| walk_at "br") => `(tactic| first
  | (with_reducible refine r_bothT ?_ ?_ <;> intro z)
  | (with_reducible refine r_bothF ?_ ?_ <;> intro z)
  | (with_reducible refine r_bothD ?_ ?_ <;> intro z)
  | (with_reducible refine r_bothN ?_ ?_ <;> intro z)
  | (with_reducible refine r_both ?_ ?_ <;> intro z) | fail)
local macro_rules | `(tactic| walk_at "ab") => `(tactic| repeat' first | walk_at "au1" | walk_at "br")

local macro_rules | `(tactic| walk_at "shd") => `(tactic| first
  | assumption | exact ShD.non | exact ShD.bl | exact ShD.lit (by decide) | exact ShD.str (by decide +kernel) (by decide +kernel)
  | (apply ShD.nat; omega)
  | (apply ShD.pt (by walk_at "szs"); exact (Nat.ble_eq_true_of_le (of_decide_eq_true rfl)))
  | (apply ShD.tup; walk_at "shds") | (apply ShD.lst; walk_at "shds"))
local macro_rules | `(tactic| walk_at "shds") => `(tactic| first
  | assumption | exact ShDs.nil | (apply ShDs.cons; walk_at "shd"; walk_at "shds"))

local macro_rules | `(tactic| walk_at "au1") => `(tactic| first
  | (with_reducible refine r_neSS rfl ?_)
  | ((with_reducible refine' r_reprD ?a ?b ?c ?_); (case a => walk_at "shd"); (case b => rfl); (case c => rfl)) | fail)

local macro_rules | `(tactic| walk_at "szs") => `(tactic| ((with_reducible apply Sz.div); walk_at "szs"; walk_at "szs"; assumption))
local macro_rules | `(tactic| walk_at "au1") => `(tactic| first
  | with_reducible refine r_eqPt ?_ | with_reducible refine r_nePt ?_ | with_reducible refine r_eqN ?_ | with_reducible refine r_neN ?_
  | (with_reducible refine n_difference_of1 ?a ?_; (case a => walk_at "sz"))
  | (with_reducible refine n_rest1 ?a ?_; (case a => walk_at "sz"))
  | (with_reducible refine i_divided ?z ?a ?b ?_; (case z => assumption); (case a => walk_at "sz"); (case b => walk_at "sz"))
  | (with_reducible refine i_by ?z ?a ?b ?_; (case z => assumption); (case a => walk_at "sz"); (case b => walk_at "sz"))
  | (with_reducible refine i_between2 ?a ?b ?c ?_; (case a => walk_at "sz"); (case b => walk_at "sz"); (case c => walk_at "sz")) | fail)
local macro_rules | `(tactic| walk_at "pD") => `(tactic| first | rfl | assumption | (apply Pz.pD; assumption))
local macro_rules | `(tactic| walk_at "p2") => `(tactic| first | rfl | assumption | (apply Pz.p2; assumption))
local macro_rules | `(tactic| walk_at "pz") => `(tactic| first | assumption | (apply Pz.mono; (first | assumption | (apply Pz.pt; walk_at "szs")); exact Nat.le_of_ble_eq_true rfl))
local macro_rules | `(tactic| walk_at "au1") => `(tactic| first
  | (with_reducible refine i_part ?a ?b ?c ?_; (case a => walk_at "side"); (case b => walk_at "side"); (case c => walk_at "pen"); intro q S' _ _)
  | (with_reducible refine i_above ?a ?b ?c ?_; (case a => walk_at "side"); (case b => walk_at "side"); (case c => walk_at "pen"); intro q S' _ _ _)
  | (with_reducible refine i_odd ?c ?_; (case c => walk_at "pen"); intro d S' _ _)
  | ((with_reducible refine i_clk_c ?a ?b ?c); (case a => walk_at "pD"); all_goals first | (intro (z : _ = false)) | (intro n e _; subst e))
  | ((with_reducible refine i_lclk_c ?a ?b ?c); (case a => walk_at "pD"); all_goals first | (intro (z : _ = false)) | (intro n e _; subst e))
  | ((with_reducible refine i_part_c ?a ?b ?c); (case a => walk_at "p2"); all_goals first | (intro (z : _ = false)) | (intro q e; subst e))
  | ((with_reducible refine i_up_c ?a ?b ?c); (case a => walk_at "p2"); all_goals first | (intro (z : _ = false)) | (intro q e _; subst e))
  | ((with_reducible refine i_lpart_c ?a ?b ?c); (case a => walk_at "pz"); all_goals first | (intro (z : _ = false)) | (intro q e; subst e)) | fail)

local macro_rules | `(tactic| walk_at "telok") => `(tactic| first | assumption | (apply TelOk.mono; assumption; exact Nat.le_of_ble_eq_true rfl) | (apply TelsOk.mono; assumption; exact Nat.le_of_ble_eq_true rfl) | (apply RowOk.mono; assumption; exact Nat.le_of_ble_eq_true rfl))
local macro_rules | `(tactic| walk_at "au1") => `(tactic| first
  | with_reducible refine r_telsLen ?_ | with_reducible refine r_itTels ?_ | with_reducible refine r_itRow ?_ | with_reducible refine r_rowLen ?_ | with_reducible refine r_wiET ?_ | with_reducible refine r_itET ?_ | with_reducible refine r_itE ?_
  | (with_reducible refine i_check_tellings_ok ?a ?_; (case a => walk_at "telok"))
  | (with_reducible refine i_check_number_ok ?a ?_; (case a => walk_at "side"))
  | (with_reducible refine i_is_kept ?a ?b ?_; (case a => walk_at "telok"); (case b => walk_at "telok"))
  | (with_reducible refine i_first_not_kept ?a ?b ?_; (case a => walk_at "telok"); (case b => walk_at "telok")) | fail)

local macro_rules | `(tactic| walk_at "au1") => `(tactic| first
  | with_reducible refine b_tp4 ?_ | with_reducible refine r_revL ?_ | with_reducible refine r_break ?_ | with_reducible refine r_cont ?_ | fail)

def none6 : Lasts := fun _ => none
def nodeB (last : Lasts) : Nat → Nat → Nat
  | 0, v => v
  | m + 1, v => match last v with
    | none => v
    | some a => nodeB last m a.b
def stepsB (last : Lasts) (b : Nat) : Nat → Nat → List Arc
  | 0, _ => []
  | f + 1, c => match last c with
    | none => []
    | some a => a :: (if a.b = b then [] else stepsB last b f a.b)
theorem Ch.node {last : Lasts} {m v w : Nat} {s : Rat} (h : Ch last m v w s) : nodeB last m v = w := by
  induction h with
  | nil => rfl
  | cons e _ ih =>
    unfold nodeB
    rw [e]
    exact ih
theorem Chl.steps {last : Lasts} {b : Nat} : ∀ {f : Nat} {as : List Arc} {c : Nat}, Chl last as c b → 1 ≤ as.length → as.length ≤ f → (∀ i, 1 ≤ i → i < as.length → ¬ Chl last (as.take i) c b) → stepsB last b f c = as
  | 0, as, c, _, h1, h2, _ => by omega
  | f + 1, [], c, _, h1, _, _ => absurd h1 (by decide)
  | f + 1, a :: as, c, h, h1, h2, h3 => by
    cases h with
    | cons e g =>
      unfold stepsB
      rw [e]
      simp only
      cases as with
      | nil =>
        cases g
        rw [if_pos rfl]
      | cons a2 as =>
        have n : a.b ≠ b := fun z => h3 1 (by decide) (by simp) (by
          have := Chl.cons e (Chl.nil (last := last) a.b)
          rw [z] at this
          exact this)
        rw [if_neg n]
        congr 1
        refine g.steps (by simp) (by simp at h2 ⊢; omega) fun i i1 i2 hi => h3 (i + 1) (by omega) (by simp at i2 ⊢; omega) ?_
        exact .cons e hi
def ringR (as : List Arc) : Option (Nat × List Arc) :=
  match (settle 6 as zeros none6 none).sh with
  | none => none
  | some v => some (nodeB (settle 6 as zeros none6 none).last 6 v, (stepsB (settle 6 as zeros none6 none).last (nodeB (settle 6 as zeros none6 none).last 6 v) 6 (nodeB (settle 6 as zeros none6 none).last 6 v)).reverse)
theorem ringR_none {as : List Arc} (h6 : Six as) : ringR as = none ↔ ¬ Neg as := by
  have key := settle_agree h6
  unfold ringR
  have e : none6 = fun _ => none := rfl
  rw [e]
  cases h : (settle 6 as zeros (fun _ => none) none).sh with
  | none => exact ⟨fun _ => key.mp h, fun _ => rfl⟩
  | some v => exact ⟨fun z => (by cases z), fun n => (by rw [key.mpr n] at h; cases h)⟩
theorem ring_parts {as : List Arc} (h6 : Six as) {v : Nat} (h : (settle 6 as zeros none6 none).sh = some v) : ∃ w s, v < 6 ∧ Ch (settle 6 as zeros none6 none).last 6 v w s ∧ w < 6 ∧ ∃ cs : List Arc, 1 ≤ cs.length ∧ cs.length ≤ 6 ∧ Chl (settle 6 as zeros none6 none).last cs w w ∧ sumA cs < 0 ∧
      (∀ i, 1 ≤ i → i < cs.length → ¬ Chl (settle 6 as zeros none6 none).last (cs.take i) w w) ∧ ringR as = some (w, cs.reverse) ∧ (∀ m u t, Ch (settle 6 as zeros none6 none).last m v u t → u < 6) ∧ ∀ a ∈ cs, a.b < 6 := by
  obtain ⟨w, s, hc, hw, cs, h1, h2, h3, h4, h5⟩ := settle_ring h6 (len := zeros) h
  have hv := settle_six h6 6 zeros none6 none (fun v hv => by cases hv) v h
  have kp := settle_kp (arcs := as) 6 zeros none
  refine ⟨w, s, hv, hc, hw, cs, h1, h2, h3, h4, h5, ?_, fun m u t g => ch_six kp h6 hv g, fun a ha => ?_⟩
  · unfold ringR
    rw [h]
    simp only
    have e1 : nodeB (settle 6 as zeros none6 none).last 6 v = w := Ch.node hc
    rw [e1]
    have e2 : stepsB (settle 6 as zeros none6 none).last w 6 w = cs := Chl.steps h3 h1 h2 h5
    rw [e2]
  · have key : ∀ {bs : List Arc} {u v : Nat}, Chl (settle 6 as zeros (fun _ => none) none).last bs u v → ∀ a ∈ bs, a.b < 6 := fun g => by
      induction g with
      | nil => exact fun a ha => by cases ha
      | cons e _ ih =>
        intro a ha
        rcases List.mem_cons.mp ha with rfl | ha
        · exact (h6 _ (kp.at_ _ _ e).2.1).1
        · exact ih a ha
    exact key h3 a ha
theorem ringR_some {as : List Arc} (h6 : Six as) {c : Nat} {ws : List Arc} (h : ringR as = some (c, ws)) : c < 6 ∧ Wkl as ws c c ∧ sumA ws < 0 ∧ 1 ≤ ws.length ∧ ws.length ≤ 6 := by
  cases e : (settle 6 as zeros none6 none).sh with
  | none =>
    unfold ringR at h
    rw [e] at h
    cases h
  | some v =>
    obtain ⟨w, s, _, _, hw, cs, h1, h2, h3, h4, _, h5, _⟩ := ring_parts h6 e
    rw [h5] at h
    cases h
    refine ⟨hw, h3.walk (settle_kp 6 zeros none), by rw [sumA_reverse]; exact h4, by rw [List.length_reverse]; exact h1, by rw [List.length_reverse]; exact h2⟩
abbrev ringD : Option (Nat × List Arc) → D
  | none => .non
  | some (c, ws) => .tup [.int c, .tup (ws.map stepD)]
def nearR (as : List Arc) (c v : Nat) : Option Rat := (settle 6 as (from_ c) none6 none).len v
def stretchR (as : List Arc) (c o : Nat) : Option Rat × Option Rat := ((nearR as c o).map (fun x => -x), nearR as o c)
abbrev twoD (p : Option Rat × Option Rat) : D := .tup [eD p.1, eD p.2]
theorem near_int {B : Nat} {as : List Arc} {c : Nat} (ho : ArcsOk B as) : IntL B (settle 6 as (from_ c) none6 none).len :=
  settle_sound (fun _ x => IntB B x) (fun a ha x hx => hx.add (ho.int a ha)) 6 _ _ _ fun v x e => by
    unfold from_ at e
    split at e
    · cases e
      exact IntB.zero
    · cases e
structure TelsG (ts : List Tel) : Prop where
  ok : TelsOk 1500 ts
  den : ∃ B, BotOk B ∧ DenB B ts
theorem TelsG.bot {ts : List Tel} (h : TelsG ts) : BotOk (botR ts) ∧ ArcsOk (botR ts) (arcsR ts) ∧ DenB (botR ts) ts := by
  obtain ⟨B, h1, h2⟩ := h.den
  exact ⟨bot_ok h1 h2, arcs_ok h.ok (bot_den h2), bot_den h2⟩
theorem TelsG.six {ts : List Tel} (h : TelsG ts) : Six (arcsR ts) := h.bot.2.1.six
def p_ring_along : SpD := fun ds S R _ => ∃ (d : D) (B : Nat) (as : List Arc), ds = [d] ∧ itemsL d S = some (as.map (arcD B)) ∧ ArcsOk B as ∧ 0 < B ∧ ∀ S', Ext S S' → R (ringD (ringR as)) S'
def p_lengths_from : SpD := fun ds S R _ => ∃ (d : D) (B c : Nat) (as : List Arc), ds = [d, .int c] ∧ itemsL d S = some (as.map (arcD B)) ∧ ArcsOk B as ∧ 0 < B ∧ c < 6 ∧
  ∀ n S', S.length ≤ n → Ext S S' → S'[n]? = some (lenD B (nearR as c)) → R (.mu n) S'
def p_check_agree (K : PySem.W.Frag) : SpD := fun ds S R Rx => ∃ (d : D) (B : Nat) (as : List Arc), ds = [d] ∧ itemsL d S = some (as.map (arcD B)) ∧ ArcsOk B as ∧ 0 < B ∧ (ringR as = none → ∀ S', Ext S S' → R .non S') ∧ (ringR as ≠ none → ∀ S', Ext S S' → Rx (erO K "Apart") S')
def p_stretch_along : SpD := fun ds S R _ => ∃ (d : D) (B c o : Nat) (as : List Arc), ds = [d, .int (B : Nat), .int c, .int o] ∧ itemsL d S = some (as.map (arcD B)) ∧ ArcsOk B as ∧ BotOk B ∧ c < 6 ∧ o < 6 ∧ ∀ S', Ext S S' → R (twoD (stretchR as c o)) S'
def p_ring_of (K : PySem.W.Frag) : SpD := fun ds S R Rx => ∃ d, ds = [d] ∧ ((Tz 4000 d ∧ isTels d = false ∧ Rx (erO K "NoTellings") S) ∨ ∃ ts, d = telsD ts ∧ TelsG ts ∧ ∀ S', Ext S S' → R (ringD (ringR (arcsR ts))) S')
def p_agree (K : PySem.W.Frag) : SpD := fun ds S R Rx => ∃ d, ds = [d] ∧ ((Tz 4000 d ∧ isTels d = false ∧ Rx (erO K "NoTellings") S) ∨ ∃ ts, d = telsD ts ∧ TelsG ts ∧ ∀ S', Ext S S' → R (.bl (ringR (arcsR ts)).isNone) S')
def p_stretch_of (K : PySem.W.Frag) : SpD := fun ds S R Rx => ∃ d c o, ds = [d, c, o] ∧ ((Tz 4000 d ∧ isTels d = false ∧ Rx (erO K "NoTellings") S) ∨ ∃ ts, d = telsD ts ∧ TelsG ts ∧ ((plainD c = true ∧ isClk c = false ∧ Rx (erO K "NoNumber") S) ∨ ∃ i : Nat, c = .int i ∧ i < 6 ∧
  ((plainD o = true ∧ isClk o = false ∧ Rx (erO K "NoNumber") S) ∨ ∃ j : Nat, o = .int j ∧ j < 6 ∧ (ringR (arcsR ts) ≠ none → ∀ S', Ext S S' → Rx (erO K "Apart") S') ∧ (ringR (arcsR ts) = none → ∀ S', Ext S S' → R (twoD (stretchR (arcsR ts) i j)) S'))))
section
variable {K : PySem.W.Frag} {S : Sto} {R : KR} {Rx : Er → Sto → Prop} {d e f : D} {B i j k c o n : Nat} {as : List Arc} {ts : List Tel}
theorem i_ring_along (h : itemsL d S = some (as.map (arcD B))) (ho : ArcsOk B as) (hB : 0 < B) (g : ∀ S', Ext S S' → R (ringD (ringR as)) S') : ([d] ++ ([] : List D)).length = 1 ∧ p_ring_along ([d] ++ []) S R Rx := ⟨rfl, d, B, as, rfl, h, ho, hB, g⟩
theorem i_lengths_from (h : itemsL d S = some (as.map (arcD B))) (ho : ArcsOk B as) (hB : 0 < B) (hc : c < 6) (g : ∀ n S', S.length ≤ n → Ext S S' → S'[n]? = some (lenD B (nearR as c)) → R (.mu n) S') : ([d, D.int (c : Nat)] ++ ([] : List D)).length = 2 ∧ p_lengths_from ([d, D.int (c : Nat)] ++ []) S R Rx := ⟨rfl, d, B, c, as, rfl, h, ho, hB, hc, g⟩
theorem i_check_agree (h : itemsL d S = some (as.map (arcD B))) (ho : ArcsOk B as) (hB : 0 < B) (g : ringR as = none → ∀ S', Ext S S' → R .non S') (x : ringR as ≠ none → ∀ S', Ext S S' → Rx (erO K "Apart") S') : ([d] ++ ([] : List D)).length = 1 ∧ p_check_agree K ([d] ++ []) S R Rx := ⟨rfl, d, B, as, rfl, h, ho, hB, g, x⟩
theorem i_stretch_along (h : itemsL d S = some (as.map (arcD B))) (ho : ArcsOk B as) (hB : BotOk B) (hc : c < 6) (h2 : o < 6) (g : ∀ S', Ext S S' → R (twoD (stretchR as c o)) S') : ([d, D.int (B : Nat), D.int (c : Nat), D.int (o : Nat)] ++ ([] : List D)).length = 4 ∧ p_stretch_along ([d, D.int (B : Nat), D.int (c : Nat), D.int (o : Nat)] ++ []) S R Rx := ⟨rfl, d, B, c, o, as, rfl, h, ho, hB, hc, h2, g⟩
theorem i_ring_of (h : TelsG ts) (g : ∀ S', Ext S S' → R (ringD (ringR (arcsR ts))) S') : ([telsD ts] ++ ([] : List D)).length = 1 ∧ p_ring_of K ([telsD ts] ++ []) S R Rx := ⟨rfl, _, rfl, .inr ⟨ts, rfl, h, g⟩⟩
theorem i_agree (h : TelsG ts) (g : ∀ S', Ext S S' → R (.bl (ringR (arcsR ts)).isNone) S') : ([telsD ts] ++ ([] : List D)).length = 1 ∧ p_agree K ([telsD ts] ++ []) S R Rx := ⟨rfl, _, rfl, .inr ⟨ts, rfl, h, g⟩⟩
theorem i_stretch_of (h : TelsG ts) (hi : i < 6) (hj : j < 6) (x : ringR (arcsR ts) ≠ none → ∀ S', Ext S S' → Rx (erO K "Apart") S') (g : ringR (arcsR ts) = none → ∀ S', Ext S S' → R (twoD (stretchR (arcsR ts) i j)) S') : ([telsD ts, D.int (i : Nat), D.int (j : Nat)] ++ ([] : List D)).length = 3 ∧ p_stretch_of K ([telsD ts, D.int (i : Nat), D.int (j : Nat)] ++ []) S R Rx :=
  ⟨rfl, _, _, _, rfl, .inr ⟨ts, rfl, h, .inr ⟨i, rfl, hi, .inr ⟨j, rfl, hj, x, g⟩⟩⟩⟩
theorem i_stretch_of0 (h : TelsG ts) (hi : i < 6) (x : ringR (arcsR ts) ≠ none → ∀ S', Ext S S' → Rx (erO K "Apart") S') (g : ringR (arcsR ts) = none → ∀ S', Ext S S' → R (twoD (stretchR (arcsR ts) i 0)) S') : ([telsD ts, D.int (i : Nat)] ++ [D.int 0]).length = 3 ∧ p_stretch_of K ([telsD ts, D.int (i : Nat)] ++ [D.int 0]) S R Rx :=
  ⟨rfl, _, _, _, rfl, .inr ⟨ts, rfl, h, .inr ⟨i, rfl, hi, .inr ⟨0, rfl, by decide, x, g⟩⟩⟩⟩
theorem i_stretch_of_c (h : TelsG ts) (hp : plainD e = true) (hc : isClk e = false) (x : Rx (erO K "NoNumber") S) : ([telsD ts, e, f] ++ ([] : List D)).length = 3 ∧ p_stretch_of K ([telsD ts, e, f] ++ []) S R Rx := ⟨rfl, _, _, _, rfl, .inr ⟨ts, rfl, h, .inl ⟨hp, hc, x⟩⟩⟩
theorem i_stretch_of_o (h : TelsG ts) (hi : i < 6) (hp : plainD f = true) (hc : isClk f = false) (x : Rx (erO K "NoNumber") S) : ([telsD ts, D.int (i : Nat), f] ++ ([] : List D)).length = 3 ∧ p_stretch_of K ([telsD ts, D.int (i : Nat), f] ++ []) S R Rx := ⟨rfl, _, _, _, rfl, .inr ⟨ts, rfl, h, .inr ⟨i, rfl, hi, .inl ⟨hp, hc, x⟩⟩⟩⟩
end
theorem items_lt {d : D} {S : Sto} {xs : List D} {n : Nat} (h : itemsL d S = some xs) (hn : S.length ≤ n) : d ≠ .mu n := fun z => by
  subst z
  have h : S[n]? = some xs := h
  have := (List.getElem?_eq_some_iff.mp h).1
  omega
theorem none_last : List.replicate 6 D.non = lastD none6 := rfl
theorem zero_len {B : Nat} : List.replicate 6 (D.int 0) = lenD B zeros := by
  have e : oZ B (some 0) = .int 0 := by
    show D.int (zR B 0) = _
    rw [zR_zero]
  show _ = (List.range 6).map fun _ => oZ B (some 0)
  rw [e]
  rfl
theorem none_len {B : Nat} : List.replicate 6 D.non = lenD B (fun _ => none) := rfl
theorem rep6 {x : D} : (List.replicate (6 : Int).toNat [x]).flatten = List.replicate 6 x := rfl
theorem ext_st2 {S S1 : Sto} {i j : Nat} {a b : List D} (h : Ext S S1) (hi : S.length ≤ i) (hj : S.length ≤ j) : Ext S (stSet S1 i j a b) := (h.put hi).put hj
theorem from_upd {B c : Nat} (hc : c < 6) : (lenD B (fun _ => none)).set c (.int 0) = lenD B (from_ c) := by
  have : (D.int 0) = oZ B (some 0) := by
    show _ = D.int (zR B 0)
    rw [zR_zero]
  rw [this, lenD_set hc]
  unfold lenD
  congr 1

theorem chl_snoc {last : Lasts} {ds : List Arc} {c w : Nat} {a : Arc} (h : Chl last ds c w) (e : last w = some a) : Chl last (ds ++ [a]) c a.b := by
  induction h with
  | nil => exact .cons e (.nil _)
  | cons e1 _ ih => exact .cons e1 (ih e)

end DL

set_option maxHeartbeats 4000000
namespace DL
open PySem PySem.Spec PyProof.Rows L2
local macro_rules | `(tactic| walk_at "go1") => `(tactic| first
  | with_reducible refine r_seq ?_ | with_reducible refine r_asg ?_ | with_reducible refine r_ret ?_ | with_reducible refine r_ifS ?_ | with_reducible refine r_drop ?_ | with_reducible refine r_par ?_ | with_reducible refine r_next ?_ | with_reducible refine r_retN ?_
  | ((with_reducible refine' r_var ?hv ?_); (case hv => rfl)) | with_reducible refine r_c ?_ | with_reducible refine r_bin ?_ | with_reducible refine r_un ?_ | with_reducible refine r_as1 ?_ | with_reducible refine r_as0 ?_
  | with_reducible refine r_cb ?_ | with_reducible refine r_call ?_ | with_reducible refine r_B ?_ | with_reducible refine r_notT ?_ | with_reducible refine r_andT ?_ | with_reducible refine r_orT ?_
  | with_reducible refine r_andV ?_ | with_reducible refine r_orV ?_ | with_reducible refine r_notV ?_ | with_reducible refine r_if ?_ | with_reducible refine r_tup ?_ | with_reducible refine r_lst ?_ | with_reducible refine r_mu ?_
  | with_reducible refine r_cut ?_ | with_reducible refine r_p0 ?_ | with_reducible refine r_p1 ?_ | with_reducible refine r_gN ?_ | ((with_reducible refine r_gT ?hv ?_); (case hv => rfl)) | with_reducible refine r_gs1 ?_ | with_reducible refine r_gs0 ?_
  | ((with_reducible refine r_trueR ?hv ?_); (case hv => first | rfl | assumption)) | ((with_reducible refine r_falseR ?hv ?_); (case hv => first | rfl | assumption)) | with_reducible refine r_bl ?_ | with_reducible refine r_in ?_ | with_reducible refine r_two ?_
  | with_reducible refine r_addI ?_ | with_reducible refine r_subI ?_ | with_reducible refine r_mulI ?_ ?_ | with_reducible refine r_divI ?_ ?_ | with_reducible refine r_modI ?_ ?_ | with_reducible refine r_powI ?_ ?_ | with_reducible refine r_negI ?_
  | with_reducible refine r_lt ?_ | with_reducible refine r_le ?_ | with_reducible refine r_gt ?_ | with_reducible refine r_ge ?_ | with_reducible refine r_is ?_ | with_reducible refine r_isNot ?_ | with_reducible refine r_eqI ?_ | with_reducible refine r_neI ?_ | with_reducible refine r_eqS ?_ | with_reducible refine r_neS ?_
  | with_reducible refine r_ixP0 ?_ | with_reducible refine r_ixP1 ?_ | with_reducible refine r_ix0T ?_ | with_reducible refine r_ix1T ?_ | with_reducible refine r_lenT ?_ | with_reducible refine r_lenL ?_ | with_reducible refine r_lenC ?_
  | with_reducible refine r_abs ?_ | with_reducible refine r_max ?_ | with_reducible refine r_min ?_ | with_reducible refine r_intI ?_ | with_reducible refine r_intB ?_ | with_reducible refine r_tupL ?_ | with_reducible refine r_tupT ?_
  | with_reducible refine r_gcd ?_ | ((with_reducible refine r_isi ?hv ?_); (case hv => first | rfl | assumption)) | with_reducible refine r_sizeT ?_ | with_reducible refine r_sizeL ?_)
local macro_rules | `(tactic| walk_at "go") => `(tactic| repeat' walk_at "go1")
local macro_rules | `(tactic| walk_at "go1") => `(tactic| first
  | with_reducible refine r_lc ?_ | with_reducible refine r_wiT ?_ | with_reducible refine r_wiZ ?_ | with_reducible refine r_wiL ?_ | with_reducible refine r_wiR1 ?_ | with_reducible refine r_for ?_ | with_reducible refine r_yes ?_
  | with_reducible refine b_nm ?_ | with_reducible refine r_setD0 ?_ | with_reducible refine r_setD1 ?_ | ((with_reducible refine' r_setDT ?hv ?_); (case hv => rfl)) | with_reducible refine r_setsD ?_ | with_reducible refine r_setsCut ?_ | with_reducible refine b_tp2 ?_ | with_reducible refine r_trueL ?_ | with_reducible refine r_falseL ?_ )

local macro_rules | `(tactic| walk_at "go1") => `(tactic| first
  | with_reducible refine r_size0 ?_ | with_reducible refine r_size3 ?_ | with_reducible refine r_app ?_ | with_reducible refine r_setIx ?_ | ((with_reducible refine' r_sizeG ?hv ?_); (case hv => rfl)) | ((with_reducible refine' r_addG ?hv ?_); (case hv => rfl)) | ((with_reducible refine' r_addTG ?hv ?_); (case hv => rfl))
  | with_reducible refine r_bmL ?_ | with_reducible refine r_isL ?_ | with_reducible refine r_try ?_ | with_reducible refine r_emp ?_ | with_reducible refine r_raise ?_ | with_reducible refine r_chain ?_ | with_reducible refine r_mulGI ?_ ?_
  | with_reducible refine r_wiET ?_ | with_reducible refine r_telLen ?_ | with_reducible refine r_telsLen ?_ | with_reducible refine r_rowLen ?_ | ((with_reducible refine' r_telT ?hv ?_); (case hv => rfl)))

local macro_rules | `(tactic| walk_at "szs") => `(tactic| first
  | assumption
  | ((with_reducible apply Sz.add); walk_at "szs"; walk_at "szs")
  | ((with_reducible apply Sz.sub); walk_at "szs"; walk_at "szs")
  | ((with_reducible apply Sz.mul); walk_at "szs"; walk_at "szs")
  | ((with_reducible apply Sz.neg); walk_at "szs")
  | (apply Pz.sz; assumption) | exact sz0 | exact sz1 | exact sz24
  | ((with_reducible apply sz_abs); walk_at "szs"))
local macro_rules | `(tactic| walk_at "sz") => `(tactic| (apply Sz.mono; walk_at "szs"; exact Nat.le_of_ble_eq_true rfl))
local macro_rules | `(tactic| walk_at "pen") => `(tactic| first | assumption | (apply Stm.pen; assumption) | (apply stm_st; assumption) | (apply stm_st; apply Stm.pen; assumption))
local macro_rules | `(tactic| walk_at "stm") => `(tactic| first | assumption | exact Stm.of (by walk_at "pen") | (refine Stm.trans ?_ (by assumption); walk_at "stm") | (refine Stm.trans ?_ (Stm.new (by walk_at "pen")); walk_at "stm"))
local macro_rules | `(tactic| walk_at "side") => `(tactic| first | assumption | rfl | omega | decide | walk_at "sz" | walk_at "pen")
local macro_rules | `(tactic| walk_at "au") => `(tactic| repeat' walk_at "au1")
local macro_rules | `(tactic| walk_at "au1") => `(tactic| first
  | walk_at "go1"
  | (with_reducible refine i_next ?_; intro r _ _)
  | (with_reducible refine i_draw ?a ?b ?c ?_; (case a => walk_at "side"); (case b => walk_at "side"); (case c => walk_at "pen"); intro x S' _ _ _)
  | (with_reducible refine i_sum_of ?a ?b ?_; (case a => walk_at "sz"); (case b => walk_at "sz"))
  | (with_reducible refine i_difference_of ?a ?b ?_; (case a => walk_at "sz"); (case b => walk_at "sz"))
  | (with_reducible refine i_product_of ?a ?b ?_; (case a => walk_at "sz"); (case b => walk_at "sz"))
  | (with_reducible refine i_is_below ?a ?b ?_; (case a => walk_at "sz"); (case b => walk_at "sz"))
  | (with_reducible refine i_added ?a ?b ?_; (case a => walk_at "sz"); (case b => walk_at "sz"))
  | (with_reducible refine i_less ?a ?b ?_; (case a => walk_at "sz"); (case b => walk_at "sz"))
  | (with_reducible refine i_times ?a ?b ?_; (case a => walk_at "sz"); (case b => walk_at "sz"))
  | (with_reducible refine i_is_less ?a ?b ?_; (case a => walk_at "sz"); (case b => walk_at "sz"))
  | (with_reducible refine i_sum ?a ?b ?_; (case a => walk_at "sz"); (case b => walk_at "sz"))
  | (with_reducible refine i_rest ?a ?b ?_; (case a => walk_at "sz"); (case b => walk_at "sz"))
  | (with_reducible refine i_prod ?a ?b ?_; (case a => walk_at "sz"); (case b => walk_at "sz"))
  | (with_reducible refine i_under ?a ?b ?_; (case a => walk_at "sz"); (case b => walk_at "sz"))
  | with_reducible refine i_is_part_pt ?_
  | with_reducible refine r_intB ?_
  | (with_reducible refine r_rng1 ?a ?b ?_; (case a => decide); (case b => decide)) | with_reducible refine r_ix0L ?_ | with_reducible refine r_muE ?_ | with_reducible refine r_itL ?_ | with_reducible refine r_itT ?_
  | with_reducible refine r_par3 ?_ | with_reducible refine r_three ?_ | with_reducible refine r_gSub ?_ | with_reducible refine r_lstM ?_ | with_reducible refine r_lstT ?_ | with_reducible refine r_turn ?_ | with_reducible refine r_callK ?_
  | with_reducible refine i_opposite ?_
  | ((with_reducible refine' r_ixT ?hv ?_); (case hv => rfl))
  | ((with_reducible refine' r_ixL ?hv ?_); (case hv => rfl)) | fail)
local macro_rules | `(tactic| walk_at "au1") => `(tactic| first
  | (with_reducible refine r_modI ?a ?_; (case a => decide))
  | (with_reducible refine r_divI ?a ?_; (case a => exact ⟨by decide, by decide⟩))
  | (with_reducible refine r_powI ?a ?_; (case a => exact ⟨by decide, by decide, by decide⟩)) | fail)
local macro_rules | `(tactic| walk_at "br") => `(tactic| first
  | (with_reducible refine r_bothT ?_ ?_ <;> intro z)
  | (with_reducible refine r_bothF ?_ ?_ <;> intro z)
  | (with_reducible refine r_bothD ?_ ?_ <;> intro z)
  | (with_reducible refine r_bothN ?_ ?_ <;> intro z)
  | (with_reducible refine r_both ?_ ?_ <;> intro z) | fail)
local macro_rules | `(tactic| walk_at "ab") => `(tactic| repeat' first | walk_at "au1" | walk_at "br")

local macro_rules | `(tactic| walk_at "shd") => `(tactic| first
  | assumption | exact ShD.non | exact ShD.bl | exact ShD.lit (by decide) | exact ShD.str (by decide +kernel) (by decide +kernel)
  | (apply ShD.nat; omega)
  | (apply ShD.pt (by walk_at "szs"); exact (Nat.ble_eq_true_of_le (of_decide_eq_true rfl)))
  | (apply ShD.tup; walk_at "shds") | (apply ShD.lst; walk_at "shds"))
local macro_rules | `(tactic| walk_at "shds") => `(tactic| first
  | assumption | exact ShDs.nil | (apply ShDs.cons; walk_at "shd"; walk_at "shds"))

local macro_rules | `(tactic| walk_at "au1") => `(tactic| first
  | (with_reducible refine r_neSS rfl ?_)
  | ((with_reducible refine' r_reprD ?a ?b ?c ?_); (case a => walk_at "shd"); (case b => rfl); (case c => rfl)) | fail)

local macro_rules | `(tactic| walk_at "szs") => `(tactic| ((with_reducible apply Sz.div); walk_at "szs"; walk_at "szs"; assumption))
local macro_rules | `(tactic| walk_at "au1") => `(tactic| first
  | with_reducible refine r_eqPt ?_ | with_reducible refine r_nePt ?_ | with_reducible refine r_eqN ?_ | with_reducible refine r_neN ?_
  | (with_reducible refine n_difference_of1 ?a ?_; (case a => walk_at "sz"))
  | (with_reducible refine n_rest1 ?a ?_; (case a => walk_at "sz"))
  | (with_reducible refine i_divided ?z ?a ?b ?_; (case z => assumption); (case a => walk_at "sz"); (case b => walk_at "sz"))
  | (with_reducible refine i_by ?z ?a ?b ?_; (case z => assumption); (case a => walk_at "sz"); (case b => walk_at "sz"))
  | (with_reducible refine i_between2 ?a ?b ?c ?_; (case a => walk_at "sz"); (case b => walk_at "sz"); (case c => walk_at "sz")) | fail)
local macro_rules | `(tactic| walk_at "pD") => `(tactic| first | rfl | assumption | (apply Pz.pD; assumption))
local macro_rules | `(tactic| walk_at "p2") => `(tactic| first | rfl | assumption | (apply Pz.p2; assumption))
local macro_rules | `(tactic| walk_at "pz") => `(tactic| first | assumption | (apply Pz.mono; (first | assumption | (apply Pz.pt; walk_at "szs")); exact Nat.le_of_ble_eq_true rfl))
local macro_rules | `(tactic| walk_at "au1") => `(tactic| first
  | (with_reducible refine i_part ?a ?b ?c ?_; (case a => walk_at "side"); (case b => walk_at "side"); (case c => walk_at "pen"); intro q S' _ _)
  | (with_reducible refine i_above ?a ?b ?c ?_; (case a => walk_at "side"); (case b => walk_at "side"); (case c => walk_at "pen"); intro q S' _ _ _)
  | (with_reducible refine i_odd ?c ?_; (case c => walk_at "pen"); intro d S' _ _)
  | ((with_reducible refine i_clk_c ?a ?b ?c); (case a => walk_at "pD"); all_goals first | (intro (z : _ = false)) | (intro n e _; subst e))
  | ((with_reducible refine i_lclk_c ?a ?b ?c); (case a => walk_at "pD"); all_goals first | (intro (z : _ = false)) | (intro n e _; subst e))
  | ((with_reducible refine i_part_c ?a ?b ?c); (case a => walk_at "p2"); all_goals first | (intro (z : _ = false)) | (intro q e; subst e))
  | ((with_reducible refine i_up_c ?a ?b ?c); (case a => walk_at "p2"); all_goals first | (intro (z : _ = false)) | (intro q e _; subst e))
  | ((with_reducible refine i_lpart_c ?a ?b ?c); (case a => walk_at "pz"); all_goals first | (intro (z : _ = false)) | (intro q e; subst e)) | fail)

local macro_rules | `(tactic| walk_at "telok") => `(tactic| first | assumption | (apply TelOk.mono; assumption; exact Nat.le_of_ble_eq_true rfl) | (apply TelsOk.mono; assumption; exact Nat.le_of_ble_eq_true rfl) | (apply RowOk.mono; assumption; exact Nat.le_of_ble_eq_true rfl))
local macro_rules | `(tactic| walk_at "au1") => `(tactic| first
  | with_reducible refine r_telsLen ?_ | with_reducible refine r_itTels ?_ | with_reducible refine r_itRow ?_ | with_reducible refine r_rowLen ?_ | with_reducible refine r_wiET ?_ | with_reducible refine r_itET ?_ | with_reducible refine r_itE ?_
  | (with_reducible refine i_check_tellings_ok ?a ?_; (case a => walk_at "telok"))
  | (with_reducible refine i_check_number_ok ?a ?_; (case a => walk_at "side"))
  | (with_reducible refine i_is_kept ?a ?b ?_; (case a => walk_at "telok"); (case b => walk_at "telok"))
  | (with_reducible refine i_first_not_kept ?a ?b ?_; (case a => walk_at "telok"); (case b => walk_at "telok")) | fail)

local macro_rules | `(tactic| walk_at "au1") => `(tactic| first
  | with_reducible refine b_tp4 ?_ | with_reducible refine r_revL ?_ | with_reducible refine r_break ?_ | with_reducible refine r_cont ?_ | fail)

abbrev nwD (o : Option (Nat × Rat)) : D := match o with
  | none => .non
  | some (n, q) => .tup [.int n, pt q]
def stepB (ts : List Tel) : D → Option (Tel × Int)
  | .tup [.int n, .int s] => if 0 ≤ n ∧ n < ts.length ∧ (s = 1 ∨ s = -1) then (ts[n.toNat]?).map fun t => (t, s) else none
  | _ => none
def goW (t : Tel) (s : Int) (a : Nat × Rat) : Option (Nat × Rat) :=
  if s = 1 then (if a.1 = t.one then t.high.map fun h => (t.other, a.2 + h) else none) else (if a.1 = t.other then t.low.map fun l => (t.one, a.2 - l) else none)
def wayG (ts : List Tel) : List D → Nat × Rat → Option (Nat × Rat)
  | [], a => some a
  | d :: ds, a => match stepB ts d with
    | none => none
    | some (t, s) => match goW t s a with
      | none => none
      | some b => wayG ts ds b
def wayD (ts : List Tel) (n : Nat) : D → Option (Nat × Rat)
  | .tup xs => if xs.length ≤ 60 then wayG ts xs (n, 0) else none
  | _ => none
def StW (y : D) : Prop := plainD y = true ∧ ∀ zs, y = .tup zs → zs.length ≤ 100 ∧ ∀ z ∈ zs, plainD z = true
def ThW (d : D) : Prop := plainD d = true ∧ ∀ xs, d = .tup xs → xs.length ≤ 1000 ∧ ∀ y ∈ xs, StW y
def p_is_step : SpD := fun ds S R _ => ∃ ts d, ds = [telsD ts, d] ∧ StW d ∧ R (.bl (stepB ts d).isSome) S
def p_step_along : SpD := fun ds S R _ => ∃ (t : Tel) (s : Int), ds = [telD t, .int s] ∧ TelOk 1000 t ∧ (s = 1 ∨ s = -1) ∧
  R (if s = 1 then .tup [.int t.one, .int t.other, eD t.high] else .tup [.int t.other, .int t.one, eD (t.low.map fun l => -l)]) S
section
variable {K : PySem.W.Frag} {S : Sto} {R : KR} {Rx : Er → Sto → Prop} {p q : Rat} {d a b c : D} {i : Nat} {t : Tel} {ts : List Tel} {r : List Rat} {l h : Option Rat} {s : Int}
theorem i_is_step (z : StW d) (k : R (.bl (stepB ts d).isSome) S) : ([telsD ts, d] ++ ([] : List D)).length = 2 ∧ p_is_step ([telsD ts, d] ++ []) S R Rx := ⟨rfl, ts, d, rfl, z, k⟩
theorem i_step_along (z : TelOk 1000 t) (hs : s = 1 ∨ s = -1) (k : R (if s = 1 then .tup [.int t.one, .int t.other, eD t.high] else .tup [.int t.other, .int t.one, eD (t.low.map fun l => -l)]) S) :
    ([telD t, D.int s] ++ ([] : List D)).length = 2 ∧ p_step_along ([telD t, D.int s] ++ []) S R Rx := ⟨rfl, t, s, rfl, z, hs, k⟩
theorem step_no2 {d : D} (h : ¬ ∃ a b, d = .tup [a, b]) : stepB ts d = none := by
  unfold stepB
  split
  · exact absurd ⟨_, _, rfl⟩ h
  · rfl
theorem step_l {a b : D} (h : isWhole a = false) : stepB ts (.tup [a, b]) = none := by
  cases a <;> first | rfl | cases h
theorem step_r {a b : D} (h : isWhole b = false) : stepB ts (.tup [a, b]) = none := by
  cases a <;> cases b <;> first | rfl | cases h
theorem step_some {n s : Int} : (stepB ts (.tup [.int n, .int s])).isSome = (decide (0 ≤ n) && (decide (n < (ts.length : Int)) && (decide (s = 1) || decide (s = -1)))) := by
  show (if 0 ≤ n ∧ n < ts.length ∧ (s = 1 ∨ s = -1) then (ts[n.toNat]?).map fun t => (t, s) else none).isSome = _
  by_cases h : 0 ≤ n ∧ n < ts.length ∧ (s = 1 ∨ s = -1)
  · rw [if_pos h]
    obtain ⟨h1, h2, h3⟩ := h
    have hl : n.toNat < ts.length := by omega
    rw [List.getElem?_eq_getElem hl, decide_eq_true h1, decide_eq_true h2]
    rcases h3 with rfl | rfl <;> rfl
  · rw [if_neg h]
    by_cases h1 : 0 ≤ n
    · by_cases h2 : n < (ts.length : Int)
      · have h3 : ¬ (s = 1 ∨ s = -1) := fun z => h ⟨h1, h2, z⟩
        rw [decide_eq_true h1, decide_eq_true h2, decide_eq_false (fun z => h3 (.inl z)), decide_eq_false (fun z => h3 (.inr z))]
        rfl
      · rw [decide_eq_true h1, decide_eq_false h2]
        rfl
    · rw [decide_eq_false h1]
      rfl
theorem in_sign {s : Int} : inD (.int s) [.int 1, .int (-1)] = (decide (s = 1) || decide (s = -1)) := by
  show (((1 : Int) == s) || (((-1 : Int) == s) || false)) = _
  rw [Bool.or_false]
  by_cases h1 : s = 1
  · subst h1
    rfl
  · by_cases h2 : s = -1
    · subst h2
      rfl
    · rw [decide_eq_false h1, decide_eq_false h2, beq_eq_false_iff_ne.mpr (fun z => h1 z.symm), beq_eq_false_iff_ne.mpr (fun z => h2 z.symm)]
theorem wayG_cons {d : D} {ds : List D} {a : Nat × Rat} : wayG ts (d :: ds) a = match stepB ts d with
    | none => none
    | some (t, s) => match goW t s a with
      | none => none
      | some b => wayG ts ds b := rfl
theorem step_at {d : D} {t : Tel} {s : Int} (h : stepB ts d = some (t, s)) : ∃ n : Nat, d = .tup [.int (n : Int), .int s] ∧ ts[n]? = some t ∧ (s = 1 ∨ s = -1) := by
  unfold stepB at h
  split at h
  · rename_i n s'
    split at h
    · rename_i hc
      cases e : ts[n.toNat]? with
      | none =>
        rw [e] at h
        cases h
      | some t' =>
        rw [e] at h
        cases h
        exact ⟨n.toNat, by rw [Int.toNat_of_nonneg hc.1], e, hc.2.2⟩
    · cases h
  · cases h
theorem go_ok {a b : Nat × Rat} {n m : Nat} (ht : TelOk n t) (ha : Sz m a.2) (h : goW t s a = some b) : b.1 < 6 ∧ Sz (m + n + 1) b.2 := by
  have tb := ht.bnd
  unfold goW at h
  split at h
  · split at h
    · cases e : t.high with
      | none =>
        rw [e] at h
        cases h
      | some q =>
        rw [e] at h
        cases h
        exact ⟨ht.other, ha.add (BndOk.hi (l := t.low) (by rw [← e]; exact tb))⟩
    · cases h
  · split at h
    · cases e : t.low with
      | none =>
        rw [e] at h
        cases h
      | some q =>
        rw [e] at h
        cases h
        exact ⟨ht.one, ha.sub (BndOk.lo (h := t.high) (by rw [← e]; exact tb))⟩
    · cases h
theorem wayG_ok {n : Nat} (ht : TelsOk n ts) : ∀ {xs : List D} {a b : Nat × Rat} {m : Nat}, a.1 < 6 → Sz m a.2 → wayG ts xs a = some b → b.1 < 6 ∧ Sz (m + (n + 1) * xs.length) b.2
  | [], a, b, m, h1, h2, h => by
    cases h
    exact ⟨h1, by rw [List.length_nil, Nat.mul_zero]; exact h2⟩
  | d :: ds, a, b, m, h1, h2, h => by
    unfold wayG at h
    cases e : stepB ts d with
    | none =>
      rw [e] at h
      cases h
    | some q =>
      obtain ⟨t, s⟩ := q
      rw [e] at h
      obtain ⟨k, _, hk, _⟩ := step_at e
      cases e2 : goW t s a with
      | none =>
        simp only [e2] at h
        cases h
      | some c =>
        simp only [e2] at h
        have g := go_ok (ht.ea t (List.mem_of_getElem? hk)) h2 e2
        have r := wayG_ok ht g.1 g.2 h
        refine ⟨r.1, r.2.mono ?_⟩
        rw [List.length_cons, Nat.mul_succ]
        omega
theorem wayD_ok {n : Nat} {b : Nat × Rat} (ht : TelsOk 30 ts) (hn : n < 6) (h : wayD ts n d = some b) : b.1 < 6 ∧ Sz 1900 b.2 := by
  unfold wayD at h
  split at h
  · split at h
    · rename_i hl
      have r := wayG_ok (m := 1) ht hn (show Sz 1 (0 : Rat) from ⟨by decide, by decide⟩) h
      exact ⟨r.1, r.2.mono (by omega)⟩
    · cases h
  · cases h
end

theorem stW_of {n : Nat} {d : D} (h : Qz n d) : StW d := ⟨h.1, fun zs e => ⟨(h.2 zs e).1, fun z hz => ((h.2 zs e).2 z hz).pD⟩⟩
theorem thW_of {n : Nat} {d : D} (h : Tz n d) : ThW d := ⟨h.1, fun xs e => ⟨Nat.le_trans (h.2 xs e).1 (by decide), fun y hy => stW_of ((h.2 xs e).2 y hy)⟩⟩
/-- one tuple more about them -/
def Uz (n : Nat) (d : D) : Prop := plainD d = true ∧ ∀ xs, d = .tup xs → xs.length ≤ 100 ∧ ∀ x ∈ xs, Tz n x
theorem Uz.at {n : Nat} {x : D} {xs : List D} (h : Uz n (.tup xs)) (hx : x ∈ xs) : Tz n x := (h.2 xs rfl).2 x hx
theorem Uz.no {n : Nat} {d : D} (h : plainD d = true) (t : isTup d = false) : Uz n d := ⟨h, fun xs e => by subst e; cases t⟩
theorem Uz.tup {n : Nat} {xs : List D} (h0 : xs.length ≤ 100) (h : ∀ x ∈ xs, Tz n x) : Uz n (.tup xs) := ⟨rfl, fun ys e => by cases e; exact ⟨h0, h⟩⟩
def ringB (ts : List Tel) : D → Bool
  | .tup [c, y] => match c with
    | .int i => if 0 ≤ i ∧ i < 6 then (match wayD ts i.toNat y with
      | none => false
      | some (e, q) => decide (e = i.toNat) && decide (q < 0)) else false
    | _ => false
  | _ => false
def p_way_along : SpD := fun ds S R _ => ∃ (ts : List Tel) (n : Nat) (d : D), ds = [telsD ts, .int n, d] ∧ TelsOk 30 ts ∧ n < 6 ∧ ThW d ∧ R (nwD (wayD ts n d)) S
def p_way_of (K : PySem.W.Frag) : SpD := fun ds S R Rx => ∃ d c e, ds = [d, c, e] ∧ ((Tz 4000 d ∧ isTels d = false ∧ Rx (erO K "NoTellings") S) ∨ ∃ ts, d = telsD ts ∧ TelsOk 30 ts ∧ ((plainD c = true ∧ isClk c = false ∧ Rx (erO K "NoNumber") S) ∨
  ∃ n : Nat, c = .int n ∧ n < 6 ∧ ThW e ∧ R (nwD (wayD ts n e)) S))
def p_is_ring (K : PySem.W.Frag) : SpD := fun ds S R Rx => ∃ d e, ds = [d, e] ∧ ((Tz 4000 d ∧ isTels d = false ∧ Rx (erO K "NoTellings") S) ∨ ∃ ts, d = telsD ts ∧ TelsOk 30 ts ∧ Uz 100 e ∧ R (.bl (ringB ts e)) S)
section
variable {K : PySem.W.Frag} {S : Sto} {R : KR} {Rx : Er → Sto → Prop} {d e c : D} {n : Nat} {ts : List Tel}
theorem i_way_along (ht : TelsOk 30 ts) (hn : n < 6) (hd : ThW d) (k : R (nwD (wayD ts n d)) S) : ([telsD ts, D.int (n : Nat), d] ++ ([] : List D)).length = 3 ∧ p_way_along ([telsD ts, D.int (n : Nat), d] ++ []) S R Rx := ⟨rfl, ts, n, d, rfl, ht, hn, hd, k⟩
theorem i_way_of (ht : TelsOk 30 ts) (hn : n < 6) (hd : ThW d) (k : R (nwD (wayD ts n d)) S) : ([telsD ts, D.int (n : Nat), d] ++ ([] : List D)).length = 3 ∧ p_way_of K ([telsD ts, D.int (n : Nat), d] ++ []) S R Rx := ⟨rfl, _, _, _, rfl, .inr ⟨ts, rfl, ht, .inr ⟨n, rfl, hn, hd, k⟩⟩⟩
theorem i_way_of_no (ht : TelsOk 30 ts) (hp : plainD c = true) (hc : isClk c = false) (x : Rx (erO K "NoNumber") S) : ([telsD ts, c, d] ++ ([] : List D)).length = 3 ∧ p_way_of K ([telsD ts, c, d] ++ []) S R Rx := ⟨rfl, _, _, _, rfl, .inr ⟨ts, rfl, ht, .inl ⟨hp, hc, x⟩⟩⟩
theorem i_is_ring (ht : TelsOk 30 ts) (hd : Uz 100 e) (k : R (.bl (ringB ts e)) S) : ([telsD ts, e] ++ ([] : List D)).length = 2 ∧ p_is_ring K ([telsD ts, e] ++ []) S R Rx := ⟨rfl, _, _, rfl, .inr ⟨ts, rfl, ht, hd, k⟩⟩
end
theorem Tz.th {n : Nat} {d : D} (h : Tz n d) : ThW d := thW_of h
theorem ring_2 {ts : List Tel} {d : D} (h : NotN 2 d) : ringB ts d = false := by
  unfold ringB
  split
  · exact absurd rfl (h _ rfl)
  · rfl
theorem ring_c {ts : List Tel} {a b : D} (h : isClk a = false) : ringB ts (.tup [a, b]) = false := by
  cases a with
  | int i =>
    show (if 0 ≤ i ∧ i < 6 then _ else false) = false
    refine if_neg fun z => ?_
    have h : (decide (0 ≤ i) && decide (i < 6)) = false := h
    rw [decide_eq_true z.1, decide_eq_true z.2] at h
    cases h
  | _ => rfl
theorem ring_n {ts : List Tel} {n : Nat} {b : D} (h : n < 6) : ringB ts (.tup [.int n, b]) = match wayD ts n b with
      | none => false
      | some (e, q) => decide (e = n) && decide (q < 0) := by
  show (if 0 ≤ (n : Int) ∧ (n : Int) < 6 then _ else false) = _
  rw [if_pos ⟨by omega, by omega⟩]
  rfl

theorem num_neg {q : Rat} : q.num < 0 ↔ q < 0 := by
  have h := Rat.num_nonneg (q := q)
  constructor
  · intro z
    exact Rat.not_le.mp fun y => by have := h.mpr y; omega
  · intro z
    refine Decidable.byContradiction fun y => ?_
    have := h.mp (by omega)
    exact absurd z (Rat.not_lt.mpr this)

end DL

set_option maxHeartbeats 4000000
namespace DL
open PySem PySem.Spec PyProof.Rows L2
local macro_rules | `(tactic| walk_at "go1") => `(tactic| first
  | with_reducible refine r_seq ?_ | with_reducible refine r_asg ?_ | with_reducible refine r_ret ?_ | with_reducible refine r_ifS ?_ | with_reducible refine r_drop ?_ | with_reducible refine r_par ?_ | with_reducible refine r_next ?_ | with_reducible refine r_retN ?_
  | ((with_reducible refine' r_var ?hv ?_); (case hv => rfl)) | with_reducible refine r_c ?_ | with_reducible refine r_bin ?_ | with_reducible refine r_un ?_ | with_reducible refine r_as1 ?_ | with_reducible refine r_as0 ?_
  | with_reducible refine r_cb ?_ | with_reducible refine r_call ?_ | with_reducible refine r_B ?_ | with_reducible refine r_notT ?_ | with_reducible refine r_andT ?_ | with_reducible refine r_orT ?_
  | with_reducible refine r_andV ?_ | with_reducible refine r_orV ?_ | with_reducible refine r_notV ?_ | with_reducible refine r_if ?_ | with_reducible refine r_tup ?_ | with_reducible refine r_lst ?_ | with_reducible refine r_mu ?_
  | with_reducible refine r_cut ?_ | with_reducible refine r_p0 ?_ | with_reducible refine r_p1 ?_ | with_reducible refine r_gN ?_ | ((with_reducible refine r_gT ?hv ?_); (case hv => rfl)) | with_reducible refine r_gs1 ?_ | with_reducible refine r_gs0 ?_
  | ((with_reducible refine r_trueR ?hv ?_); (case hv => first | rfl | assumption)) | ((with_reducible refine r_falseR ?hv ?_); (case hv => first | rfl | assumption)) | with_reducible refine r_bl ?_ | with_reducible refine r_in ?_ | with_reducible refine r_two ?_
  | with_reducible refine r_addI ?_ | with_reducible refine r_subI ?_ | with_reducible refine r_mulI ?_ ?_ | with_reducible refine r_divI ?_ ?_ | with_reducible refine r_modI ?_ ?_ | with_reducible refine r_powI ?_ ?_ | with_reducible refine r_negI ?_
  | with_reducible refine r_lt ?_ | with_reducible refine r_le ?_ | with_reducible refine r_gt ?_ | with_reducible refine r_ge ?_ | with_reducible refine r_is ?_ | with_reducible refine r_isNot ?_ | with_reducible refine r_eqI ?_ | with_reducible refine r_neI ?_ | with_reducible refine r_eqS ?_ | with_reducible refine r_neS ?_
  | with_reducible refine r_ixP0 ?_ | with_reducible refine r_ixP1 ?_ | with_reducible refine r_ix0T ?_ | with_reducible refine r_ix1T ?_ | with_reducible refine r_lenT ?_ | with_reducible refine r_lenL ?_ | with_reducible refine r_lenC ?_
  | with_reducible refine r_abs ?_ | with_reducible refine r_max ?_ | with_reducible refine r_min ?_ | with_reducible refine r_intI ?_ | with_reducible refine r_intB ?_ | with_reducible refine r_tupL ?_ | with_reducible refine r_tupT ?_
  | with_reducible refine r_gcd ?_ | ((with_reducible refine r_isi ?hv ?_); (case hv => first | rfl | assumption)) | with_reducible refine r_sizeT ?_ | with_reducible refine r_sizeL ?_)
local macro_rules | `(tactic| walk_at "go") => `(tactic| repeat' walk_at "go1")
local macro_rules | `(tactic| walk_at "go1") => `(tactic| first
  | with_reducible refine r_lc ?_ | with_reducible refine r_wiT ?_ | with_reducible refine r_wiZ ?_ | with_reducible refine r_wiL ?_ | with_reducible refine r_wiR1 ?_ | with_reducible refine r_for ?_ | with_reducible refine r_yes ?_
  | with_reducible refine b_nm ?_ | with_reducible refine r_setD0 ?_ | with_reducible refine r_setD1 ?_ | ((with_reducible refine' r_setDT ?hv ?_); (case hv => rfl)) | with_reducible refine r_setsD ?_ | with_reducible refine r_setsCut ?_ | with_reducible refine b_tp2 ?_ | with_reducible refine r_trueL ?_ | with_reducible refine r_falseL ?_ )

local macro_rules | `(tactic| walk_at "go1") => `(tactic| first
  | with_reducible refine r_size0 ?_ | with_reducible refine r_size3 ?_ | with_reducible refine r_app ?_ | with_reducible refine r_setIx ?_ | ((with_reducible refine' r_sizeG ?hv ?_); (case hv => rfl)) | ((with_reducible refine' r_addG ?hv ?_); (case hv => rfl)) | ((with_reducible refine' r_addTG ?hv ?_); (case hv => rfl))
  | with_reducible refine r_bmL ?_ | with_reducible refine r_isL ?_ | with_reducible refine r_try ?_ | with_reducible refine r_emp ?_ | with_reducible refine r_raise ?_ | with_reducible refine r_chain ?_ | with_reducible refine r_mulGI ?_ ?_
  | with_reducible refine r_wiET ?_ | with_reducible refine r_telLen ?_ | with_reducible refine r_telsLen ?_ | with_reducible refine r_rowLen ?_ | ((with_reducible refine' r_telT ?hv ?_); (case hv => rfl)))

local macro_rules | `(tactic| walk_at "szs") => `(tactic| first
  | assumption
  | ((with_reducible apply Sz.add); walk_at "szs"; walk_at "szs")
  | ((with_reducible apply Sz.sub); walk_at "szs"; walk_at "szs")
  | ((with_reducible apply Sz.mul); walk_at "szs"; walk_at "szs")
  | ((with_reducible apply Sz.neg); walk_at "szs")
  | (apply Pz.sz; assumption) | exact sz0 | exact sz1 | exact sz24
  | ((with_reducible apply sz_abs); walk_at "szs"))
local macro_rules | `(tactic| walk_at "sz") => `(tactic| (apply Sz.mono; walk_at "szs"; exact Nat.le_of_ble_eq_true rfl))
local macro_rules | `(tactic| walk_at "pen") => `(tactic| first | assumption | (apply Stm.pen; assumption) | (apply stm_st; assumption) | (apply stm_st; apply Stm.pen; assumption))
local macro_rules | `(tactic| walk_at "stm") => `(tactic| first | assumption | exact Stm.of (by walk_at "pen") | (refine Stm.trans ?_ (by assumption); walk_at "stm") | (refine Stm.trans ?_ (Stm.new (by walk_at "pen")); walk_at "stm"))
local macro_rules | `(tactic| walk_at "side") => `(tactic| first | assumption | rfl | omega | decide | walk_at "sz" | walk_at "pen")
local macro_rules | `(tactic| walk_at "au") => `(tactic| repeat' walk_at "au1")
local macro_rules | `(tactic| walk_at "au1") => `(tactic| first
  | walk_at "go1"
  | (with_reducible refine i_next ?_; intro r _ _)
  | (with_reducible refine i_draw ?a ?b ?c ?_; (case a => walk_at "side"); (case b => walk_at "side"); (case c => walk_at "pen"); intro x S' _ _ _)
  | (with_reducible refine i_sum_of ?a ?b ?_; (case a => walk_at "sz"); (case b => walk_at "sz"))
  | (with_reducible refine i_difference_of ?a ?b ?_; (case a => walk_at "sz"); (case b => walk_at "sz"))
  | (with_reducible refine i_product_of ?a ?b ?_; (case a => walk_at "sz"); (case b => walk_at "sz"))
  | (with_reducible refine i_is_below ?a ?b ?_; (case a => walk_at "sz"); (case b => walk_at "sz"))
  | (with_reducible refine i_added ?a ?b ?_; (case a => walk_at "sz"); (case b => walk_at "sz"))
  | (with_reducible refine i_less ?a ?b ?_; (case a => walk_at "sz"); (case b => walk_at "sz"))
  | (with_reducible refine i_times ?a ?b ?_; (case a => walk_at "sz"); (case b => walk_at "sz"))
  | (with_reducible refine i_is_less ?a ?b ?_; (case a => walk_at "sz"); (case b => walk_at "sz"))
  | (with_reducible refine i_sum ?a ?b ?_; (case a => walk_at "sz"); (case b => walk_at "sz"))
  | (with_reducible refine i_rest ?a ?b ?_; (case a => walk_at "sz"); (case b => walk_at "sz"))
  | (with_reducible refine i_prod ?a ?b ?_; (case a => walk_at "sz"); (case b => walk_at "sz"))
  | (with_reducible refine i_under ?a ?b ?_; (case a => walk_at "sz"); (case b => walk_at "sz"))
  | with_reducible refine i_is_part_pt ?_
  | with_reducible refine r_intB ?_
  | (with_reducible refine r_rng1 ?a ?b ?_; (case a => decide); (case b => decide)) | with_reducible refine r_ix0L ?_ | with_reducible refine r_muE ?_ | with_reducible refine r_itL ?_ | with_reducible refine r_itT ?_
  | with_reducible refine r_par3 ?_ | with_reducible refine r_three ?_ | with_reducible refine r_gSub ?_ | with_reducible refine r_lstM ?_ | with_reducible refine r_lstT ?_ | with_reducible refine r_turn ?_ | with_reducible refine r_callK ?_
  | with_reducible refine i_opposite ?_
  | ((with_reducible refine' r_ixT ?hv ?_); (case hv => rfl))
  | ((with_reducible refine' r_ixL ?hv ?_); (case hv => rfl)) | fail)
local macro_rules | `(tactic| walk_at "au1") => `(tactic| first
  | (with_reducible refine r_modI ?a ?_; (case a => decide))
  | (with_reducible refine r_divI ?a ?_; (case a => exact ⟨by decide, by decide⟩))
  | (with_reducible refine r_powI ?a ?_; (case a => exact ⟨by decide, by decide, by decide⟩)) | fail)
local macro_rules | `(tactic| walk_at "br") => `(tactic| first
  | (with_reducible refine r_bothT ?_ ?_ <;> intro z)
  | (with_reducible refine r_bothF ?_ ?_ <;> intro z)
  | (with_reducible refine r_bothD ?_ ?_ <;> intro z)
  | (with_reducible refine r_bothN ?_ ?_ <;> intro z)
  | (with_reducible refine r_both ?_ ?_ <;> intro z) | fail)
local macro_rules | `(tactic| walk_at "ab") => `(tactic| repeat' first | walk_at "au1" | walk_at "br")

local macro_rules | `(tactic| walk_at "shd") => `(tactic| first
  | assumption | exact ShD.non | exact ShD.bl | exact ShD.lit (by decide) | exact ShD.str (by decide +kernel) (by decide +kernel)
  | (apply ShD.nat; omega)
  | (apply ShD.pt (by walk_at "szs"); exact (Nat.ble_eq_true_of_le (of_decide_eq_true rfl)))
  | (apply ShD.tup; walk_at "shds") | (apply ShD.lst; walk_at "shds"))
local macro_rules | `(tactic| walk_at "shds") => `(tactic| first
  | assumption | exact ShDs.nil | (apply ShDs.cons; walk_at "shd"; walk_at "shds"))

local macro_rules | `(tactic| walk_at "au1") => `(tactic| first
  | (with_reducible refine r_neSS rfl ?_)
  | ((with_reducible refine' r_reprD ?a ?b ?c ?_); (case a => walk_at "shd"); (case b => rfl); (case c => rfl)) | fail)

local macro_rules | `(tactic| walk_at "szs") => `(tactic| ((with_reducible apply Sz.div); walk_at "szs"; walk_at "szs"; assumption))
local macro_rules | `(tactic| walk_at "au1") => `(tactic| first
  | with_reducible refine r_eqPt ?_ | with_reducible refine r_nePt ?_ | with_reducible refine r_eqN ?_ | with_reducible refine r_neN ?_
  | (with_reducible refine n_difference_of1 ?a ?_; (case a => walk_at "sz"))
  | (with_reducible refine n_rest1 ?a ?_; (case a => walk_at "sz"))
  | (with_reducible refine i_divided ?z ?a ?b ?_; (case z => assumption); (case a => walk_at "sz"); (case b => walk_at "sz"))
  | (with_reducible refine i_by ?z ?a ?b ?_; (case z => assumption); (case a => walk_at "sz"); (case b => walk_at "sz"))
  | (with_reducible refine i_between2 ?a ?b ?c ?_; (case a => walk_at "sz"); (case b => walk_at "sz"); (case c => walk_at "sz")) | fail)
local macro_rules | `(tactic| walk_at "pD") => `(tactic| first | rfl | assumption | (apply Pz.pD; assumption))
local macro_rules | `(tactic| walk_at "p2") => `(tactic| first | rfl | assumption | (apply Pz.p2; assumption))
local macro_rules | `(tactic| walk_at "pz") => `(tactic| first | assumption | (apply Pz.mono; (first | assumption | (apply Pz.pt; walk_at "szs")); exact Nat.le_of_ble_eq_true rfl))
local macro_rules | `(tactic| walk_at "au1") => `(tactic| first
  | (with_reducible refine i_part ?a ?b ?c ?_; (case a => walk_at "side"); (case b => walk_at "side"); (case c => walk_at "pen"); intro q S' _ _)
  | (with_reducible refine i_above ?a ?b ?c ?_; (case a => walk_at "side"); (case b => walk_at "side"); (case c => walk_at "pen"); intro q S' _ _ _)
  | (with_reducible refine i_odd ?c ?_; (case c => walk_at "pen"); intro d S' _ _)
  | ((with_reducible refine i_clk_c ?a ?b ?c); (case a => walk_at "pD"); all_goals first | (intro (z : _ = false)) | (intro n e _; subst e))
  | ((with_reducible refine i_lclk_c ?a ?b ?c); (case a => walk_at "pD"); all_goals first | (intro (z : _ = false)) | (intro n e _; subst e))
  | ((with_reducible refine i_part_c ?a ?b ?c); (case a => walk_at "p2"); all_goals first | (intro (z : _ = false)) | (intro q e; subst e))
  | ((with_reducible refine i_up_c ?a ?b ?c); (case a => walk_at "p2"); all_goals first | (intro (z : _ = false)) | (intro q e _; subst e))
  | ((with_reducible refine i_lpart_c ?a ?b ?c); (case a => walk_at "pz"); all_goals first | (intro (z : _ = false)) | (intro q e; subst e)) | fail)

local macro_rules | `(tactic| walk_at "telok") => `(tactic| first | assumption | (apply TelOk.mono; assumption; exact Nat.le_of_ble_eq_true rfl) | (apply TelsOk.mono; assumption; exact Nat.le_of_ble_eq_true rfl) | (apply RowOk.mono; assumption; exact Nat.le_of_ble_eq_true rfl))
local macro_rules | `(tactic| walk_at "au1") => `(tactic| first
  | with_reducible refine r_telsLen ?_ | with_reducible refine r_itTels ?_ | with_reducible refine r_itRow ?_ | with_reducible refine r_rowLen ?_ | with_reducible refine r_wiET ?_ | with_reducible refine r_itET ?_ | with_reducible refine r_itE ?_
  | (with_reducible refine i_check_tellings_ok ?a ?_; (case a => walk_at "telok"))
  | (with_reducible refine i_check_number_ok ?a ?_; (case a => walk_at "side"))
  | (with_reducible refine i_is_kept ?a ?b ?_; (case a => walk_at "telok"); (case b => walk_at "telok"))
  | (with_reducible refine i_first_not_kept ?a ?b ?_; (case a => walk_at "telok"); (case b => walk_at "telok")) | fail)

abbrev BB : Nat := 27720
structure Nm (M : Nat) (q : Rat) : Prop where
  int : IntB BB q
  lo : -(M : Rat) ≤ q
  hi : q ≤ (M : Rat)
theorem cast_le {a b : Nat} (h : a ≤ b) : (a : Rat) ≤ (b : Rat) := Rat.natCast_le_natCast.mpr h
theorem Nm.mono {a b : Nat} {q : Rat} (h : Nm a q) (k : a ≤ b) : Nm b q := by
  have := cast_le k
  exact ⟨h.int, by have := h.lo; grind, by have := h.hi; grind⟩
theorem Nm.add {a b : Nat} {p q : Rat} (h : Nm a p) (g : Nm b q) : Nm (a + b) (p + q) := by
  have e : ((a + b : Nat) : Rat) = (a : Rat) + (b : Rat) := Rat.natCast_add _ _
  have h1 := h.lo
  have h2 := h.hi
  have g1 := g.lo
  have g2 := g.hi
  exact ⟨h.int.add g.int, by rw [e]; grind, by rw [e]; grind⟩
theorem Nm.neg {a : Nat} {p : Rat} (h : Nm a p) : Nm a (-p) := by
  have h1 := h.lo
  have h2 := h.hi
  exact ⟨h.int.neg, by grind, by grind⟩
theorem Nm.sub {a b : Nat} {p q : Rat} (h : Nm a p) (g : Nm b q) : Nm (a + b) (p - q) := by
  rw [Rat.sub_eq_add_neg]
  exact h.add g.neg
theorem Nm.zero : Nm 0 0 := ⟨IntB.zero, by decide, by decide⟩
theorem intB_dvd {B : Nat} {q : Rat} (hB : 0 < B) (h : IntB B q) : q.den ∣ B := by
  obtain ⟨z, hz⟩ := h
  have n0 : B ≠ 0 := by omega
  have hb : (B : Rat) ≠ 0 := by exact_mod_cast n0
  have e : q = mkRat z B := by
    rw [Rat.mkRat_eq_div, ← hz]
    exact (Rat.mul_div_cancel hb).symm
  rw [e, Rat.den_mkRat, if_neg n0]
  exact Nat.div_dvd_of_dvd (Nat.gcd_dvd_left _ _)
theorem Nm.dvd {M : Nat} {q : Rat} (h : Nm M q) : q.den ∣ BB := intB_dvd (by decide) h.int
theorem Nm.sz {M n : Nat} {q : Rat} (h : Nm M q) (hn : (M * BB).blt (2 ^ n) = true) (hb : BB.blt (2 ^ n) = true) : Sz n q := by
  have hn := Nat.le_of_ble_eq_true hn
  have hb := Nat.le_of_ble_eq_true hb
  have hd := Nat.le_of_dvd (show 0 < BB by decide) h.dvd
  refine ⟨?_, by omega⟩
  have key : q.num.natAbs ≤ M * q.den := by
    have h1 := h.lo
    have h2 := h.hi
    have e := mul_den q
    have dp : (0 : Rat) < (q.den : Rat) := by exact_mod_cast q.den_pos
    have u1 : (q.num : Rat) ≤ ((M * q.den : Nat) : Rat) := by
      rw [← e, Rat.natCast_mul]
      exact Rat.mul_le_mul_of_nonneg_right h2 (Rat.le_of_lt dp)
    have u2 : ((-(M * q.den : Nat) : Int) : Rat) ≤ (q.num : Rat) := by
      rw [← e, Rat.intCast_neg, Rat.intCast_natCast, Rat.natCast_mul, ← Rat.neg_mul]
      exact Rat.mul_le_mul_of_nonneg_right h1 (Rat.le_of_lt dp)
    have u1 : (q.num : Rat) ≤ (((M * q.den : Nat) : Int) : Rat) := by rw [Rat.intCast_natCast]; exact u1
    have v1 := Rat.intCast_le_intCast.mp u1
    have v2 := Rat.intCast_le_intCast.mp u2
    omega
  have : M * q.den ≤ M * BB := Nat.mul_le_mul_left _ hd
  omega
theorem dvd12 {n : Nat} (h0 : 0 < n) (h1 : n ≤ 12) : n ∣ BB := (show ∀ n, n < 13 → 0 < n → n ∣ BB by decide) n (by omega) h0
theorem norm_nm {a : Int} {n M : Nat} (h : n ≠ 0) (hn : n ∣ BB) (ha : a.natAbs ≤ M) : Nm M (Rat.normalize a n h) := by
  have e : Rat.normalize a n h = (a : Rat) / (n : Rat) := by rw [Rat.normalize_eq_mkRat, Rat.mkRat_eq_div]
  have hb : (n : Rat) ≠ 0 := by exact_mod_cast h
  have np : (0 : Rat) < (n : Rat) := by exact_mod_cast (Nat.pos_of_ne_zero h)
  have n1 : (1 : Rat) ≤ (n : Rat) := by exact_mod_cast (Nat.pos_of_ne_zero h)
  have m0 : (0 : Rat) ≤ (M : Rat) := Rat.natCast_nonneg
  have a1 : (a : Rat) ≤ (M : Rat) := by
    have : a ≤ (M : Int) := by omega
    have := Rat.intCast_le_intCast.mpr this
    rw [Rat.intCast_natCast] at this
    exact this
  have a2 : -(M : Rat) ≤ (a : Rat) := by
    have : -(M : Int) ≤ a := by omega
    have := Rat.intCast_le_intCast.mpr this
    rw [Rat.intCast_neg, Rat.intCast_natCast] at this
    exact this
  have mn : (M : Rat) * 1 ≤ (M : Rat) * (n : Rat) := Rat.mul_le_mul_of_nonneg_left n1 m0
  rw [Rat.mul_one] at mn
  generalize hx : Rat.normalize a n h = x at e
  have ex : x * (n : Rat) = (a : Rat) := by
    rw [e]
    exact Rat.div_mul_cancel hb
  refine ⟨?_, ?_, ?_⟩
  · obtain ⟨k, hk⟩ := hn
    refine ⟨a * (k : Int), ?_⟩
    have eb : ((BB : Nat) : Rat) = (n : Rat) * (k : Rat) := by rw [hk, Rat.natCast_mul]
    rw [eb, ← Rat.mul_assoc, ex, Rat.intCast_mul, Rat.intCast_natCast]
  · refine Rat.not_lt.mp fun z => ?_
    have := (Rat.mul_lt_mul_right np).mpr z
    rw [ex, Rat.neg_mul] at this
    grind
  · refine Rat.not_lt.mp fun z => ?_
    have := (Rat.mul_lt_mul_right np).mpr z
    rw [ex] at this
    grind
structure RowG (r : List Rat) : Prop where
  ok : RowOk 22 r
  nm : ∀ q ∈ r, Nm 40 q
structure TelN (M : Nat) (t : Tel) : Prop where
  lo : ∀ q, t.low = some q → Nm M q
  hi : ∀ q, t.high = some q → Nm M q
structure TelsN (ts : List Tel) : Prop where
  ok : TelsOk 25 ts
  nm : ∀ t ∈ ts, TelN 200 t
theorem TelN.mono {a b : Nat} {t : Tel} (h : TelN a t) (k : a ≤ b) : TelN b t := ⟨fun q e => (h.lo q e).mono k, fun q e => (h.hi q e).mono k⟩
theorem TelsN.g {ts : List Tel} (h : TelsN ts) : TelsG ts := ⟨h.ok.mono (by decide), BB, ⟨by decide, by decide⟩, fun t ht => ⟨fun q e => ((h.nm t ht).lo q e).dvd, fun q e => ((h.nm t ht).hi q e).dvd⟩⟩
def p_law_some : SpD := fun ds S R _ => ∃ i : Nat, ds = [.mu i] ∧ Pen S i ∧ ∀ (q : Rat) S', Nm 40 q → Sz 22 q → Stm i S S' → R (pt q) S'
def p_law_up : SpD := fun ds S R _ => ∃ i : Nat, ds = [.mu i] ∧ Pen S i ∧ ∀ (q : Rat) S', 0 ≤ q → Nm 30 q → Sz 22 q → Stm i S S' → R (pt q) S'
def p_law_row : SpD := fun ds S R _ => ∃ i : Nat, ds = [.mu i] ∧ Pen S i ∧ ∀ (r : List Rat) S', RowG r → Stm i S S' → R (rowD r) S'
def p_law_true : SpD := fun ds S R _ => ∃ (i : Nat) (r : List Rat) (near : Int), ds = [.mu i, rowD r, .int near] ∧ Pen S i ∧ RowG r ∧ 2 ≤ near ∧ near ≤ 6 ∧ ∀ (t : Tel) S', TelOk 25 t → TelN 150 t → keptB t r = true → Stm i S S' → R (telD t) S'
def p_law_shifted : SpD := fun ds S R _ => ∃ (i : Nat) (t : Tel), ds = [.mu i, telD t] ∧ Pen S i ∧ TelOk 25 t ∧ TelN 150 t ∧ ∀ (t' : Tel) S', TelOk 25 t' → TelN 200 t' → Stm i S S' → R (telD t') S'
def p_law_tellings : SpD := fun ds S R _ => ∃ (i : Nat) (most wrong : Int), ds = [.mu i, .int most, .int wrong] ∧ Pen S i ∧ 0 ≤ most ∧ most ≤ 16 ∧ 0 ≤ wrong ∧ wrong ≤ 10 ∧ ∀ (ts : List Tel) S', TelsN ts → ts.length ≤ most.toNat → (wrong = 0 → ∃ r, RowG r ∧ ∀ t ∈ ts, keptB t r = true) → Stm i S S' → R (telsD ts) S'
section
variable {K : PySem.W.Frag} {S : Sto} {R : KR} {Rx : Er → Sto → Prop} {i : Nat} {t : Tel} {r : List Rat} {near most wrong : Int}
theorem i_some (hp : Pen S i) (k : ∀ (q : Rat) S', Nm 40 q → Sz 22 q → Stm i S S' → R (pt q) S') : ([D.mu i] ++ ([] : List D)).length = 1 ∧ p_law_some ([D.mu i] ++ []) S R Rx := ⟨rfl, i, rfl, hp, k⟩
theorem i_up (hp : Pen S i) (k : ∀ (q : Rat) S', 0 ≤ q → Nm 30 q → Sz 22 q → Stm i S S' → R (pt q) S') : ([D.mu i] ++ ([] : List D)).length = 1 ∧ p_law_up ([D.mu i] ++ []) S R Rx := ⟨rfl, i, rfl, hp, k⟩
theorem i_row (hp : Pen S i) (k : ∀ (r : List Rat) S', RowG r → Stm i S S' → R (rowD r) S') : ([D.mu i] ++ ([] : List D)).length = 1 ∧ p_law_row ([D.mu i] ++ []) S R Rx := ⟨rfl, i, rfl, hp, k⟩
theorem i_true (hp : Pen S i) (hr : RowG r) (h0 : 2 ≤ near) (h1 : near ≤ 6) (k : ∀ (t : Tel) S', TelOk 25 t → TelN 150 t → keptB t r = true → Stm i S S' → R (telD t) S') : ([D.mu i, rowD r, D.int near] ++ ([] : List D)).length = 3 ∧ p_law_true ([D.mu i, rowD r, D.int near] ++ []) S R Rx := ⟨rfl, i, r, near, rfl, hp, hr, h0, h1, k⟩
theorem i_shifted (hp : Pen S i) (z : TelOk 25 t) (y : TelN 150 t) (k : ∀ (t' : Tel) S', TelOk 25 t' → TelN 200 t' → Stm i S S' → R (telD t') S') : ([D.mu i, telD t] ++ ([] : List D)).length = 2 ∧ p_law_shifted ([D.mu i, telD t] ++ []) S R Rx := ⟨rfl, i, t, rfl, hp, z, y, k⟩
theorem i_tellings (hp : Pen S i) (h0 : 0 ≤ most) (h1 : most ≤ 16) (h2 : 0 ≤ wrong) (h3 : wrong ≤ 10) (k : ∀ (ts : List Tel) S', TelsN ts → ts.length ≤ most.toNat → (wrong = 0 → ∃ r, RowG r ∧ ∀ t ∈ ts, keptB t r = true) → Stm i S S' → R (telsD ts) S') :
    ([D.mu i, D.int most, D.int wrong] ++ ([] : List D)).length = 3 ∧ p_law_tellings ([D.mu i, D.int most, D.int wrong] ++ []) S R Rx := ⟨rfl, i, most, wrong, rfl, hp, h0, h1, h2, h3, k⟩
end
theorem telok_of {t : Tel} (h1 : t.one < 6) (h2 : t.other < 6) (h3 : t.one ≠ t.other) (h4 : t.low ≠ none ∨ t.high ≠ none) (h5 : ∀ l h, t.low = some l → t.high = some h → l ≤ h) (hn : TelN 200 t) : TelOk 25 t := by
  refine ⟨h1, h2, h3, ?_⟩
  have z : ∀ {q}, Nm 200 q → Sz 25 q := fun h => h.sz (by decide) (by decide)
  cases el : t.low with
  | none =>
    cases eh : t.high with
    | none => rw [el, eh] at h4; rcases h4 with h | h <;> exact absurd rfl h
    | some q => exact z (hn.hi q eh)
  | some p =>
    cases eh : t.high with
    | none => exact z (hn.lo p el)
    | some q => exact ⟨h5 p q el eh, z (hn.lo p el), z (hn.hi q eh)⟩
theorem other_of {n x y : Int} (n0 : 2 ≤ n) (n1 : n ≤ 6) (x0 : 0 ≤ x) (x1 : x < n) (y0 : 0 ≤ y) (y1 : y < n - 1) : ∃ a b : Nat, x = a ∧ (x + 1 + y).fmod n = b ∧ a < 6 ∧ b < 6 ∧ a ≠ b := by
  obtain ⟨a, rfl⟩ := Int.eq_ofNat_of_zero_le x0
  obtain ⟨c, rfl⟩ := Int.eq_ofNat_of_zero_le y0
  obtain ⟨m, rfl⟩ := Int.eq_ofNat_of_zero_le (show 0 ≤ n by omega)
  have e : ((a : Int) + 1 + c).fmod m = (((a + 1 + c) % m : Nat) : Int) := fmod_nat (a := a + 1 + c) (b := m)
  refine ⟨a, (a + 1 + c) % m, rfl, e, by omega, ?_, ?_⟩
  · have := Nat.mod_lt (a + 1 + c) (show 0 < m by omega)
    omega
  · have hm : a < m := by omega
    have hc : c < m - 1 := by omega
    intro z
    by_cases h : a + 1 + c < m
    · rw [Nat.mod_eq_of_lt h] at z
      omega
    · have e2 : (a + 1 + c) % m = a + 1 + c - m := by
        rw [Nat.mod_eq_sub_mod (by omega), Nat.mod_eq_of_lt (by omega)]
      omega

end DL

set_option maxHeartbeats 4000000
namespace DL
open PySem PySem.Spec PyProof.Rows L2
local macro_rules | `(tactic| walk_at "go1") => `(tactic| first
  | with_reducible refine r_seq ?_ | with_reducible refine r_asg ?_ | with_reducible refine r_ret ?_ | with_reducible refine r_ifS ?_ | with_reducible refine r_drop ?_ | with_reducible refine r_par ?_ | with_reducible refine r_next ?_ | with_reducible refine r_retN ?_
  | ((with_reducible refine' r_var ?hv ?_); (case hv => rfl)) | with_reducible refine r_c ?_ | with_reducible refine r_bin ?_ | with_reducible refine r_un ?_ | with_reducible refine r_as1 ?_ | with_reducible refine r_as0 ?_
  | with_reducible refine r_cb ?_ | with_reducible refine r_call ?_ | with_reducible refine r_B ?_ | with_reducible refine r_notT ?_ | with_reducible refine r_andT ?_ | with_reducible refine r_orT ?_
  | with_reducible refine r_andV ?_ | with_reducible refine r_orV ?_ | with_reducible refine r_notV ?_ | with_reducible refine r_if ?_ | with_reducible refine r_tup ?_ | with_reducible refine r_lst ?_ | with_reducible refine r_mu ?_
  | with_reducible refine r_cut ?_ | with_reducible refine r_p0 ?_ | with_reducible refine r_p1 ?_ | with_reducible refine r_gN ?_ | ((with_reducible refine r_gT ?hv ?_); (case hv => rfl)) | with_reducible refine r_gs1 ?_ | with_reducible refine r_gs0 ?_
  | ((with_reducible refine r_trueR ?hv ?_); (case hv => first | rfl | assumption)) | ((with_reducible refine r_falseR ?hv ?_); (case hv => first | rfl | assumption)) | with_reducible refine r_bl ?_ | with_reducible refine r_in ?_ | with_reducible refine r_two ?_
  | with_reducible refine r_addI ?_ | with_reducible refine r_subI ?_ | with_reducible refine r_mulI ?_ ?_ | with_reducible refine r_divI ?_ ?_ | with_reducible refine r_modI ?_ ?_ | with_reducible refine r_powI ?_ ?_ | with_reducible refine r_negI ?_
  | with_reducible refine r_lt ?_ | with_reducible refine r_le ?_ | with_reducible refine r_gt ?_ | with_reducible refine r_ge ?_ | with_reducible refine r_is ?_ | with_reducible refine r_isNot ?_ | with_reducible refine r_eqI ?_ | with_reducible refine r_neI ?_ | with_reducible refine r_eqS ?_ | with_reducible refine r_neS ?_
  | with_reducible refine r_ixP0 ?_ | with_reducible refine r_ixP1 ?_ | with_reducible refine r_ix0T ?_ | with_reducible refine r_ix1T ?_ | with_reducible refine r_lenT ?_ | with_reducible refine r_lenL ?_ | with_reducible refine r_lenC ?_
  | with_reducible refine r_abs ?_ | with_reducible refine r_max ?_ | with_reducible refine r_min ?_ | with_reducible refine r_intI ?_ | with_reducible refine r_intB ?_ | with_reducible refine r_tupL ?_ | with_reducible refine r_tupT ?_
  | with_reducible refine r_gcd ?_ | ((with_reducible refine r_isi ?hv ?_); (case hv => first | rfl | assumption)) | with_reducible refine r_sizeT ?_ | with_reducible refine r_sizeL ?_)
local macro_rules | `(tactic| walk_at "go") => `(tactic| repeat' walk_at "go1")
local macro_rules | `(tactic| walk_at "go1") => `(tactic| first
  | with_reducible refine r_lc ?_ | with_reducible refine r_wiT ?_ | with_reducible refine r_wiZ ?_ | with_reducible refine r_wiL ?_ | with_reducible refine r_wiR1 ?_ | with_reducible refine r_for ?_ | with_reducible refine r_yes ?_
  | with_reducible refine b_nm ?_ | with_reducible refine r_setD0 ?_ | with_reducible refine r_setD1 ?_ | ((with_reducible refine' r_setDT ?hv ?_); (case hv => rfl)) | with_reducible refine r_setsD ?_ | with_reducible refine r_setsCut ?_ | with_reducible refine b_tp2 ?_ | with_reducible refine r_trueL ?_ | with_reducible refine r_falseL ?_ )

local macro_rules | `(tactic| walk_at "go1") => `(tactic| first
  | with_reducible refine r_size0 ?_ | with_reducible refine r_size3 ?_ | with_reducible refine r_app ?_ | with_reducible refine r_setIx ?_ | ((with_reducible refine' r_sizeG ?hv ?_); (case hv => rfl)) | ((with_reducible refine' r_addG ?hv ?_); (case hv => rfl)) | ((with_reducible refine' r_addTG ?hv ?_); (case hv => rfl))
  | with_reducible refine r_bmL ?_ | with_reducible refine r_isL ?_ | with_reducible refine r_try ?_ | with_reducible refine r_emp ?_ | with_reducible refine r_raise ?_ | with_reducible refine r_chain ?_ | with_reducible refine r_mulGI ?_ ?_
  | with_reducible refine r_wiET ?_ | with_reducible refine r_telLen ?_ | with_reducible refine r_telsLen ?_ | with_reducible refine r_rowLen ?_ | ((with_reducible refine' r_telT ?hv ?_); (case hv => rfl)))

local macro_rules | `(tactic| walk_at "szs") => `(tactic| first
  | assumption
  | ((with_reducible apply Sz.add); walk_at "szs"; walk_at "szs")
  | ((with_reducible apply Sz.sub); walk_at "szs"; walk_at "szs")
  | ((with_reducible apply Sz.mul); walk_at "szs"; walk_at "szs")
  | ((with_reducible apply Sz.neg); walk_at "szs")
  | (apply Pz.sz; assumption) | exact sz0 | exact sz1 | exact sz24
  | ((with_reducible apply sz_abs); walk_at "szs"))
local macro_rules | `(tactic| walk_at "sz") => `(tactic| (apply Sz.mono; walk_at "szs"; exact Nat.le_of_ble_eq_true rfl))
local macro_rules | `(tactic| walk_at "pen") => `(tactic| first | assumption | (apply Stm.pen; assumption) | (apply stm_st; assumption) | (apply stm_st; apply Stm.pen; assumption))
local macro_rules | `(tactic| walk_at "stm") => `(tactic| first | assumption | exact Stm.of (by walk_at "pen") | (refine Stm.trans ?_ (by assumption); walk_at "stm") | (refine Stm.trans ?_ (Stm.new (by walk_at "pen")); walk_at "stm"))
local macro_rules | `(tactic| walk_at "side") => `(tactic| first | assumption | rfl | omega | decide | walk_at "sz" | walk_at "pen")
local macro_rules | `(tactic| walk_at "au") => `(tactic| repeat' walk_at "au1")
local macro_rules | `(tactic| walk_at "au1") => `(tactic| first
  | walk_at "go1"
  | (with_reducible refine i_next ?_; intro r _ _)
  | (with_reducible refine i_draw ?a ?b ?c ?_; (case a => walk_at "side"); (case b => walk_at "side"); (case c => walk_at "pen"); intro x S' _ _ _)
  | (with_reducible refine i_sum_of ?a ?b ?_; (case a => walk_at "sz"); (case b => walk_at "sz"))
  | (with_reducible refine i_difference_of ?a ?b ?_; (case a => walk_at "sz"); (case b => walk_at "sz"))
  | (with_reducible refine i_product_of ?a ?b ?_; (case a => walk_at "sz"); (case b => walk_at "sz"))
  | (with_reducible refine i_is_below ?a ?b ?_; (case a => walk_at "sz"); (case b => walk_at "sz"))
  | (with_reducible refine i_added ?a ?b ?_; (case a => walk_at "sz"); (case b => walk_at "sz"))
  | (with_reducible refine i_less ?a ?b ?_; (case a => walk_at "sz"); (case b => walk_at "sz"))
  | (with_reducible refine i_times ?a ?b ?_; (case a => walk_at "sz"); (case b => walk_at "sz"))
  | (with_reducible refine i_is_less ?a ?b ?_; (case a => walk_at "sz"); (case b => walk_at "sz"))
  | (with_reducible refine i_sum ?a ?b ?_; (case a => walk_at "sz"); (case b => walk_at "sz"))
  | (with_reducible refine i_rest ?a ?b ?_; (case a => walk_at "sz"); (case b => walk_at "sz"))
  | (with_reducible refine i_prod ?a ?b ?_; (case a => walk_at "sz"); (case b => walk_at "sz"))
  | (with_reducible refine i_under ?a ?b ?_; (case a => walk_at "sz"); (case b => walk_at "sz"))
  | with_reducible refine i_is_part_pt ?_
  | with_reducible refine r_intB ?_
  | (with_reducible refine r_rng1 ?a ?b ?_; (case a => decide); (case b => decide)) | with_reducible refine r_ix0L ?_ | with_reducible refine r_muE ?_ | with_reducible refine r_itL ?_ | with_reducible refine r_itT ?_
  | with_reducible refine r_par3 ?_ | with_reducible refine r_three ?_ | with_reducible refine r_gSub ?_ | with_reducible refine r_lstM ?_ | with_reducible refine r_lstT ?_ | with_reducible refine r_turn ?_ | with_reducible refine r_callK ?_
  | with_reducible refine i_opposite ?_
  | ((with_reducible refine' r_ixT ?hv ?_); (case hv => rfl))
  | ((with_reducible refine' r_ixL ?hv ?_); (case hv => rfl)) | fail)
local macro_rules | `(tactic| walk_at "au1") => `(tactic| first
  | (with_reducible refine r_modI ?a ?_; (case a => decide))
  | (with_reducible refine r_divI ?a ?_; (case a => exact ⟨by decide, by decide⟩))
  | (with_reducible refine r_powI ?a ?_; (case a => exact ⟨by decide, by decide, by decide⟩)) | fail)
local macro_rules | `(tactic| walk_at "br") => `(tactic| first
  | (with_reducible refine r_bothT ?_ ?_ <;> intro z)
  | (with_reducible refine r_bothF ?_ ?_ <;> intro z)
  | (with_reducible refine r_bothD ?_ ?_ <;> intro z)
  | (with_reducible refine r_bothN ?_ ?_ <;> intro z)
  | (with_reducible refine r_both ?_ ?_ <;> intro z) | fail)
local macro_rules | `(tactic| walk_at "ab") => `(tactic| repeat' first | walk_at "au1" | walk_at "br")

local macro_rules | `(tactic| walk_at "shd") => `(tactic| first
  | assumption | exact ShD.non | exact ShD.bl | exact ShD.lit (by decide) | exact ShD.str (by decide +kernel) (by decide +kernel)
  | (apply ShD.nat; omega)
  | (apply ShD.pt (by walk_at "szs"); exact (Nat.ble_eq_true_of_le (of_decide_eq_true rfl)))
  | (apply ShD.tup; walk_at "shds") | (apply ShD.lst; walk_at "shds"))
local macro_rules | `(tactic| walk_at "shds") => `(tactic| first
  | assumption | exact ShDs.nil | (apply ShDs.cons; walk_at "shd"; walk_at "shds"))

local macro_rules | `(tactic| walk_at "au1") => `(tactic| first
  | (with_reducible refine r_neSS rfl ?_)
  | ((with_reducible refine' r_reprD ?a ?b ?c ?_); (case a => walk_at "shd"); (case b => rfl); (case c => rfl)) | fail)

local macro_rules | `(tactic| walk_at "szs") => `(tactic| ((with_reducible apply Sz.div); walk_at "szs"; walk_at "szs"; assumption))
local macro_rules | `(tactic| walk_at "au1") => `(tactic| first
  | with_reducible refine r_eqPt ?_ | with_reducible refine r_nePt ?_ | with_reducible refine r_eqN ?_ | with_reducible refine r_neN ?_
  | (with_reducible refine n_difference_of1 ?a ?_; (case a => walk_at "sz"))
  | (with_reducible refine n_rest1 ?a ?_; (case a => walk_at "sz"))
  | (with_reducible refine i_divided ?z ?a ?b ?_; (case z => assumption); (case a => walk_at "sz"); (case b => walk_at "sz"))
  | (with_reducible refine i_by ?z ?a ?b ?_; (case z => assumption); (case a => walk_at "sz"); (case b => walk_at "sz"))
  | (with_reducible refine i_between2 ?a ?b ?c ?_; (case a => walk_at "sz"); (case b => walk_at "sz"); (case c => walk_at "sz")) | fail)
local macro_rules | `(tactic| walk_at "pD") => `(tactic| first | rfl | assumption | (apply Pz.pD; assumption))
local macro_rules | `(tactic| walk_at "p2") => `(tactic| first | rfl | assumption | (apply Pz.p2; assumption))
local macro_rules | `(tactic| walk_at "pz") => `(tactic| first | assumption | (apply Pz.mono; (first | assumption | (apply Pz.pt; walk_at "szs")); exact Nat.le_of_ble_eq_true rfl))
local macro_rules | `(tactic| walk_at "au1") => `(tactic| first
  | (with_reducible refine i_part ?a ?b ?c ?_; (case a => walk_at "side"); (case b => walk_at "side"); (case c => walk_at "pen"); intro q S' _ _)
  | (with_reducible refine i_above ?a ?b ?c ?_; (case a => walk_at "side"); (case b => walk_at "side"); (case c => walk_at "pen"); intro q S' _ _ _)
  | (with_reducible refine i_odd ?c ?_; (case c => walk_at "pen"); intro d S' _ _)
  | ((with_reducible refine i_clk_c ?a ?b ?c); (case a => walk_at "pD"); all_goals first | (intro (z : _ = false)) | (intro n e _; subst e))
  | ((with_reducible refine i_lclk_c ?a ?b ?c); (case a => walk_at "pD"); all_goals first | (intro (z : _ = false)) | (intro n e _; subst e))
  | ((with_reducible refine i_part_c ?a ?b ?c); (case a => walk_at "p2"); all_goals first | (intro (z : _ = false)) | (intro q e; subst e))
  | ((with_reducible refine i_up_c ?a ?b ?c); (case a => walk_at "p2"); all_goals first | (intro (z : _ = false)) | (intro q e _; subst e))
  | ((with_reducible refine i_lpart_c ?a ?b ?c); (case a => walk_at "pz"); all_goals first | (intro (z : _ = false)) | (intro q e; subst e)) | fail)

local macro_rules | `(tactic| walk_at "telok") => `(tactic| first | assumption | (apply TelOk.mono; assumption; exact Nat.le_of_ble_eq_true rfl) | (apply TelsOk.mono; assumption; exact Nat.le_of_ble_eq_true rfl) | (apply RowOk.mono; assumption; exact Nat.le_of_ble_eq_true rfl))
local macro_rules | `(tactic| walk_at "au1") => `(tactic| first
  | with_reducible refine r_telsLen ?_ | with_reducible refine r_itTels ?_ | with_reducible refine r_itRow ?_ | with_reducible refine r_rowLen ?_ | with_reducible refine r_wiET ?_ | with_reducible refine r_itET ?_ | with_reducible refine r_itE ?_
  | (with_reducible refine i_check_tellings_ok ?a ?_; (case a => walk_at "telok"))
  | (with_reducible refine i_check_number_ok ?a ?_; (case a => walk_at "side"))
  | (with_reducible refine i_is_kept ?a ?b ?_; (case a => walk_at "telok"); (case b => walk_at "telok"))
  | (with_reducible refine i_first_not_kept ?a ?b ?_; (case a => walk_at "telok"); (case b => walk_at "telok")) | fail)

local macro_rules | `(tactic| walk_at "au1") => `(tactic| first
  | with_reducible refine b_tp4 ?_ | with_reducible refine r_revL ?_ | with_reducible refine r_break ?_ | with_reducible refine r_cont ?_ | fail)

local macro_rules | `(tactic| walk_at "au1") => `(tactic| first
  | (with_reducible refine i_some ?c ?_; (case c => walk_at "pen"); intro q S' _ _ _)
  | (with_reducible refine i_up ?c ?_; (case c => walk_at "pen"); intro q S' _ _ _ _)
  | (with_reducible refine i_row ?c ?_; (case c => walk_at "pen"); intro r S' _ _) | fail)

theorem r_lcM {wi : WI'} {b : Bd} {tt : WT'} {te : WE'} {own : List Nat} {env : Vars} {S : Sto} {R : KR} {Rx : KX} (k : wi env S (fun src S1 => comp src.ck b tt te own env (fun acc S2 => R (.mu S2.length) (S2 ++ [acc])) src.xs [] S1) Rx) : wLcM wi b tt te own env S R Rx := k
def rowM (F : Mat) (i : Nat) : List D := (List.range 6).map fun j => eD (F i j)
def MatAt (S : Sto) (n : Nat) (F : Mat) : Prop := ∀ i, i < 6 → S[n + i]? = some (rowM F i)
def farV (n : Nat) : D := .lst ((List.range 6).map fun i => .mu (n + i))
def idM : Mat := fun i j => if i = j then some 0 else none
def arcMin (F : Mat) (a : Arc) : Mat := updM F a.b a.e (minO (F a.b a.e) (some a.l))
def matT (ts : List Tel) : Mat := (arcsR ts).foldl arcMin idM
def NmM (M : Nat) (F : Mat) : Prop := ∀ i j x, F i j = some x → Nm M x
theorem rowM_at {F : Mat} {i j : Nat} (h : j < 6) : (rowM F i)[j]? = some (eD (F i j)) := by
  unfold rowM
  rw [List.getElem?_map, List.getElem?_range h]
  rfl
theorem rowM_len {F : Mat} {i : Nat} : (rowM F i).length = 6 := by unfold rowM; rw [List.length_map, List.length_range]
theorem MatAt.set {S : Sto} {n i j : Nat} {F : Mat} {x : Option Rat} (h : MatAt S n F) (hi : i < 6) (hj : j < 6) : MatAt (S.set (n + i) ((rowM F i).set j (eD x))) n (updM F i j x) := by
  intro a ha
  by_cases e : a = i
  · subst e
    rw [List.getElem?_set_self (List.getElem?_eq_some_iff.mp (h a ha)).1]
    congr 1
    have := set_map6 (f := F a) (g := eD) (x := x) hj
    unfold rowM
    rw [this]
    refine List.map_congr_left fun k hk => ?_
    congr 1
    unfold upd6 updM
    by_cases z : k = j
    · rw [if_pos z, if_pos ⟨rfl, z⟩]
    · rw [if_neg z, if_neg (fun y => z y.2)]
  · rw [List.getElem?_set_ne (by omega), h a ha]
    congr 1
    unfold rowM
    refine List.map_congr_left fun k hk => ?_
    congr 1
    exact (updM_ne (fun y => e y.1)).symm
theorem MatAt.ext {S S' : Sto} {n : Nat} {F : Mat} (h : MatAt S n F) (x : Ext S S') : MatAt S' n F := fun i hi => x.at (h i hi)
theorem NmM.min {M : Nat} {F : Mat} {i j : Nat} {o : Option Rat} (h : NmM M F) (ho : ∀ x, o = some x → Nm M x) : NmM M (updM F i j (minO (F i j) o)) := by
  intro a b x e
  by_cases z : a = i ∧ b = j
  · obtain ⟨rfl, rfl⟩ := z
    rw [updM_same] at e
    rcases minO_or (F a b) o with e2 | e2 <;> rw [e2] at e
    · exact h _ _ x e
    · exact ho x e
  · rw [updM_ne z] at e
    exact h a b x e
theorem NmM.mono {a b : Nat} {F : Mat} (h : NmM a F) (k : a ≤ b) : NmM b F := fun i j x e => (h i j x e).mono k
theorem NmM.at {M m : Nat} {F : Mat} {p : Nat × Nat} (h : NmM M F) : NmM (M * 2) (fwAt m F p) := by
  unfold fwAt
  refine NmM.min (h.mono (by omega)) fun x e => ?_
  cases e1 : F p.1 m with
  | none => rw [e1] at e; cases e
  | some a =>
    cases e2 : F m p.2 with
    | none => rw [e1, e2] at e; cases e
    | some b =>
      rw [e1, e2] at e
      cases e
      exact ((h _ _ a e1).add (h _ _ b e2)).mono (by omega)
theorem NmM.pairs {m : Nat} : ∀ (l : List (Nat × Nat)) (M : Nat) (F : Mat), NmM M F → NmM (M * 2 ^ l.length) (l.foldl (fwAt m) F)
  | [], M, F, h => by
    show NmM (M * 2 ^ 0) F
    rw [Nat.pow_zero, Nat.mul_one]
    exact h
  | p :: l, M, F, h => by
    have := NmM.pairs (m := m) l (M * 2) _ (h.at (m := m) (p := p))
    show NmM (M * 2 ^ (l.length + 1)) (l.foldl (fwAt m) (fwAt m F p))
    rw [Nat.pow_succ, Nat.mul_comm (2 ^ l.length) 2, ← Nat.mul_assoc]
    exact this
theorem pairs_len : pairs6.length = 36 := by decide +kernel
theorem NmM.stages : ∀ (l : List Nat) (M : Nat) (F : Mat), NmM M F → NmM (M * 2 ^ (36 * l.length)) (l.foldl fwStage F)
  | [], M, F, h => by
    show NmM (M * 2 ^ 0) F
    rw [Nat.pow_zero, Nat.mul_one]
    exact h
  | m :: l, M, F, h => by
    have := NmM.stages l (M * 2 ^ pairs6.length) _ (h.pairs (m := m) pairs6)
    show NmM (M * 2 ^ (36 * (l.length + 1))) (l.foldl fwStage (fwStage F m))
    rw [Nat.mul_add, Nat.mul_one, Nat.pow_add, Nat.mul_comm (2 ^ (36 * l.length)), ← Nat.mul_assoc]
    rw [pairs_len] at this
    exact this
theorem nmM_id : NmM 200 idM := fun i j x e => by
  unfold idM at e
  split at e
  · cases e
    exact Nm.zero.mono (by decide)
  · cases e
theorem nm_arcs {ts : List Tel} (h : TelsN ts) : ∀ a ∈ arcsR ts, Nm 200 a.l := fun a ha => by
  obtain ⟨k, t, h1, h2⟩ := arcs_mem.mp ha
  have tn := h.nm t (List.mem_of_getElem? h1)
  rcases arcsT_mem.mp h2 with ⟨q, e, rfl⟩ | ⟨q, e, rfl⟩
  · exact tn.hi q e
  · exact (tn.lo q e).neg
theorem nmM_fold : ∀ (as : List Arc) (F : Mat), (∀ a ∈ as, Nm 200 a.l) → NmM 200 F → NmM 200 (as.foldl arcMin F)
  | [], F, _, h => h
  | a :: as, F, ha, h => nmM_fold as _ (fun c hc => ha c (List.mem_cons_of_mem _ hc)) (h.min fun x e => by cases e; exact ha a List.mem_cons_self)
/-- the first matrix is of arcs -/
theorem arcMin_0 {arcs : List Arc} (h6 : Six arcs) : ∀ (as : List Arc) (F : Mat), (∀ a ∈ as, a ∈ arcs) → (∀ i j x, F i j = some x → Wk arcs i j x) → (∀ v, v < 6 → ∃ x, F v v = some x ∧ x ≤ 0) →
    (∀ i j x, (as.foldl arcMin F) i j = some x → Wk arcs i j x) ∧ (∀ v, v < 6 → ∃ x, (as.foldl arcMin F) v v = some x ∧ x ≤ 0) ∧ (∀ i j, leO ((as.foldl arcMin F) i j) (F i j)) ∧ ∀ a ∈ as, leO ((as.foldl arcMin F) a.b a.e) (some a.l)
  | [], F, _, h1, h2 => ⟨h1, h2, fun _ _ => leO.refl, fun a ha => by cases ha⟩
  | a :: as, F, ha, h1, h2 => by
    have le : ∀ i j, leO (arcMin F a i j) (F i j) := fun i j => by
      unfold arcMin
      by_cases z : i = a.b ∧ j = a.e
      · obtain ⟨rfl, rfl⟩ := z
        rw [updM_same]
        exact minO_l
      · rw [updM_ne z]
        exact leO.refl
    have g1 : ∀ i j x, arcMin F a i j = some x → Wk arcs i j x := fun i j x e => by
      unfold arcMin at e
      by_cases z : i = a.b ∧ j = a.e
      · obtain ⟨rfl, rfl⟩ := z
        rw [updM_same] at e
        rcases minO_or (F a.b a.e) (some a.l) with e2 | e2 <;> rw [e2] at e
        · exact h1 _ _ x e
        · cases e
          exact Wk.one (ha a List.mem_cons_self)
      · rw [updM_ne z] at e
        exact h1 i j x e
    have g2 : ∀ v, v < 6 → ∃ x, arcMin F a v v = some x ∧ x ≤ 0 := fun v hv => by
      obtain ⟨x, e, hx⟩ := h2 v hv
      have := le v v
      rw [e] at this
      cases e2 : arcMin F a v v with
      | none => rw [e2] at this; exact (leO_no this).elim
      | some y =>
        rw [e2] at this
        exact ⟨y, rfl, Rat.le_trans (leO_some.mp this) hx⟩
    obtain ⟨k1, k2, k3, k4⟩ := arcMin_0 h6 as (arcMin F a) (fun c hc => ha c (List.mem_cons_of_mem _ hc)) g1 g2
    refine ⟨k1, k2, fun i j => (k3 i j).trans (le i j), fun c hc => ?_⟩
    rcases List.mem_cons.mp hc with rfl | hc
    · refine (k3 c.b c.e).trans ?_
      unfold arcMin
      rw [updM_same]
      exact minO_r
    · exact k4 c hc
theorem matT_fw {ts : List Tel} (h : TelsG ts) : Fw0 (arcsR ts) (matT ts) := by
  obtain ⟨k1, k2, _, k4⟩ := arcMin_0 h.six (arcsR ts) idM (fun _ h => h) (fun i j x e => by
    unfold idM at e
    split at e
    · rename_i z
      cases e
      rw [z]
      exact .nil j
    · cases e) (fun v _ => ⟨0, if_pos rfl, Rat.le_refl⟩)
  exact ⟨k1, k4, k2⟩
def nearM (ts : List Tel) : Mat := fun i j => nearR (arcsR ts) i j
theorem rowM_congr {F G : Mat} {i : Nat} (h : ∀ j, j < 6 → F i j = G i j) : rowM F i = rowM G i := by
  unfold rowM
  refine List.map_congr_left fun k hk => ?_
  rw [h k (List.mem_range.mp hk)]
theorem fw_nearM {ts : List Tel} (h : TelsG ts) (h0 : ∀ v, v < 6 → ∀ x, fw (matT ts) v v = some x → 0 ≤ x) : ¬ Neg (arcsR ts) ∧ ∀ c v, c < 6 → v < 6 → fw (matT ts) c v = nearM ts c v := by
  obtain ⟨n, g⟩ := fw_near h.six (matT_fw h) h0
  exact ⟨n, fun c v hc hv => (g c v hc hv).eq (settle_near h.six n c v).2⟩
theorem pairs_at {i j : Nat} (hi : i < 6) (hj : j < 6) : pairs6[6 * i + j]? = some (i, j) := by
  have key : ∀ i, i < 6 → ∀ j, j < 6 → pairs6[6 * i + j]? = some (i, j) := by decide +kernel
  exact key i hi j hj
def p_law_nearer : SpD := fun ds S R _ => ∃ a b : Option Rat, ds = [eD a, eD b] ∧ (∀ x, a = some x → Sm x) ∧ (∀ x, b = some x → Sm x) ∧ R (eD (minO a b)) S
def p_law_far : SpD := fun ds S R _ => ∃ ts, ds = [telsD ts] ∧ TelsN ts ∧ (Neg (arcsR ts) → ∀ S', Ext S S' → R .non S') ∧ (¬ Neg (arcsR ts) → ∀ S' n, Ext S S' → S.length ≤ n → MatAt S' n (nearM ts) → R (farV n) S')
def p_law_stretch : SpD := fun ds S R _ => ∃ (n c o : Nat) (F : Mat), ds = [farV n, .int c, .int o] ∧ MatAt S n F ∧ c < 6 ∧ o < 6 ∧ R (twoD ((F c o).map (fun x => -x), F o c)) S
section
variable {K : PySem.W.Frag} {S : Sto} {R : KR} {Rx : Er → Sto → Prop} {ts : List Tel} {a b : Option Rat} {n c o : Nat} {F : Mat}
theorem i_nearer (h1 : ∀ x, a = some x → Sm x) (h2 : ∀ x, b = some x → Sm x) (k : R (eD (minO a b)) S) : ([eD a, eD b] ++ ([] : List D)).length = 2 ∧ p_law_nearer ([eD a, eD b] ++ []) S R Rx := ⟨rfl, a, b, rfl, h1, h2, k⟩
theorem i_far (h : TelsN ts) (k1 : Neg (arcsR ts) → ∀ S', Ext S S' → R .non S') (k2 : ¬ Neg (arcsR ts) → ∀ S' n, Ext S S' → S.length ≤ n → MatAt S' n (nearM ts) → R (farV n) S') : ([telsD ts] ++ ([] : List D)).length = 1 ∧ p_law_far ([telsD ts] ++ []) S R Rx := ⟨rfl, ts, rfl, h, k1, k2⟩
theorem i_lstretch (h : MatAt S n F) (hc : c < 6) (ho : o < 6) (k : R (twoD ((F c o).map (fun x => -x), F o c)) S) : ([farV n, D.int (c : Nat), D.int (o : Nat)] ++ ([] : List D)).length = 3 ∧ p_law_stretch ([farV n, D.int (c : Nat), D.int (o : Nat)] ++ []) S R Rx := ⟨rfl, n, c, o, F, rfl, h, hc, ho, k⟩
theorem r_ixFar {i : Nat} (hi : i < 6) (k : R (.mu (n + i)) S) : dIx (farV n) (.int (i : Nat)) S R :=
  r_ixL (atI_nat (by rw [List.getElem?_map, List.getElem?_range hi]; rfl)) k
theorem r_ixMat {i j : Nat} (h : MatAt S n F) (hi : i < 6) (hj : j < 6) (k : R (eD (F i j)) S) : dIx (.mu (n + i)) (.int (j : Nat)) S R := r_ixM (h i hi) (atI_nat (rowM_at hj)) k
end
theorem minO_non {a : Option Rat} : minO a none = a := by cases a <;> rfl
theorem addO_non {a : Option Rat} : addO none a = none ∧ addO a none = none := by cases a <;> exact ⟨rfl, rfl⟩
theorem updM_id {F : Mat} {i j : Nat} : updM F i j (F i j) = F := by
  funext a b
  unfold updM
  split
  · rename_i z
    rw [z.1, z.2]
  · rfl
theorem MatAt.same {S : Sto} {n i j : Nat} {F : Mat} {a : Option Rat} (h : MatAt S n F) : MatAt S n (updM F i j (minO (F i j) (addO none a))) ∧ MatAt S n (updM F i j (minO (F i j) (addO a none))) := by
  rw [addO_non.1, addO_non.2, minO_non, updM_id]
  exact ⟨h, h⟩
theorem ixR {F : Mat} {i j : Nat} (h : j < 6) : ixN (rowM F i).length (j : Int) = some j := by
  rw [rowM_len]
  exact ix6 h
theorem neg_pt {q : Rat} : D.tup [.int (0 - q.num), .int q.den] = pt (-q) := by
  show D.tup [.int (0 - q.num), .int q.den] = D.tup [.int (-q).num, .int (-q).den]
  rw [Rat.neg_num, Rat.neg_den, Int.zero_sub]
theorem big_sz {t : Nat} {q : Rat} (h : Nm (200 * 2 ^ t) q) (ht : t ≤ 216) : Sz 300 q := by
  have : 200 * 2 ^ t ≤ 200 * 2 ^ 216 := Nat.mul_le_mul_left _ (Nat.pow_le_pow_right (by decide) ht)
  exact (h.mono this).sz (by decide) (by decide)

end DL

set_option maxHeartbeats 4000000
namespace DL
open PySem PySem.Spec PyProof.Rows L2
local macro_rules | `(tactic| walk_at "go1") => `(tactic| first
  | with_reducible refine r_seq ?_ | with_reducible refine r_asg ?_ | with_reducible refine r_ret ?_ | with_reducible refine r_ifS ?_ | with_reducible refine r_drop ?_ | with_reducible refine r_par ?_ | with_reducible refine r_next ?_ | with_reducible refine r_retN ?_
  | ((with_reducible refine' r_var ?hv ?_); (case hv => rfl)) | with_reducible refine r_c ?_ | with_reducible refine r_bin ?_ | with_reducible refine r_un ?_ | with_reducible refine r_as1 ?_ | with_reducible refine r_as0 ?_
  | with_reducible refine r_cb ?_ | with_reducible refine r_call ?_ | with_reducible refine r_B ?_ | with_reducible refine r_notT ?_ | with_reducible refine r_andT ?_ | with_reducible refine r_orT ?_
  | with_reducible refine r_andV ?_ | with_reducible refine r_orV ?_ | with_reducible refine r_notV ?_ | with_reducible refine r_if ?_ | with_reducible refine r_tup ?_ | with_reducible refine r_lst ?_ | with_reducible refine r_mu ?_
  | with_reducible refine r_cut ?_ | with_reducible refine r_p0 ?_ | with_reducible refine r_p1 ?_ | with_reducible refine r_gN ?_ | ((with_reducible refine r_gT ?hv ?_); (case hv => rfl)) | with_reducible refine r_gs1 ?_ | with_reducible refine r_gs0 ?_
  | ((with_reducible refine r_trueR ?hv ?_); (case hv => first | rfl | assumption)) | ((with_reducible refine r_falseR ?hv ?_); (case hv => first | rfl | assumption)) | with_reducible refine r_bl ?_ | with_reducible refine r_in ?_ | with_reducible refine r_two ?_
  | with_reducible refine r_addI ?_ | with_reducible refine r_subI ?_ | with_reducible refine r_mulI ?_ ?_ | with_reducible refine r_divI ?_ ?_ | with_reducible refine r_modI ?_ ?_ | with_reducible refine r_powI ?_ ?_ | with_reducible refine r_negI ?_
  | with_reducible refine r_lt ?_ | with_reducible refine r_le ?_ | with_reducible refine r_gt ?_ | with_reducible refine r_ge ?_ | with_reducible refine r_is ?_ | with_reducible refine r_isNot ?_ | with_reducible refine r_eqI ?_ | with_reducible refine r_neI ?_ | with_reducible refine r_eqS ?_ | with_reducible refine r_neS ?_
  | with_reducible refine r_ixP0 ?_ | with_reducible refine r_ixP1 ?_ | with_reducible refine r_ix0T ?_ | with_reducible refine r_ix1T ?_ | with_reducible refine r_lenT ?_ | with_reducible refine r_lenL ?_ | with_reducible refine r_lenC ?_
  | with_reducible refine r_abs ?_ | with_reducible refine r_max ?_ | with_reducible refine r_min ?_ | with_reducible refine r_intI ?_ | with_reducible refine r_intB ?_ | with_reducible refine r_tupL ?_ | with_reducible refine r_tupT ?_
  | with_reducible refine r_gcd ?_ | ((with_reducible refine r_isi ?hv ?_); (case hv => first | rfl | assumption)) | with_reducible refine r_sizeT ?_ | with_reducible refine r_sizeL ?_)
local macro_rules | `(tactic| walk_at "go") => `(tactic| repeat' walk_at "go1")
local macro_rules | `(tactic| walk_at "go1") => `(tactic| first
  | with_reducible refine r_lc ?_ | with_reducible refine r_wiT ?_ | with_reducible refine r_wiZ ?_ | with_reducible refine r_wiL ?_ | with_reducible refine r_wiR1 ?_ | with_reducible refine r_for ?_ | with_reducible refine r_yes ?_
  | with_reducible refine b_nm ?_ | with_reducible refine r_setD0 ?_ | with_reducible refine r_setD1 ?_ | ((with_reducible refine' r_setDT ?hv ?_); (case hv => rfl)) | with_reducible refine r_setsD ?_ | with_reducible refine r_setsCut ?_ | with_reducible refine b_tp2 ?_ | with_reducible refine r_trueL ?_ | with_reducible refine r_falseL ?_ )

local macro_rules | `(tactic| walk_at "go1") => `(tactic| first
  | with_reducible refine r_size0 ?_ | with_reducible refine r_size3 ?_ | with_reducible refine r_app ?_ | with_reducible refine r_setIx ?_ | ((with_reducible refine' r_sizeG ?hv ?_); (case hv => rfl)) | ((with_reducible refine' r_addG ?hv ?_); (case hv => rfl)) | ((with_reducible refine' r_addTG ?hv ?_); (case hv => rfl))
  | with_reducible refine r_bmL ?_ | with_reducible refine r_isL ?_ | with_reducible refine r_try ?_ | with_reducible refine r_emp ?_ | with_reducible refine r_raise ?_ | with_reducible refine r_chain ?_ | with_reducible refine r_mulGI ?_ ?_
  | with_reducible refine r_wiET ?_ | with_reducible refine r_telLen ?_ | with_reducible refine r_telsLen ?_ | with_reducible refine r_rowLen ?_ | ((with_reducible refine' r_telT ?hv ?_); (case hv => rfl)))

local macro_rules | `(tactic| walk_at "szs") => `(tactic| first
  | assumption
  | ((with_reducible apply Sz.add); walk_at "szs"; walk_at "szs")
  | ((with_reducible apply Sz.sub); walk_at "szs"; walk_at "szs")
  | ((with_reducible apply Sz.mul); walk_at "szs"; walk_at "szs")
  | ((with_reducible apply Sz.neg); walk_at "szs")
  | (apply Pz.sz; assumption) | exact sz0 | exact sz1 | exact sz24
  | ((with_reducible apply sz_abs); walk_at "szs"))
local macro_rules | `(tactic| walk_at "sz") => `(tactic| (apply Sz.mono; walk_at "szs"; exact Nat.le_of_ble_eq_true rfl))
local macro_rules | `(tactic| walk_at "pen") => `(tactic| first | assumption | (apply Stm.pen; assumption) | (apply stm_st; assumption) | (apply stm_st; apply Stm.pen; assumption))
local macro_rules | `(tactic| walk_at "stm") => `(tactic| first | assumption | exact Stm.of (by walk_at "pen") | (refine Stm.trans ?_ (by assumption); walk_at "stm") | (refine Stm.trans ?_ (Stm.new (by walk_at "pen")); walk_at "stm"))
local macro_rules | `(tactic| walk_at "side") => `(tactic| first | assumption | rfl | omega | decide | walk_at "sz" | walk_at "pen")
local macro_rules | `(tactic| walk_at "au") => `(tactic| repeat' walk_at "au1")
local macro_rules | `(tactic| walk_at "au1") => `(tactic| first
  | walk_at "go1"
  | (with_reducible refine i_next ?_; intro r _ _)
  | (with_reducible refine i_draw ?a ?b ?c ?_; (case a => walk_at "side"); (case b => walk_at "side"); (case c => walk_at "pen"); intro x S' _ _ _)
  | (with_reducible refine i_sum_of ?a ?b ?_; (case a => walk_at "sz"); (case b => walk_at "sz"))
  | (with_reducible refine i_difference_of ?a ?b ?_; (case a => walk_at "sz"); (case b => walk_at "sz"))
  | (with_reducible refine i_product_of ?a ?b ?_; (case a => walk_at "sz"); (case b => walk_at "sz"))
  | (with_reducible refine i_is_below ?a ?b ?_; (case a => walk_at "sz"); (case b => walk_at "sz"))
  | (with_reducible refine i_added ?a ?b ?_; (case a => walk_at "sz"); (case b => walk_at "sz"))
  | (with_reducible refine i_less ?a ?b ?_; (case a => walk_at "sz"); (case b => walk_at "sz"))
  | (with_reducible refine i_times ?a ?b ?_; (case a => walk_at "sz"); (case b => walk_at "sz"))
  | (with_reducible refine i_is_less ?a ?b ?_; (case a => walk_at "sz"); (case b => walk_at "sz"))
  | (with_reducible refine i_sum ?a ?b ?_; (case a => walk_at "sz"); (case b => walk_at "sz"))
  | (with_reducible refine i_rest ?a ?b ?_; (case a => walk_at "sz"); (case b => walk_at "sz"))
  | (with_reducible refine i_prod ?a ?b ?_; (case a => walk_at "sz"); (case b => walk_at "sz"))
  | (with_reducible refine i_under ?a ?b ?_; (case a => walk_at "sz"); (case b => walk_at "sz"))
  | with_reducible refine i_is_part_pt ?_
  | with_reducible refine r_intB ?_
  | (with_reducible refine r_rng1 ?a ?b ?_; (case a => decide); (case b => decide)) | with_reducible refine r_ix0L ?_ | with_reducible refine r_muE ?_ | with_reducible refine r_itL ?_ | with_reducible refine r_itT ?_
  | with_reducible refine r_par3 ?_ | with_reducible refine r_three ?_ | with_reducible refine r_gSub ?_ | with_reducible refine r_lstM ?_ | with_reducible refine r_lstT ?_ | with_reducible refine r_turn ?_ | with_reducible refine r_callK ?_
  | with_reducible refine i_opposite ?_
  | ((with_reducible refine' r_ixT ?hv ?_); (case hv => rfl))
  | ((with_reducible refine' r_ixL ?hv ?_); (case hv => rfl)) | fail)
local macro_rules | `(tactic| walk_at "au1") => `(tactic| first
  | (with_reducible refine r_modI ?a ?_; (case a => decide))
  | (with_reducible refine r_divI ?a ?_; (case a => exact ⟨by decide, by decide⟩))
  | (with_reducible refine r_powI ?a ?_; (case a => exact ⟨by decide, by decide, by decide⟩)) | fail)
local macro_rules | `(tactic| walk_at "br") => `(tactic| first
  | (with_reducible refine r_bothT ?_ ?_ <;> intro z)
  | (with_reducible refine r_bothF ?_ ?_ <;> intro z)
  | (with_reducible refine r_bothD ?_ ?_ <;> intro z)
  | (with_reducible refine r_bothN ?_ ?_ <;> intro z)
  | (with_reducible refine r_both ?_ ?_ <;> intro z) | fail)
local macro_rules | `(tactic| walk_at "ab") => `(tactic| repeat' first | walk_at "au1" | walk_at "br")

local macro_rules | `(tactic| walk_at "shd") => `(tactic| first
  | assumption | exact ShD.non | exact ShD.bl | exact ShD.lit (by decide) | exact ShD.str (by decide +kernel) (by decide +kernel)
  | (apply ShD.nat; omega)
  | (apply ShD.pt (by walk_at "szs"); exact (Nat.ble_eq_true_of_le (of_decide_eq_true rfl)))
  | (apply ShD.tup; walk_at "shds") | (apply ShD.lst; walk_at "shds"))
local macro_rules | `(tactic| walk_at "shds") => `(tactic| first
  | assumption | exact ShDs.nil | (apply ShDs.cons; walk_at "shd"; walk_at "shds"))

local macro_rules | `(tactic| walk_at "au1") => `(tactic| first
  | (with_reducible refine r_neSS rfl ?_)
  | ((with_reducible refine' r_reprD ?a ?b ?c ?_); (case a => walk_at "shd"); (case b => rfl); (case c => rfl)) | fail)

local macro_rules | `(tactic| walk_at "szs") => `(tactic| ((with_reducible apply Sz.div); walk_at "szs"; walk_at "szs"; assumption))
local macro_rules | `(tactic| walk_at "au1") => `(tactic| first
  | with_reducible refine r_eqPt ?_ | with_reducible refine r_nePt ?_ | with_reducible refine r_eqN ?_ | with_reducible refine r_neN ?_
  | (with_reducible refine n_difference_of1 ?a ?_; (case a => walk_at "sz"))
  | (with_reducible refine n_rest1 ?a ?_; (case a => walk_at "sz"))
  | (with_reducible refine i_divided ?z ?a ?b ?_; (case z => assumption); (case a => walk_at "sz"); (case b => walk_at "sz"))
  | (with_reducible refine i_by ?z ?a ?b ?_; (case z => assumption); (case a => walk_at "sz"); (case b => walk_at "sz"))
  | (with_reducible refine i_between2 ?a ?b ?c ?_; (case a => walk_at "sz"); (case b => walk_at "sz"); (case c => walk_at "sz")) | fail)
local macro_rules | `(tactic| walk_at "pD") => `(tactic| first | rfl | assumption | (apply Pz.pD; assumption))
local macro_rules | `(tactic| walk_at "p2") => `(tactic| first | rfl | assumption | (apply Pz.p2; assumption))
local macro_rules | `(tactic| walk_at "pz") => `(tactic| first | assumption | (apply Pz.mono; (first | assumption | (apply Pz.pt; walk_at "szs")); exact Nat.le_of_ble_eq_true rfl))
local macro_rules | `(tactic| walk_at "au1") => `(tactic| first
  | (with_reducible refine i_part ?a ?b ?c ?_; (case a => walk_at "side"); (case b => walk_at "side"); (case c => walk_at "pen"); intro q S' _ _)
  | (with_reducible refine i_above ?a ?b ?c ?_; (case a => walk_at "side"); (case b => walk_at "side"); (case c => walk_at "pen"); intro q S' _ _ _)
  | (with_reducible refine i_odd ?c ?_; (case c => walk_at "pen"); intro d S' _ _)
  | ((with_reducible refine i_clk_c ?a ?b ?c); (case a => walk_at "pD"); all_goals first | (intro (z : _ = false)) | (intro n e _; subst e))
  | ((with_reducible refine i_lclk_c ?a ?b ?c); (case a => walk_at "pD"); all_goals first | (intro (z : _ = false)) | (intro n e _; subst e))
  | ((with_reducible refine i_part_c ?a ?b ?c); (case a => walk_at "p2"); all_goals first | (intro (z : _ = false)) | (intro q e; subst e))
  | ((with_reducible refine i_up_c ?a ?b ?c); (case a => walk_at "p2"); all_goals first | (intro (z : _ = false)) | (intro q e _; subst e))
  | ((with_reducible refine i_lpart_c ?a ?b ?c); (case a => walk_at "pz"); all_goals first | (intro (z : _ = false)) | (intro q e; subst e)) | fail)

local macro_rules | `(tactic| walk_at "telok") => `(tactic| first | assumption | (apply TelOk.mono; assumption; exact Nat.le_of_ble_eq_true rfl) | (apply TelsOk.mono; assumption; exact Nat.le_of_ble_eq_true rfl) | (apply RowOk.mono; assumption; exact Nat.le_of_ble_eq_true rfl))
local macro_rules | `(tactic| walk_at "au1") => `(tactic| first
  | with_reducible refine r_telsLen ?_ | with_reducible refine r_itTels ?_ | with_reducible refine r_itRow ?_ | with_reducible refine r_rowLen ?_ | with_reducible refine r_wiET ?_ | with_reducible refine r_itET ?_ | with_reducible refine r_itE ?_
  | (with_reducible refine i_check_tellings_ok ?a ?_; (case a => walk_at "telok"))
  | (with_reducible refine i_check_number_ok ?a ?_; (case a => walk_at "side"))
  | (with_reducible refine i_is_kept ?a ?b ?_; (case a => walk_at "telok"); (case b => walk_at "telok"))
  | (with_reducible refine i_first_not_kept ?a ?b ?_; (case a => walk_at "telok"); (case b => walk_at "telok")) | fail)

local macro_rules | `(tactic| walk_at "au1") => `(tactic| first
  | with_reducible refine b_tp4 ?_ | with_reducible refine r_revL ?_ | with_reducible refine r_break ?_ | with_reducible refine r_cont ?_ | fail)

local macro_rules | `(tactic| walk_at "au1") => `(tactic| first
  | (with_reducible refine i_some ?c ?_; (case c => walk_at "pen"); intro q S' _ _ _)
  | (with_reducible refine i_up ?c ?_; (case c => walk_at "pen"); intro q S' _ _ _ _)
  | (with_reducible refine i_row ?c ?_; (case c => walk_at "pen"); intro r S' _ _) | fail)

def lay1 : D → Bool
  | .non => true
  | .bl _ => true
  | .int _ => true
  | _ => false
def stpB : D → Bool
  | .tup xs => decide (xs.length ≤ 100) && xs.all lay1
  | .lst xs => xs.all lay1
  | d => lay1 d
def wayB : D → Bool
  | .tup xs => decide (xs.length ≤ 100) && xs.all stpB
  | .lst xs => xs.all stpB
  | d => lay1 d
def ShL (n : Nat) (d : D) : Prop := ∃ p, (∀ S, toP S d = some p) ∧ p.canLay0 = true ∧ p.depth ≤ n
theorem ShL.list {n : Nat} : ∀ {xs : List D}, (∀ x ∈ xs, ShL n x) → ∃ ps, (∀ S, toPs S xs = some ps) ∧ PyData.canLayAll0 ps = true ∧ PyData.depthAll ps ≤ n ∧ ps.length = xs.length
  | [], _ => ⟨[], fun _ => rfl, rfl, by simp [PyData.depthAll], rfl⟩
  | x :: xs, h => by
    obtain ⟨p, h1, h2, h3⟩ := h x List.mem_cons_self
    obtain ⟨ps, g1, g2, g3, g4⟩ := ShL.list (xs := xs) fun y hy => h y (List.mem_cons_of_mem _ hy)
    refine ⟨p :: ps, fun S => by simp only [toPs, h1 S, g1 S], by simp only [PyData.canLayAll0, h2, g2]; rfl, ?_, by rw [List.length_cons, List.length_cons, g4]⟩
    simp only [PyData.depthAll]
    omega
theorem ShL.tup {n : Nat} {xs : List D} (h : ∀ x ∈ xs, ShL n x) : ∃ ps, (∀ S, toP S (.tup xs) = some (.tuple ps)) ∧ (PyData.tuple ps).canLay0 = true ∧ (PyData.tuple ps).depth ≤ n + 1 ∧ ps.length = xs.length := by
  obtain ⟨ps, h1, h2, h3, h4⟩ := ShL.list h
  refine ⟨ps, fun S => by simp only [toP, h1 S]; rfl, by simp only [PyData.canLay0]; exact h2, ?_, h4⟩
  simp only [PyData.depth]
  omega
theorem ShL.lst {n : Nat} {xs : List D} (h : ∀ x ∈ xs, ShL n x) : ∃ ps, (∀ S, toP S (.lst xs) = some (.list ps)) ∧ (PyData.list ps).canLay0 = true ∧ (PyData.list ps).depth ≤ n + 1 := by
  obtain ⟨ps, h1, h2, h3, h4⟩ := ShL.list h
  refine ⟨ps, fun S => by simp only [toP, h1 S]; rfl, by simp only [PyData.canLay0]; exact h2, ?_⟩
  simp only [PyData.depth]
  omega
theorem lay1_sh {d : D} (h : lay1 d = true) : ShL 0 d := by
  cases d with
  | non => exact ⟨_, fun _ => rfl, rfl, by simp [PyData.depth]⟩
  | bl b => exact ⟨_, fun _ => rfl, rfl, by simp [PyData.depth]⟩
  | int i => exact ⟨_, fun _ => rfl, rfl, by simp [PyData.depth]⟩
  | _ => cases h
theorem ShL.mono {a b : Nat} {d : D} (h : ShL a d) (k : a ≤ b) : ShL b d := by
  obtain ⟨p, h1, h2, h3⟩ := h
  exact ⟨p, h1, h2, by omega⟩
theorem lay1_no {d : D} (h : lay1 d = true) : plainD d = true ∧ isTup d = false := by
  cases d <;> first | exact ⟨rfl, rfl⟩ | cases h
theorem stp_sh {d : D} (h : stpB d = true) : ShL 1 d := by
  unfold stpB at h
  split at h
  · obtain ⟨h1, h2⟩ := Bool.and_eq_true_iff.mp h
    obtain ⟨ps, g1, g2, g3, _⟩ := ShL.tup fun x hx => lay1_sh (List.all_eq_true.mp h2 x hx)
    exact ⟨_, g1, g2, g3⟩
  · obtain ⟨ps, g1, g2, g3⟩ := ShL.lst fun x hx => lay1_sh (List.all_eq_true.mp h x hx)
    exact ⟨_, g1, g2, g3⟩
  · exact (lay1_sh h).mono (by decide)
theorem stp_qz {d : D} (h : stpB d = true) : Qz 100 d := by
  unfold stpB at h
  split at h
  · obtain ⟨h1, h2⟩ := Bool.and_eq_true_iff.mp h
    exact Qz.tup' (of_decide_eq_true h1) fun x hx => by
      have := lay1_no (List.all_eq_true.mp h2 x hx)
      exact Pz.no this.1 this.2
  · exact Qz.no rfl rfl
  · have := lay1_no h
    exact Qz.no this.1 this.2
theorem stp_way {d : D} (h : stpB d = true) : wayB d = true := by
  have key : ∀ x, lay1 x = true → stpB x = true := fun x hx => by cases x <;> first | rfl | cases hx
  unfold stpB at h
  split at h
  · obtain ⟨h1, h2⟩ := Bool.and_eq_true_iff.mp h
    unfold wayB
    simp only
    rw [h1, Bool.true_and, List.all_eq_true]
    exact fun x hx => key x (List.all_eq_true.mp h2 x hx)
  · unfold wayB
    simp only
    rw [List.all_eq_true]
    exact fun x hx => key x (List.all_eq_true.mp h x hx)
  · cases d <;> first | rfl | cases h
theorem way_tz {d : D} (h : wayB d = true) : Tz 100 d := by
  unfold wayB at h
  split at h
  · obtain ⟨h1, h2⟩ := Bool.and_eq_true_iff.mp h
    exact Tz.tup (of_decide_eq_true h1) fun x hx => stp_qz (List.all_eq_true.mp h2 x hx)
  · exact Tz.no rfl rfl
  · have := lay1_no h
    exact Tz.no this.1 this.2
theorem ne_tup0 {x : D} {xs : List D} : D.tup (x :: xs) ≠ .tup [] := fun e => by cases e
theorem r_eqNil0 {S : Sto} {R : KR} {d : D} (h : wayB d = true) (k0 : d = .tup [] → R (.bl true) S) (k1 : R (.bl false) S) : dEq d (.tup []) S R := by
  have key : ∀ (p : PyData) n, toQ S d = some p → p.canLay0 = true → p.depth ≤ n → n ≤ 60 → R (.bl (PyData.eqv p (.tuple []))) S → ∃ p q, toQ S d = some p ∧ toQ S (.tup []) = some q ∧ SeqAt.shaped p = true ∧ SeqAt.shaped q = true ∧ R (.bl (PyData.eqv p q)) S := fun p n h1 h2 h3 h4 h5 =>
    ⟨p, .tuple [], h1, rfl, by unfold SeqAt.shaped; rw [h2, Bool.true_and]; exact decide_eq_true (by omega), by decide +kernel, h5⟩
  unfold wayB at h
  split at h
  · rename_i xs
    obtain ⟨h1, h2⟩ := Bool.and_eq_true_iff.mp h
    obtain ⟨ps, g1, g2, g3, g4⟩ := ShL.tup fun x hx => stp_sh (List.all_eq_true.mp h2 x hx)
    refine key _ 2 (g1 S) g2 g3 (by decide) ?_
    cases xs with
    | nil =>
      have : ps = [] := List.length_eq_zero_iff.mp g4
      subst this
      exact k0 rfl
    | cons x xs =>
      cases ps with
      | nil => cases g4
      | cons p ps =>
        have e : PyData.eqv (.tuple (p :: ps)) (.tuple []) = false := by simp [PyData.eqv, PyData.eqvAll]
        rw [e]
        exact k1
  · obtain ⟨ps, g1, g2, g3⟩ := ShL.lst fun x hx => stp_sh (List.all_eq_true.mp h x hx)
    refine key _ 2 (g1 S) g2 g3 (by decide) ?_
    have e : PyData.eqv (.list ps) (.tuple []) = false := by simp [PyData.eqv]
    rw [e]
    exact k1
  · cases d with
    | non => exact key .none 0 rfl rfl (by simp [PyData.depth]) (by decide) k1
    | bl b => exact key (.bool b) 0 rfl rfl (by simp [PyData.depth]) (by decide) (by have e : PyData.eqv (.bool b) (.tuple []) = false := by simp [PyData.eqv]
                                                                                     rw [e]; exact k1)
    | int i => exact key (.int i) 0 rfl rfl (by simp [PyData.depth]) (by decide) (by have e : PyData.eqv (.int i) (.tuple []) = false := by simp [PyData.eqv]
                                                                                     rw [e]; exact k1)
    | _ => cases h
def Thg (x : D) : Prop := Uz 100 x ∧ ∀ a b, x = .tup [a, b] → wayB b = true
theorem Thg.no {d : D} (h : plainD d = true) (t : isTup d = false) : Thg d := ⟨Uz.no h t, fun a b e => by subst e; cases t⟩
theorem Thg.two {a b : D} (h : plainD a = true) (t : isTup a = false) (hb : wayB b = true) : Thg (.tup [a, b]) := ⟨Uz.tup (Nat.le_of_ble_eq_true rfl) fun x hx => by
  simp only [List.mem_cons, List.not_mem_nil, or_false] at hx
  rcases hx with rfl | rfl
  · exact Tz.no h t
  · exact way_tz hb, fun c e he => by cases he; exact hb⟩
theorem Thg.one {a : D} (h : plainD a = true) (t : isTup a = false) : Thg (.tup [a]) := ⟨Uz.tup (Nat.le_of_ble_eq_true rfl) fun x hx => by
  simp only [List.mem_cons, List.not_mem_nil, or_false] at hx
  subst hx
  exact Tz.no h t, fun c e he => by cases he⟩
theorem Thg.three {a b c : D} (h : plainD a = true) (t : isTup a = false) (hb : wayB b = true) (h' : plainD c = true) (t' : isTup c = false) : Thg (.tup [a, b, c]) := ⟨Uz.tup (Nat.le_of_ble_eq_true rfl) fun x hx => by
  simp only [List.mem_cons, List.not_mem_nil, or_false] at hx
  rcases hx with rfl | rfl | rfl
  · exact Tz.no h t
  · exact way_tz hb
  · exact Tz.no h' t', fun c e he => by cases he⟩
theorem Thg.way {xs : List D} (h : xs.length ≤ 100) (hs : ∀ x ∈ xs, stpB x = true) : Thg (.tup xs) := ⟨Uz.tup h fun x hx => way_tz (stp_way (hs x hx)), fun a b e => by cases e; exact stp_way (hs b (by simp))⟩
theorem wayB_tup {xs : List D} (h : xs.length ≤ 100) (hs : ∀ x ∈ xs, stpB x = true) : wayB (.tup xs) = true := by
  unfold wayB
  simp only
  rw [decide_eq_true h, Bool.true_and, List.all_eq_true]
  exact hs
theorem wayB_lst {xs : List D} (hs : ∀ x ∈ xs, stpB x = true) : wayB (.lst xs) = true := by
  unfold wayB
  simp only
  rw [List.all_eq_true]
  exact hs
def p_law_walk : SpD := fun ds S R _ => ∃ (ts : List Tel) (n : Nat) (d : D), ds = [telsD ts, .int n, d] ∧ TelsOk 30 ts ∧ n < 6 ∧ ThW d ∧ R (nwD (wayD ts n d)) S
def p_law_is_ring : SpD := fun ds S R _ => ∃ (ts : List Tel) (e : D), ds = [telsD ts, e] ∧ TelsOk 30 ts ∧ Thg e ∧ R (.bl (ringB ts e)) S
structure RingOk (c : Nat) (ws : List Arc) : Prop where
  c : c < 6
  lo : 1 ≤ ws.length
  hi : ws.length ≤ 6
  n : ∀ a ∈ ws, a.n ≤ 100
  s : ∀ a ∈ ws, a.s = 1 ∨ a.s = -1
def p_law_things : SpD := fun ds S R _ => ∃ (i : Nat) (ts : List Tel) (o : Option (Nat × List Arc)), ds = [.mu i, telsD ts, ringD o] ∧ Pen S i ∧ (∀ c ws, o = some (c, ws) → RingOk c ws) ∧ ∀ S' n xs, Stm i S S' → S'[n]? = some xs → (∀ x ∈ xs, Thg x) → xs.length ≤ 100 → R (.mu n) S'
section
variable {K : PySem.W.Frag} {S : Sto} {R : KR} {Rx : Er → Sto → Prop} {d e c : D} {n i : Nat} {ts : List Tel} {o : Option (Nat × List Arc)}
theorem i_walk (ht : TelsOk 30 ts) (hn : n < 6) (hd : ThW d) (k : R (nwD (wayD ts n d)) S) : ([telsD ts, D.int (n : Nat), d] ++ ([] : List D)).length = 3 ∧ p_law_walk ([telsD ts, D.int (n : Nat), d] ++ []) S R Rx := ⟨rfl, ts, n, d, rfl, ht, hn, hd, k⟩
theorem i_lring (ht : TelsOk 30 ts) (hd : Thg e) (k : R (.bl (ringB ts e)) S) : ([telsD ts, e] ++ ([] : List D)).length = 2 ∧ p_law_is_ring ([telsD ts, e] ++ []) S R Rx := ⟨rfl, ts, e, rfl, ht, hd, k⟩
theorem i_things (hp : Pen S i) (h : ∀ c ws, o = some (c, ws) → RingOk c ws) (k : ∀ S' n xs, Stm i S S' → S'[n]? = some xs → (∀ x ∈ xs, Thg x) → xs.length ≤ 100 → R (.mu n) S') : ([D.mu i, telsD ts, ringD o] ++ ([] : List D)).length = 3 ∧ p_law_things ([D.mu i, telsD ts, ringD o] ++ []) S R Rx := ⟨rfl, i, ts, o, rfl, hp, h, k⟩
end
def uzB (n : Nat) : D → Bool
  | .tup xs => decide (xs.length ≤ 100) && xs.all (tzB n)
  | d => plainD d
theorem uz_of {n : Nat} {d : D} (h : uzB n d = true) : Uz n d := by
  unfold uzB at h
  split at h
  · obtain ⟨h1, h2⟩ := Bool.and_eq_true_iff.mp h
    exact Uz.tup (of_decide_eq_true h1) fun x hx => tz_of (List.all_eq_true.mp h2 x hx)
  · rename_i hn
    refine ⟨h, fun xs e => (hn xs e).elim⟩
theorem Uz.mono {a b : Nat} {d : D} (h : Uz a d) (k : a ≤ b) : Uz b d := ⟨h.1, fun xs e => ⟨(h.2 xs e).1, fun x hx => ((h.2 xs e).2 x hx).mono k⟩⟩
def thgB (x : D) : Bool := uzB 100 x && (match x with | .tup [_, b] => wayB b | _ => true)
theorem thg_of {x : D} (h : thgB x = true) : Thg x := by
  obtain ⟨h1, h2⟩ := Bool.and_eq_true_iff.mp h
  exact ⟨uz_of h1, fun a b e => by subst e; exact h2⟩
theorem wayD_empty {ts : List Tel} {n : Nat} : wayD ts n (.tup []) = some (n, 0) := rfl
theorem ring_wayE {ts : List Tel} {i : Int} : ringB ts (.tup [.int i, .tup []]) = false := by
  show (if 0 ≤ i ∧ i < 6 then _ else false) = false
  split
  · show (decide (i.toNat = i.toNat) && decide ((0 : Rat) < 0)) = false
    rw [decide_eq_false (show ¬ (0 : Rat) < 0 by decide), Bool.and_false]
  · rfl

end DL

set_option maxHeartbeats 4000000
namespace DL
open PySem PySem.Spec PyProof.Rows L2
local macro_rules | `(tactic| walk_at "go1") => `(tactic| first
  | with_reducible refine r_seq ?_ | with_reducible refine r_asg ?_ | with_reducible refine r_ret ?_ | with_reducible refine r_ifS ?_ | with_reducible refine r_drop ?_ | with_reducible refine r_par ?_ | with_reducible refine r_next ?_ | with_reducible refine r_retN ?_
  | ((with_reducible refine' r_var ?hv ?_); (case hv => rfl)) | with_reducible refine r_c ?_ | with_reducible refine r_bin ?_ | with_reducible refine r_un ?_ | with_reducible refine r_as1 ?_ | with_reducible refine r_as0 ?_
  | with_reducible refine r_cb ?_ | with_reducible refine r_call ?_ | with_reducible refine r_B ?_ | with_reducible refine r_notT ?_ | with_reducible refine r_andT ?_ | with_reducible refine r_orT ?_
  | with_reducible refine r_andV ?_ | with_reducible refine r_orV ?_ | with_reducible refine r_notV ?_ | with_reducible refine r_if ?_ | with_reducible refine r_tup ?_ | with_reducible refine r_lst ?_ | with_reducible refine r_mu ?_
  | with_reducible refine r_cut ?_ | with_reducible refine r_p0 ?_ | with_reducible refine r_p1 ?_ | with_reducible refine r_gN ?_ | ((with_reducible refine r_gT ?hv ?_); (case hv => rfl)) | with_reducible refine r_gs1 ?_ | with_reducible refine r_gs0 ?_
  | ((with_reducible refine r_trueR ?hv ?_); (case hv => first | rfl | assumption)) | ((with_reducible refine r_falseR ?hv ?_); (case hv => first | rfl | assumption)) | with_reducible refine r_bl ?_ | with_reducible refine r_in ?_ | with_reducible refine r_two ?_
  | with_reducible refine r_addI ?_ | with_reducible refine r_subI ?_ | with_reducible refine r_mulI ?_ ?_ | with_reducible refine r_divI ?_ ?_ | with_reducible refine r_modI ?_ ?_ | with_reducible refine r_powI ?_ ?_ | with_reducible refine r_negI ?_
  | with_reducible refine r_lt ?_ | with_reducible refine r_le ?_ | with_reducible refine r_gt ?_ | with_reducible refine r_ge ?_ | with_reducible refine r_is ?_ | with_reducible refine r_isNot ?_ | with_reducible refine r_eqI ?_ | with_reducible refine r_neI ?_ | with_reducible refine r_eqS ?_ | with_reducible refine r_neS ?_
  | with_reducible refine r_ixP0 ?_ | with_reducible refine r_ixP1 ?_ | with_reducible refine r_ix0T ?_ | with_reducible refine r_ix1T ?_ | with_reducible refine r_lenT ?_ | with_reducible refine r_lenL ?_ | with_reducible refine r_lenC ?_
  | with_reducible refine r_abs ?_ | with_reducible refine r_max ?_ | with_reducible refine r_min ?_ | with_reducible refine r_intI ?_ | with_reducible refine r_intB ?_ | with_reducible refine r_tupL ?_ | with_reducible refine r_tupT ?_
  | with_reducible refine r_gcd ?_ | ((with_reducible refine r_isi ?hv ?_); (case hv => first | rfl | assumption)) | with_reducible refine r_sizeT ?_ | with_reducible refine r_sizeL ?_)
local macro_rules | `(tactic| walk_at "go") => `(tactic| repeat' walk_at "go1")
local macro_rules | `(tactic| walk_at "go1") => `(tactic| first
  | with_reducible refine r_lc ?_ | with_reducible refine r_wiT ?_ | with_reducible refine r_wiZ ?_ | with_reducible refine r_wiL ?_ | with_reducible refine r_wiR1 ?_ | with_reducible refine r_for ?_ | with_reducible refine r_yes ?_
  | with_reducible refine b_nm ?_ | with_reducible refine r_setD0 ?_ | with_reducible refine r_setD1 ?_ | ((with_reducible refine' r_setDT ?hv ?_); (case hv => rfl)) | with_reducible refine r_setsD ?_ | with_reducible refine r_setsCut ?_ | with_reducible refine b_tp2 ?_ | with_reducible refine r_trueL ?_ | with_reducible refine r_falseL ?_ )

local macro_rules | `(tactic| walk_at "go1") => `(tactic| first
  | with_reducible refine r_size0 ?_ | with_reducible refine r_size3 ?_ | with_reducible refine r_app ?_ | with_reducible refine r_setIx ?_ | ((with_reducible refine' r_sizeG ?hv ?_); (case hv => rfl)) | ((with_reducible refine' r_addG ?hv ?_); (case hv => rfl)) | ((with_reducible refine' r_addTG ?hv ?_); (case hv => rfl))
  | with_reducible refine r_bmL ?_ | with_reducible refine r_isL ?_ | with_reducible refine r_try ?_ | with_reducible refine r_emp ?_ | with_reducible refine r_raise ?_ | with_reducible refine r_chain ?_ | with_reducible refine r_mulGI ?_ ?_
  | with_reducible refine r_wiET ?_ | with_reducible refine r_telLen ?_ | with_reducible refine r_telsLen ?_ | with_reducible refine r_rowLen ?_ | ((with_reducible refine' r_telT ?hv ?_); (case hv => rfl)))

local macro_rules | `(tactic| walk_at "szs") => `(tactic| first
  | assumption
  | ((with_reducible apply Sz.add); walk_at "szs"; walk_at "szs")
  | ((with_reducible apply Sz.sub); walk_at "szs"; walk_at "szs")
  | ((with_reducible apply Sz.mul); walk_at "szs"; walk_at "szs")
  | ((with_reducible apply Sz.neg); walk_at "szs")
  | (apply Pz.sz; assumption) | exact sz0 | exact sz1 | exact sz24
  | ((with_reducible apply sz_abs); walk_at "szs"))
local macro_rules | `(tactic| walk_at "sz") => `(tactic| (apply Sz.mono; walk_at "szs"; exact Nat.le_of_ble_eq_true rfl))
local macro_rules | `(tactic| walk_at "pen") => `(tactic| first | assumption | (apply Stm.pen; assumption) | (apply stm_st; assumption) | (apply stm_st; apply Stm.pen; assumption))
local macro_rules | `(tactic| walk_at "stm") => `(tactic| first | assumption | exact Stm.of (by walk_at "pen") | (refine Stm.trans ?_ (by assumption); walk_at "stm") | (refine Stm.trans ?_ (Stm.new (by walk_at "pen")); walk_at "stm"))
local macro_rules | `(tactic| walk_at "side") => `(tactic| first | assumption | rfl | omega | decide | walk_at "sz" | walk_at "pen")
local macro_rules | `(tactic| walk_at "au") => `(tactic| repeat' walk_at "au1")
local macro_rules | `(tactic| walk_at "au1") => `(tactic| first
  | walk_at "go1"
  | (with_reducible refine i_next ?_; intro r _ _)
  | (with_reducible refine i_draw ?a ?b ?c ?_; (case a => walk_at "side"); (case b => walk_at "side"); (case c => walk_at "pen"); intro x S' _ _ _)
  | (with_reducible refine i_sum_of ?a ?b ?_; (case a => walk_at "sz"); (case b => walk_at "sz"))
  | (with_reducible refine i_difference_of ?a ?b ?_; (case a => walk_at "sz"); (case b => walk_at "sz"))
  | (with_reducible refine i_product_of ?a ?b ?_; (case a => walk_at "sz"); (case b => walk_at "sz"))
  | (with_reducible refine i_is_below ?a ?b ?_; (case a => walk_at "sz"); (case b => walk_at "sz"))
  | (with_reducible refine i_added ?a ?b ?_; (case a => walk_at "sz"); (case b => walk_at "sz"))
  | (with_reducible refine i_less ?a ?b ?_; (case a => walk_at "sz"); (case b => walk_at "sz"))
  | (with_reducible refine i_times ?a ?b ?_; (case a => walk_at "sz"); (case b => walk_at "sz"))
  | (with_reducible refine i_is_less ?a ?b ?_; (case a => walk_at "sz"); (case b => walk_at "sz"))
  | (with_reducible refine i_sum ?a ?b ?_; (case a => walk_at "sz"); (case b => walk_at "sz"))
  | (with_reducible refine i_rest ?a ?b ?_; (case a => walk_at "sz"); (case b => walk_at "sz"))
  | (with_reducible refine i_prod ?a ?b ?_; (case a => walk_at "sz"); (case b => walk_at "sz"))
  | (with_reducible refine i_under ?a ?b ?_; (case a => walk_at "sz"); (case b => walk_at "sz"))
  | with_reducible refine i_is_part_pt ?_
  | with_reducible refine r_intB ?_
  | (with_reducible refine r_rng1 ?a ?b ?_; (case a => decide); (case b => decide)) | with_reducible refine r_ix0L ?_ | with_reducible refine r_muE ?_ | with_reducible refine r_itL ?_ | with_reducible refine r_itT ?_
  | with_reducible refine r_par3 ?_ | with_reducible refine r_three ?_ | with_reducible refine r_gSub ?_ | with_reducible refine r_lstM ?_ | with_reducible refine r_lstT ?_ | with_reducible refine r_turn ?_ | with_reducible refine r_callK ?_
  | with_reducible refine i_opposite ?_
  | ((with_reducible refine' r_ixT ?hv ?_); (case hv => rfl))
  | ((with_reducible refine' r_ixL ?hv ?_); (case hv => rfl)) | fail)
local macro_rules | `(tactic| walk_at "au1") => `(tactic| first
  | (with_reducible refine r_modI ?a ?_; (case a => decide))
  | (with_reducible refine r_divI ?a ?_; (case a => exact ⟨by decide, by decide⟩))
  | (with_reducible refine r_powI ?a ?_; (case a => exact ⟨by decide, by decide, by decide⟩)) | fail)
local macro_rules | `(tactic| walk_at "br") => `(tactic| first
  | (with_reducible refine r_bothT ?_ ?_ <;> intro z)
  | (with_reducible refine r_bothF ?_ ?_ <;> intro z)
  | (with_reducible refine r_bothD ?_ ?_ <;> intro z)
  | (with_reducible refine r_bothN ?_ ?_ <;> intro z)
  | (with_reducible refine r_both ?_ ?_ <;> intro z) | fail)
local macro_rules | `(tactic| walk_at "ab") => `(tactic| repeat' first | walk_at "au1" | walk_at "br")

local macro_rules | `(tactic| walk_at "shd") => `(tactic| first
  | assumption | exact ShD.non | exact ShD.bl | exact ShD.lit (by decide) | exact ShD.str (by decide +kernel) (by decide +kernel)
  | (apply ShD.nat; omega)
  | (apply ShD.pt (by walk_at "szs"); exact (Nat.ble_eq_true_of_le (of_decide_eq_true rfl)))
  | (apply ShD.tup; walk_at "shds") | (apply ShD.lst; walk_at "shds"))
local macro_rules | `(tactic| walk_at "shds") => `(tactic| first
  | assumption | exact ShDs.nil | (apply ShDs.cons; walk_at "shd"; walk_at "shds"))

local macro_rules | `(tactic| walk_at "au1") => `(tactic| first
  | (with_reducible refine r_neSS rfl ?_)
  | ((with_reducible refine' r_reprD ?a ?b ?c ?_); (case a => walk_at "shd"); (case b => rfl); (case c => rfl)) | fail)

local macro_rules | `(tactic| walk_at "szs") => `(tactic| ((with_reducible apply Sz.div); walk_at "szs"; walk_at "szs"; assumption))
local macro_rules | `(tactic| walk_at "au1") => `(tactic| first
  | with_reducible refine r_eqPt ?_ | with_reducible refine r_nePt ?_ | with_reducible refine r_eqN ?_ | with_reducible refine r_neN ?_
  | (with_reducible refine n_difference_of1 ?a ?_; (case a => walk_at "sz"))
  | (with_reducible refine n_rest1 ?a ?_; (case a => walk_at "sz"))
  | (with_reducible refine i_divided ?z ?a ?b ?_; (case z => assumption); (case a => walk_at "sz"); (case b => walk_at "sz"))
  | (with_reducible refine i_by ?z ?a ?b ?_; (case z => assumption); (case a => walk_at "sz"); (case b => walk_at "sz"))
  | (with_reducible refine i_between2 ?a ?b ?c ?_; (case a => walk_at "sz"); (case b => walk_at "sz"); (case c => walk_at "sz")) | fail)
local macro_rules | `(tactic| walk_at "pD") => `(tactic| first | rfl | assumption | (apply Pz.pD; assumption))
local macro_rules | `(tactic| walk_at "p2") => `(tactic| first | rfl | assumption | (apply Pz.p2; assumption))
local macro_rules | `(tactic| walk_at "pz") => `(tactic| first | assumption | (apply Pz.mono; (first | assumption | (apply Pz.pt; walk_at "szs")); exact Nat.le_of_ble_eq_true rfl))
local macro_rules | `(tactic| walk_at "au1") => `(tactic| first
  | (with_reducible refine i_part ?a ?b ?c ?_; (case a => walk_at "side"); (case b => walk_at "side"); (case c => walk_at "pen"); intro q S' _ _)
  | (with_reducible refine i_above ?a ?b ?c ?_; (case a => walk_at "side"); (case b => walk_at "side"); (case c => walk_at "pen"); intro q S' _ _ _)
  | (with_reducible refine i_odd ?c ?_; (case c => walk_at "pen"); intro d S' _ _)
  | ((with_reducible refine i_clk_c ?a ?b ?c); (case a => walk_at "pD"); all_goals first | (intro (z : _ = false)) | (intro n e _; subst e))
  | ((with_reducible refine i_lclk_c ?a ?b ?c); (case a => walk_at "pD"); all_goals first | (intro (z : _ = false)) | (intro n e _; subst e))
  | ((with_reducible refine i_part_c ?a ?b ?c); (case a => walk_at "p2"); all_goals first | (intro (z : _ = false)) | (intro q e; subst e))
  | ((with_reducible refine i_up_c ?a ?b ?c); (case a => walk_at "p2"); all_goals first | (intro (z : _ = false)) | (intro q e _; subst e))
  | ((with_reducible refine i_lpart_c ?a ?b ?c); (case a => walk_at "pz"); all_goals first | (intro (z : _ = false)) | (intro q e; subst e)) | fail)

local macro_rules | `(tactic| walk_at "telok") => `(tactic| first | assumption | (apply TelOk.mono; assumption; exact Nat.le_of_ble_eq_true rfl) | (apply TelsOk.mono; assumption; exact Nat.le_of_ble_eq_true rfl) | (apply RowOk.mono; assumption; exact Nat.le_of_ble_eq_true rfl))
local macro_rules | `(tactic| walk_at "au1") => `(tactic| first
  | with_reducible refine r_telsLen ?_ | with_reducible refine r_itTels ?_ | with_reducible refine r_itRow ?_ | with_reducible refine r_rowLen ?_ | with_reducible refine r_wiET ?_ | with_reducible refine r_itET ?_ | with_reducible refine r_itE ?_
  | (with_reducible refine i_check_tellings_ok ?a ?_; (case a => walk_at "telok"))
  | (with_reducible refine i_check_number_ok ?a ?_; (case a => walk_at "side"))
  | (with_reducible refine i_is_kept ?a ?b ?_; (case a => walk_at "telok"); (case b => walk_at "telok"))
  | (with_reducible refine i_first_not_kept ?a ?b ?_; (case a => walk_at "telok"); (case b => walk_at "telok")) | fail)

local macro_rules | `(tactic| walk_at "au1") => `(tactic| first
  | with_reducible refine b_tp4 ?_ | with_reducible refine r_revL ?_ | with_reducible refine r_break ?_ | with_reducible refine r_cont ?_ | fail)

local macro_rules | `(tactic| walk_at "au1") => `(tactic| first
  | (with_reducible refine i_some ?c ?_; (case c => walk_at "pen"); intro q S' _ _ _)
  | (with_reducible refine i_up ?c ?_; (case c => walk_at "pen"); intro q S' _ _ _ _)
  | (with_reducible refine i_row ?c ?_; (case c => walk_at "pen"); intro r S' _ _) | fail)

theorem arc_step {ts : List Tel} {a : Arc} (ha : a ∈ arcsR ts) : a.n < ts.length ∧ (a.s = 1 ∨ a.s = -1) ∧ ∃ t, stepB ts (stepD a) = some (t, a.s) ∧ ∀ q, goW t a.s (a.b, q) = some (a.e, q + a.l) := by
  obtain ⟨k, t, hk, hm⟩ := arcs_mem.mp ha
  rw [Nat.zero_add] at hm
  have hl := (List.getElem?_eq_some_iff.mp hk).1
  have key : ∀ s : Int, s = 1 ∨ s = -1 → stepB ts (.tup [.int (k : Nat), .int s]) = some (t, s) := fun s hs => by
    show (if 0 ≤ (k : Int) ∧ (k : Int) < ts.length ∧ (s = 1 ∨ s = -1) then (ts[(k : Int).toNat]?).map fun t => (t, s) else none) = _
    rw [if_pos ⟨by omega, by omega, hs⟩, Int.toNat_natCast, hk]
    rfl
  rcases arcsT_mem.mp hm with ⟨h, e, rfl⟩ | ⟨l, e, rfl⟩
  · refine ⟨hl, .inl rfl, t, key 1 (.inl rfl), fun q => ?_⟩
    unfold goW
    rw [if_pos rfl, if_pos rfl, e]
    rfl
  · refine ⟨hl, .inr rfl, t, key (-1) (.inr rfl), fun q => ?_⟩
    unfold goW
    rw [if_neg (show ¬ (-1 : Int) = 1 by decide), if_pos rfl, e]
    show some (t.one, q - l) = some (t.one, q + -l)
    rw [Rat.sub_eq_add_neg]
theorem told_way {ts : List Tel} {as : List Arc} {u v : Nat} (h : Wkl (arcsR ts) as u v) : ∀ q, wayG ts (as.map stepD) (u, q) = some (v, q + sumA as) := by
  induction h with
  | nil v =>
    intro q
    show some (v, q) = some (v, q + 0)
    rw [Rat.add_zero]
  | @cons v a as ha _ ih =>
    intro q
    obtain ⟨_, _, t, h1, h2⟩ := arc_step ha
    rw [List.map_cons, wayG_cons, h1]
    simp only [h2]
    rw [ih (q + a.l)]
    show some (v, q + a.l + sumA as) = some (v, q + (a.l + sumA as))
    rw [Rat.add_assoc]
theorem Wkl.mem {arcs as : List Arc} {u v : Nat} (h : Wkl arcs as u v) : ∀ a ∈ as, a ∈ arcs := by
  induction h with
  | nil => exact fun a ha => by cases ha
  | cons ha _ ih =>
    intro b hb
    rcases List.mem_cons.mp hb with rfl | hb
    · exact ha
    · exact ih b hb
theorem r_neBB {S : Sto} {R : KR} {a b : Bool} (e : a = b) (k : R (.bl false) S) : dNe (.bl a) (.bl b) S R := by
  subst e
  refine ⟨.bool a, .bool a, rfl, rfl, by cases a <;> rfl, by cases a <;> rfl, ?_⟩
  have e : PyData.eqv (.bool a) (.bool a) = true := by cases a <;> rfl
  rw [e]
  exact k
theorem told_ok {ts : List Tel} (h6 : Six (arcsR ts)) (hl : ts.length ≤ 100) {c : Nat} {ws : List Arc} (h : ringR (arcsR ts) = some (c, ws)) : RingOk c ws ∧ ringB ts (ringD (some (c, ws))) = true ∧ Thg (ringD (some (c, ws))) := by
  obtain ⟨hc, hw, hs, h1, h2⟩ := ringR_some h6 h
  refine ⟨⟨hc, h1, h2, fun a ha => ?_, fun a ha => (arc_step (hw.mem a ha)).2.1⟩, ?_, .two rfl rfl (wayB_tup (by rw [List.length_map]; omega) fun x hx => ?_)⟩
  · have := (arc_step (hw.mem a ha)).1
    omega
  · show ringB ts (.tup [.int (c : Nat), .tup (ws.map stepD)]) = true
    rw [ring_n hc]
    have e : wayD ts c (.tup (ws.map stepD)) = some (c, 0 + sumA ws) := by
      show (if (ws.map stepD).length ≤ 60 then wayG ts (ws.map stepD) (c, 0) else none) = _
      rw [if_pos (by rw [List.length_map]; omega), told_way hw]
    rw [e, Rat.zero_add]
    show (decide (c = c) && decide (sumA ws < 0)) = true
    rw [decide_eq_true rfl, decide_eq_true hs]
    rfl
  · obtain ⟨a, _, rfl⟩ := List.mem_map.mp hx
    rfl

end DL

set_option maxHeartbeats 4000000
namespace DL
open PySem PySem.Spec PyProof.Rows L2
local macro_rules | `(tactic| walk_at "go1") => `(tactic| first
  | with_reducible refine r_seq ?_ | with_reducible refine r_asg ?_ | with_reducible refine r_ret ?_ | with_reducible refine r_ifS ?_ | with_reducible refine r_drop ?_ | with_reducible refine r_par ?_ | with_reducible refine r_next ?_ | with_reducible refine r_retN ?_
  | ((with_reducible refine' r_var ?hv ?_); (case hv => rfl)) | with_reducible refine r_c ?_ | with_reducible refine r_bin ?_ | with_reducible refine r_un ?_ | with_reducible refine r_as1 ?_ | with_reducible refine r_as0 ?_
  | with_reducible refine r_cb ?_ | with_reducible refine r_call ?_ | with_reducible refine r_B ?_ | with_reducible refine r_notT ?_ | with_reducible refine r_andT ?_ | with_reducible refine r_orT ?_
  | with_reducible refine r_andV ?_ | with_reducible refine r_orV ?_ | with_reducible refine r_notV ?_ | with_reducible refine r_if ?_ | with_reducible refine r_tup ?_ | with_reducible refine r_lst ?_ | with_reducible refine r_mu ?_
  | with_reducible refine r_cut ?_ | with_reducible refine r_p0 ?_ | with_reducible refine r_p1 ?_ | with_reducible refine r_gN ?_ | ((with_reducible refine r_gT ?hv ?_); (case hv => rfl)) | with_reducible refine r_gs1 ?_ | with_reducible refine r_gs0 ?_
  | ((with_reducible refine r_trueR ?hv ?_); (case hv => first | rfl | assumption)) | ((with_reducible refine r_falseR ?hv ?_); (case hv => first | rfl | assumption)) | with_reducible refine r_bl ?_ | with_reducible refine r_in ?_ | with_reducible refine r_two ?_
  | with_reducible refine r_addI ?_ | with_reducible refine r_subI ?_ | with_reducible refine r_mulI ?_ ?_ | with_reducible refine r_divI ?_ ?_ | with_reducible refine r_modI ?_ ?_ | with_reducible refine r_powI ?_ ?_ | with_reducible refine r_negI ?_
  | with_reducible refine r_lt ?_ | with_reducible refine r_le ?_ | with_reducible refine r_gt ?_ | with_reducible refine r_ge ?_ | with_reducible refine r_is ?_ | with_reducible refine r_isNot ?_ | with_reducible refine r_eqI ?_ | with_reducible refine r_neI ?_ | with_reducible refine r_eqS ?_ | with_reducible refine r_neS ?_
  | with_reducible refine r_ixP0 ?_ | with_reducible refine r_ixP1 ?_ | with_reducible refine r_ix0T ?_ | with_reducible refine r_ix1T ?_ | with_reducible refine r_lenT ?_ | with_reducible refine r_lenL ?_ | with_reducible refine r_lenC ?_
  | with_reducible refine r_abs ?_ | with_reducible refine r_max ?_ | with_reducible refine r_min ?_ | with_reducible refine r_intI ?_ | with_reducible refine r_intB ?_ | with_reducible refine r_tupL ?_ | with_reducible refine r_tupT ?_
  | with_reducible refine r_gcd ?_ | ((with_reducible refine r_isi ?hv ?_); (case hv => first | rfl | assumption)) | with_reducible refine r_sizeT ?_ | with_reducible refine r_sizeL ?_)
local macro_rules | `(tactic| walk_at "go") => `(tactic| repeat' walk_at "go1")
local macro_rules | `(tactic| walk_at "go1") => `(tactic| first
  | with_reducible refine r_lc ?_ | with_reducible refine r_wiT ?_ | with_reducible refine r_wiZ ?_ | with_reducible refine r_wiL ?_ | with_reducible refine r_wiR1 ?_ | with_reducible refine r_for ?_ | with_reducible refine r_yes ?_
  | with_reducible refine b_nm ?_ | with_reducible refine r_setD0 ?_ | with_reducible refine r_setD1 ?_ | ((with_reducible refine' r_setDT ?hv ?_); (case hv => rfl)) | with_reducible refine r_setsD ?_ | with_reducible refine r_setsCut ?_ | with_reducible refine b_tp2 ?_ | with_reducible refine r_trueL ?_ | with_reducible refine r_falseL ?_ )

local macro_rules | `(tactic| walk_at "go1") => `(tactic| first
  | with_reducible refine r_size0 ?_ | with_reducible refine r_size3 ?_ | with_reducible refine r_app ?_ | with_reducible refine r_setIx ?_ | ((with_reducible refine' r_sizeG ?hv ?_); (case hv => rfl)) | ((with_reducible refine' r_addG ?hv ?_); (case hv => rfl)) | ((with_reducible refine' r_addTG ?hv ?_); (case hv => rfl))
  | with_reducible refine r_bmL ?_ | with_reducible refine r_isL ?_ | with_reducible refine r_try ?_ | with_reducible refine r_emp ?_ | with_reducible refine r_raise ?_ | with_reducible refine r_chain ?_ | with_reducible refine r_mulGI ?_ ?_
  | with_reducible refine r_wiET ?_ | with_reducible refine r_telLen ?_ | with_reducible refine r_telsLen ?_ | with_reducible refine r_rowLen ?_ | ((with_reducible refine' r_telT ?hv ?_); (case hv => rfl)))

local macro_rules | `(tactic| walk_at "szs") => `(tactic| first
  | assumption
  | ((with_reducible apply Sz.add); walk_at "szs"; walk_at "szs")
  | ((with_reducible apply Sz.sub); walk_at "szs"; walk_at "szs")
  | ((with_reducible apply Sz.mul); walk_at "szs"; walk_at "szs")
  | ((with_reducible apply Sz.neg); walk_at "szs")
  | (apply Pz.sz; assumption) | exact sz0 | exact sz1 | exact sz24
  | ((with_reducible apply sz_abs); walk_at "szs"))
local macro_rules | `(tactic| walk_at "sz") => `(tactic| (apply Sz.mono; walk_at "szs"; exact Nat.le_of_ble_eq_true rfl))
local macro_rules | `(tactic| walk_at "pen") => `(tactic| first | assumption | (apply Stm.pen; assumption) | (apply stm_st; assumption) | (apply stm_st; apply Stm.pen; assumption))
local macro_rules | `(tactic| walk_at "stm") => `(tactic| first | assumption | exact Stm.of (by walk_at "pen") | (refine Stm.trans ?_ (by assumption); walk_at "stm") | (refine Stm.trans ?_ (Stm.new (by walk_at "pen")); walk_at "stm"))
local macro_rules | `(tactic| walk_at "side") => `(tactic| first | assumption | rfl | omega | decide | walk_at "sz" | walk_at "pen")
local macro_rules | `(tactic| walk_at "au") => `(tactic| repeat' walk_at "au1")
local macro_rules | `(tactic| walk_at "au1") => `(tactic| first
  | walk_at "go1"
  | (with_reducible refine i_next ?_; intro r _ _)
  | (with_reducible refine i_draw ?a ?b ?c ?_; (case a => walk_at "side"); (case b => walk_at "side"); (case c => walk_at "pen"); intro x S' _ _ _)
  | (with_reducible refine i_sum_of ?a ?b ?_; (case a => walk_at "sz"); (case b => walk_at "sz"))
  | (with_reducible refine i_difference_of ?a ?b ?_; (case a => walk_at "sz"); (case b => walk_at "sz"))
  | (with_reducible refine i_product_of ?a ?b ?_; (case a => walk_at "sz"); (case b => walk_at "sz"))
  | (with_reducible refine i_is_below ?a ?b ?_; (case a => walk_at "sz"); (case b => walk_at "sz"))
  | (with_reducible refine i_added ?a ?b ?_; (case a => walk_at "sz"); (case b => walk_at "sz"))
  | (with_reducible refine i_less ?a ?b ?_; (case a => walk_at "sz"); (case b => walk_at "sz"))
  | (with_reducible refine i_times ?a ?b ?_; (case a => walk_at "sz"); (case b => walk_at "sz"))
  | (with_reducible refine i_is_less ?a ?b ?_; (case a => walk_at "sz"); (case b => walk_at "sz"))
  | (with_reducible refine i_sum ?a ?b ?_; (case a => walk_at "sz"); (case b => walk_at "sz"))
  | (with_reducible refine i_rest ?a ?b ?_; (case a => walk_at "sz"); (case b => walk_at "sz"))
  | (with_reducible refine i_prod ?a ?b ?_; (case a => walk_at "sz"); (case b => walk_at "sz"))
  | (with_reducible refine i_under ?a ?b ?_; (case a => walk_at "sz"); (case b => walk_at "sz"))
  | with_reducible refine i_is_part_pt ?_
  | with_reducible refine r_intB ?_
  | (with_reducible refine r_rng1 ?a ?b ?_; (case a => decide); (case b => decide)) | with_reducible refine r_ix0L ?_ | with_reducible refine r_muE ?_ | with_reducible refine r_itL ?_ | with_reducible refine r_itT ?_
  | with_reducible refine r_par3 ?_ | with_reducible refine r_three ?_ | with_reducible refine r_gSub ?_ | with_reducible refine r_lstM ?_ | with_reducible refine r_lstT ?_ | with_reducible refine r_turn ?_ | with_reducible refine r_callK ?_
  | with_reducible refine i_opposite ?_
  | ((with_reducible refine' r_ixT ?hv ?_); (case hv => rfl))
  | ((with_reducible refine' r_ixL ?hv ?_); (case hv => rfl)) | fail)
local macro_rules | `(tactic| walk_at "au1") => `(tactic| first
  | (with_reducible refine r_modI ?a ?_; (case a => decide))
  | (with_reducible refine r_divI ?a ?_; (case a => exact ⟨by decide, by decide⟩))
  | (with_reducible refine r_powI ?a ?_; (case a => exact ⟨by decide, by decide, by decide⟩)) | fail)
local macro_rules | `(tactic| walk_at "br") => `(tactic| first
  | (with_reducible refine r_bothT ?_ ?_ <;> intro z)
  | (with_reducible refine r_bothF ?_ ?_ <;> intro z)
  | (with_reducible refine r_bothD ?_ ?_ <;> intro z)
  | (with_reducible refine r_bothN ?_ ?_ <;> intro z)
  | (with_reducible refine r_both ?_ ?_ <;> intro z) | fail)
local macro_rules | `(tactic| walk_at "ab") => `(tactic| repeat' first | walk_at "au1" | walk_at "br")

local macro_rules | `(tactic| walk_at "shd") => `(tactic| first
  | assumption | exact ShD.non | exact ShD.bl | exact ShD.lit (by decide) | exact ShD.str (by decide +kernel) (by decide +kernel)
  | (apply ShD.nat; omega)
  | (apply ShD.pt (by walk_at "szs"); exact (Nat.ble_eq_true_of_le (of_decide_eq_true rfl)))
  | (apply ShD.tup; walk_at "shds") | (apply ShD.lst; walk_at "shds"))
local macro_rules | `(tactic| walk_at "shds") => `(tactic| first
  | assumption | exact ShDs.nil | (apply ShDs.cons; walk_at "shd"; walk_at "shds"))

local macro_rules | `(tactic| walk_at "au1") => `(tactic| first
  | (with_reducible refine r_neSS rfl ?_)
  | ((with_reducible refine' r_reprD ?a ?b ?c ?_); (case a => walk_at "shd"); (case b => rfl); (case c => rfl)) | fail)

local macro_rules | `(tactic| walk_at "szs") => `(tactic| ((with_reducible apply Sz.div); walk_at "szs"; walk_at "szs"; assumption))
local macro_rules | `(tactic| walk_at "au1") => `(tactic| first
  | with_reducible refine r_eqPt ?_ | with_reducible refine r_nePt ?_ | with_reducible refine r_eqN ?_ | with_reducible refine r_neN ?_
  | (with_reducible refine n_difference_of1 ?a ?_; (case a => walk_at "sz"))
  | (with_reducible refine n_rest1 ?a ?_; (case a => walk_at "sz"))
  | (with_reducible refine i_divided ?z ?a ?b ?_; (case z => assumption); (case a => walk_at "sz"); (case b => walk_at "sz"))
  | (with_reducible refine i_by ?z ?a ?b ?_; (case z => assumption); (case a => walk_at "sz"); (case b => walk_at "sz"))
  | (with_reducible refine i_between2 ?a ?b ?c ?_; (case a => walk_at "sz"); (case b => walk_at "sz"); (case c => walk_at "sz")) | fail)
local macro_rules | `(tactic| walk_at "pD") => `(tactic| first | rfl | assumption | (apply Pz.pD; assumption))
local macro_rules | `(tactic| walk_at "p2") => `(tactic| first | rfl | assumption | (apply Pz.p2; assumption))
local macro_rules | `(tactic| walk_at "pz") => `(tactic| first | assumption | (apply Pz.mono; (first | assumption | (apply Pz.pt; walk_at "szs")); exact Nat.le_of_ble_eq_true rfl))
local macro_rules | `(tactic| walk_at "au1") => `(tactic| first
  | (with_reducible refine i_part ?a ?b ?c ?_; (case a => walk_at "side"); (case b => walk_at "side"); (case c => walk_at "pen"); intro q S' _ _)
  | (with_reducible refine i_above ?a ?b ?c ?_; (case a => walk_at "side"); (case b => walk_at "side"); (case c => walk_at "pen"); intro q S' _ _ _)
  | (with_reducible refine i_odd ?c ?_; (case c => walk_at "pen"); intro d S' _ _)
  | ((with_reducible refine i_clk_c ?a ?b ?c); (case a => walk_at "pD"); all_goals first | (intro (z : _ = false)) | (intro n e _; subst e))
  | ((with_reducible refine i_lclk_c ?a ?b ?c); (case a => walk_at "pD"); all_goals first | (intro (z : _ = false)) | (intro n e _; subst e))
  | ((with_reducible refine i_part_c ?a ?b ?c); (case a => walk_at "p2"); all_goals first | (intro (z : _ = false)) | (intro q e; subst e))
  | ((with_reducible refine i_up_c ?a ?b ?c); (case a => walk_at "p2"); all_goals first | (intro (z : _ = false)) | (intro q e _; subst e))
  | ((with_reducible refine i_lpart_c ?a ?b ?c); (case a => walk_at "pz"); all_goals first | (intro (z : _ = false)) | (intro q e; subst e)) | fail)

local macro_rules | `(tactic| walk_at "telok") => `(tactic| first | assumption | (apply TelOk.mono; assumption; exact Nat.le_of_ble_eq_true rfl) | (apply TelsOk.mono; assumption; exact Nat.le_of_ble_eq_true rfl) | (apply RowOk.mono; assumption; exact Nat.le_of_ble_eq_true rfl))
local macro_rules | `(tactic| walk_at "au1") => `(tactic| first
  | with_reducible refine r_telsLen ?_ | with_reducible refine r_itTels ?_ | with_reducible refine r_itRow ?_ | with_reducible refine r_rowLen ?_ | with_reducible refine r_wiET ?_ | with_reducible refine r_itET ?_ | with_reducible refine r_itE ?_
  | (with_reducible refine i_check_tellings_ok ?a ?_; (case a => walk_at "telok"))
  | (with_reducible refine i_check_number_ok ?a ?_; (case a => walk_at "side"))
  | (with_reducible refine i_is_kept ?a ?b ?_; (case a => walk_at "telok"); (case b => walk_at "telok"))
  | (with_reducible refine i_first_not_kept ?a ?b ?_; (case a => walk_at "telok"); (case b => walk_at "telok")) | fail)

local macro_rules | `(tactic| walk_at "au1") => `(tactic| first
  | with_reducible refine b_tp4 ?_ | with_reducible refine r_revL ?_ | with_reducible refine r_break ?_ | with_reducible refine r_cont ?_ | fail)

local macro_rules | `(tactic| walk_at "au1") => `(tactic| first
  | (with_reducible refine i_some ?c ?_; (case c => walk_at "pen"); intro q S' _ _ _)
  | (with_reducible refine i_up ?c ?_; (case c => walk_at "pen"); intro q S' _ _ _ _)
  | (with_reducible refine i_row ?c ?_; (case c => walk_at "pen"); intro r S' _ _) | fail)

def p_law_is_row : SpD := fun ds S R _ => ∃ d, ds = [d] ∧ Qz 4000 d ∧ R (.bl (isRow d)) S
def p_law_broken : SpD := fun ds S R _ => ∃ ts r, ds = [telsD ts, rowD r] ∧ TelsOk 1500 ts ∧ RowOk 1500 r ∧ R (oN (brokenR r ts)) S
section
variable {K : PySem.W.Frag} {S : Sto} {R : KR} {Rx : Er → Sto → Prop} {d : D} {ts : List Tel} {r : List Rat}
theorem i_lis_row (z : Qz 4000 d) (k : R (.bl (isRow d)) S) : ([d] ++ ([] : List D)).length = 1 ∧ p_law_is_row ([d] ++ []) S R Rx := ⟨rfl, d, rfl, z, k⟩
theorem i_lbroken (h1 : TelsOk 1500 ts) (h2 : RowOk 1500 r) (k : R (oN (brokenR r ts)) S) : ([telsD ts, rowD r] ++ ([] : List D)).length = 2 ∧ p_law_broken ([telsD ts, rowD r] ++ []) S R Rx := ⟨rfl, ts, r, rfl, h1, h2, k⟩
end
theorem sh_oN {n : Option Nat} (h : ∀ k, n = some k → k < 2 ^ 20) : ShD 20 0 (oN n) := by
  cases n with
  | none => exact ShD.non.mono (by decide) (by decide)
  | some k => exact ShD.nat (h k rfl)
theorem broken_lt {r : List Rat} {ts : List Tel} {k : Nat} (h : brokenR r ts = some k) : k < ts.length := (List.findIdx?_eq_some_iff_getElem.mp h).1
theorem sh_broken {r : List Rat} {ts : List Tel} (h : ts.length ≤ 16) : ShD 20 0 (oN (brokenR r ts)) := sh_oN fun k e => by have := broken_lt e; omega
theorem row_set {n : Nat} {r : List Rat} {k : Nat} {q : Rat} (h : RowOk n r) (hk0 : 0 < k) (hk : k < 6) (hq : Sz n q) : RowOk n (r.take k ++ [q] ++ r.drop (k + 1)) := by
  refine ⟨?_, ?_, fun x hx => ?_⟩
  · simp only [List.length_append, List.length_take, List.length_drop, h.len, List.length_singleton]
    omega
  · rw [List.getElem?_append_left (by simp only [List.length_append, List.length_take, h.len, List.length_singleton]; omega), List.getElem?_append_left (by simp only [List.length_take, h.len]; omega), List.getElem?_take_of_lt hk0]
    exact h.nil
  · rcases List.mem_append.mp hx with hx | hx
    · rcases List.mem_append.mp hx with hx | hx
      · exact h.ea x (List.mem_of_mem_take hx)
      · rw [List.mem_singleton.mp hx]
        exact hq
    · exact h.ea x (List.mem_of_mem_drop hx)
theorem pz_pt {n : Nat} {q : Rat} (h : Sz n q) : Pz n (pt q) := ⟨rfl, fun a b e => by
  have e : D.tup [.int q.num, .int q.den] = .tup [.int a, .int b] := e
  cases e
  exact ⟨h.1, by rw [Int.natAbs_natCast]; exact h.2⟩⟩
theorem row_pz {n : Nat} {r : List Rat} (h : RowOk n r) {x : D} (hx : x ∈ r.map pt) : Pz n x := by
  obtain ⟨q, hq, rfl⟩ := List.mem_map.mp hx
  exact pz_pt (h.ea q hq)
theorem len_map6 {r : List Rat} (h : r.length = 6) : (r.map pt).length = 6 := by rw [List.length_map, h]
theorem bad_len {xs : List D} (h : xs.length ≠ 6) : isRow (.tup xs) = false := by
  show (decide (xs.length = 6) && _) = false
  rw [decide_eq_false h, Bool.false_and]
theorem bad_mem {xs : List D} {x : D} (hx : x ∈ xs) (h : isPart x = false) : isRow (.tup xs) = false := by
  show (decide (xs.length = 6) && (xs.all isPart && _)) = false
  have : xs.all isPart = false := List.all_eq_false.mpr ⟨x, hx, by rw [h]; decide⟩
  rw [this, Bool.false_and, Bool.and_false]
theorem bad_head {xs : List D} (h : isNought (xs.headD .non) = false) : isRow (.tup xs) = false := by
  show (decide (xs.length = 6) && (xs.all isPart && isNought (xs.headD .non))) = false
  rw [h, Bool.and_false, Bool.and_false]
theorem r_neWord {S : Sto} {R : KR} {x y : Str} (e : x = y) (h : SeqAt.shaped (.tuple [.str y]) = true) (k : R (.bl false) S) : dNe (.tup [.str x]) (.tup [.str y]) S R := by
  subst e
  refine ⟨.tuple [.str x], .tuple [.str x], rfl, rfl, h, h, ?_⟩
  have e : PyData.eqv (.tuple [.str x]) (.tuple [.str x]) = true := by simp [PyData.eqv, PyData.eqvAll]
  rw [e]
  exact k
/-! an empty tuple told from tellings -/
def oP : Option Rat → PyData
  | none => .none
  | some q => ptP q
def telP (t : Tel) : PyData := .tuple [.int t.one, .int t.other, oP t.low, oP t.high]
theorem toP_e {S : Sto} {o : Option Rat} : toP S (eD o) = some (oP o) := by cases o <;> rfl
theorem toP_tel {S : Sto} {t : Tel} : toP S (telD t) = some (telP t) := by
  have e : toPs S [.int t.one, .int t.other, eD t.low, eD t.high] = some [.int t.one, .int t.other, oP t.low, oP t.high] := by
    simp only [toPs, toP_e, toP]
  show (toPs S _).map PyData.tuple = _
  rw [e]
  rfl
theorem toPs_tels {S : Sto} : ∀ ts : List Tel, toPs S (ts.map telD) = some (ts.map telP)
  | [] => rfl
  | t :: ts => by
    have ih := toPs_tels (S := S) ts
    simp only [List.map_cons, toPs, toP_tel, ih]
theorem lay_o {o : Option Rat} : (oP o).canLay0 = true ∧ (oP o).depth ≤ 1 := by
  cases o with
  | none => exact ⟨rfl, by simp [oP, PyData.depth]⟩
  | some q => exact ⟨by simp [oP, ptP, PyData.canLay0, PyData.canLayAll0], by simp [oP, ptP, PyData.depth, PyData.depthAll]⟩
theorem lay_tel {t : Tel} : (telP t).canLay0 = true ∧ (telP t).depth ≤ 2 := by
  have h1 := lay_o (o := t.low)
  have h2 := lay_o (o := t.high)
  refine ⟨by simp [telP, PyData.canLay0, PyData.canLayAll0, h1.1, h2.1], ?_⟩
  simp only [telP, PyData.depth, PyData.depthAll]
  omega
theorem lay_tels : ∀ ts : List Tel, PyData.canLayAll0 (ts.map telP) = true ∧ PyData.depthAll (ts.map telP) ≤ 2
  | [] => ⟨rfl, by simp [PyData.depthAll]⟩
  | t :: ts => by
    have ih := lay_tels ts
    have h := lay_tel (t := t)
    refine ⟨by simp only [List.map_cons, PyData.canLayAll0, h.1, ih.1]; rfl, ?_⟩
    simp only [List.map_cons, PyData.depthAll]
    omega
theorem shaped_tels {ts : List Tel} : SeqAt.shaped (.tuple (ts.map telP)) = true := by
  have h := lay_tels ts
  unfold SeqAt.shaped
  have e : (PyData.tuple (ts.map telP)).canLay0 = true := by simp only [PyData.canLay0]; exact h.1
  rw [e, Bool.true_and]
  refine decide_eq_true ?_
  simp only [PyData.depth]
  omega
theorem r_neNil {S : Sto} {R : KR} {ts : List Tel} (k : R (.bl (!ts.isEmpty)) S) : dNe (telsD ts) (.tup []) S R := by
  refine ⟨.tuple (ts.map telP), .tuple [], ?_, rfl, shaped_tels, by decide +kernel, ?_⟩
  · show (toPs S (ts.map telD)).map PyData.tuple = _
    rw [toPs_tels]
    rfl
  · cases ts with
    | nil => exact k
    | cons t ts =>
      have e : (!PyData.eqv (.tuple ((t :: ts).map telP)) (.tuple [])) = true := by
        simp [PyData.eqv, PyData.eqvAll]
      rw [e]
      exact k

end DL

set_option maxHeartbeats 4000000
namespace DL
open PySem PySem.Spec PyProof.Rows L2
local macro_rules | `(tactic| walk_at "go1") => `(tactic| first
  | with_reducible refine r_seq ?_ | with_reducible refine r_asg ?_ | with_reducible refine r_ret ?_ | with_reducible refine r_ifS ?_ | with_reducible refine r_drop ?_ | with_reducible refine r_par ?_ | with_reducible refine r_next ?_ | with_reducible refine r_retN ?_
  | ((with_reducible refine' r_var ?hv ?_); (case hv => rfl)) | with_reducible refine r_c ?_ | with_reducible refine r_bin ?_ | with_reducible refine r_un ?_ | with_reducible refine r_as1 ?_ | with_reducible refine r_as0 ?_
  | with_reducible refine r_cb ?_ | with_reducible refine r_call ?_ | with_reducible refine r_B ?_ | with_reducible refine r_notT ?_ | with_reducible refine r_andT ?_ | with_reducible refine r_orT ?_
  | with_reducible refine r_andV ?_ | with_reducible refine r_orV ?_ | with_reducible refine r_notV ?_ | with_reducible refine r_if ?_ | with_reducible refine r_tup ?_ | with_reducible refine r_lst ?_ | with_reducible refine r_mu ?_
  | with_reducible refine r_cut ?_ | with_reducible refine r_p0 ?_ | with_reducible refine r_p1 ?_ | with_reducible refine r_gN ?_ | ((with_reducible refine r_gT ?hv ?_); (case hv => rfl)) | with_reducible refine r_gs1 ?_ | with_reducible refine r_gs0 ?_
  | ((with_reducible refine r_trueR ?hv ?_); (case hv => first | rfl | assumption)) | ((with_reducible refine r_falseR ?hv ?_); (case hv => first | rfl | assumption)) | with_reducible refine r_bl ?_ | with_reducible refine r_in ?_ | with_reducible refine r_two ?_
  | with_reducible refine r_addI ?_ | with_reducible refine r_subI ?_ | with_reducible refine r_mulI ?_ ?_ | with_reducible refine r_divI ?_ ?_ | with_reducible refine r_modI ?_ ?_ | with_reducible refine r_powI ?_ ?_ | with_reducible refine r_negI ?_
  | with_reducible refine r_lt ?_ | with_reducible refine r_le ?_ | with_reducible refine r_gt ?_ | with_reducible refine r_ge ?_ | with_reducible refine r_is ?_ | with_reducible refine r_isNot ?_ | with_reducible refine r_eqI ?_ | with_reducible refine r_neI ?_ | with_reducible refine r_eqS ?_ | with_reducible refine r_neS ?_
  | with_reducible refine r_ixP0 ?_ | with_reducible refine r_ixP1 ?_ | with_reducible refine r_ix0T ?_ | with_reducible refine r_ix1T ?_ | with_reducible refine r_lenT ?_ | with_reducible refine r_lenL ?_ | with_reducible refine r_lenC ?_
  | with_reducible refine r_abs ?_ | with_reducible refine r_max ?_ | with_reducible refine r_min ?_ | with_reducible refine r_intI ?_ | with_reducible refine r_intB ?_ | with_reducible refine r_tupL ?_ | with_reducible refine r_tupT ?_
  | with_reducible refine r_gcd ?_ | ((with_reducible refine r_isi ?hv ?_); (case hv => first | rfl | assumption)) | with_reducible refine r_sizeT ?_ | with_reducible refine r_sizeL ?_)
local macro_rules | `(tactic| walk_at "go") => `(tactic| repeat' walk_at "go1")
local macro_rules | `(tactic| walk_at "go1") => `(tactic| first
  | with_reducible refine r_lc ?_ | with_reducible refine r_wiT ?_ | with_reducible refine r_wiZ ?_ | with_reducible refine r_wiL ?_ | with_reducible refine r_wiR1 ?_ | with_reducible refine r_for ?_ | with_reducible refine r_yes ?_
  | with_reducible refine b_nm ?_ | with_reducible refine r_setD0 ?_ | with_reducible refine r_setD1 ?_ | ((with_reducible refine' r_setDT ?hv ?_); (case hv => rfl)) | with_reducible refine r_setsD ?_ | with_reducible refine r_setsCut ?_ | with_reducible refine b_tp2 ?_ | with_reducible refine r_trueL ?_ | with_reducible refine r_falseL ?_ )

local macro_rules | `(tactic| walk_at "go1") => `(tactic| first
  | with_reducible refine r_size0 ?_ | with_reducible refine r_size3 ?_ | with_reducible refine r_app ?_ | with_reducible refine r_setIx ?_ | ((with_reducible refine' r_sizeG ?hv ?_); (case hv => rfl)) | ((with_reducible refine' r_addG ?hv ?_); (case hv => rfl)) | ((with_reducible refine' r_addTG ?hv ?_); (case hv => rfl))
  | with_reducible refine r_bmL ?_ | with_reducible refine r_isL ?_ | with_reducible refine r_try ?_ | with_reducible refine r_emp ?_ | with_reducible refine r_raise ?_ | with_reducible refine r_chain ?_ | with_reducible refine r_mulGI ?_ ?_
  | with_reducible refine r_wiET ?_ | with_reducible refine r_telLen ?_ | with_reducible refine r_telsLen ?_ | with_reducible refine r_rowLen ?_ | ((with_reducible refine' r_telT ?hv ?_); (case hv => rfl)))

local macro_rules | `(tactic| walk_at "szs") => `(tactic| first
  | assumption
  | ((with_reducible apply Sz.add); walk_at "szs"; walk_at "szs")
  | ((with_reducible apply Sz.sub); walk_at "szs"; walk_at "szs")
  | ((with_reducible apply Sz.mul); walk_at "szs"; walk_at "szs")
  | ((with_reducible apply Sz.neg); walk_at "szs")
  | (apply Pz.sz; assumption) | exact sz0 | exact sz1 | exact sz24
  | ((with_reducible apply sz_abs); walk_at "szs"))
local macro_rules | `(tactic| walk_at "sz") => `(tactic| (apply Sz.mono; walk_at "szs"; exact Nat.le_of_ble_eq_true rfl))
local macro_rules | `(tactic| walk_at "pen") => `(tactic| first | assumption | (apply Stm.pen; assumption) | (apply stm_st; assumption) | (apply stm_st; apply Stm.pen; assumption))
local macro_rules | `(tactic| walk_at "stm") => `(tactic| first | assumption | exact Stm.of (by walk_at "pen") | (refine Stm.trans ?_ (by assumption); walk_at "stm") | (refine Stm.trans ?_ (Stm.new (by walk_at "pen")); walk_at "stm"))
local macro_rules | `(tactic| walk_at "side") => `(tactic| first | assumption | rfl | omega | decide | walk_at "sz" | walk_at "pen")
local macro_rules | `(tactic| walk_at "au") => `(tactic| repeat' walk_at "au1")
local macro_rules | `(tactic| walk_at "au1") => `(tactic| first
  | walk_at "go1"
  | (with_reducible refine i_next ?_; intro r _ _)
  | (with_reducible refine i_draw ?a ?b ?c ?_; (case a => walk_at "side"); (case b => walk_at "side"); (case c => walk_at "pen"); intro x S' _ _ _)
  | (with_reducible refine i_sum_of ?a ?b ?_; (case a => walk_at "sz"); (case b => walk_at "sz"))
  | (with_reducible refine i_difference_of ?a ?b ?_; (case a => walk_at "sz"); (case b => walk_at "sz"))
  | (with_reducible refine i_product_of ?a ?b ?_; (case a => walk_at "sz"); (case b => walk_at "sz"))
  | (with_reducible refine i_is_below ?a ?b ?_; (case a => walk_at "sz"); (case b => walk_at "sz"))
  | (with_reducible refine i_added ?a ?b ?_; (case a => walk_at "sz"); (case b => walk_at "sz"))
  | (with_reducible refine i_less ?a ?b ?_; (case a => walk_at "sz"); (case b => walk_at "sz"))
  | (with_reducible refine i_times ?a ?b ?_; (case a => walk_at "sz"); (case b => walk_at "sz"))
  | (with_reducible refine i_is_less ?a ?b ?_; (case a => walk_at "sz"); (case b => walk_at "sz"))
  | (with_reducible refine i_sum ?a ?b ?_; (case a => walk_at "sz"); (case b => walk_at "sz"))
  | (with_reducible refine i_rest ?a ?b ?_; (case a => walk_at "sz"); (case b => walk_at "sz"))
  | (with_reducible refine i_prod ?a ?b ?_; (case a => walk_at "sz"); (case b => walk_at "sz"))
  | (with_reducible refine i_under ?a ?b ?_; (case a => walk_at "sz"); (case b => walk_at "sz"))
  | with_reducible refine i_is_part_pt ?_
  | with_reducible refine r_intB ?_
  | (with_reducible refine r_rng1 ?a ?b ?_; (case a => decide); (case b => decide)) | with_reducible refine r_ix0L ?_ | with_reducible refine r_muE ?_ | with_reducible refine r_itL ?_ | with_reducible refine r_itT ?_
  | with_reducible refine r_par3 ?_ | with_reducible refine r_three ?_ | with_reducible refine r_gSub ?_ | with_reducible refine r_lstM ?_ | with_reducible refine r_lstT ?_ | with_reducible refine r_turn ?_ | with_reducible refine r_callK ?_
  | with_reducible refine i_opposite ?_
  | ((with_reducible refine' r_ixT ?hv ?_); (case hv => rfl))
  | ((with_reducible refine' r_ixL ?hv ?_); (case hv => rfl)) | fail)
local macro_rules | `(tactic| walk_at "au1") => `(tactic| first
  | (with_reducible refine r_modI ?a ?_; (case a => decide))
  | (with_reducible refine r_divI ?a ?_; (case a => exact ⟨by decide, by decide⟩))
  | (with_reducible refine r_powI ?a ?_; (case a => exact ⟨by decide, by decide, by decide⟩)) | fail)
local macro_rules | `(tactic| walk_at "br") => `(tactic| first
  | (with_reducible refine r_bothT ?_ ?_ <;> intro z)
  | (with_reducible refine r_bothF ?_ ?_ <;> intro z)
  | (with_reducible refine r_bothD ?_ ?_ <;> intro z)
  | (with_reducible refine r_bothN ?_ ?_ <;> intro z)
  | (with_reducible refine r_both ?_ ?_ <;> intro z) | fail)
local macro_rules | `(tactic| walk_at "ab") => `(tactic| repeat' first | walk_at "au1" | walk_at "br")

local macro_rules | `(tactic| walk_at "shd") => `(tactic| first
  | assumption | exact ShD.non | exact ShD.bl | exact ShD.lit (by decide) | exact ShD.str (by decide +kernel) (by decide +kernel)
  | (apply ShD.nat; omega)
  | (apply ShD.pt (by walk_at "szs"); exact (Nat.ble_eq_true_of_le (of_decide_eq_true rfl)))
  | (apply ShD.tup; walk_at "shds") | (apply ShD.lst; walk_at "shds"))
local macro_rules | `(tactic| walk_at "shds") => `(tactic| first
  | assumption | exact ShDs.nil | (apply ShDs.cons; walk_at "shd"; walk_at "shds"))

local macro_rules | `(tactic| walk_at "au1") => `(tactic| first
  | (with_reducible refine r_neSS rfl ?_)
  | ((with_reducible refine' r_reprD ?a ?b ?c ?_); (case a => walk_at "shd"); (case b => rfl); (case c => rfl)) | fail)

local macro_rules | `(tactic| walk_at "szs") => `(tactic| ((with_reducible apply Sz.div); walk_at "szs"; walk_at "szs"; assumption))
local macro_rules | `(tactic| walk_at "au1") => `(tactic| first
  | with_reducible refine r_eqPt ?_ | with_reducible refine r_nePt ?_ | with_reducible refine r_eqN ?_ | with_reducible refine r_neN ?_
  | (with_reducible refine n_difference_of1 ?a ?_; (case a => walk_at "sz"))
  | (with_reducible refine n_rest1 ?a ?_; (case a => walk_at "sz"))
  | (with_reducible refine i_divided ?z ?a ?b ?_; (case z => assumption); (case a => walk_at "sz"); (case b => walk_at "sz"))
  | (with_reducible refine i_by ?z ?a ?b ?_; (case z => assumption); (case a => walk_at "sz"); (case b => walk_at "sz"))
  | (with_reducible refine i_between2 ?a ?b ?c ?_; (case a => walk_at "sz"); (case b => walk_at "sz"); (case c => walk_at "sz")) | fail)
local macro_rules | `(tactic| walk_at "pD") => `(tactic| first | rfl | assumption | (apply Pz.pD; assumption))
local macro_rules | `(tactic| walk_at "p2") => `(tactic| first | rfl | assumption | (apply Pz.p2; assumption))
local macro_rules | `(tactic| walk_at "pz") => `(tactic| first | assumption | (apply Pz.mono; (first | assumption | (apply Pz.pt; walk_at "szs")); exact Nat.le_of_ble_eq_true rfl))
local macro_rules | `(tactic| walk_at "au1") => `(tactic| first
  | (with_reducible refine i_part ?a ?b ?c ?_; (case a => walk_at "side"); (case b => walk_at "side"); (case c => walk_at "pen"); intro q S' _ _)
  | (with_reducible refine i_above ?a ?b ?c ?_; (case a => walk_at "side"); (case b => walk_at "side"); (case c => walk_at "pen"); intro q S' _ _ _)
  | (with_reducible refine i_odd ?c ?_; (case c => walk_at "pen"); intro d S' _ _)
  | ((with_reducible refine i_clk_c ?a ?b ?c); (case a => walk_at "pD"); all_goals first | (intro (z : _ = false)) | (intro n e _; subst e))
  | ((with_reducible refine i_lclk_c ?a ?b ?c); (case a => walk_at "pD"); all_goals first | (intro (z : _ = false)) | (intro n e _; subst e))
  | ((with_reducible refine i_part_c ?a ?b ?c); (case a => walk_at "p2"); all_goals first | (intro (z : _ = false)) | (intro q e; subst e))
  | ((with_reducible refine i_up_c ?a ?b ?c); (case a => walk_at "p2"); all_goals first | (intro (z : _ = false)) | (intro q e _; subst e))
  | ((with_reducible refine i_lpart_c ?a ?b ?c); (case a => walk_at "pz"); all_goals first | (intro (z : _ = false)) | (intro q e; subst e)) | fail)

local macro_rules | `(tactic| walk_at "telok") => `(tactic| first | assumption | (apply TelOk.mono; assumption; exact Nat.le_of_ble_eq_true rfl) | (apply TelsOk.mono; assumption; exact Nat.le_of_ble_eq_true rfl) | (apply RowOk.mono; assumption; exact Nat.le_of_ble_eq_true rfl))
local macro_rules | `(tactic| walk_at "au1") => `(tactic| first
  | with_reducible refine r_telsLen ?_ | with_reducible refine r_itTels ?_ | with_reducible refine r_itRow ?_ | with_reducible refine r_rowLen ?_ | with_reducible refine r_wiET ?_ | with_reducible refine r_itET ?_ | with_reducible refine r_itE ?_
  | (with_reducible refine i_check_tellings_ok ?a ?_; (case a => walk_at "telok"))
  | (with_reducible refine i_check_number_ok ?a ?_; (case a => walk_at "side"))
  | (with_reducible refine i_is_kept ?a ?b ?_; (case a => walk_at "telok"); (case b => walk_at "telok"))
  | (with_reducible refine i_first_not_kept ?a ?b ?_; (case a => walk_at "telok"); (case b => walk_at "telok")) | fail)

local macro_rules | `(tactic| walk_at "au1") => `(tactic| first
  | with_reducible refine b_tp4 ?_ | with_reducible refine r_revL ?_ | with_reducible refine r_break ?_ | with_reducible refine r_cont ?_ | fail)

local macro_rules | `(tactic| walk_at "au1") => `(tactic| first
  | (with_reducible refine i_some ?c ?_; (case c => walk_at "pen"); intro q S' _ _ _)
  | (with_reducible refine i_up ?c ?_; (case c => walk_at "pen"); intro q S' _ _ _ _)
  | (with_reducible refine i_row ?c ?_; (case c => walk_at "pen"); intro r S' _ _) | fail)

def numsR (r : List Rat) (ts : List Tel) : List Nat := (ts.zipIdx.filter fun q => keptB q.1 r).map (·.2)
def numsD (ns : List Nat) : D := .tup (ns.map fun (n : Nat) => D.int n)
theorem nums_take {r : List Rat} {ts : List Tel} {i : Nat} {t : Tel} (h : ts[i]? = some t) : numsR r (ts.take (i + 1)) = numsR r (ts.take i) ++ (if keptB t r = true then [i] else []) := by
  have hl : i < ts.length := (List.getElem?_eq_some_iff.mp h).1
  unfold numsR
  rw [List.take_add_one, h, List.zipIdx_append, List.filter_append, List.map_append]
  have e : (ts.take i).length = i := by rw [List.length_take]; omega
  rw [e]
  cases k : keptB t r <;> simp [List.zipIdx, k]
theorem nums_len {r : List Rat} {ts : List Tel} : (numsR r ts).length ≤ ts.length := by
  unfold numsR
  rw [List.length_map]
  exact Nat.le_trans (List.length_filter_le _ _) (by rw [List.length_zipIdx]; exact Nat.le_refl _)
theorem nums_lt {r : List Rat} {ts : List Tel} {n : Nat} (h : n ∈ numsR r ts) : n < ts.length := by
  unfold numsR at h
  obtain ⟨q, hq, rfl⟩ := List.mem_map.mp h
  have := List.mem_zipIdx (List.mem_filter.mp hq).1
  omega

theorem nm_of {q : Rat} {m : Nat} (h : q.den ≤ 12 ∧ q.num.natAbs ≤ m) : Nm m q := by
  have e := norm_nm (a := q.num) (n := q.den) (M := m) q.den_nz (dvd12 q.den_pos h.1) h.2
  rw [Rat.normalize_eq_mkRat, Rat.mkRat_self] at e
  exact e
/-- tellings as family B draws them -/
structure TelsB (ts : List Tel) : Prop where
  ok : TelsOk 30 ts
  nm : ∀ t ∈ ts, TelN 20 t
theorem TelsB.g {ts : List Tel} (h : TelsB ts) : TelsG ts := ⟨h.ok.mono (by decide), BB, ⟨by decide, by decide⟩, fun t ht => ⟨fun q e => ((h.nm t ht).lo q e).dvd, fun q e => ((h.nm t ht).hi q e).dvd⟩⟩
theorem TelsOk.take {n k : Nat} {ts : List Tel} (h : TelsOk n ts) : TelsOk n (ts.take k) := ⟨by have := h.len; rw [List.length_take]; omega, fun t ht => h.ea t (List.mem_of_mem_take ht)⟩
theorem TelsOk.rev {n : Nat} {ts : List Tel} (h : TelsOk n ts) : TelsOk n ts.reverse := ⟨by rw [List.length_reverse]; exact h.len, fun t ht => h.ea t (List.mem_reverse.mp ht)⟩
theorem TelsB.take {k : Nat} {ts : List Tel} (h : TelsB ts) : TelsB (ts.take k) := ⟨h.ok.take, fun t ht => h.nm t (List.mem_of_mem_take ht)⟩
theorem TelsB.rev {ts : List Tel} (h : TelsB ts) : TelsB ts.reverse := ⟨h.ok.rev, fun t ht => h.nm t (List.mem_reverse.mp ht)⟩
theorem SmO.of {n : Nat} {l h : Option Rat} (b : BndOk n l h) (hn : n ≤ 4000) : (∀ q, l = some q → Sm q) ∧ ∀ q, h = some q → Sm q := ⟨fun q e => (by subst e; exact b.lo.mono hn), fun q e => (by subst e; exact b.hi.mono hn)⟩
def p_kept_by (K : PySem.W.Frag) : SpD := fun ds S R Rx => ∃ d e, ds = [d, e] ∧ ((Tz 4000 d ∧ isTels d = false ∧ Rx (erO K "NoTellings") S) ∨ ∃ ts, d = telsD ts ∧ TelsOk 1500 ts ∧
  ((Qz 4000 e ∧ isRow e = false ∧ Rx (erO K "NoRow") S) ∨ ∃ r, e = rowD r ∧ RowOk 1500 r ∧ R (numsD (numsR r ts)) S))
def p_lawB_telling : SpD := fun ds S R _ => ∃ (i : Nat) (near : Int), ds = [.mu i, .int near] ∧ Pen S i ∧ 2 ≤ near ∧ near ≤ 6 ∧ ∀ (t : Tel) S', TelOk 30 t → TelN 20 t → Stm i S S' → R (telD t) S'
def p_lawB_tellings : SpD := fun ds S R _ => ∃ (i : Nat) (most : Int), ds = [.mu i, .int most] ∧ Pen S i ∧ 0 ≤ most ∧ most ≤ 16 ∧ ∀ (ts : List Tel) S', TelsB ts → (ts.length : Int) ≤ most → Stm i S S' → R (telsD ts) S'
def p_lawB_due : SpD := fun ds S R _ => ∃ ts r, ds = [telsD ts, rowD r] ∧ TelsOk 1000 ts ∧ RowOk 400 r ∧ ∀ xs, R (numsD (numsR r ts)) (S ++ [xs])
def p_law_edge : SpD := fun ds S R _ => ∃ ts r, ds = [telsD ts, rowD r] ∧ TelsOk 30 ts ∧ RowOk 20 r ∧ ∀ r' S', RowOk 60 r' → (S' = S ∨ ∃ xs, S' = S ++ [xs]) → R (rowD r') S'
section
variable {K : PySem.W.Frag} {S : Sto} {R : KR} {Rx : Er → Sto → Prop} {p q : Rat} {d e a b : D} {i : Nat} {m : Int} {t : Tel} {ts : List Tel} {r : List Rat} {l h : Option Rat}
theorem i_kept_by (z : TelsOk 1500 ts) (y : RowOk 1500 r) (k : R (numsD (numsR r ts)) S) : ([telsD ts, rowD r] ++ ([] : List D)).length = 2 ∧ p_kept_by K ([telsD ts, rowD r] ++ []) S R Rx := ⟨rfl, _, _, rfl, .inr ⟨ts, rfl, z, .inr ⟨r, rfl, y, k⟩⟩⟩
theorem k_kept_by (z : TelsOk 1500 ts) (y : RowOk 1500 r) (k : R (numsD (numsR r ts)) S) : (pickI [1, 0] [rowD r, telsD ts]).length = 2 ∧ p_kept_by K (pickI [1, 0] [rowD r, telsD ts]) S R Rx := ⟨rfl, _, _, rfl, .inr ⟨ts, rfl, z, .inr ⟨r, rfl, y, k⟩⟩⟩
theorem i_kept_by_r (z : TelsOk 1500 ts) (y : Qz 4000 e) (w : isRow e = false) (x : Rx (erO K "NoRow") S) : ([telsD ts, e] ++ ([] : List D)).length = 2 ∧ p_kept_by K ([telsD ts, e] ++ []) S R Rx := ⟨rfl, _, _, rfl, .inr ⟨ts, rfl, z, .inl ⟨y, w, x⟩⟩⟩
theorem i_kept_by_t (z : Tz 4000 d) (w : isTels d = false) (x : Rx (erO K "NoTellings") S) : ([d, e] ++ ([] : List D)).length = 2 ∧ p_kept_by K ([d, e] ++ []) S R Rx := ⟨rfl, _, _, rfl, .inl ⟨z, w, x⟩⟩
theorem i_tellingB (hp : Pen S i) (h0 : 2 ≤ m) (h1 : m ≤ 6) (k : ∀ (t : Tel) S', TelOk 30 t → TelN 20 t → Stm i S S' → R (telD t) S') : ([D.mu i, D.int m] ++ ([] : List D)).length = 2 ∧ p_lawB_telling ([D.mu i, D.int m] ++ []) S R Rx := ⟨rfl, i, m, rfl, hp, h0, h1, k⟩
theorem i_tellingsB (hp : Pen S i) (h0 : 0 ≤ m) (h1 : m ≤ 16) (k : ∀ (ts : List Tel) S', TelsB ts → (ts.length : Int) ≤ m → Stm i S S' → R (telsD ts) S') : ([D.mu i, D.int m] ++ ([] : List D)).length = 2 ∧ p_lawB_tellings ([D.mu i, D.int m] ++ []) S R Rx := ⟨rfl, i, m, rfl, hp, h0, h1, k⟩
theorem i_dueB (h1 : TelsOk 1000 ts) (h2 : RowOk 400 r) (k : ∀ xs, R (numsD (numsR r ts)) (S ++ [xs])) : ([telsD ts, rowD r] ++ ([] : List D)).length = 2 ∧ p_lawB_due ([telsD ts, rowD r] ++ []) S R Rx := ⟨rfl, ts, r, rfl, h1, h2, k⟩
theorem i_edge (h1 : TelsOk 30 ts) (h2 : RowOk 20 r) (k : ∀ r' S', RowOk 60 r' → (S' = S ∨ ∃ xs, S' = S ++ [xs]) → R (rowD r') S') : ([telsD ts, rowD r] ++ ([] : List D)).length = 2 ∧ p_law_edge ([telsD ts, rowD r] ++ []) S R Rx := ⟨rfl, ts, r, rfl, h1, h2, k⟩
end
theorem of_near {d : D} (h : d ∈ [D.int 2, .int 3, .int 3, .int 6]) : ∃ n : Int, d = .int n ∧ 2 ≤ n ∧ n ≤ 6 := by
  rcases of_four h with rfl | rfl | rfl | rfl <;> exact ⟨_, rfl, by decide, by decide⟩
theorem row_put {n : Nat} {r : List Rat} {k : Nat} {q : Rat} (h : RowOk n r) (hk0 : 0 < k) (hq : Sz n q) : RowOk n (r.set k q) := by
  refine ⟨by rw [List.length_set]; exact h.len, ?_, fun x hx => ?_⟩
  · rw [List.getElem?_set_ne (by omega)]
    exact h.nil
  · rcases List.mem_or_eq_of_mem_set hx with hx | rfl
    · exact h.ea x hx
    · exact hq
theorem set_pt {r : List Rat} {k : Nat} {q : Rat} : (r.map pt).set k (pt q) = (r.set k q).map pt := by rw [List.map_set]
theorem r_eqNil {S : Sto} {R : KR} {ts : List Tel} (k : R (.bl ts.isEmpty) S) : dEq (telsD ts) (.tup []) S R := by
  refine ⟨.tuple (ts.map telP), .tuple [], ?_, rfl, shaped_tels, by decide +kernel, ?_⟩
  · show (toPs S (ts.map telD)).map PyData.tuple = _
    rw [toPs_tels]
    rfl
  · cases ts with
    | nil => exact k
    | cons t ts =>
      have e : PyData.eqv (.tuple ((t :: ts).map telP)) (.tuple []) = false := by
        simp [PyData.eqv, PyData.eqvAll]
      rw [e]
      exact k
theorem sh_numsA : ∀ {ns : List Nat}, (∀ n ∈ ns, n < 2 ^ 20) → ShDs (21 * ns.length) 0 (ns.map fun (n : Nat) => D.int n)
  | [], _ => ShDs.nil
  | n :: ns, h => by
    have i1 := ShD.nat (h n List.mem_cons_self)
    have := ShDs.cons i1 (sh_numsA (ns := ns) fun m hm => h m (List.mem_cons_of_mem _ hm))
    exact this.mono (by rw [List.length_cons]; omega) (by decide)
theorem sh_nums {ns : List Nat} (h : ∀ n ∈ ns, n < 2 ^ 20) (hl : ns.length ≤ 16) : ShD 400 1 (numsD ns) := (ShD.tup (sh_numsA h)).mono (by omega) (by decide)
theorem toPs_nums {S : Sto} : ∀ ns : List Nat, toPs S (ns.map fun (n : Nat) => D.int n) = some (ns.map fun (n : Nat) => PyData.int n)
  | [] => rfl
  | n :: ns => by
    have ih := toPs_nums (S := S) ns
    simp only [List.map_cons, toPs, toP, ih]
theorem lay_nums : ∀ ns : List Nat, PyData.canLayAll0 (ns.map fun (n : Nat) => PyData.int n) = true ∧ PyData.depthAll (ns.map fun (n : Nat) => PyData.int n) ≤ 0
  | [] => ⟨rfl, by simp [PyData.depthAll]⟩
  | n :: ns => by
    have ih := lay_nums ns
    refine ⟨by simp only [List.map_cons, PyData.canLayAll0, ih.1]; rfl, ?_⟩
    simp only [List.map_cons, PyData.depthAll, PyData.depth]
    omega
theorem r_eqNums {S : Sto} {R : KR} {ns : List Nat} {x : Str} (hx : SeqAt.shaped (.tuple [.str x]) = true) (k : R (.bl false) S) : dEq (numsD ns) (.tup [.str x]) S R := by
  refine ⟨.tuple (ns.map fun (n : Nat) => PyData.int n), .tuple [.str x], ?_, rfl, ?_, hx, ?_⟩
  · show (toPs S _).map PyData.tuple = _
    rw [toPs_nums]
    rfl
  · have h := lay_nums ns
    unfold SeqAt.shaped
    have e : (PyData.tuple (ns.map fun (n : Nat) => PyData.int n)).canLay0 = true := by simp only [PyData.canLay0]; exact h.1
    rw [e, Bool.true_and]
    refine decide_eq_true ?_
    simp only [PyData.depth]
    omega
  · have e : PyData.eqv (.tuple (ns.map fun (n : Nat) => PyData.int n)) (.tuple [.str x]) = false := by
      cases ns with
      | nil => simp [PyData.eqv, PyData.eqvAll]
      | cons n ns => simp [PyData.eqv, PyData.eqvAll]
    rw [e]
    exact k
theorem r_eqWord {S : Sto} {R : KR} {x y : Str} (e : x = y) (h : SeqAt.shaped (.tuple [.str y]) = true) (k : R (.bl true) S) : dEq (.tup [.str x]) (.tup [.str y]) S R := by
  subst e
  refine ⟨.tuple [.str x], .tuple [.str x], rfl, rfl, h, h, ?_⟩
  have e : PyData.eqv (.tuple [.str x]) (.tuple [.str x]) = true := by simp [PyData.eqv, PyData.eqvAll]
  rw [e]
  exact k
theorem r_eqB {S : Sto} {R : KR} {a b : Bool} (k : R (.bl (a == b)) S) : dEq (.bl a) (.bl b) S R := by
  refine ⟨.bool a, .bool b, rfl, rfl, rfl, rfl, ?_⟩
  have e : PyData.eqv (.bool a) (.bool b) = (a == b) := by cases a <;> cases b <;> rfl
  rw [e]
  exact k

end DL

set_option maxHeartbeats 4000000
namespace DL
open PySem PySem.Spec PyProof.Rows L2
local macro_rules | `(tactic| walk_at "go1") => `(tactic| first
  | with_reducible refine r_seq ?_ | with_reducible refine r_asg ?_ | with_reducible refine r_ret ?_ | with_reducible refine r_ifS ?_ | with_reducible refine r_drop ?_ | with_reducible refine r_par ?_ | with_reducible refine r_next ?_ | with_reducible refine r_retN ?_
  | ((with_reducible refine' r_var ?hv ?_); (case hv => rfl)) | with_reducible refine r_c ?_ | with_reducible refine r_bin ?_ | with_reducible refine r_un ?_ | with_reducible refine r_as1 ?_ | with_reducible refine r_as0 ?_
  | with_reducible refine r_cb ?_ | with_reducible refine r_call ?_ | with_reducible refine r_B ?_ | with_reducible refine r_notT ?_ | with_reducible refine r_andT ?_ | with_reducible refine r_orT ?_
  | with_reducible refine r_andV ?_ | with_reducible refine r_orV ?_ | with_reducible refine r_notV ?_ | with_reducible refine r_if ?_ | with_reducible refine r_tup ?_ | with_reducible refine r_lst ?_ | with_reducible refine r_mu ?_
  | with_reducible refine r_cut ?_ | with_reducible refine r_p0 ?_ | with_reducible refine r_p1 ?_ | with_reducible refine r_gN ?_ | ((with_reducible refine r_gT ?hv ?_); (case hv => rfl)) | with_reducible refine r_gs1 ?_ | with_reducible refine r_gs0 ?_
  | ((with_reducible refine r_trueR ?hv ?_); (case hv => first | rfl | assumption)) | ((with_reducible refine r_falseR ?hv ?_); (case hv => first | rfl | assumption)) | with_reducible refine r_bl ?_ | with_reducible refine r_in ?_ | with_reducible refine r_two ?_
  | with_reducible refine r_addI ?_ | with_reducible refine r_subI ?_ | with_reducible refine r_mulI ?_ ?_ | with_reducible refine r_divI ?_ ?_ | with_reducible refine r_modI ?_ ?_ | with_reducible refine r_powI ?_ ?_ | with_reducible refine r_negI ?_
  | with_reducible refine r_lt ?_ | with_reducible refine r_le ?_ | with_reducible refine r_gt ?_ | with_reducible refine r_ge ?_ | with_reducible refine r_is ?_ | with_reducible refine r_isNot ?_ | with_reducible refine r_eqI ?_ | with_reducible refine r_neI ?_ | with_reducible refine r_eqS ?_ | with_reducible refine r_neS ?_
  | with_reducible refine r_ixP0 ?_ | with_reducible refine r_ixP1 ?_ | with_reducible refine r_ix0T ?_ | with_reducible refine r_ix1T ?_ | with_reducible refine r_lenT ?_ | with_reducible refine r_lenL ?_ | with_reducible refine r_lenC ?_
  | with_reducible refine r_abs ?_ | with_reducible refine r_max ?_ | with_reducible refine r_min ?_ | with_reducible refine r_intI ?_ | with_reducible refine r_intB ?_ | with_reducible refine r_tupL ?_ | with_reducible refine r_tupT ?_
  | with_reducible refine r_gcd ?_ | ((with_reducible refine r_isi ?hv ?_); (case hv => first | rfl | assumption)) | with_reducible refine r_sizeT ?_ | with_reducible refine r_sizeL ?_)
local macro_rules | `(tactic| walk_at "go") => `(tactic| repeat' walk_at "go1")
local macro_rules | `(tactic| walk_at "go1") => `(tactic| first
  | with_reducible refine r_lc ?_ | with_reducible refine r_wiT ?_ | with_reducible refine r_wiZ ?_ | with_reducible refine r_wiL ?_ | with_reducible refine r_wiR1 ?_ | with_reducible refine r_for ?_ | with_reducible refine r_yes ?_
  | with_reducible refine b_nm ?_ | with_reducible refine r_setD0 ?_ | with_reducible refine r_setD1 ?_ | ((with_reducible refine' r_setDT ?hv ?_); (case hv => rfl)) | with_reducible refine r_setsD ?_ | with_reducible refine r_setsCut ?_ | with_reducible refine b_tp2 ?_ | with_reducible refine r_trueL ?_ | with_reducible refine r_falseL ?_ )

local macro_rules | `(tactic| walk_at "go1") => `(tactic| first
  | with_reducible refine r_size0 ?_ | with_reducible refine r_size3 ?_ | with_reducible refine r_app ?_ | with_reducible refine r_setIx ?_ | ((with_reducible refine' r_sizeG ?hv ?_); (case hv => rfl)) | ((with_reducible refine' r_addG ?hv ?_); (case hv => rfl)) | ((with_reducible refine' r_addTG ?hv ?_); (case hv => rfl))
  | with_reducible refine r_bmL ?_ | with_reducible refine r_isL ?_ | with_reducible refine r_try ?_ | with_reducible refine r_emp ?_ | with_reducible refine r_raise ?_ | with_reducible refine r_chain ?_ | with_reducible refine r_mulGI ?_ ?_
  | with_reducible refine r_wiET ?_ | with_reducible refine r_telLen ?_ | with_reducible refine r_telsLen ?_ | with_reducible refine r_rowLen ?_ | ((with_reducible refine' r_telT ?hv ?_); (case hv => rfl)))

local macro_rules | `(tactic| walk_at "szs") => `(tactic| first
  | assumption
  | ((with_reducible apply Sz.add); walk_at "szs"; walk_at "szs")
  | ((with_reducible apply Sz.sub); walk_at "szs"; walk_at "szs")
  | ((with_reducible apply Sz.mul); walk_at "szs"; walk_at "szs")
  | ((with_reducible apply Sz.neg); walk_at "szs")
  | (apply Pz.sz; assumption) | exact sz0 | exact sz1 | exact sz24
  | ((with_reducible apply sz_abs); walk_at "szs"))
local macro_rules | `(tactic| walk_at "sz") => `(tactic| (apply Sz.mono; walk_at "szs"; exact Nat.le_of_ble_eq_true rfl))
local macro_rules | `(tactic| walk_at "pen") => `(tactic| first | assumption | (apply Stm.pen; assumption) | (apply stm_st; assumption) | (apply stm_st; apply Stm.pen; assumption))
local macro_rules | `(tactic| walk_at "stm") => `(tactic| first | assumption | exact Stm.of (by walk_at "pen") | (refine Stm.trans ?_ (by assumption); walk_at "stm") | (refine Stm.trans ?_ (Stm.new (by walk_at "pen")); walk_at "stm"))
local macro_rules | `(tactic| walk_at "side") => `(tactic| first | assumption | rfl | omega | decide | walk_at "sz" | walk_at "pen")
local macro_rules | `(tactic| walk_at "au") => `(tactic| repeat' walk_at "au1")
local macro_rules | `(tactic| walk_at "au1") => `(tactic| first
  | walk_at "go1"
  | (with_reducible refine i_next ?_; intro r _ _)
  | (with_reducible refine i_draw ?a ?b ?c ?_; (case a => walk_at "side"); (case b => walk_at "side"); (case c => walk_at "pen"); intro x S' _ _ _)
  | (with_reducible refine i_sum_of ?a ?b ?_; (case a => walk_at "sz"); (case b => walk_at "sz"))
  | (with_reducible refine i_difference_of ?a ?b ?_; (case a => walk_at "sz"); (case b => walk_at "sz"))
  | (with_reducible refine i_product_of ?a ?b ?_; (case a => walk_at "sz"); (case b => walk_at "sz"))
  | (with_reducible refine i_is_below ?a ?b ?_; (case a => walk_at "sz"); (case b => walk_at "sz"))
  | (with_reducible refine i_added ?a ?b ?_; (case a => walk_at "sz"); (case b => walk_at "sz"))
  | (with_reducible refine i_less ?a ?b ?_; (case a => walk_at "sz"); (case b => walk_at "sz"))
  | (with_reducible refine i_times ?a ?b ?_; (case a => walk_at "sz"); (case b => walk_at "sz"))
  | (with_reducible refine i_is_less ?a ?b ?_; (case a => walk_at "sz"); (case b => walk_at "sz"))
  | (with_reducible refine i_sum ?a ?b ?_; (case a => walk_at "sz"); (case b => walk_at "sz"))
  | (with_reducible refine i_rest ?a ?b ?_; (case a => walk_at "sz"); (case b => walk_at "sz"))
  | (with_reducible refine i_prod ?a ?b ?_; (case a => walk_at "sz"); (case b => walk_at "sz"))
  | (with_reducible refine i_under ?a ?b ?_; (case a => walk_at "sz"); (case b => walk_at "sz"))
  | with_reducible refine i_is_part_pt ?_
  | with_reducible refine r_intB ?_
  | (with_reducible refine r_rng1 ?a ?b ?_; (case a => decide); (case b => decide)) | with_reducible refine r_ix0L ?_ | with_reducible refine r_muE ?_ | with_reducible refine r_itL ?_ | with_reducible refine r_itT ?_
  | with_reducible refine r_par3 ?_ | with_reducible refine r_three ?_ | with_reducible refine r_gSub ?_ | with_reducible refine r_lstM ?_ | with_reducible refine r_lstT ?_ | with_reducible refine r_turn ?_ | with_reducible refine r_callK ?_
  | with_reducible refine i_opposite ?_
  | ((with_reducible refine' r_ixT ?hv ?_); (case hv => rfl))
  | ((with_reducible refine' r_ixL ?hv ?_); (case hv => rfl)) | fail)
local macro_rules | `(tactic| walk_at "au1") => `(tactic| first
  | (with_reducible refine r_modI ?a ?_; (case a => decide))
  | (with_reducible refine r_divI ?a ?_; (case a => exact ⟨by decide, by decide⟩))
  | (with_reducible refine r_powI ?a ?_; (case a => exact ⟨by decide, by decide, by decide⟩)) | fail)
local macro_rules | `(tactic| walk_at "br") => `(tactic| first
  | (with_reducible refine r_bothT ?_ ?_ <;> intro z)
  | (with_reducible refine r_bothF ?_ ?_ <;> intro z)
  | (with_reducible refine r_bothD ?_ ?_ <;> intro z)
  | (with_reducible refine r_bothN ?_ ?_ <;> intro z)
  | (with_reducible refine r_both ?_ ?_ <;> intro z) | fail)
local macro_rules | `(tactic| walk_at "ab") => `(tactic| repeat' first | walk_at "au1" | walk_at "br")

local macro_rules | `(tactic| walk_at "shd") => `(tactic| first
  | assumption | exact ShD.non | exact ShD.bl | exact ShD.lit (by decide) | exact ShD.str (by decide +kernel) (by decide +kernel)
  | (apply ShD.nat; omega)
  | (apply ShD.pt (by walk_at "szs"); exact (Nat.ble_eq_true_of_le (of_decide_eq_true rfl)))
  | (apply ShD.tup; walk_at "shds") | (apply ShD.lst; walk_at "shds"))
local macro_rules | `(tactic| walk_at "shds") => `(tactic| first
  | assumption | exact ShDs.nil | (apply ShDs.cons; walk_at "shd"; walk_at "shds"))

local macro_rules | `(tactic| walk_at "au1") => `(tactic| first
  | (with_reducible refine r_neSS rfl ?_)
  | ((with_reducible refine' r_reprD ?a ?b ?c ?_); (case a => walk_at "shd"); (case b => rfl); (case c => rfl)) | fail)

local macro_rules | `(tactic| walk_at "szs") => `(tactic| ((with_reducible apply Sz.div); walk_at "szs"; walk_at "szs"; assumption))
local macro_rules | `(tactic| walk_at "au1") => `(tactic| first
  | with_reducible refine r_eqPt ?_ | with_reducible refine r_nePt ?_ | with_reducible refine r_eqN ?_ | with_reducible refine r_neN ?_
  | (with_reducible refine n_difference_of1 ?a ?_; (case a => walk_at "sz"))
  | (with_reducible refine n_rest1 ?a ?_; (case a => walk_at "sz"))
  | (with_reducible refine i_divided ?z ?a ?b ?_; (case z => assumption); (case a => walk_at "sz"); (case b => walk_at "sz"))
  | (with_reducible refine i_by ?z ?a ?b ?_; (case z => assumption); (case a => walk_at "sz"); (case b => walk_at "sz"))
  | (with_reducible refine i_between2 ?a ?b ?c ?_; (case a => walk_at "sz"); (case b => walk_at "sz"); (case c => walk_at "sz")) | fail)
local macro_rules | `(tactic| walk_at "pD") => `(tactic| first | rfl | assumption | (apply Pz.pD; assumption))
local macro_rules | `(tactic| walk_at "p2") => `(tactic| first | rfl | assumption | (apply Pz.p2; assumption))
local macro_rules | `(tactic| walk_at "pz") => `(tactic| first | assumption | (apply Pz.mono; (first | assumption | (apply Pz.pt; walk_at "szs")); exact Nat.le_of_ble_eq_true rfl))
local macro_rules | `(tactic| walk_at "au1") => `(tactic| first
  | (with_reducible refine i_part ?a ?b ?c ?_; (case a => walk_at "side"); (case b => walk_at "side"); (case c => walk_at "pen"); intro q S' _ _)
  | (with_reducible refine i_above ?a ?b ?c ?_; (case a => walk_at "side"); (case b => walk_at "side"); (case c => walk_at "pen"); intro q S' _ _ _)
  | (with_reducible refine i_odd ?c ?_; (case c => walk_at "pen"); intro d S' _ _)
  | ((with_reducible refine i_clk_c ?a ?b ?c); (case a => walk_at "pD"); all_goals first | (intro (z : _ = false)) | (intro n e _; subst e))
  | ((with_reducible refine i_lclk_c ?a ?b ?c); (case a => walk_at "pD"); all_goals first | (intro (z : _ = false)) | (intro n e _; subst e))
  | ((with_reducible refine i_part_c ?a ?b ?c); (case a => walk_at "p2"); all_goals first | (intro (z : _ = false)) | (intro q e; subst e))
  | ((with_reducible refine i_up_c ?a ?b ?c); (case a => walk_at "p2"); all_goals first | (intro (z : _ = false)) | (intro q e _; subst e))
  | ((with_reducible refine i_lpart_c ?a ?b ?c); (case a => walk_at "pz"); all_goals first | (intro (z : _ = false)) | (intro q e; subst e)) | fail)

local macro_rules | `(tactic| walk_at "telok") => `(tactic| first | assumption | (apply TelOk.mono; assumption; exact Nat.le_of_ble_eq_true rfl) | (apply TelsOk.mono; assumption; exact Nat.le_of_ble_eq_true rfl) | (apply RowOk.mono; assumption; exact Nat.le_of_ble_eq_true rfl))
local macro_rules | `(tactic| walk_at "au1") => `(tactic| first
  | with_reducible refine r_telsLen ?_ | with_reducible refine r_itTels ?_ | with_reducible refine r_itRow ?_ | with_reducible refine r_rowLen ?_ | with_reducible refine r_wiET ?_ | with_reducible refine r_itET ?_ | with_reducible refine r_itE ?_
  | (with_reducible refine i_check_tellings_ok ?a ?_; (case a => walk_at "telok"))
  | (with_reducible refine i_check_number_ok ?a ?_; (case a => walk_at "side"))
  | (with_reducible refine i_is_kept ?a ?b ?_; (case a => walk_at "telok"); (case b => walk_at "telok"))
  | (with_reducible refine i_first_not_kept ?a ?b ?_; (case a => walk_at "telok"); (case b => walk_at "telok")) | fail)

local macro_rules | `(tactic| walk_at "au1") => `(tactic| first
  | with_reducible refine b_tp4 ?_ | with_reducible refine r_revL ?_ | with_reducible refine r_break ?_ | with_reducible refine r_cont ?_ | fail)

local macro_rules | `(tactic| walk_at "au1") => `(tactic| first
  | (with_reducible refine i_some ?c ?_; (case c => walk_at "pen"); intro q S' _ _ _)
  | (with_reducible refine i_up ?c ?_; (case c => walk_at "pen"); intro q S' _ _ _ _)
  | (with_reducible refine i_row ?c ?_; (case c => walk_at "pen"); intro r S' _ _) | fail)

local macro_rules | `(tactic| walk_at "au1") => `(tactic| first
  | with_reducible refine r_eqB ?_ | with_reducible refine r_eqNil ?_ | fail)
local macro_rules | `(tactic| walk_at "gs1") => `(tactic| first
  | with_reducible refine r_asg ?_ | with_reducible refine r_ret ?_ | with_reducible refine r_ifS ?_ | with_reducible refine r_drop ?_ | with_reducible refine r_par ?_ | with_reducible refine r_next ?_ | with_reducible refine r_retN ?_
  | ((with_reducible refine' r_var ?hv ?_); (case hv => rfl)) | with_reducible refine r_c ?_ | with_reducible refine r_bin ?_ | with_reducible refine r_un ?_ | with_reducible refine r_as1 ?_ | with_reducible refine r_as0 ?_
  | with_reducible refine r_cb ?_ | with_reducible refine r_call ?_ | with_reducible refine r_B ?_ | with_reducible refine r_notT ?_ | with_reducible refine r_andT ?_ | with_reducible refine r_orT ?_
  | with_reducible refine r_andV ?_ | with_reducible refine r_orV ?_ | with_reducible refine r_notV ?_ | with_reducible refine r_if ?_ | with_reducible refine r_tup ?_ | with_reducible refine r_lst ?_ | with_reducible refine r_mu ?_
  | with_reducible refine r_cut ?_ | with_reducible refine r_p0 ?_ | with_reducible refine r_p1 ?_ | with_reducible refine r_gN ?_ | ((with_reducible refine r_gT ?hv ?_); (case hv => rfl)) | with_reducible refine r_gs1 ?_ | with_reducible refine r_gs0 ?_
  | ((with_reducible refine r_trueR ?hv ?_); (case hv => first | rfl | assumption)) | ((with_reducible refine r_falseR ?hv ?_); (case hv => first | rfl | assumption)) | with_reducible refine r_bl ?_ | with_reducible refine r_in ?_ | with_reducible refine r_two ?_
  | with_reducible refine r_addI ?_ | with_reducible refine r_subI ?_ | with_reducible refine r_mulI ?_ ?_ | with_reducible refine r_divI ?_ ?_ | with_reducible refine r_modI ?_ ?_ | with_reducible refine r_powI ?_ ?_ | with_reducible refine r_negI ?_
  | with_reducible refine r_lt ?_ | with_reducible refine r_le ?_ | with_reducible refine r_gt ?_ | with_reducible refine r_ge ?_ | with_reducible refine r_is ?_ | with_reducible refine r_isNot ?_ | with_reducible refine r_eqI ?_ | with_reducible refine r_neI ?_ | with_reducible refine r_eqS ?_ | with_reducible refine r_neS ?_
  | with_reducible refine r_ixP0 ?_ | with_reducible refine r_ixP1 ?_ | with_reducible refine r_ix0T ?_ | with_reducible refine r_ix1T ?_ | with_reducible refine r_lenT ?_ | with_reducible refine r_lenL ?_ | with_reducible refine r_lenC ?_
  | with_reducible refine r_abs ?_ | with_reducible refine r_max ?_ | with_reducible refine r_min ?_ | with_reducible refine r_intI ?_ | with_reducible refine r_intB ?_ | with_reducible refine r_tupL ?_ | with_reducible refine r_tupT ?_
  | with_reducible refine r_gcd ?_ | ((with_reducible refine r_isi ?hv ?_); (case hv => first | rfl | assumption)) | with_reducible refine r_sizeT ?_ | with_reducible refine r_sizeL ?_)
local macro_rules | `(tactic| walk_at "gs") => `(tactic| repeat' walk_at "gs1")
local macro_rules | `(tactic| walk_at "gs1") => `(tactic| first
  | with_reducible refine r_lc ?_ | with_reducible refine r_wiT ?_ | with_reducible refine r_wiZ ?_ | with_reducible refine r_wiL ?_ | with_reducible refine r_wiR1 ?_ | with_reducible refine r_for ?_ | with_reducible refine r_yes ?_
  | with_reducible refine b_nm ?_ | with_reducible refine r_setD0 ?_ | with_reducible refine r_setD1 ?_ | ((with_reducible refine' r_setDT ?hv ?_); (case hv => rfl)) | with_reducible refine r_setsD ?_ | with_reducible refine r_setsCut ?_ | with_reducible refine b_tp2 ?_ | with_reducible refine r_trueL ?_ | with_reducible refine r_falseL ?_ )

local macro_rules | `(tactic| walk_at "gs1") => `(tactic| first
  | with_reducible refine r_size0 ?_ | with_reducible refine r_size3 ?_ | with_reducible refine r_app ?_ | with_reducible refine r_setIx ?_ | ((with_reducible refine' r_sizeG ?hv ?_); (case hv => rfl)) | ((with_reducible refine' r_addG ?hv ?_); (case hv => rfl)) | ((with_reducible refine' r_addTG ?hv ?_); (case hv => rfl))
  | with_reducible refine r_bmL ?_ | with_reducible refine r_isL ?_ | with_reducible refine r_try ?_ | with_reducible refine r_emp ?_ | with_reducible refine r_raise ?_ | with_reducible refine r_chain ?_ | with_reducible refine r_mulGI ?_ ?_
  | with_reducible refine r_wiET ?_ | with_reducible refine r_telLen ?_ | with_reducible refine r_telsLen ?_ | with_reducible refine r_rowLen ?_ | ((with_reducible refine' r_telT ?hv ?_); (case hv => rfl)))

local macro_rules | `(tactic| walk_at "as") => `(tactic| repeat' walk_at "as1")
local macro_rules | `(tactic| walk_at "as1") => `(tactic| first
  | walk_at "gs1"
  | (with_reducible refine i_next ?_; intro r _ _)
  | (with_reducible refine i_draw ?a ?b ?c ?_; (case a => walk_at "side"); (case b => walk_at "side"); (case c => walk_at "pen"); intro x S' _ _ _)
  | (with_reducible refine i_sum_of ?a ?b ?_; (case a => walk_at "sz"); (case b => walk_at "sz"))
  | (with_reducible refine i_difference_of ?a ?b ?_; (case a => walk_at "sz"); (case b => walk_at "sz"))
  | (with_reducible refine i_product_of ?a ?b ?_; (case a => walk_at "sz"); (case b => walk_at "sz"))
  | (with_reducible refine i_is_below ?a ?b ?_; (case a => walk_at "sz"); (case b => walk_at "sz"))
  | (with_reducible refine i_added ?a ?b ?_; (case a => walk_at "sz"); (case b => walk_at "sz"))
  | (with_reducible refine i_less ?a ?b ?_; (case a => walk_at "sz"); (case b => walk_at "sz"))
  | (with_reducible refine i_times ?a ?b ?_; (case a => walk_at "sz"); (case b => walk_at "sz"))
  | (with_reducible refine i_is_less ?a ?b ?_; (case a => walk_at "sz"); (case b => walk_at "sz"))
  | (with_reducible refine i_sum ?a ?b ?_; (case a => walk_at "sz"); (case b => walk_at "sz"))
  | (with_reducible refine i_rest ?a ?b ?_; (case a => walk_at "sz"); (case b => walk_at "sz"))
  | (with_reducible refine i_prod ?a ?b ?_; (case a => walk_at "sz"); (case b => walk_at "sz"))
  | (with_reducible refine i_under ?a ?b ?_; (case a => walk_at "sz"); (case b => walk_at "sz"))
  | with_reducible refine i_is_part_pt ?_
  | with_reducible refine r_intB ?_
  | (with_reducible refine r_rng1 ?a ?b ?_; (case a => decide); (case b => decide)) | with_reducible refine r_ix0L ?_ | with_reducible refine r_muE ?_ | with_reducible refine r_itL ?_ | with_reducible refine r_itT ?_
  | with_reducible refine r_par3 ?_ | with_reducible refine r_three ?_ | with_reducible refine r_gSub ?_ | with_reducible refine r_lstM ?_ | with_reducible refine r_lstT ?_ | with_reducible refine r_turn ?_ | with_reducible refine r_callK ?_
  | with_reducible refine i_opposite ?_
  | ((with_reducible refine' r_ixT ?hv ?_); (case hv => rfl))
  | ((with_reducible refine' r_ixL ?hv ?_); (case hv => rfl)) | fail)
local macro_rules | `(tactic| walk_at "as1") => `(tactic| first
  | (with_reducible refine r_modI ?a ?_; (case a => decide))
  | (with_reducible refine r_divI ?a ?_; (case a => exact ⟨by decide, by decide⟩))
  | (with_reducible refine r_powI ?a ?_; (case a => exact ⟨by decide, by decide, by decide⟩)) | fail)
local macro_rules | `(tactic| walk_at "as1") => `(tactic| first
  | (with_reducible refine r_neSS rfl ?_)
  | ((with_reducible refine' r_reprD ?a ?b ?c ?_); (case a => walk_at "shd"); (case b => rfl); (case c => rfl)) | fail)

local macro_rules | `(tactic| walk_at "as1") => `(tactic| first
  | with_reducible refine r_eqPt ?_ | with_reducible refine r_nePt ?_ | with_reducible refine r_eqN ?_ | with_reducible refine r_neN ?_
  | (with_reducible refine n_difference_of1 ?a ?_; (case a => walk_at "sz"))
  | (with_reducible refine n_rest1 ?a ?_; (case a => walk_at "sz"))
  | (with_reducible refine i_divided ?z ?a ?b ?_; (case z => assumption); (case a => walk_at "sz"); (case b => walk_at "sz"))
  | (with_reducible refine i_by ?z ?a ?b ?_; (case z => assumption); (case a => walk_at "sz"); (case b => walk_at "sz"))
  | (with_reducible refine i_between2 ?a ?b ?c ?_; (case a => walk_at "sz"); (case b => walk_at "sz"); (case c => walk_at "sz")) | fail)
local macro_rules | `(tactic| walk_at "as1") => `(tactic| first
  | (with_reducible refine i_part ?a ?b ?c ?_; (case a => walk_at "side"); (case b => walk_at "side"); (case c => walk_at "pen"); intro q S' _ _)
  | (with_reducible refine i_above ?a ?b ?c ?_; (case a => walk_at "side"); (case b => walk_at "side"); (case c => walk_at "pen"); intro q S' _ _ _)
  | (with_reducible refine i_odd ?c ?_; (case c => walk_at "pen"); intro d S' _ _)
  | ((with_reducible refine i_clk_c ?a ?b ?c); (case a => walk_at "pD"); all_goals first | (intro (z : _ = false)) | (intro n e _; subst e))
  | ((with_reducible refine i_lclk_c ?a ?b ?c); (case a => walk_at "pD"); all_goals first | (intro (z : _ = false)) | (intro n e _; subst e))
  | ((with_reducible refine i_part_c ?a ?b ?c); (case a => walk_at "p2"); all_goals first | (intro (z : _ = false)) | (intro q e; subst e))
  | ((with_reducible refine i_up_c ?a ?b ?c); (case a => walk_at "p2"); all_goals first | (intro (z : _ = false)) | (intro q e _; subst e))
  | ((with_reducible refine i_lpart_c ?a ?b ?c); (case a => walk_at "pz"); all_goals first | (intro (z : _ = false)) | (intro q e; subst e)) | fail)

local macro_rules | `(tactic| walk_at "as1") => `(tactic| first
  | with_reducible refine r_telsLen ?_ | with_reducible refine r_itTels ?_ | with_reducible refine r_itRow ?_ | with_reducible refine r_rowLen ?_ | with_reducible refine r_wiET ?_ | with_reducible refine r_itET ?_ | with_reducible refine r_itE ?_
  | (with_reducible refine i_check_tellings_ok ?a ?_; (case a => walk_at "telok"))
  | (with_reducible refine i_check_number_ok ?a ?_; (case a => walk_at "side"))
  | (with_reducible refine i_is_kept ?a ?b ?_; (case a => walk_at "telok"); (case b => walk_at "telok"))
  | (with_reducible refine i_first_not_kept ?a ?b ?_; (case a => walk_at "telok"); (case b => walk_at "telok")) | fail)

local macro_rules | `(tactic| walk_at "as1") => `(tactic| first
  | with_reducible refine b_tp4 ?_ | with_reducible refine r_revL ?_ | with_reducible refine r_break ?_ | with_reducible refine r_cont ?_ | fail)

local macro_rules | `(tactic| walk_at "as1") => `(tactic| first
  | (with_reducible refine i_some ?c ?_; (case c => walk_at "pen"); intro q S' _ _ _)
  | (with_reducible refine i_up ?c ?_; (case c => walk_at "pen"); intro q S' _ _ _ _)
  | (with_reducible refine i_row ?c ?_; (case c => walk_at "pen"); intro r S' _ _) | fail)

local macro_rules | `(tactic| walk_at "as1") => `(tactic| first
  | with_reducible refine r_eqB ?_ | with_reducible refine r_eqNil ?_ | fail)
section
variable {P : Program} {w : World} {K : PySem.W.Frag} {mg : Str → Option Value} {base : Heap} {T : List (Addr × Str)}

abbrev N_is_whole : List Str := ["thing"]
theorem sc_is_whole : FnScope N_is_whole ["thing"] (defScope s_is_whole) := ⟨rfl, rfl, rfl, by decide +kernel, rfl, by decide +kernel, by decide +kernel⟩
theorem ok_is_whole {f : Addr} {fd : FuncData} (F : FunD K "is_whole" "is_whole" (defArgs s_is_whole) (defBody s_is_whole) (defScope s_is_whole) [] [] f fd) (fr : Fr mg)  : FnD false P w K mg base T 1 f fd ["thing"] p_is_whole := by
  refine fn_okD F sc_is_whole fun cdv A outer s H E hr hG0 cc => ?_
  have hG : GdOk false (cxOf (L2.CX P w) P w K mg base N_is_whole "is_whole" (defScope s_is_whole) f cdv A outer s H E).A := hG0
  have tk : Takes (cxOf (L2.CX P w) P w K mg base N_is_whole "is_whole" (defScope s_is_whole) f cdv A outer s H E) (fun cls d _ H' => E cls d H') := takes_of rfl rfl rfl rfl
  have po : PassesOwn (model P w) (cxOf (L2.CX P w) P w K mg base N_is_whole "is_whole" (defScope s_is_whole) f cdv A outer s H E).A (cxOf (L2.CX P w) P w K mg base N_is_whole "is_whole" (defScope s_is_whole) f cdv A outer s H E).env (cxOf (L2.CX P w) P w K mg base N_is_whole "is_whole" (defScope s_is_whole) f cdv A outer s H E).xe := passes_of rfl
  refine ⟨_, (psd_one (psd_ret (pd_and (pd_callB (cD_isi isi_int) rfl fr.isinstance_ (by decide +kernel) (pad_cons (pd_var 0) (pad_cons (pd_ty (n := "int") rfl fr.int_ (by decide +kernel)) pad_nil))) (pd_one (pd_not (pd_callB (cD_isi isi_bool) rfl fr.isinstance_ (by decide +kernel) (pad_cons (pd_var 0) (pad_cons (pd_ty (n := "bool") rfl fr.bool_ (by decide +kernel)) pad_nil)))))))), fun ds S R Rx hl hp => ?_⟩
  clear hG0 hG tk po hr cc; try clear fr 
  obtain ⟨d, rfl, h0, h⟩ := hp
  cases d <;> first | (cases h0; done) | skip
  all_goals (walk_at "go"; exact h)
abbrev N_is_part : List Str := ["thing", "top", "bottom"]
theorem sc_is_part : FnScope N_is_part ["thing"] (defScope s_is_part) := ⟨rfl, rfl, rfl, by decide +kernel, rfl, by decide +kernel, by decide +kernel⟩
theorem ok_is_part {f : Addr} {fd : FuncData} (F : FunD K "is_part" "is_part" (defArgs s_is_part) (defBody s_is_part) (defScope s_is_part) [] [] f fd) (fr : Fr mg) (c_is_whole : Cal false P w K mg base T "is_whole" 1 1 [] p_is_whole) (m_gcd : mg "gcd" = some (.builtin "math.gcd")) : FnD false P w K mg base T 2 f fd ["thing"] p_is_part := by
  refine fn_okD F sc_is_part fun cdv A outer s H E hr hG0 cc => ?_
  have hG : GdOk false (cxOf (L2.CX P w) P w K mg base N_is_part "is_part" (defScope s_is_part) f cdv A outer s H E).A := hG0
  have tk : Takes (cxOf (L2.CX P w) P w K mg base N_is_part "is_part" (defScope s_is_part) f cdv A outer s H E) (fun cls d _ H' => E cls d H') := takes_of rfl rfl rfl rfl
  have po : PassesOwn (model P w) (cxOf (L2.CX P w) P w K mg base N_is_part "is_part" (defScope s_is_part) f cdv A outer s H E).A (cxOf (L2.CX P w) P w K mg base N_is_part "is_part" (defScope s_is_part) f cdv A outer s H E).env (cxOf (L2.CX P w) P w K mg base N_is_part "is_part" (defScope s_is_part) f cdv A outer s H E).xe := passes_of rfl
  refine ⟨_, (psd_cons (psd_if (ptd_w (pwd_or (ptd_not (ptd_val (pd_callB (cD_isi isi_tup) rfl fr.isinstance_ (by decide +kernel) (pad_cons (pd_var 0) (pad_cons (pd_ty (n := "tuple") rfl fr.tuple_ (by decide +kernel)) pad_nil))))) (pwd_or1 (ptd_cmp (opD_ne hr.units) (nobehind _ (by decide) (by decide)) (pd_callB cD_len rfl fr.len_ (by decide +kernel) (pad_cons (pd_var 0) pad_nil)) pd_int)))) (psd_one (psd_ret pd_bl)) psd_nil) (psd_cons (psd_asg (pd_var 0) (pgd_tup rfl (pgsd_cons (pgd_name 1 sc_is_part.nd rfl (Or.inl rfl)) (pgsd_cons (pgd_name 2 sc_is_part.nd rfl (Or.inl rfl)) pgsd_nil)))) (psd_cons (psd_if (ptd_w (pwd_or (ptd_not (ptd_val (pd_own (c_is_whole.up (by decide)) hr (hG.le (by decide)) rfl tk (pad_cons (pd_var 1) pad_nil)))) (pwd_or1 (ptd_not (ptd_val (pd_own (c_is_whole.up (by decide)) hr (hG.le (by decide)) rfl tk (pad_cons (pd_var 2) pad_nil))))))) (psd_one (psd_ret pd_bl)) psd_nil) (psd_one (psd_ret (pd_and (pd_cmp opD_gt (nobehind _ (by decide) (by decide)) (pd_var 2) pd_int) (pd_one (pd_cmp (opD_eq hr.units) (nobehind _ (by decide) (by decide)) (pd_callF cD_gcd rfl m_gcd (pad_cons (pd_var 1) (pad_cons (pd_var 2) pad_nil))) pd_int)))))))), fun ds S R Rx hl hp => ?_⟩
  clear hG0 hG tk po hr cc; try clear fr c_is_whole m_gcd
  obtain ⟨d, rfl, h0, h⟩ := hp
  by_cases ht : ∃ a b, d = .tup [a, b]
  · obtain ⟨a, b, rfl⟩ := ht
    obtain ⟨ha, hb⟩ := Bool.and_eq_true_iff.mp (show (plainD a && plainD b) = true from h0)
    walk_at "go"
    refine i_is_whole ha ?_
    cases wa : isWhole a with
    | false =>
      rw [isPart_l wa] at h
      walk_at "go"
      exact h
    | true =>
      walk_at "go"
      refine i_is_whole hb ?_
      cases wb : isWhole b with
      | false =>
        rw [isPart_r wb] at h
        walk_at "go"
        exact h
      | true =>
        obtain ⟨i, rfl⟩ := isWhole_of wa
        obtain ⟨j, rfl⟩ := isWhole_of wb
        walk_at "go"
        have h : R (.bl (decide (0 < j) && decide (Nat.gcd i.natAbs j.natAbs = 1))) S := h
        by_cases hj : 0 < j
        · rw [decide_eq_true hj] at h ⊢
          walk_at "go"
          have e : decide (((Nat.gcd i.natAbs j.natAbs : Nat) : Int) = 1) = decide (Nat.gcd i.natAbs j.natAbs = 1) := by
            simp only [decide_eq_decide]
            omega
          rw [e]
          exact h
        · rw [decide_eq_false hj] at h ⊢
          walk_at "go"
          exact h
  · have hf : isPart d = false := isPart_2 ht
    rw [hf] at h
    cases d with
    | tup xs =>
      walk_at "go"
      have e : (!decide (((xs.length : Nat) : Int) = 2)) = true := len_2 ht
      rw [e]
      walk_at "go"
      exact h
    | ty n => cases h0
    | ob n => cases h0
    | _ =>
      walk_at "go"
      exact h
abbrev N_difference_of : List Str := ["one", "other", "top", "bottom", "shared"]
theorem sc_difference_of : FnScope N_difference_of ["one", "other"] (defScope s_difference_of) := ⟨rfl, rfl, rfl, by decide +kernel, rfl, by decide +kernel, by decide +kernel⟩
theorem ok_difference_of {f : Addr} {fd : FuncData} (F : FunD K "difference_of" "difference_of" (defArgs s_difference_of) (defBody s_difference_of) (defScope s_difference_of) [] [] f fd) (fr : Fr mg) (m_gcd : mg "gcd" = some (.builtin "math.gcd")) : FnD false P w K mg base T 1 f fd ["one", "other"] p_difference_of := by
  refine fn_okD F sc_difference_of fun cdv A outer s H E hr hG0 cc => ?_
  have hG : GdOk false (cxOf (L2.CX P w) P w K mg base N_difference_of "difference_of" (defScope s_difference_of) f cdv A outer s H E).A := hG0
  have tk : Takes (cxOf (L2.CX P w) P w K mg base N_difference_of "difference_of" (defScope s_difference_of) f cdv A outer s H E) (fun cls d _ H' => E cls d H') := takes_of rfl rfl rfl rfl
  have po : PassesOwn (model P w) (cxOf (L2.CX P w) P w K mg base N_difference_of "difference_of" (defScope s_difference_of) f cdv A outer s H E).A (cxOf (L2.CX P w) P w K mg base N_difference_of "difference_of" (defScope s_difference_of) f cdv A outer s H E).env (cxOf (L2.CX P w) P w K mg base N_difference_of "difference_of" (defScope s_difference_of) f cdv A outer s H E).xe := passes_of rfl
  refine ⟨_, (psd_cons (psd_set 2 sc_difference_of.nd rfl (Or.inl rfl) (pd_bin opD_sub (pd_bin opD_mul (pd_ix ixD (pd_var 0) pd_int) (pd_ix ixD (pd_var 1) pd_int)) (pd_bin opD_mul (pd_ix ixD (pd_var 1) pd_int) (pd_ix ixD (pd_var 0) pd_int)))) (psd_cons (psd_set 3 sc_difference_of.nd rfl (Or.inl rfl) (pd_bin opD_mul (pd_ix ixD (pd_var 0) pd_int) (pd_ix ixD (pd_var 1) pd_int))) (psd_cons (psd_set 4 sc_difference_of.nd rfl (Or.inl rfl) (pd_callF cD_gcd rfl m_gcd (pad_cons (pd_var 2) (pad_cons (pd_var 3) pad_nil)))) (psd_one (psd_ret (pd_tup (pad_cons (pd_bin opD_div (pd_var 2) (pd_var 4)) (pad_cons (pd_bin opD_div (pd_var 3) (pd_var 4)) pad_nil)))))))), fun ds S R Rx hl hp => ?_⟩
  clear hG0 hG tk po hr cc; try clear fr m_gcd
  obtain ⟨p, q, rfl, hp, hq, h⟩ := hp
  have e : ((p.den : Int) * (q.den : Int)).natAbs = p.den * q.den := by rw [← Int.natCast_mul, Int.natAbs_natCast]
  have side := gcd_side (a := p.num * (q.den : Int) - q.num * (p.den : Int)) (den_nz2 p q) (den_mul hp hq)
  walk_at "go"
  · exact cm_of hp.n hq.d (by decide)
  · exact cm_of hq.n hp.d (by decide)
  · exact cm_of hp.d hq.d (by decide)
  · rw [e]
    exact side
  · rw [e]
    exact side
  · rw [Rat.sub_def, normal_pt] at h
    rw [e, ← Int.natCast_mul]
    exact h
abbrev N_is_below : List Str := ["one", "other"]
theorem sc_is_below : FnScope N_is_below ["one", "other"] (defScope s_is_below) := ⟨rfl, rfl, rfl, by decide +kernel, rfl, by decide +kernel, by decide +kernel⟩
theorem ok_is_below {f : Addr} {fd : FuncData} (F : FunD K "is_below" "is_below" (defArgs s_is_below) (defBody s_is_below) (defScope s_is_below) [] [] f fd) (fr : Fr mg)  : FnD false P w K mg base T 1 f fd ["one", "other"] p_is_below := by
  refine fn_okD F sc_is_below fun cdv A outer s H E hr hG0 cc => ?_
  have hG : GdOk false (cxOf (L2.CX P w) P w K mg base N_is_below "is_below" (defScope s_is_below) f cdv A outer s H E).A := hG0
  have tk : Takes (cxOf (L2.CX P w) P w K mg base N_is_below "is_below" (defScope s_is_below) f cdv A outer s H E) (fun cls d _ H' => E cls d H') := takes_of rfl rfl rfl rfl
  have po : PassesOwn (model P w) (cxOf (L2.CX P w) P w K mg base N_is_below "is_below" (defScope s_is_below) f cdv A outer s H E).A (cxOf (L2.CX P w) P w K mg base N_is_below "is_below" (defScope s_is_below) f cdv A outer s H E).env (cxOf (L2.CX P w) P w K mg base N_is_below "is_below" (defScope s_is_below) f cdv A outer s H E).xe := passes_of rfl
  refine ⟨_, (psd_one (psd_ret (pd_cmp opD_lt (nobehind _ (by decide) (by decide)) (pd_bin opD_mul (pd_ix ixD (pd_var 0) pd_int) (pd_ix ixD (pd_var 1) pd_int)) (pd_bin opD_mul (pd_ix ixD (pd_var 1) pd_int) (pd_ix ixD (pd_var 0) pd_int))))), fun ds S R Rx hl hp => ?_⟩
  clear hG0 hG tk po hr cc; try clear fr 
  obtain ⟨p, q, rfl, hp, hq, h⟩ := hp
  walk_at "go"
  · exact cm_of hp.n hq.d (by decide)
  · exact cm_of hq.n hp.d (by decide)
  · rw [lt_pt]
    exact h
abbrev N_is_clock_number : List Str := ["thing"]
theorem sc_is_clock_number : FnScope N_is_clock_number ["thing"] (defScope s_is_clock_number) := ⟨rfl, rfl, rfl, by decide +kernel, rfl, by decide +kernel, by decide +kernel⟩
theorem ok_is_clock_number {f : Addr} {fd : FuncData} (F : FunD K "is_clock_number" "is_clock_number" (defArgs s_is_clock_number) (defBody s_is_clock_number) (defScope s_is_clock_number) [] [] f fd) (fr : Fr mg) (c_is_whole : Cal false P w K mg base T "is_whole" 1 1 [] p_is_whole) (k_CLOCKS : Con K mg "CLOCKS" v_CLOCKS) : FnD false P w K mg base T 2 f fd ["thing"] p_is_clock_number := by
  refine fn_okD F sc_is_clock_number fun cdv A outer s H E hr hG0 cc => ?_
  have hG : GdOk false (cxOf (L2.CX P w) P w K mg base N_is_clock_number "is_clock_number" (defScope s_is_clock_number) f cdv A outer s H E).A := hG0
  have tk : Takes (cxOf (L2.CX P w) P w K mg base N_is_clock_number "is_clock_number" (defScope s_is_clock_number) f cdv A outer s H E) (fun cls d _ H' => E cls d H') := takes_of rfl rfl rfl rfl
  have po : PassesOwn (model P w) (cxOf (L2.CX P w) P w K mg base N_is_clock_number "is_clock_number" (defScope s_is_clock_number) f cdv A outer s H E).A (cxOf (L2.CX P w) P w K mg base N_is_clock_number "is_clock_number" (defScope s_is_clock_number) f cdv A outer s H E).env (cxOf (L2.CX P w) P w K mg base N_is_clock_number "is_clock_number" (defScope s_is_clock_number) f cdv A outer s H E).xe := passes_of rfl
  refine ⟨_, (psd_one (psd_ret (pd_and (pd_own (c_is_whole.up (by decide)) hr (hG.le (by decide)) rfl tk (pad_cons (pd_var 0) pad_nil)) (pd_one (pd_chain opD_le opD_lt pd_int (pd_var 0) (pd_const k_CLOCKS rfl)))))), fun ds S R Rx hl hp => ?_⟩
  clear hG0 hG tk po hr cc; try clear fr c_is_whole k_CLOCKS
  obtain ⟨d, rfl, h0, h⟩ := hp
  walk_at "go"
  refine i_is_whole h0 ?_
  cases d with
  | int i =>
    rw [isClk_int] at h
    walk_at "go"
    first
    | exact h
    | (refine r_bothD (fun z => ?_) (fun z => ?_)
       · rw [decide_eq_true z] at h
         walk_at "go"
         first
         | exact h
         | (have e : decide (i ≤ 5) = decide (i < 6) := by simp only [decide_eq_decide]; omega
            rw [e]
            exact h)
       · rw [decide_eq_false z] at h
         walk_at "go"
         exact h)
  | ty n => cases h0
  | ob n => cases h0
  | er n => cases h0
  | _ =>
    walk_at "go"
    exact h
abbrev N_are_bounds : List Str := ["low", "high"]
theorem sc_are_bounds : FnScope N_are_bounds ["low", "high"] (defScope s_are_bounds) := ⟨rfl, rfl, rfl, by decide +kernel, rfl, by decide +kernel, by decide +kernel⟩
theorem ok_are_bounds {f : Addr} {fd : FuncData} (F : FunD K "are_bounds" "are_bounds" (defArgs s_are_bounds) (defBody s_are_bounds) (defScope s_are_bounds) [] [] f fd) (fr : Fr mg) (c_is_part : Cal false P w K mg base T "is_part" 2 1 [] p_is_part) (c_is_below : Cal false P w K mg base T "is_below" 1 2 [] p_is_below) : FnD false P w K mg base T 3 f fd ["low", "high"] p_are_bounds := by
  refine fn_okD F sc_are_bounds fun cdv A outer s H E hr hG0 cc => ?_
  have hG : GdOk false (cxOf (L2.CX P w) P w K mg base N_are_bounds "are_bounds" (defScope s_are_bounds) f cdv A outer s H E).A := hG0
  have tk : Takes (cxOf (L2.CX P w) P w K mg base N_are_bounds "are_bounds" (defScope s_are_bounds) f cdv A outer s H E) (fun cls d _ H' => E cls d H') := takes_of rfl rfl rfl rfl
  have po : PassesOwn (model P w) (cxOf (L2.CX P w) P w K mg base N_are_bounds "are_bounds" (defScope s_are_bounds) f cdv A outer s H E).A (cxOf (L2.CX P w) P w K mg base N_are_bounds "are_bounds" (defScope s_are_bounds) f cdv A outer s H E).env (cxOf (L2.CX P w) P w K mg base N_are_bounds "are_bounds" (defScope s_are_bounds) f cdv A outer s H E).xe := passes_of rfl
  refine ⟨_, (psd_cons (psd_if (ptd_cmp opD_is (nobehind _ (by decide) (by decide)) (pd_var 0) pd_non) (psd_one (psd_ret (pd_own (c_is_part.up (by decide)) hr (hG.le (by decide)) rfl tk (pad_cons (pd_var 1) pad_nil)))) psd_nil) (psd_cons (psd_if (ptd_cmp opD_is (nobehind _ (by decide) (by decide)) (pd_var 1) pd_non) (psd_one (psd_ret (pd_own (c_is_part.up (by decide)) hr (hG.le (by decide)) rfl tk (pad_cons (pd_var 0) pad_nil)))) psd_nil) (psd_one (psd_ret (pd_and (pd_own (c_is_part.up (by decide)) hr (hG.le (by decide)) rfl tk (pad_cons (pd_var 0) pad_nil)) (pd_and (pd_own (c_is_part.up (by decide)) hr (hG.le (by decide)) rfl tk (pad_cons (pd_var 1) pad_nil)) (pd_one (pd_not (pd_own (c_is_below.up (by decide)) hr (hG.le (by decide)) rfl tk (pad_cons (pd_var 1) (pad_cons (pd_var 0) pad_nil))))))))))), fun ds S R Rx hl hp => ?_⟩
  clear hG0 hG tk po hr cc; try clear fr c_is_part c_is_below
  obtain ⟨l, hh, rfl, wl, wh, h⟩ := hp
  walk_at "go"
  cases el : isNon l with
  | true =>
    have e : bndB l hh = isPart hh := by unfold bndB; rw [el]; rfl
    rw [e] at h
    walk_at "go"
    exact i_is_part wh.1 h
  | false =>
    walk_at "go"
    cases eh : isNon hh with
    | true =>
      have e : bndB l hh = isPart l := by unfold bndB; rw [el, eh]; rfl
      rw [e] at h
      walk_at "go"
      exact i_is_part wl.1 h
    | false =>
      have e : bndB l hh = (isPart l && (isPart hh && !ltP hh l)) := by unfold bndB; rw [el, eh]; rfl
      rw [e] at h
      clear el eh e
      walk_at "au"
      · have h : R (.bl (!ltP (pt _) (pt _))) S := r_blE h (by rw [isPart_pt, isPart_pt]; rfl)
        rw [ltP_pt] at h
        exact h
      · exact r_blE h (by simp [isPart_pt, *])
      · exact r_blE h (by simp [isPart_pt, *])
abbrev N_is_telling : List Str := ["thing", "one", "other", "low", "high"]
theorem sc_is_telling : FnScope N_is_telling ["thing"] (defScope s_is_telling) := ⟨rfl, rfl, rfl, by decide +kernel, rfl, by decide +kernel, by decide +kernel⟩
theorem ok_is_telling {f : Addr} {fd : FuncData} (F : FunD K "is_telling" "is_telling" (defArgs s_is_telling) (defBody s_is_telling) (defScope s_is_telling) [] [] f fd) (fr : Fr mg) (c_are_bounds : Cal false P w K mg base T "are_bounds" 3 2 [] p_are_bounds) (c_is_clock_number : Cal false P w K mg base T "is_clock_number" 2 1 [] p_is_clock_number) : FnD false P w K mg base T 4 f fd ["thing"] p_is_telling := by
  refine fn_okD F sc_is_telling fun cdv A outer s H E hr hG0 cc => ?_
  have hG : GdOk false (cxOf (L2.CX P w) P w K mg base N_is_telling "is_telling" (defScope s_is_telling) f cdv A outer s H E).A := hG0
  have tk : Takes (cxOf (L2.CX P w) P w K mg base N_is_telling "is_telling" (defScope s_is_telling) f cdv A outer s H E) (fun cls d _ H' => E cls d H') := takes_of rfl rfl rfl rfl
  have po : PassesOwn (model P w) (cxOf (L2.CX P w) P w K mg base N_is_telling "is_telling" (defScope s_is_telling) f cdv A outer s H E).A (cxOf (L2.CX P w) P w K mg base N_is_telling "is_telling" (defScope s_is_telling) f cdv A outer s H E).env (cxOf (L2.CX P w) P w K mg base N_is_telling "is_telling" (defScope s_is_telling) f cdv A outer s H E).xe := passes_of rfl
  refine ⟨_, (psd_cons (psd_if (ptd_w (pwd_or (ptd_not (ptd_val (pd_callB (cD_isi isi_tup) rfl fr.isinstance_ (by decide +kernel) (pad_cons (pd_var 0) (pad_cons (pd_ty (n := "tuple") rfl fr.tuple_ (by decide +kernel)) pad_nil))))) (pwd_or1 (ptd_cmp (opD_ne hr.units) (nobehind _ (by decide) (by decide)) (pd_callB cD_len rfl fr.len_ (by decide +kernel) (pad_cons (pd_var 0) pad_nil)) pd_int)))) (psd_one (psd_ret pd_bl)) psd_nil) (psd_cons (psd_asg (pd_var 0) (pgd_tup rfl (pgsd_cons (pgd_name 1 sc_is_telling.nd rfl (Or.inl rfl)) (pgsd_cons (pgd_name 2 sc_is_telling.nd rfl (Or.inl rfl)) (pgsd_cons (pgd_name 3 sc_is_telling.nd rfl (Or.inl rfl)) (pgsd_cons (pgd_name 4 sc_is_telling.nd rfl (Or.inl rfl)) pgsd_nil)))))) (psd_cons (psd_if (ptd_w (pwd_or (ptd_not (ptd_val (pd_own (c_is_clock_number.up (by decide)) hr (hG.le (by decide)) rfl tk (pad_cons (pd_var 1) pad_nil)))) (pwd_or1 (ptd_not (ptd_val (pd_own (c_is_clock_number.up (by decide)) hr (hG.le (by decide)) rfl tk (pad_cons (pd_var 2) pad_nil))))))) (psd_one (psd_ret pd_bl)) psd_nil) (psd_one (psd_ret (pd_and (pd_cmp (opD_ne hr.units) (nobehind _ (by decide) (by decide)) (pd_var 1) (pd_var 2)) (pd_one (pd_own (c_are_bounds.up (by decide)) hr (hG.le (by decide)) rfl tk (pad_cons (pd_var 3) (pad_cons (pd_var 4) pad_nil)))))))))), fun ds S R Rx hl hp => ?_⟩
  clear hG0 hG tk po hr cc; try clear fr c_are_bounds c_is_clock_number
  obtain ⟨d, rfl, hz, h⟩ := hp
  rcases tup_4 d with ⟨a, b, l, hh, rfl⟩ | hn
  · have za := hz.at (x := a) (by simp)
    have zb := hz.at (x := b) (by simp)
    have zl := hz.at (x := l) (by simp)
    have zh := hz.at (x := hh) (by simp)
    clear hz
    walk_at "au"
    rotate_left
    · exact r_blE h (by simp [isTel, *])
    · exact r_blE h (by simp [isTel, *])
    rename_i x hx y hy
    refine r_bothN (fun e => ?_) (fun e => ?_)
    · walk_at "go"
      refine i_are_bounds zl zh (r_blE h ?_)
      simp [isTel, isClk_nat, hx, hy, neI, e]
    · walk_at "go"
      exact r_blE h (by simp [isTel, isClk_nat, hx, hy, neI, e])
  · rw [isTel_no hn] at h
    cases d with
    | tup xs =>
      have e := hn.ne
      walk_at "go"
      exact h
    | ty n => cases hz.1
    | ob n => cases hz.1
    | er n => cases hz.1
    | _ =>
      walk_at "go"
      exact h
abbrev N_are_tellings : List Str := ["thing", "telling"]
theorem sc_are_tellings : FnScope N_are_tellings ["thing"] (defScope s_are_tellings) := ⟨rfl, rfl, rfl, by decide +kernel, rfl, by decide +kernel, by decide +kernel⟩
theorem ok_are_tellings {f : Addr} {fd : FuncData} (F : FunD K "are_tellings" "are_tellings" (defArgs s_are_tellings) (defBody s_are_tellings) (defScope s_are_tellings) [] [] f fd) (fr : Fr mg) (c_is_telling : Cal false P w K mg base T "is_telling" 4 1 [] p_is_telling) (k_MOST_TELLINGS : Con K mg "MOST_TELLINGS" v_MOST_TELLINGS) : FnD false P w K mg base T 5 f fd ["thing"] p_are_tellings := by
  refine fn_okD F sc_are_tellings fun cdv A outer s H E hr hG0 cc => ?_
  have hG : GdOk false (cxOf (L2.CX P w) P w K mg base N_are_tellings "are_tellings" (defScope s_are_tellings) f cdv A outer s H E).A := hG0
  have tk : Takes (cxOf (L2.CX P w) P w K mg base N_are_tellings "are_tellings" (defScope s_are_tellings) f cdv A outer s H E) (fun cls d _ H' => E cls d H') := takes_of rfl rfl rfl rfl
  have po : PassesOwn (model P w) (cxOf (L2.CX P w) P w K mg base N_are_tellings "are_tellings" (defScope s_are_tellings) f cdv A outer s H E).A (cxOf (L2.CX P w) P w K mg base N_are_tellings "are_tellings" (defScope s_are_tellings) f cdv A outer s H E).env (cxOf (L2.CX P w) P w K mg base N_are_tellings "are_tellings" (defScope s_are_tellings) f cdv A outer s H E).xe := passes_of rfl
  refine ⟨_, (psd_cons (psd_if (ptd_w (pwd_or (ptd_not (ptd_val (pd_callB (cD_isi isi_tup) rfl fr.isinstance_ (by decide +kernel) (pad_cons (pd_var 0) (pad_cons (pd_ty (n := "tuple") rfl fr.tuple_ (by decide +kernel)) pad_nil))))) (pwd_or1 (ptd_cmp opD_gt (nobehind _ (by decide) (by decide)) (pd_callB cD_len rfl fr.len_ (by decide +kernel) (pad_cons (pd_var 0) pad_nil)) (pd_const k_MOST_TELLINGS rfl))))) (psd_one (psd_ret pd_bl)) psd_nil) (psd_cons (psd_for po rfl (pid_tup (pd_var 0)) (pgd_name 1 sc_are_tellings.nd rfl (Or.inl rfl)) (psd_one (psd_if (ptd_not (ptd_val (pd_own (c_is_telling.up (by decide)) hr (hG.le (by decide)) rfl tk (pad_cons (pd_var 1) pad_nil)))) (psd_one (psd_ret pd_bl)) psd_nil))) (psd_one (psd_ret pd_bl)))), fun ds S R Rx hl hp => ?_⟩
  clear hG0 hG tk po hr cc; try clear fr c_is_telling k_MOST_TELLINGS
  obtain ⟨d, rfl, hz, h⟩ := hp
  cases d with
  | tup xs =>
    have h : R (.bl (decide (xs.length ≤ 16) && xs.all isTel)) S := h
    walk_at "go"
    refine r_bothD (fun z => ?_) (fun z => ?_)
    · rw [decide_eq_false (by omega), Bool.false_and] at h
      walk_at "go"
      exact h
    · rw [decide_eq_true (by omega), Bool.true_and] at h
      walk_at "au"
      refine loop_by (fun i env S1 => S = S1 ∧ (xs.take i).all isTel = true ∧ ∃ x1, env = [some (.tup xs), x1]) ⟨rfl, by rw [List.take_zero]; rfl, _, rfl⟩ ?_ ?_
      · intro i d env S1 N hd hI hN
        obtain ⟨rfl, ha, x1, rfl⟩ := hI
        refine ⟨trivial, ?_⟩
        walk_at "au"
        refine i_is_telling (hz.at (List.mem_of_getElem? hd)) ?_
        walk_at "au"
        refine r_bothF (fun e => ?_) (fun e => ?_)
        · walk_at "au"
          refine r_blE h ?_
          exact List.all_eq_false.mpr ⟨d, List.mem_of_getElem? hd, by rw [e]; decide⟩
        · walk_at "au"
          refine hN _ _ ⟨rfl, ?_, _, rfl⟩
          rw [List.take_add_one, hd, List.all_append, ha]
          simp [e]
      · intro env S1 hI
        obtain ⟨rfl, ha, x1, rfl⟩ := hI
        refine ⟨trivial, ?_⟩
        rw [List.take_length] at ha
        rw [ha] at h
        walk_at "au"
        exact h
  | ty n => cases hz.1
  | ob n => cases hz.1
  | er n => cases hz.1
  | _ =>
    walk_at "go"
    exact h
abbrev N_is_row : List Str := ["thing", "error"]
theorem sc_is_row : FnScope N_is_row ["thing"] (defScope s_is_row) := ⟨rfl, rfl, rfl, by decide +kernel, rfl, by decide +kernel, by decide +kernel⟩
theorem ok_is_row {f : Addr} {fd : FuncData} (F : FunD K "is_row" "is_row" (defArgs s_is_row) (defBody s_is_row) (defScope s_is_row) [] [] f fd) (fr : Fr mg) (c_is_part : Cal false P w K mg base T "is_part" 2 1 [] p_is_part) (k_CLOCKS : Con K mg "CLOCKS" v_CLOCKS) (k_NOUGHT : Con K mg "NOUGHT" v_NOUGHT) : FnD false P w K mg base T 3 f fd ["thing"] p_is_row := by
  refine fn_okD F sc_is_row fun cdv A outer s H E hr hG0 cc => ?_
  have hG : GdOk false (cxOf (L2.CX P w) P w K mg base N_is_row "is_row" (defScope s_is_row) f cdv A outer s H E).A := hG0
  have tk : Takes (cxOf (L2.CX P w) P w K mg base N_is_row "is_row" (defScope s_is_row) f cdv A outer s H E) (fun cls d _ H' => E cls d H') := takes_of rfl rfl rfl rfl
  have po : PassesOwn (model P w) (cxOf (L2.CX P w) P w K mg base N_is_row "is_row" (defScope s_is_row) f cdv A outer s H E).A (cxOf (L2.CX P w) P w K mg base N_is_row "is_row" (defScope s_is_row) f cdv A outer s H E).env (cxOf (L2.CX P w) P w K mg base N_is_row "is_row" (defScope s_is_row) f cdv A outer s H E).xe := passes_of rfl
  refine ⟨_, (psd_cons (psd_if (ptd_w (pwd_or (ptd_not (ptd_val (pd_callB (cD_isi isi_tup) rfl fr.isinstance_ (by decide +kernel) (pad_cons (pd_var 0) (pad_cons (pd_ty (n := "tuple") rfl fr.tuple_ (by decide +kernel)) pad_nil))))) (pwd_or1 (ptd_cmp (opD_ne hr.units) (nobehind _ (by decide) (by decide)) (pd_callB cD_len rfl fr.len_ (by decide +kernel) (pad_cons (pd_var 0) pad_nil)) (pd_const k_CLOCKS rfl))))) (psd_one (psd_ret pd_bl)) psd_nil) (psd_one (psd_ret (pd_and (pd_callB (cD_all rfl) rfl fr.all_ (by decide +kernel) (pad_cons (pd_lc (own := [("error", 1)]) (b := (.nm 1)) rfl sc_is_row.nd (pid_tup (pd_var 0)) (blkOk_by (own := [("error", 1)]) (N := N_is_row) (sc := defScope s_is_row) (by decide +kernel)) (by intro i hi; simp [Bd.all] at hi ⊢; omega) (fun _ _ _ _ _ => pg_name (i := 1) sc_is_row.nd rfl (Or.inl rfl)) (fun _ _ _ _ _ => ptsd_nil) (fun _ _ _ _ _ => (pd_own (c_is_part.up (by decide)) hr (hG.le (by decide)) rfl L2.takes0 (pad_cons (pd_var 1) pad_nil)))) pad_nil)) (pd_one (pd_cmp (opD_eq hr.units) (nobehind _ (by decide) (by decide)) (pd_ix ixD (pd_var 0) pd_int) (pd_const k_NOUGHT rfl))))))), fun ds S R Rx hl hp => ?_⟩
  clear hG0 hG tk po hr cc; try clear fr c_is_part k_CLOCKS k_NOUGHT
  obtain ⟨d, rfl, hz, h⟩ := hp
  cases d with
  | tup xs =>
    have h : R (.bl (decide (xs.length = 6) && (xs.all isPart && isNought (xs.headD .non)))) S := h
    walk_at "go"
    refine r_bothN (fun z => ?_) (fun z => ?_)
    · rw [decide_eq_false (by omega), Bool.false_and] at h
      walk_at "go"
      exact h
    · have z : xs.length = 6 := by omega
      rw [decide_eq_true z, Bool.true_and] at h
      walk_at "au"
      refine comp_all (xs := xs) isPart (by omega) trivial ?_ ?_
      · intro d N hm hN
        walk_at "go"
        exact i_is_part (hz.at hm).p2 hN
      · walk_at "go"
        refine ⟨_, rfl, ?_⟩
        rw [all_map]
        refine r_bl ?_
        cases ea : xs.all isPart with
        | false =>
          rw [ea] at h
          walk_at "go"
          exact h
        | true =>
          rw [ea] at h
          obtain ⟨r, rfl⟩ := parts_at ea
          cases r with
          | nil => cases z
          | cons q r =>
            walk_at "au"
            refine r_ix0T (a := pt q) (xs := r.map pt) ?_
            walk_at "au"
            have e : isNought (pt q) = decide (q = 0) := by
              by_cases hq : q = 0
              · subst hq
                rfl
              · rw [decide_eq_false hq]
                cases hn : isNought (pt q) with
                | false => rfl
                | true => exact absurd (pt_inj (isNought_at hn)) hq
            have h : R (.bl (isNought (pt q))) S := h
            rw [e] at h
            exact h
  | ty n => cases hz.1
  | ob n => cases hz.1
  | er n => cases hz.1
  | _ =>
    walk_at "go"
    exact h
abbrev N_check_tellings : List Str := ["thing"]
theorem sc_check_tellings : FnScope N_check_tellings ["thing"] (defScope s_check_tellings) := ⟨rfl, rfl, rfl, by decide +kernel, rfl, by decide +kernel, by decide +kernel⟩
theorem ok_check_tellings {f : Addr} {fd : FuncData} (F : FunD K "check_tellings" "check_tellings" (defArgs s_check_tellings) (defBody s_check_tellings) (defScope s_check_tellings) [] [] f fd) (fr : Fr mg) (c_are_tellings : Cal false P w K mg base T "are_tellings" 5 1 [] p_are_tellings) (x_NoTellings : Xc K mg "NoTellings") : FnD false P w K mg base T 6 f fd ["thing"] (p_check_tellings K) := by
  refine fn_okD F sc_check_tellings fun cdv A outer s H E hr hG0 cc => ?_
  have hG : GdOk false (cxOf (L2.CX P w) P w K mg base N_check_tellings "check_tellings" (defScope s_check_tellings) f cdv A outer s H E).A := hG0
  have tk : Takes (cxOf (L2.CX P w) P w K mg base N_check_tellings "check_tellings" (defScope s_check_tellings) f cdv A outer s H E) (fun cls d _ H' => E cls d H') := takes_of rfl rfl rfl rfl
  have po : PassesOwn (model P w) (cxOf (L2.CX P w) P w K mg base N_check_tellings "check_tellings" (defScope s_check_tellings) f cdv A outer s H E).A (cxOf (L2.CX P w) P w K mg base N_check_tellings "check_tellings" (defScope s_check_tellings) f cdv A outer s H E).env (cxOf (L2.CX P w) P w K mg base N_check_tellings "check_tellings" (defScope s_check_tellings) f cdv A outer s H E).xe := passes_of rfl
  refine ⟨_, (psd_one (psd_if (ptd_not (ptd_val (pd_own (c_are_tellings.up (by decide)) hr (hG.le (by decide)) rfl tk (pad_cons (pd_var 0) pad_nil)))) (psd_one (psd_raise x_NoTellings rfl rfl tk)) psd_nil)), fun ds S R Rx hl hp => ?_⟩
  clear hG0 hG tk po hr cc; try clear fr c_are_tellings x_NoTellings
  obtain ⟨d, rfl, hd, h1, h2⟩ := hp
  walk_at "go"
  refine i_are_tellings hd ?_
  walk_at "go"
  refine r_bothF (fun e => ?_) (fun e => ?_)
  · walk_at "go"
    exact h2 e
  · walk_at "go"
    exact h1 e
abbrev N_check_row : List Str := ["thing"]
theorem sc_check_row : FnScope N_check_row ["thing"] (defScope s_check_row) := ⟨rfl, rfl, rfl, by decide +kernel, rfl, by decide +kernel, by decide +kernel⟩
theorem ok_check_row {f : Addr} {fd : FuncData} (F : FunD K "check_row" "check_row" (defArgs s_check_row) (defBody s_check_row) (defScope s_check_row) [] [] f fd) (fr : Fr mg) (c_is_row : Cal false P w K mg base T "is_row" 3 1 [] p_is_row) (x_NoRow : Xc K mg "NoRow") : FnD false P w K mg base T 4 f fd ["thing"] (p_check_row K) := by
  refine fn_okD F sc_check_row fun cdv A outer s H E hr hG0 cc => ?_
  have hG : GdOk false (cxOf (L2.CX P w) P w K mg base N_check_row "check_row" (defScope s_check_row) f cdv A outer s H E).A := hG0
  have tk : Takes (cxOf (L2.CX P w) P w K mg base N_check_row "check_row" (defScope s_check_row) f cdv A outer s H E) (fun cls d _ H' => E cls d H') := takes_of rfl rfl rfl rfl
  have po : PassesOwn (model P w) (cxOf (L2.CX P w) P w K mg base N_check_row "check_row" (defScope s_check_row) f cdv A outer s H E).A (cxOf (L2.CX P w) P w K mg base N_check_row "check_row" (defScope s_check_row) f cdv A outer s H E).env (cxOf (L2.CX P w) P w K mg base N_check_row "check_row" (defScope s_check_row) f cdv A outer s H E).xe := passes_of rfl
  refine ⟨_, (psd_one (psd_if (ptd_not (ptd_val (pd_own (c_is_row.up (by decide)) hr (hG.le (by decide)) rfl tk (pad_cons (pd_var 0) pad_nil)))) (psd_one (psd_raise x_NoRow rfl rfl tk)) psd_nil)), fun ds S R Rx hl hp => ?_⟩
  clear hG0 hG tk po hr cc; try clear fr c_is_row x_NoRow
  obtain ⟨d, rfl, hd, h1, h2⟩ := hp
  walk_at "go"
  refine i_is_row hd ?_
  walk_at "go"
  refine r_bothF (fun e => ?_) (fun e => ?_)
  · walk_at "go"
    exact h2 e
  · walk_at "go"
    exact h1 e
abbrev N_is_between : List Str := ["worth", "low", "high"]
theorem sc_is_between : FnScope N_is_between ["worth", "low", "high"] (defScope s_is_between) := ⟨rfl, rfl, rfl, by decide +kernel, rfl, by decide +kernel, by decide +kernel⟩
theorem ok_is_between {f : Addr} {fd : FuncData} (F : FunD K "is_between" "is_between" (defArgs s_is_between) (defBody s_is_between) (defScope s_is_between) [] [] f fd) (fr : Fr mg) (c_is_below : Cal false P w K mg base T "is_below" 1 2 [] p_is_below) : FnD false P w K mg base T 2 f fd ["worth", "low", "high"] p_is_between := by
  refine fn_okD F sc_is_between fun cdv A outer s H E hr hG0 cc => ?_
  have hG : GdOk false (cxOf (L2.CX P w) P w K mg base N_is_between "is_between" (defScope s_is_between) f cdv A outer s H E).A := hG0
  have tk : Takes (cxOf (L2.CX P w) P w K mg base N_is_between "is_between" (defScope s_is_between) f cdv A outer s H E) (fun cls d _ H' => E cls d H') := takes_of rfl rfl rfl rfl
  have po : PassesOwn (model P w) (cxOf (L2.CX P w) P w K mg base N_is_between "is_between" (defScope s_is_between) f cdv A outer s H E).A (cxOf (L2.CX P w) P w K mg base N_is_between "is_between" (defScope s_is_between) f cdv A outer s H E).env (cxOf (L2.CX P w) P w K mg base N_is_between "is_between" (defScope s_is_between) f cdv A outer s H E).xe := passes_of rfl
  refine ⟨_, (psd_cons (psd_if (ptd_w (pwd_and (ptd_cmp opD_isNot (nobehind _ (by decide) (by decide)) (pd_var 1) pd_non) (pwd_and1 (ptd_val (pd_own (c_is_below.up (by decide)) hr (hG.le (by decide)) rfl tk (pad_cons (pd_var 0) (pad_cons (pd_var 1) pad_nil))))))) (psd_one (psd_ret pd_bl)) psd_nil) (psd_one (psd_ret (pd_or (pd_cmp opD_is (nobehind _ (by decide) (by decide)) (pd_var 2) pd_non) (pd_one (pd_not (pd_own (c_is_below.up (by decide)) hr (hG.le (by decide)) rfl tk (pad_cons (pd_var 2) (pad_cons (pd_var 0) pad_nil))))))))), fun ds S R Rx hl hp => ?_⟩
  clear hG0 hG tk po hr cc; try clear fr c_is_below
  obtain ⟨q, l, hh, rfl, hq, h1, h2, h⟩ := hp
  cases l with
  | none =>
    cases hh with
    | none =>
      walk_at "au"
      exact h
    | some b =>
      have := h2 b rfl
      walk_at "au"
      exact h
  | some a =>
    have := h1 a rfl
    walk_at "au"
    refine r_both (fun z => ?_) (fun z => ?_)
    · walk_at "au"
      have e : lowB (some a) q = false := by
        show (!decide (q < a)) = false
        rw [z]
        rfl
      rw [e] at h
      exact h
    · have e : lowB (some a) q = true := by
        show (!decide (q < a)) = true
        rw [z]
        rfl
      rw [e] at h
      cases hh with
      | none =>
        walk_at "au"
        exact h
      | some b =>
        have := h2 b rfl
        walk_at "au"
        exact h
abbrev N_is_kept : List Str := ["telling", "row", "one", "other", "low", "high"]
theorem sc_is_kept : FnScope N_is_kept ["telling", "row"] (defScope s_is_kept) := ⟨rfl, rfl, rfl, by decide +kernel, rfl, by decide +kernel, by decide +kernel⟩
theorem ok_is_kept {f : Addr} {fd : FuncData} (F : FunD K "is_kept" "is_kept" (defArgs s_is_kept) (defBody s_is_kept) (defScope s_is_kept) [] [] f fd) (fr : Fr mg) (c_is_between : Cal false P w K mg base T "is_between" 2 3 [] p_is_between) (c_difference_of : Cal false P w K mg base T "difference_of" 1 2 [] p_difference_of) : FnD false P w K mg base T 3 f fd ["telling", "row"] p_is_kept := by
  refine fn_okD F sc_is_kept fun cdv A outer s H E hr hG0 cc => ?_
  have hG : GdOk false (cxOf (L2.CX P w) P w K mg base N_is_kept "is_kept" (defScope s_is_kept) f cdv A outer s H E).A := hG0
  have tk : Takes (cxOf (L2.CX P w) P w K mg base N_is_kept "is_kept" (defScope s_is_kept) f cdv A outer s H E) (fun cls d _ H' => E cls d H') := takes_of rfl rfl rfl rfl
  have po : PassesOwn (model P w) (cxOf (L2.CX P w) P w K mg base N_is_kept "is_kept" (defScope s_is_kept) f cdv A outer s H E).A (cxOf (L2.CX P w) P w K mg base N_is_kept "is_kept" (defScope s_is_kept) f cdv A outer s H E).env (cxOf (L2.CX P w) P w K mg base N_is_kept "is_kept" (defScope s_is_kept) f cdv A outer s H E).xe := passes_of rfl
  refine ⟨_, (psd_cons (psd_asg (pd_var 0) (pgd_tup rfl (pgsd_cons (pgd_name 2 sc_is_kept.nd rfl (Or.inl rfl)) (pgsd_cons (pgd_name 3 sc_is_kept.nd rfl (Or.inl rfl)) (pgsd_cons (pgd_name 4 sc_is_kept.nd rfl (Or.inl rfl)) (pgsd_cons (pgd_name 5 sc_is_kept.nd rfl (Or.inl rfl)) pgsd_nil)))))) (psd_one (psd_ret (pd_own (c_is_between.up (by decide)) hr (hG.le (by decide)) rfl tk (pad_cons (pd_own (c_difference_of.up (by decide)) hr (hG.le (by decide)) rfl tk (pad_cons (pd_ix ixD (pd_var 1) (pd_var 3)) (pad_cons (pd_ix ixD (pd_var 1) (pd_var 2)) pad_nil))) (pad_cons (pd_var 4) (pad_cons (pd_var 5) pad_nil))))))), fun ds S R Rx hl hp => ?_⟩
  clear hG0 hG tk po hr cc; try clear fr c_is_between c_difference_of
  obtain ⟨t, r, rfl, ht, hr, h⟩ := hp
  have g1 := hr.get ht.other
  have g2 := hr.get ht.one
  have s1 := g1.2
  have s2 := g2.2
  walk_at "au"
  refine r_ixRow hr ht.other ?_
  walk_at "au"
  refine r_ixRow hr ht.one ?_
  walk_at "au"
  refine i_between (by walk_at "sz") (fun x e => (ht.lo e).mono (by decide)) (fun x e => (ht.hi e).mono (by decide)) h
abbrev N_kept_by : List Str := ["tellings", "row", "number", "telling"]
theorem sc_kept_by : FnScope N_kept_by ["tellings", "row"] (defScope s_kept_by) := ⟨rfl, rfl, rfl, by decide +kernel, rfl, by decide +kernel, by decide +kernel⟩
theorem ok_kept_by {f : Addr} {fd : FuncData} (F : FunD K "kept_by" "kept_by" (defArgs s_kept_by) (defBody s_kept_by) (defScope s_kept_by) [] [] f fd) (fr : Fr mg) (c_check_tellings : Cal false P w K mg base T "check_tellings" 6 1 [] (p_check_tellings K)) (c_check_row : Cal false P w K mg base T "check_row" 4 1 [] (p_check_row K)) (c_is_kept : Cal false P w K mg base T "is_kept" 3 2 [] p_is_kept) : FnD false P w K mg base T 7 f fd ["tellings", "row"] (p_kept_by K) := by
  refine fn_okD F sc_kept_by fun cdv A outer s H E hr hG0 cc => ?_
  have hG : GdOk false (cxOf (L2.CX P w) P w K mg base N_kept_by "kept_by" (defScope s_kept_by) f cdv A outer s H E).A := hG0
  have tk : Takes (cxOf (L2.CX P w) P w K mg base N_kept_by "kept_by" (defScope s_kept_by) f cdv A outer s H E) (fun cls d _ H' => E cls d H') := takes_of rfl rfl rfl rfl
  have po : PassesOwn (model P w) (cxOf (L2.CX P w) P w K mg base N_kept_by "kept_by" (defScope s_kept_by) f cdv A outer s H E).A (cxOf (L2.CX P w) P w K mg base N_kept_by "kept_by" (defScope s_kept_by) f cdv A outer s H E).env (cxOf (L2.CX P w) P w K mg base N_kept_by "kept_by" (defScope s_kept_by) f cdv A outer s H E).xe := passes_of rfl
  refine ⟨_, (psd_cons (psd_expr (pd_own (c_check_tellings.up (by decide)) hr (hG.le (by decide)) rfl tk (pad_cons (pd_var 0) pad_nil))) (psd_cons (psd_expr (pd_own (c_check_row.up (by decide)) hr (hG.le (by decide)) rfl tk (pad_cons (pd_var 1) pad_nil))) (psd_one (psd_ret (pd_callTy cD_tup rfl fr.tuple_ (by decide +kernel) (pad_cons (pd_lc (own := [("number", 2), ("telling", 3)]) (b := (.tp [2, 3])) rfl sc_kept_by.nd (pid_enumT rfl fr.enumerate_ (pad_cons (pd_var 0) pad_nil)) (blkOk_by (own := [("number", 2), ("telling", 3)]) (N := N_kept_by) (sc := defScope s_kept_by) (by decide +kernel)) (by intro i hi; simp [Bd.all] at hi ⊢; omega) (fun _ _ _ _ _ => pg_tup rfl (pgs_cons (pg_name (i := 2) sc_kept_by.nd rfl (Or.inl rfl)) (pgs_cons (pg_name (i := 3) sc_kept_by.nd rfl (Or.inl rfl)) pgs_nil))) (fun _ _ _ _ _ => (ptsd_one (ptd_val (pd_own (c_is_kept.up (by decide)) hr (hG.le (by decide)) rfl L2.takes0 (pad_cons (pd_var 3) (pad_cons (pd_var 1) pad_nil)))))) (fun _ _ _ _ _ => (pd_var 2))) pad_nil)))))), fun ds S R Rx hl hp => ?_⟩
  clear hG0 hG tk po hr cc; try clear fr c_check_tellings c_check_row c_is_kept
  rcases hp with ⟨d, e, rfl, ⟨hz, hf, hx⟩ | ⟨ts, rfl, ht, ⟨hz, hf, hx⟩ | ⟨r, rfl, hr, h⟩⟩⟩
  · walk_at "go"
    exact i_check_tellings hz (fun z => by rw [hf] at z; cases z) fun _ => hx
  · walk_at "go"
    refine i_check_tellings_ok (ht.mono (by decide)) ?_
    walk_at "go"
    exact i_check_row hz (fun z => by rw [hf] at z; cases z) fun _ => hx
  walk_at "go"
  refine i_check_tellings_ok (ht.mono (by decide)) ?_
  walk_at "go"
  refine i_check_row (row_qz (hr.mono (by decide))) (fun _ => ?_) (fun z => by rw [isRow_row hr] at z; cases z)
  walk_at "go"
  refine ⟨_, rfl, ?_⟩
  refine comp_by (fun i acc S1 => S = S1 ∧ acc = (numsR r (ts.take i)).map fun (n : Nat) => D.int n) ⟨rfl, rfl⟩ ?_ ?_
  · intro i d acc S1 N hd hI hN
    obtain ⟨rfl, rfl⟩ := hI
    rw [List.getElem?_map, List.getElem?_zipIdx, List.getElem?_map] at hd
    cases hi : ts[i]? with
    | none =>
      rw [hi] at hd
      cases hd
    | some t =>
      rw [hi] at hd
      have hd : d = D.tup [.int ((0 + i : Nat) : Int), telD t] := (Option.some.inj hd).symm
      subst hd
      have hil := (List.getElem?_eq_some_iff.mp hi).1
      refine ⟨trivial, ?_⟩
      refine ⟨_, rfl, rfl, ?_⟩
      walk_at "go"
      refine i_is_kept (ht.ea t (List.mem_of_getElem? hi)) hr ?_
      have key := nums_take (r := r) hi
      cases ek : keptB t r with
      | true =>
        rw [ek, if_pos rfl] at key
        walk_at "go"
        have e2 : ((0 + i : Nat) : Int) = (i : Int) := by omega
        rw [e2]
        refine ⟨?_, hN _ _ ⟨rfl, by rw [key, List.map_append]; rfl⟩⟩
        rw [List.length_map]
        have h1 := nums_len (r := r) (ts := ts.take i)
        rw [List.length_take] at h1
        have h2 := ht.len
        exact Nat.lt_of_lt_of_le (show (numsR r (ts.take i)).length < 100 by omega) (by decide)
      | false =>
        rw [ek, if_neg (by decide), List.append_nil] at key
        walk_at "go"
        exact hN _ _ ⟨rfl, by rw [key]⟩
  · intro acc S1 hI
    obtain ⟨rfl, rfl⟩ := hI
    refine ⟨trivial, ?_⟩
    rw [List.length_map, List.length_zipIdx, List.length_map, List.take_length]
    walk_at "go"
    exact h
end
end DL

set_option maxHeartbeats 4000000
namespace DL
open PySem PySem.Spec PyProof.Rows L2
local macro_rules | `(tactic| walk_at "go1") => `(tactic| first
  | with_reducible refine r_seq ?_ | with_reducible refine r_asg ?_ | with_reducible refine r_ret ?_ | with_reducible refine r_ifS ?_ | with_reducible refine r_drop ?_ | with_reducible refine r_par ?_ | with_reducible refine r_next ?_ | with_reducible refine r_retN ?_
  | ((with_reducible refine' r_var ?hv ?_); (case hv => rfl)) | with_reducible refine r_c ?_ | with_reducible refine r_bin ?_ | with_reducible refine r_un ?_ | with_reducible refine r_as1 ?_ | with_reducible refine r_as0 ?_
  | with_reducible refine r_cb ?_ | with_reducible refine r_call ?_ | with_reducible refine r_B ?_ | with_reducible refine r_notT ?_ | with_reducible refine r_andT ?_ | with_reducible refine r_orT ?_
  | with_reducible refine r_andV ?_ | with_reducible refine r_orV ?_ | with_reducible refine r_notV ?_ | with_reducible refine r_if ?_ | with_reducible refine r_tup ?_ | with_reducible refine r_lst ?_ | with_reducible refine r_mu ?_
  | with_reducible refine r_cut ?_ | with_reducible refine r_p0 ?_ | with_reducible refine r_p1 ?_ | with_reducible refine r_gN ?_ | ((with_reducible refine r_gT ?hv ?_); (case hv => rfl)) | with_reducible refine r_gs1 ?_ | with_reducible refine r_gs0 ?_
  | ((with_reducible refine r_trueR ?hv ?_); (case hv => first | rfl | assumption)) | ((with_reducible refine r_falseR ?hv ?_); (case hv => first | rfl | assumption)) | with_reducible refine r_bl ?_ | with_reducible refine r_in ?_ | with_reducible refine r_two ?_
  | with_reducible refine r_addI ?_ | with_reducible refine r_subI ?_ | with_reducible refine r_mulI ?_ ?_ | with_reducible refine r_divI ?_ ?_ | with_reducible refine r_modI ?_ ?_ | with_reducible refine r_powI ?_ ?_ | with_reducible refine r_negI ?_
  | with_reducible refine r_lt ?_ | with_reducible refine r_le ?_ | with_reducible refine r_gt ?_ | with_reducible refine r_ge ?_ | with_reducible refine r_is ?_ | with_reducible refine r_isNot ?_ | with_reducible refine r_eqI ?_ | with_reducible refine r_neI ?_ | with_reducible refine r_eqS ?_ | with_reducible refine r_neS ?_
  | with_reducible refine r_ixP0 ?_ | with_reducible refine r_ixP1 ?_ | with_reducible refine r_ix0T ?_ | with_reducible refine r_ix1T ?_ | with_reducible refine r_lenT ?_ | with_reducible refine r_lenL ?_ | with_reducible refine r_lenC ?_
  | with_reducible refine r_abs ?_ | with_reducible refine r_max ?_ | with_reducible refine r_min ?_ | with_reducible refine r_intI ?_ | with_reducible refine r_intB ?_ | with_reducible refine r_tupL ?_ | with_reducible refine r_tupT ?_
  | with_reducible refine r_gcd ?_ | ((with_reducible refine r_isi ?hv ?_); (case hv => first | rfl | assumption)) | with_reducible refine r_sizeT ?_ | with_reducible refine r_sizeL ?_)
local macro_rules | `(tactic| walk_at "go") => `(tactic| repeat' walk_at "go1")
local macro_rules | `(tactic| walk_at "go1") => `(tactic| first
  | with_reducible refine r_lc ?_ | with_reducible refine r_wiT ?_ | with_reducible refine r_wiZ ?_ | with_reducible refine r_wiL ?_ | with_reducible refine r_wiR1 ?_ | with_reducible refine r_for ?_ | with_reducible refine r_yes ?_
  | with_reducible refine b_nm ?_ | with_reducible refine r_setD0 ?_ | with_reducible refine r_setD1 ?_ | ((with_reducible refine' r_setDT ?hv ?_); (case hv => rfl)) | with_reducible refine r_setsD ?_ | with_reducible refine r_setsCut ?_ | with_reducible refine b_tp2 ?_ | with_reducible refine r_trueL ?_ | with_reducible refine r_falseL ?_ )

local macro_rules | `(tactic| walk_at "go1") => `(tactic| first
  | with_reducible refine r_size0 ?_ | with_reducible refine r_size3 ?_ | with_reducible refine r_app ?_ | with_reducible refine r_setIx ?_ | ((with_reducible refine' r_sizeG ?hv ?_); (case hv => rfl)) | ((with_reducible refine' r_addG ?hv ?_); (case hv => rfl)) | ((with_reducible refine' r_addTG ?hv ?_); (case hv => rfl))
  | with_reducible refine r_bmL ?_ | with_reducible refine r_isL ?_ | with_reducible refine r_try ?_ | with_reducible refine r_emp ?_ | with_reducible refine r_raise ?_ | with_reducible refine r_chain ?_ | with_reducible refine r_mulGI ?_ ?_
  | with_reducible refine r_wiET ?_ | with_reducible refine r_telLen ?_ | with_reducible refine r_telsLen ?_ | with_reducible refine r_rowLen ?_ | ((with_reducible refine' r_telT ?hv ?_); (case hv => rfl)))

local macro_rules | `(tactic| walk_at "szs") => `(tactic| first
  | assumption
  | ((with_reducible apply Sz.add); walk_at "szs"; walk_at "szs")
  | ((with_reducible apply Sz.sub); walk_at "szs"; walk_at "szs")
  | ((with_reducible apply Sz.mul); walk_at "szs"; walk_at "szs")
  | ((with_reducible apply Sz.neg); walk_at "szs")
  | (apply Pz.sz; assumption) | exact sz0 | exact sz1 | exact sz24
  | ((with_reducible apply sz_abs); walk_at "szs"))
local macro_rules | `(tactic| walk_at "sz") => `(tactic| (apply Sz.mono; walk_at "szs"; exact Nat.le_of_ble_eq_true rfl))
local macro_rules | `(tactic| walk_at "pen") => `(tactic| first | assumption | (apply Stm.pen; assumption) | (apply stm_st; assumption) | (apply stm_st; apply Stm.pen; assumption))
local macro_rules | `(tactic| walk_at "stm") => `(tactic| first | assumption | exact Stm.of (by walk_at "pen") | (refine Stm.trans ?_ (by assumption); walk_at "stm") | (refine Stm.trans ?_ (Stm.new (by walk_at "pen")); walk_at "stm"))
local macro_rules | `(tactic| walk_at "side") => `(tactic| first | assumption | rfl | omega | decide | walk_at "sz" | walk_at "pen")
local macro_rules | `(tactic| walk_at "au") => `(tactic| repeat' walk_at "au1")
local macro_rules | `(tactic| walk_at "au1") => `(tactic| first
  | walk_at "go1"
  | (with_reducible refine i_next ?_; intro r _ _)
  | (with_reducible refine i_draw ?a ?b ?c ?_; (case a => walk_at "side"); (case b => walk_at "side"); (case c => walk_at "pen"); intro x S' _ _ _)
  | (with_reducible refine i_sum_of ?a ?b ?_; (case a => walk_at "sz"); (case b => walk_at "sz"))
  | (with_reducible refine i_difference_of ?a ?b ?_; (case a => walk_at "sz"); (case b => walk_at "sz"))
  | (with_reducible refine i_product_of ?a ?b ?_; (case a => walk_at "sz"); (case b => walk_at "sz"))
  | (with_reducible refine i_is_below ?a ?b ?_; (case a => walk_at "sz"); (case b => walk_at "sz"))
  | (with_reducible refine i_added ?a ?b ?_; (case a => walk_at "sz"); (case b => walk_at "sz"))
  | (with_reducible refine i_less ?a ?b ?_; (case a => walk_at "sz"); (case b => walk_at "sz"))
  | (with_reducible refine i_times ?a ?b ?_; (case a => walk_at "sz"); (case b => walk_at "sz"))
  | (with_reducible refine i_is_less ?a ?b ?_; (case a => walk_at "sz"); (case b => walk_at "sz"))
  | (with_reducible refine i_sum ?a ?b ?_; (case a => walk_at "sz"); (case b => walk_at "sz"))
  | (with_reducible refine i_rest ?a ?b ?_; (case a => walk_at "sz"); (case b => walk_at "sz"))
  | (with_reducible refine i_prod ?a ?b ?_; (case a => walk_at "sz"); (case b => walk_at "sz"))
  | (with_reducible refine i_under ?a ?b ?_; (case a => walk_at "sz"); (case b => walk_at "sz"))
  | with_reducible refine i_is_part_pt ?_
  | with_reducible refine r_intB ?_
  | (with_reducible refine r_rng1 ?a ?b ?_; (case a => decide); (case b => decide)) | with_reducible refine r_ix0L ?_ | with_reducible refine r_muE ?_ | with_reducible refine r_itL ?_ | with_reducible refine r_itT ?_
  | with_reducible refine r_par3 ?_ | with_reducible refine r_three ?_ | with_reducible refine r_gSub ?_ | with_reducible refine r_lstM ?_ | with_reducible refine r_lstT ?_ | with_reducible refine r_turn ?_ | with_reducible refine r_callK ?_
  | with_reducible refine i_opposite ?_
  | ((with_reducible refine' r_ixT ?hv ?_); (case hv => rfl))
  | ((with_reducible refine' r_ixL ?hv ?_); (case hv => rfl)) | fail)
local macro_rules | `(tactic| walk_at "au1") => `(tactic| first
  | (with_reducible refine r_modI ?a ?_; (case a => decide))
  | (with_reducible refine r_divI ?a ?_; (case a => exact ⟨by decide, by decide⟩))
  | (with_reducible refine r_powI ?a ?_; (case a => exact ⟨by decide, by decide, by decide⟩)) | fail)
local macro_rules | `(tactic| walk_at "br") => `(tactic| first
  | (with_reducible refine r_bothT ?_ ?_ <;> intro z)
  | (with_reducible refine r_bothF ?_ ?_ <;> intro z)
  | (with_reducible refine r_bothD ?_ ?_ <;> intro z)
  | (with_reducible refine r_bothN ?_ ?_ <;> intro z)
  | (with_reducible refine r_both ?_ ?_ <;> intro z) | fail)
local macro_rules | `(tactic| walk_at "ab") => `(tactic| repeat' first | walk_at "au1" | walk_at "br")

local macro_rules | `(tactic| walk_at "shd") => `(tactic| first
  | assumption | exact ShD.non | exact ShD.bl | exact ShD.lit (by decide) | exact ShD.str (by decide +kernel) (by decide +kernel)
  | (apply ShD.nat; omega)
  | (apply ShD.pt (by walk_at "szs"); exact (Nat.ble_eq_true_of_le (of_decide_eq_true rfl)))
  | (apply ShD.tup; walk_at "shds") | (apply ShD.lst; walk_at "shds"))
local macro_rules | `(tactic| walk_at "shds") => `(tactic| first
  | assumption | exact ShDs.nil | (apply ShDs.cons; walk_at "shd"; walk_at "shds"))

local macro_rules | `(tactic| walk_at "au1") => `(tactic| first
  | (with_reducible refine r_neSS rfl ?_)
  | ((with_reducible refine' r_reprD ?a ?b ?c ?_); (case a => walk_at "shd"); (case b => rfl); (case c => rfl)) | fail)

local macro_rules | `(tactic| walk_at "szs") => `(tactic| ((with_reducible apply Sz.div); walk_at "szs"; walk_at "szs"; assumption))
local macro_rules | `(tactic| walk_at "au1") => `(tactic| first
  | with_reducible refine r_eqPt ?_ | with_reducible refine r_nePt ?_ | with_reducible refine r_eqN ?_ | with_reducible refine r_neN ?_
  | (with_reducible refine n_difference_of1 ?a ?_; (case a => walk_at "sz"))
  | (with_reducible refine n_rest1 ?a ?_; (case a => walk_at "sz"))
  | (with_reducible refine i_divided ?z ?a ?b ?_; (case z => assumption); (case a => walk_at "sz"); (case b => walk_at "sz"))
  | (with_reducible refine i_by ?z ?a ?b ?_; (case z => assumption); (case a => walk_at "sz"); (case b => walk_at "sz"))
  | (with_reducible refine i_between2 ?a ?b ?c ?_; (case a => walk_at "sz"); (case b => walk_at "sz"); (case c => walk_at "sz")) | fail)
local macro_rules | `(tactic| walk_at "pD") => `(tactic| first | rfl | assumption | (apply Pz.pD; assumption))
local macro_rules | `(tactic| walk_at "p2") => `(tactic| first | rfl | assumption | (apply Pz.p2; assumption))
local macro_rules | `(tactic| walk_at "pz") => `(tactic| first | assumption | (apply Pz.mono; (first | assumption | (apply Pz.pt; walk_at "szs")); exact Nat.le_of_ble_eq_true rfl))
local macro_rules | `(tactic| walk_at "au1") => `(tactic| first
  | (with_reducible refine i_part ?a ?b ?c ?_; (case a => walk_at "side"); (case b => walk_at "side"); (case c => walk_at "pen"); intro q S' _ _)
  | (with_reducible refine i_above ?a ?b ?c ?_; (case a => walk_at "side"); (case b => walk_at "side"); (case c => walk_at "pen"); intro q S' _ _ _)
  | (with_reducible refine i_odd ?c ?_; (case c => walk_at "pen"); intro d S' _ _)
  | ((with_reducible refine i_clk_c ?a ?b ?c); (case a => walk_at "pD"); all_goals first | (intro (z : _ = false)) | (intro n e _; subst e))
  | ((with_reducible refine i_lclk_c ?a ?b ?c); (case a => walk_at "pD"); all_goals first | (intro (z : _ = false)) | (intro n e _; subst e))
  | ((with_reducible refine i_part_c ?a ?b ?c); (case a => walk_at "p2"); all_goals first | (intro (z : _ = false)) | (intro q e; subst e))
  | ((with_reducible refine i_up_c ?a ?b ?c); (case a => walk_at "p2"); all_goals first | (intro (z : _ = false)) | (intro q e _; subst e))
  | ((with_reducible refine i_lpart_c ?a ?b ?c); (case a => walk_at "pz"); all_goals first | (intro (z : _ = false)) | (intro q e; subst e)) | fail)

local macro_rules | `(tactic| walk_at "telok") => `(tactic| first | assumption | (apply TelOk.mono; assumption; exact Nat.le_of_ble_eq_true rfl) | (apply TelsOk.mono; assumption; exact Nat.le_of_ble_eq_true rfl) | (apply RowOk.mono; assumption; exact Nat.le_of_ble_eq_true rfl))
local macro_rules | `(tactic| walk_at "au1") => `(tactic| first
  | with_reducible refine r_telsLen ?_ | with_reducible refine r_itTels ?_ | with_reducible refine r_itRow ?_ | with_reducible refine r_rowLen ?_ | with_reducible refine r_wiET ?_ | with_reducible refine r_itET ?_ | with_reducible refine r_itE ?_
  | (with_reducible refine i_check_tellings_ok ?a ?_; (case a => walk_at "telok"))
  | (with_reducible refine i_check_number_ok ?a ?_; (case a => walk_at "side"))
  | (with_reducible refine i_is_kept ?a ?b ?_; (case a => walk_at "telok"); (case b => walk_at "telok"))
  | (with_reducible refine i_first_not_kept ?a ?b ?_; (case a => walk_at "telok"); (case b => walk_at "telok")) | fail)

local macro_rules | `(tactic| walk_at "au1") => `(tactic| first
  | with_reducible refine b_tp4 ?_ | with_reducible refine r_revL ?_ | with_reducible refine r_break ?_ | with_reducible refine r_cont ?_ | fail)

local macro_rules | `(tactic| walk_at "au1") => `(tactic| first
  | (with_reducible refine i_some ?c ?_; (case c => walk_at "pen"); intro q S' _ _ _)
  | (with_reducible refine i_up ?c ?_; (case c => walk_at "pen"); intro q S' _ _ _ _)
  | (with_reducible refine i_row ?c ?_; (case c => walk_at "pen"); intro r S' _ _) | fail)

local macro_rules | `(tactic| walk_at "au1") => `(tactic| first
  | with_reducible refine r_eqB ?_ | with_reducible refine r_eqNil ?_ | fail)
local macro_rules | `(tactic| walk_at "gs1") => `(tactic| first
  | with_reducible refine r_asg ?_ | with_reducible refine r_ret ?_ | with_reducible refine r_ifS ?_ | with_reducible refine r_drop ?_ | with_reducible refine r_par ?_ | with_reducible refine r_next ?_ | with_reducible refine r_retN ?_
  | ((with_reducible refine' r_var ?hv ?_); (case hv => rfl)) | with_reducible refine r_c ?_ | with_reducible refine r_bin ?_ | with_reducible refine r_un ?_ | with_reducible refine r_as1 ?_ | with_reducible refine r_as0 ?_
  | with_reducible refine r_cb ?_ | with_reducible refine r_call ?_ | with_reducible refine r_B ?_ | with_reducible refine r_notT ?_ | with_reducible refine r_andT ?_ | with_reducible refine r_orT ?_
  | with_reducible refine r_andV ?_ | with_reducible refine r_orV ?_ | with_reducible refine r_notV ?_ | with_reducible refine r_if ?_ | with_reducible refine r_tup ?_ | with_reducible refine r_lst ?_ | with_reducible refine r_mu ?_
  | with_reducible refine r_cut ?_ | with_reducible refine r_p0 ?_ | with_reducible refine r_p1 ?_ | with_reducible refine r_gN ?_ | ((with_reducible refine r_gT ?hv ?_); (case hv => rfl)) | with_reducible refine r_gs1 ?_ | with_reducible refine r_gs0 ?_
  | ((with_reducible refine r_trueR ?hv ?_); (case hv => first | rfl | assumption)) | ((with_reducible refine r_falseR ?hv ?_); (case hv => first | rfl | assumption)) | with_reducible refine r_bl ?_ | with_reducible refine r_in ?_ | with_reducible refine r_two ?_
  | with_reducible refine r_addI ?_ | with_reducible refine r_subI ?_ | with_reducible refine r_mulI ?_ ?_ | with_reducible refine r_divI ?_ ?_ | with_reducible refine r_modI ?_ ?_ | with_reducible refine r_powI ?_ ?_ | with_reducible refine r_negI ?_
  | with_reducible refine r_lt ?_ | with_reducible refine r_le ?_ | with_reducible refine r_gt ?_ | with_reducible refine r_ge ?_ | with_reducible refine r_is ?_ | with_reducible refine r_isNot ?_ | with_reducible refine r_eqI ?_ | with_reducible refine r_neI ?_ | with_reducible refine r_eqS ?_ | with_reducible refine r_neS ?_
  | with_reducible refine r_ixP0 ?_ | with_reducible refine r_ixP1 ?_ | with_reducible refine r_ix0T ?_ | with_reducible refine r_ix1T ?_ | with_reducible refine r_lenT ?_ | with_reducible refine r_lenL ?_ | with_reducible refine r_lenC ?_
  | with_reducible refine r_abs ?_ | with_reducible refine r_max ?_ | with_reducible refine r_min ?_ | with_reducible refine r_intI ?_ | with_reducible refine r_intB ?_ | with_reducible refine r_tupL ?_ | with_reducible refine r_tupT ?_
  | with_reducible refine r_gcd ?_ | ((with_reducible refine r_isi ?hv ?_); (case hv => first | rfl | assumption)) | with_reducible refine r_sizeT ?_ | with_reducible refine r_sizeL ?_)
local macro_rules | `(tactic| walk_at "gs") => `(tactic| repeat' walk_at "gs1")
local macro_rules | `(tactic| walk_at "gs1") => `(tactic| first
  | with_reducible refine r_lc ?_ | with_reducible refine r_wiT ?_ | with_reducible refine r_wiZ ?_ | with_reducible refine r_wiL ?_ | with_reducible refine r_wiR1 ?_ | with_reducible refine r_for ?_ | with_reducible refine r_yes ?_
  | with_reducible refine b_nm ?_ | with_reducible refine r_setD0 ?_ | with_reducible refine r_setD1 ?_ | ((with_reducible refine' r_setDT ?hv ?_); (case hv => rfl)) | with_reducible refine r_setsD ?_ | with_reducible refine r_setsCut ?_ | with_reducible refine b_tp2 ?_ | with_reducible refine r_trueL ?_ | with_reducible refine r_falseL ?_ )

local macro_rules | `(tactic| walk_at "gs1") => `(tactic| first
  | with_reducible refine r_size0 ?_ | with_reducible refine r_size3 ?_ | with_reducible refine r_app ?_ | with_reducible refine r_setIx ?_ | ((with_reducible refine' r_sizeG ?hv ?_); (case hv => rfl)) | ((with_reducible refine' r_addG ?hv ?_); (case hv => rfl)) | ((with_reducible refine' r_addTG ?hv ?_); (case hv => rfl))
  | with_reducible refine r_bmL ?_ | with_reducible refine r_isL ?_ | with_reducible refine r_try ?_ | with_reducible refine r_emp ?_ | with_reducible refine r_raise ?_ | with_reducible refine r_chain ?_ | with_reducible refine r_mulGI ?_ ?_
  | with_reducible refine r_wiET ?_ | with_reducible refine r_telLen ?_ | with_reducible refine r_telsLen ?_ | with_reducible refine r_rowLen ?_ | ((with_reducible refine' r_telT ?hv ?_); (case hv => rfl)))

local macro_rules | `(tactic| walk_at "as") => `(tactic| repeat' walk_at "as1")
local macro_rules | `(tactic| walk_at "as1") => `(tactic| first
  | walk_at "gs1"
  | (with_reducible refine i_next ?_; intro r _ _)
  | (with_reducible refine i_draw ?a ?b ?c ?_; (case a => walk_at "side"); (case b => walk_at "side"); (case c => walk_at "pen"); intro x S' _ _ _)
  | (with_reducible refine i_sum_of ?a ?b ?_; (case a => walk_at "sz"); (case b => walk_at "sz"))
  | (with_reducible refine i_difference_of ?a ?b ?_; (case a => walk_at "sz"); (case b => walk_at "sz"))
  | (with_reducible refine i_product_of ?a ?b ?_; (case a => walk_at "sz"); (case b => walk_at "sz"))
  | (with_reducible refine i_is_below ?a ?b ?_; (case a => walk_at "sz"); (case b => walk_at "sz"))
  | (with_reducible refine i_added ?a ?b ?_; (case a => walk_at "sz"); (case b => walk_at "sz"))
  | (with_reducible refine i_less ?a ?b ?_; (case a => walk_at "sz"); (case b => walk_at "sz"))
  | (with_reducible refine i_times ?a ?b ?_; (case a => walk_at "sz"); (case b => walk_at "sz"))
  | (with_reducible refine i_is_less ?a ?b ?_; (case a => walk_at "sz"); (case b => walk_at "sz"))
  | (with_reducible refine i_sum ?a ?b ?_; (case a => walk_at "sz"); (case b => walk_at "sz"))
  | (with_reducible refine i_rest ?a ?b ?_; (case a => walk_at "sz"); (case b => walk_at "sz"))
  | (with_reducible refine i_prod ?a ?b ?_; (case a => walk_at "sz"); (case b => walk_at "sz"))
  | (with_reducible refine i_under ?a ?b ?_; (case a => walk_at "sz"); (case b => walk_at "sz"))
  | with_reducible refine i_is_part_pt ?_
  | with_reducible refine r_intB ?_
  | (with_reducible refine r_rng1 ?a ?b ?_; (case a => decide); (case b => decide)) | with_reducible refine r_ix0L ?_ | with_reducible refine r_muE ?_ | with_reducible refine r_itL ?_ | with_reducible refine r_itT ?_
  | with_reducible refine r_par3 ?_ | with_reducible refine r_three ?_ | with_reducible refine r_gSub ?_ | with_reducible refine r_lstM ?_ | with_reducible refine r_lstT ?_ | with_reducible refine r_turn ?_ | with_reducible refine r_callK ?_
  | with_reducible refine i_opposite ?_
  | ((with_reducible refine' r_ixT ?hv ?_); (case hv => rfl))
  | ((with_reducible refine' r_ixL ?hv ?_); (case hv => rfl)) | fail)
local macro_rules | `(tactic| walk_at "as1") => `(tactic| first
  | (with_reducible refine r_modI ?a ?_; (case a => decide))
  | (with_reducible refine r_divI ?a ?_; (case a => exact ⟨by decide, by decide⟩))
  | (with_reducible refine r_powI ?a ?_; (case a => exact ⟨by decide, by decide, by decide⟩)) | fail)
local macro_rules | `(tactic| walk_at "as1") => `(tactic| first
  | (with_reducible refine r_neSS rfl ?_)
  | ((with_reducible refine' r_reprD ?a ?b ?c ?_); (case a => walk_at "shd"); (case b => rfl); (case c => rfl)) | fail)

local macro_rules | `(tactic| walk_at "as1") => `(tactic| first
  | with_reducible refine r_eqPt ?_ | with_reducible refine r_nePt ?_ | with_reducible refine r_eqN ?_ | with_reducible refine r_neN ?_
  | (with_reducible refine n_difference_of1 ?a ?_; (case a => walk_at "sz"))
  | (with_reducible refine n_rest1 ?a ?_; (case a => walk_at "sz"))
  | (with_reducible refine i_divided ?z ?a ?b ?_; (case z => assumption); (case a => walk_at "sz"); (case b => walk_at "sz"))
  | (with_reducible refine i_by ?z ?a ?b ?_; (case z => assumption); (case a => walk_at "sz"); (case b => walk_at "sz"))
  | (with_reducible refine i_between2 ?a ?b ?c ?_; (case a => walk_at "sz"); (case b => walk_at "sz"); (case c => walk_at "sz")) | fail)
local macro_rules | `(tactic| walk_at "as1") => `(tactic| first
  | (with_reducible refine i_part ?a ?b ?c ?_; (case a => walk_at "side"); (case b => walk_at "side"); (case c => walk_at "pen"); intro q S' _ _)
  | (with_reducible refine i_above ?a ?b ?c ?_; (case a => walk_at "side"); (case b => walk_at "side"); (case c => walk_at "pen"); intro q S' _ _ _)
  | (with_reducible refine i_odd ?c ?_; (case c => walk_at "pen"); intro d S' _ _)
  | ((with_reducible refine i_clk_c ?a ?b ?c); (case a => walk_at "pD"); all_goals first | (intro (z : _ = false)) | (intro n e _; subst e))
  | ((with_reducible refine i_lclk_c ?a ?b ?c); (case a => walk_at "pD"); all_goals first | (intro (z : _ = false)) | (intro n e _; subst e))
  | ((with_reducible refine i_part_c ?a ?b ?c); (case a => walk_at "p2"); all_goals first | (intro (z : _ = false)) | (intro q e; subst e))
  | ((with_reducible refine i_up_c ?a ?b ?c); (case a => walk_at "p2"); all_goals first | (intro (z : _ = false)) | (intro q e _; subst e))
  | ((with_reducible refine i_lpart_c ?a ?b ?c); (case a => walk_at "pz"); all_goals first | (intro (z : _ = false)) | (intro q e; subst e)) | fail)

local macro_rules | `(tactic| walk_at "as1") => `(tactic| first
  | with_reducible refine r_telsLen ?_ | with_reducible refine r_itTels ?_ | with_reducible refine r_itRow ?_ | with_reducible refine r_rowLen ?_ | with_reducible refine r_wiET ?_ | with_reducible refine r_itET ?_ | with_reducible refine r_itE ?_
  | (with_reducible refine i_check_tellings_ok ?a ?_; (case a => walk_at "telok"))
  | (with_reducible refine i_check_number_ok ?a ?_; (case a => walk_at "side"))
  | (with_reducible refine i_is_kept ?a ?b ?_; (case a => walk_at "telok"); (case b => walk_at "telok"))
  | (with_reducible refine i_first_not_kept ?a ?b ?_; (case a => walk_at "telok"); (case b => walk_at "telok")) | fail)

local macro_rules | `(tactic| walk_at "as1") => `(tactic| first
  | with_reducible refine b_tp4 ?_ | with_reducible refine r_revL ?_ | with_reducible refine r_break ?_ | with_reducible refine r_cont ?_ | fail)

local macro_rules | `(tactic| walk_at "as1") => `(tactic| first
  | (with_reducible refine i_some ?c ?_; (case c => walk_at "pen"); intro q S' _ _ _)
  | (with_reducible refine i_up ?c ?_; (case c => walk_at "pen"); intro q S' _ _ _ _)
  | (with_reducible refine i_row ?c ?_; (case c => walk_at "pen"); intro r S' _ _) | fail)

local macro_rules | `(tactic| walk_at "as1") => `(tactic| first
  | with_reducible refine r_eqB ?_ | with_reducible refine r_eqNil ?_ | fail)
section
variable {P : Program} {w : World} {K : PySem.W.Frag} {mg : Str → Option Value} {base : Heap} {T : List (Addr × Str)}

abbrev N_law_cell_at : List Str := ["_law_script", "_law_k"]
theorem sc_law_cell_at : FnScope N_law_cell_at ["_law_script", "_law_k"] (defScope s_law_cell_at) := ⟨rfl, rfl, rfl, by decide +kernel, rfl, by decide +kernel, by decide +kernel⟩
theorem ok_law_cell_at {f : Addr} {fd : FuncData} (F : FunD K "_law_cell_at" "_law_cell_at" (defArgs s_law_cell_at) (defBody s_law_cell_at) (defScope s_law_cell_at) [] [] f fd) (fr : Fr mg)  : FnD false P w K mg base T 1 f fd ["_law_script", "_law_k"] p_law_cell_at := by
  refine fn_okD F sc_law_cell_at fun cdv A outer s H E hr hG0 cc => ?_
  have hG : GdOk false (cxOf (L2.CX P w) P w K mg base N_law_cell_at "_law_cell_at" (defScope s_law_cell_at) f cdv A outer s H E).A := hG0
  have tk : Takes (cxOf (L2.CX P w) P w K mg base N_law_cell_at "_law_cell_at" (defScope s_law_cell_at) f cdv A outer s H E) (fun cls d _ H' => E cls d H') := takes_of rfl rfl rfl rfl
  have po : PassesOwn (model P w) (cxOf (L2.CX P w) P w K mg base N_law_cell_at "_law_cell_at" (defScope s_law_cell_at) f cdv A outer s H E).A (cxOf (L2.CX P w) P w K mg base N_law_cell_at "_law_cell_at" (defScope s_law_cell_at) f cdv A outer s H E).env (cxOf (L2.CX P w) P w K mg base N_law_cell_at "_law_cell_at" (defScope s_law_cell_at) f cdv A outer s H E).xe := passes_of rfl
  refine ⟨_, (psd_cons (psd_if (ptd_cmp opD_lt (nobehind _ (by decide) (by decide)) (pd_var 1) (pd_callB cD_len rfl fr.len_ (by decide +kernel) (pad_cons (pd_var 0) pad_nil))) (psd_one (psd_ret (pd_ix ixD (pd_var 0) (pd_var 1)))) psd_nil) (psd_one (psd_ret pd_int))), fun ds S R Rx hl hp => ?_⟩
  clear hG0 hG tk po hr cc; try clear fr 
  obtain ⟨ns, rfl, h⟩ := hp
  walk_at "go"
  cases ns with
  | nil =>
    refine r_falseR (decide_eq_false (by simp)) ?_
    walk_at "go"
    exact h 0
  | cons z ns =>
    refine r_trueR (decide_eq_true (by simp only [List.map_cons, List.length_cons]; omega)) ?_
    walk_at "go"
    exact ⟨_, _, rfl, atI_0, h z⟩
abbrev N_law_next : List Str := ["_law_seed"]
theorem sc_law_next : FnScope N_law_next ["_law_seed"] (defScope s_law_next) := ⟨rfl, rfl, rfl, by decide +kernel, rfl, by decide +kernel, by decide +kernel⟩
theorem ok_law_next {f : Addr} {fd : FuncData} (F : FunD K "_law_next" "_law_next" (defArgs s_law_next) (defBody s_law_next) (defScope s_law_next) [] [] f fd) (fr : Fr mg)  : FnD false P w K mg base T 1 f fd ["_law_seed"] p_law_next := by
  refine fn_okD F sc_law_next fun cdv A outer s H E hr hG0 cc => ?_
  have hG : GdOk false (cxOf (L2.CX P w) P w K mg base N_law_next "_law_next" (defScope s_law_next) f cdv A outer s H E).A := hG0
  have tk : Takes (cxOf (L2.CX P w) P w K mg base N_law_next "_law_next" (defScope s_law_next) f cdv A outer s H E) (fun cls d _ H' => E cls d H') := takes_of rfl rfl rfl rfl
  have po : PassesOwn (model P w) (cxOf (L2.CX P w) P w K mg base N_law_next "_law_next" (defScope s_law_next) f cdv A outer s H E).A (cxOf (L2.CX P w) P w K mg base N_law_next "_law_next" (defScope s_law_next) f cdv A outer s H E).env (cxOf (L2.CX P w) P w K mg base N_law_next "_law_next" (defScope s_law_next) f cdv A outer s H E).xe := passes_of rfl
  refine ⟨_, (psd_cons (psd_set 0 sc_law_next.nd rfl (Or.inl rfl) (pd_bin opD_mod (pd_bin opD_add (pd_var 0) pd_int) pd_int)) (psd_one (psd_ret (pd_bin opD_mod (pd_bin opD_add (pd_bin opD_add (pd_bin opD_mul (pd_var 0) (pd_var 0)) (pd_bin opD_mul pd_int (pd_var 0))) pd_int) pd_int)))), fun ds S R Rx hl hp => ?_⟩
  clear hG0 hG tk po hr cc; try clear fr 
  obtain ⟨a, rfl, h⟩ := hp
  have h0 := fmod_lo (a := a + 7919) (m := 2147483647) (by decide)
  have h1 := fmod_hi (a := a + 7919) (m := 2147483647) (by decide)
  walk_at "go"
  · decide
  · exact cm_of (p31 h0 (by omega)) (p31 h0 (by omega)) (by decide)
  · exact cm_of (n := 31) (by decide) (p31 h0 (by omega)) (by decide)
  · decide
  · exact h _ (fmod_lo (by decide)) (Int.lt_trans (fmod_hi (by decide)) (by decide))
abbrev N_law_pen_of : List Str := ["_law_cell", "_law_left"]
theorem sc_law_pen_of : FnScope N_law_pen_of ["_law_cell"] (defScope s_law_pen_of) := ⟨rfl, rfl, rfl, by decide +kernel, rfl, by decide +kernel, by decide +kernel⟩
theorem ok_law_pen_of {f : Addr} {fd : FuncData} (F : FunD K "_law_pen_of" "_law_pen_of" (defArgs s_law_pen_of) (defBody s_law_pen_of) (defScope s_law_pen_of) [] [] f fd) (fr : Fr mg)  : FnD false P w K mg base T 1 f fd ["_law_cell"] p_law_pen_of := by
  refine fn_okD F sc_law_pen_of fun cdv A outer s H E hr hG0 cc => ?_
  have hG : GdOk false (cxOf (L2.CX P w) P w K mg base N_law_pen_of "_law_pen_of" (defScope s_law_pen_of) f cdv A outer s H E).A := hG0
  have tk : Takes (cxOf (L2.CX P w) P w K mg base N_law_pen_of "_law_pen_of" (defScope s_law_pen_of) f cdv A outer s H E) (fun cls d _ H' => E cls d H') := takes_of rfl rfl rfl rfl
  have po : PassesOwn (model P w) (cxOf (L2.CX P w) P w K mg base N_law_pen_of "_law_pen_of" (defScope s_law_pen_of) f cdv A outer s H E).A (cxOf (L2.CX P w) P w K mg base N_law_pen_of "_law_pen_of" (defScope s_law_pen_of) f cdv A outer s H E).env (cxOf (L2.CX P w) P w K mg base N_law_pen_of "_law_pen_of" (defScope s_law_pen_of) f cdv A outer s H E).xe := passes_of rfl
  refine ⟨_, (psd_cons (psd_set 1 sc_law_pen_of.nd rfl (Or.inl rfl) (pd_callB (cD_max rfl) rfl fr.max_ (by decide +kernel) (pad_cons (pd_var 0) (pad_cons (pd_bin opD_sub pd_int (pd_var 0)) pad_nil)))) (psd_one (psd_ret (pd_mu (pad_cons (pd_var 1) (pad_cons (pd_callTy cD_int rfl fr.int_ (by decide +kernel) (pad_cons (pd_cmp opD_ge (nobehind _ (by decide) (by decide)) (pd_var 1) (pd_bin opD_pow pd_int pd_int)) pad_nil)) (pad_cons (pd_bin opD_mod (pd_var 1) pd_int) pad_nil))))))), fun ds S R Rx hl hp => ?_⟩
  clear hG0 hG tk po hr cc; try clear fr 
  obtain ⟨z, rfl, h⟩ := hp
  walk_at "go"
  · exact ⟨by decide, by decide, by decide⟩
  · decide
  · exact h _ _ _
abbrev N_law_draw : List Str := ["_law_pen", "_law_many", "_law_found"]
theorem sc_law_draw : FnScope N_law_draw ["_law_pen", "_law_many"] (defScope s_law_draw) := ⟨rfl, rfl, rfl, by decide +kernel, rfl, by decide +kernel, by decide +kernel⟩
theorem ok_law_draw {f : Addr} {fd : FuncData} (F : FunD K "_law_draw" "_law_draw" (defArgs s_law_draw) (defBody s_law_draw) (defScope s_law_draw) [] [] f fd) (fr : Fr mg) (c_law_next : Cal false P w K mg base T "_law_next" 1 1 [] p_law_next) : FnD false P w K mg base T 2 f fd ["_law_pen", "_law_many"] p_law_draw := by
  refine fn_okD F sc_law_draw fun cdv A outer s H E hr hG0 cc => ?_
  have hG : GdOk false (cxOf (L2.CX P w) P w K mg base N_law_draw "_law_draw" (defScope s_law_draw) f cdv A outer s H E).A := hG0
  have tk : Takes (cxOf (L2.CX P w) P w K mg base N_law_draw "_law_draw" (defScope s_law_draw) f cdv A outer s H E) (fun cls d _ H' => E cls d H') := takes_of rfl rfl rfl rfl
  have po : PassesOwn (model P w) (cxOf (L2.CX P w) P w K mg base N_law_draw "_law_draw" (defScope s_law_draw) f cdv A outer s H E).A (cxOf (L2.CX P w) P w K mg base N_law_draw "_law_draw" (defScope s_law_draw) f cdv A outer s H E).env (cxOf (L2.CX P w) P w K mg base N_law_draw "_law_draw" (defScope s_law_draw) f cdv A outer s H E).xe := passes_of rfl
  refine ⟨_, (psd_cons (psd_if (ptd_w (pwd_and (ptd_cmp (opD_eq hr.units) (nobehind _ (by decide) (by decide)) (pd_ix ixD (pd_var 0) pd_int) pd_int) (pwd_and1 (ptd_cmp opD_gt (nobehind _ (by decide) (by decide)) (pd_ix ixD (pd_var 0) pd_int) pd_int)))) (psd_cons (psd_set 2 sc_law_draw.nd rfl (Or.inl rfl) (pd_bin opD_mod (pd_ix ixD (pd_var 0) pd_int) (pd_var 1))) (psd_cons (psd_setIx (pd_bin opD_div (pd_ix ixD (pd_var 0) pd_int) (pd_var 1)) (pd_var 0) pd_int rfl rfl rfl (pg_sub (pd_var 0) pd_int set_list)) (psd_one (psd_ret (pd_var 2))))) psd_nil) (psd_cons (psd_setIx (pd_own (c_law_next.up (by decide)) hr (hG.le (by decide)) rfl tk (pad_cons (pd_bin opD_add (pd_own (c_law_next.up (by decide)) hr (hG.le (by decide)) rfl tk (pad_cons (pd_ix ixD (pd_var 0) pd_int) pad_nil)) pd_int) pad_nil)) (pd_var 0) pd_int rfl rfl rfl (pg_sub (pd_var 0) pd_int set_list)) (psd_one (psd_ret (pd_bin opD_mod (pd_bin opD_div (pd_ix ixD (pd_var 0) pd_int) pd_int) (pd_var 1)))))), fun ds S R Rx hl hp => ?_⟩
  clear hG0 hG tk po hr cc; try clear fr c_law_next
  obtain ⟨i, m, rfl, h0, h1, ⟨a, b, c, hS⟩, h⟩ := hp
  have hi : i < S.length := (List.getElem?_eq_some_iff.mp hS).1
  have nx : ∀ {S' : Sto}, S' = S → wCallN p_law_next 1 (wAs1 (wBin dAdd (wCallN p_law_next 1 (wAs1 (wBin dIx (wVar 0) (wC (.int 2))) wAs0) []) (wC (.int 7))) wAs0) [] = wCallN p_law_next 1 (wAs1 (wBin dAdd (wCallN p_law_next 1 (wAs1 (wBin dIx (wVar 0) (wC (.int 2))) wAs0) []) (wC (.int 7))) wAs0) [] := fun _ => rfl
  clear nx
  have main : ∀ (R' : Prop), (∀ (x : Int) S', 0 ≤ x → x < m → Stm i S S' → R (.int x) S') → True := fun _ _ => trivial
  clear main
  walk_at "go"
  refine r_ixM hS rfl ?_
  walk_at "go"
  refine r_both ?_ ?_
  · intro hb
    walk_at "go"
    refine r_ixM hS rfl ?_
    walk_at "go"
    refine r_both ?_ ?_
    · intro ha
      walk_at "go"
      refine r_ixM hS rfl ?_
      walk_at "go"
      · omega
      refine r_ixM hS rfl ?_
      walk_at "go"
      · exact small_log h0 h1
      refine ⟨_, _, _, _, rfl, rfl, hS, rfl, ?_⟩
      walk_at "go"
      exact h _ _ (fmod_lo h0) (fmod_hi h0) (Stm.set hi)
    · intro ha
      walk_at "go"
      refine r_ixM hS rfl ?_
      refine i_next fun r1 _ _ => ?_
      walk_at "go"
      refine i_next fun r2 q0 q1 => ?_
      walk_at "go"
      refine ⟨_, _, _, _, rfl, rfl, hS, rfl, ?_⟩
      walk_at "go"
      refine r_ixM (List.getElem?_set_self hi) rfl ?_
      walk_at "go"
      · exact small_log (by decide) (by decide)
      · omega
      exact h _ _ (fmod_lo h0) (fmod_hi h0) (Stm.set hi)
  · intro hb
    walk_at "go"
    refine r_ixM hS rfl ?_
    refine i_next fun r1 _ _ => ?_
    walk_at "go"
    refine i_next fun r2 q0 q1 => ?_
    walk_at "go"
    refine ⟨_, _, _, _, rfl, rfl, hS, rfl, ?_⟩
    walk_at "go"
    refine r_ixM (List.getElem?_set_self hi) rfl ?_
    walk_at "go"
    · exact small_log (by decide) (by decide)
    · omega
    exact h _ _ (fmod_lo h0) (fmod_hi h0) (Stm.set hi)
abbrev N_law_made : List Str := ["_law_top", "_law_bottom", "_law_one", "_law_other"]
theorem sc_law_made : FnScope N_law_made ["_law_top", "_law_bottom"] (defScope s_law_made) := ⟨rfl, rfl, rfl, by decide +kernel, rfl, by decide +kernel, by decide +kernel⟩
theorem ok_law_made {f : Addr} {fd : FuncData} (F : FunD K "_law_made" "_law_made" (defArgs s_law_made) (defBody s_law_made) (defScope s_law_made) [] [] f fd) (fr : Fr mg)  : FnD false P w K mg base T 1 f fd ["_law_top", "_law_bottom"] p_law_made := by
  refine fn_okD F sc_law_made fun cdv A outer s H E hr hG0 cc => ?_
  have hG : GdOk false (cxOf (L2.CX P w) P w K mg base N_law_made "_law_made" (defScope s_law_made) f cdv A outer s H E).A := hG0
  have tk : Takes (cxOf (L2.CX P w) P w K mg base N_law_made "_law_made" (defScope s_law_made) f cdv A outer s H E) (fun cls d _ H' => E cls d H') := takes_of rfl rfl rfl rfl
  have po : PassesOwn (model P w) (cxOf (L2.CX P w) P w K mg base N_law_made "_law_made" (defScope s_law_made) f cdv A outer s H E).A (cxOf (L2.CX P w) P w K mg base N_law_made "_law_made" (defScope s_law_made) f cdv A outer s H E).env (cxOf (L2.CX P w) P w K mg base N_law_made "_law_made" (defScope s_law_made) f cdv A outer s H E).xe := passes_of rfl
  refine ⟨_, (psd_cons (psd_par 2 3 rfl sc_law_made.nd rfl rfl (by decide) rfl rfl (pad_cons (pd_callB (cD_max rfl) rfl fr.max_ (by decide +kernel) (pad_cons (pd_var 0) (pad_cons (pd_bin opD_sub pd_int (pd_var 0)) pad_nil))) (pad_cons (pd_var 1) pad_nil)) (by rfl)) (psd_cons (psd_while po (ptd_cmp opD_gt (nobehind _ (by decide) (by decide)) (pd_var 3) pd_int) (psd_one (psd_par 2 3 rfl sc_law_made.nd rfl rfl (by decide) rfl rfl (pad_cons (pd_var 3) (pad_cons (pd_bin opD_mod (pd_var 2) (pd_var 3)) pad_nil)) (by rfl)))) (psd_one (psd_ret (pd_tup (pad_cons (pd_bin opD_div (pd_var 0) (pd_var 2)) (pad_cons (pd_bin opD_div (pd_var 1) (pd_var 2)) pad_nil))))))), fun ds S R Rx hl hp => ?_⟩
  clear hG0 hG tk po hr cc; try clear fr 
  obtain ⟨a, b, hb0, rfl, hb, h⟩ := hp
  walk_at "go"
  refine ⟨fun n env S1 => S = S1 ∧ ∃ x y : Nat, env = [some (.int a), some (.int b), some (.int x), some (.int y)] ∧ y = n ∧ Nat.gcd x y = Nat.gcd a.natAbs b, ⟨b, rfl, a.natAbs, b, ?_, rfl, rfl⟩, ?_⟩
  · first | rw [max_nat] | rw [abs_nat]
    rfl
  intro n env S1 hI
  obtain ⟨rfl, x, y, rfl, rfl, hg⟩ := hI
  walk_at "go"
  refine r_both ?_ ?_
  · intro hy
    have hy : 0 < y := by have := of_decide_eq_true hy; omega
    walk_at "go"
    · omega
    refine ⟨x % y, Nat.mod_lt _ hy, rfl, y, x % y, by rw [← fmod_nat]; rfl, rfl, ?_⟩
    rw [← hg, Nat.gcd_comm x y, Nat.gcd_rec y x, Nat.gcd_comm]
  · intro hy
    have hy : y = 0 := by have := of_decide_eq_false hy; omega
    subst hy
    rw [Nat.gcd_zero_right] at hg
    subst hg
    have hg := gcd_pos' (a := a) hb0
    have hgl : a.natAbs.gcd b ≤ b := Nat.gcd_le_right _ (Nat.pos_of_ne_zero hb0)
    have hside : ((a.natAbs.gcd b : Nat) : Int) ≠ 0 ∧ ((a.natAbs.gcd b : Nat) : Int).natAbs.log2 < 9000 := ⟨by omega, by rw [Int.natAbs_natCast]; exact log_of (by omega) (by decide)⟩
    walk_at "go"
    · exact hside
    · exact hside
    · have e : pt (Rat.normalize a b hb0) = .tup [.int (a.fdiv ((a.natAbs.gcd b : Nat) : Int)), .int (((b : Nat) : Int).fdiv ((a.natAbs.gcd b : Nat) : Int))] := by
        show D.tup [.int _, .int ((Rat.normalize a b hb0).den : Int)] = _
        rw [norm_num, norm_den, fdiv_nat, fdiv_nat, Int.natCast_ediv]
      rw [e] at h
      exact h
abbrev N_law_plus : List Str := ["_law_one", "_law_other"]
theorem sc_law_plus : FnScope N_law_plus ["_law_one", "_law_other"] (defScope s_law_plus) := ⟨rfl, rfl, rfl, by decide +kernel, rfl, by decide +kernel, by decide +kernel⟩
theorem ok_law_plus {f : Addr} {fd : FuncData} (F : FunD K "_law_plus" "_law_plus" (defArgs s_law_plus) (defBody s_law_plus) (defScope s_law_plus) [] [] f fd) (fr : Fr mg) (c_law_made : Cal false P w K mg base T "_law_made" 1 2 [] p_law_made) : FnD false P w K mg base T 2 f fd ["_law_one", "_law_other"] p_law_plus := by
  refine fn_okD F sc_law_plus fun cdv A outer s H E hr hG0 cc => ?_
  have hG : GdOk false (cxOf (L2.CX P w) P w K mg base N_law_plus "_law_plus" (defScope s_law_plus) f cdv A outer s H E).A := hG0
  have tk : Takes (cxOf (L2.CX P w) P w K mg base N_law_plus "_law_plus" (defScope s_law_plus) f cdv A outer s H E) (fun cls d _ H' => E cls d H') := takes_of rfl rfl rfl rfl
  have po : PassesOwn (model P w) (cxOf (L2.CX P w) P w K mg base N_law_plus "_law_plus" (defScope s_law_plus) f cdv A outer s H E).A (cxOf (L2.CX P w) P w K mg base N_law_plus "_law_plus" (defScope s_law_plus) f cdv A outer s H E).env (cxOf (L2.CX P w) P w K mg base N_law_plus "_law_plus" (defScope s_law_plus) f cdv A outer s H E).xe := passes_of rfl
  refine ⟨_, (psd_one (psd_ret (pd_own (c_law_made.up (by decide)) hr (hG.le (by decide)) rfl tk (pad_cons (pd_bin opD_add (pd_bin opD_mul (pd_ix ixD (pd_var 0) pd_int) (pd_ix ixD (pd_var 1) pd_int)) (pd_bin opD_mul (pd_ix ixD (pd_var 1) pd_int) (pd_ix ixD (pd_var 0) pd_int))) (pad_cons (pd_bin opD_mul (pd_ix ixD (pd_var 0) pd_int) (pd_ix ixD (pd_var 1) pd_int)) pad_nil))))), fun ds S R Rx hl hp => ?_⟩
  clear hG0 hG tk po hr cc; try clear fr c_law_made
  obtain ⟨p, q, rfl, hp, hq, h⟩ := hp
  have h : R (pt (p + q)) S := h
  walk_at "go"
  · exact cm_of hp.n hq.d (by decide)
  · exact cm_of hq.n hp.d (by decide)
  · exact cm_of hp.d hq.d (by decide)
  · refine i_made (b := p.den * q.den) (den_nz2 p q) (by rw [Int.natCast_mul]) (den_mul hp hq) ?_
    rw [Rat.add_def] at h
    exact h
abbrev N_law_minus : List Str := ["_law_one", "_law_other"]
theorem sc_law_minus : FnScope N_law_minus ["_law_one", "_law_other"] (defScope s_law_minus) := ⟨rfl, rfl, rfl, by decide +kernel, rfl, by decide +kernel, by decide +kernel⟩
theorem ok_law_minus {f : Addr} {fd : FuncData} (F : FunD K "_law_minus" "_law_minus" (defArgs s_law_minus) (defBody s_law_minus) (defScope s_law_minus) [] [] f fd) (fr : Fr mg) (c_law_made : Cal false P w K mg base T "_law_made" 1 2 [] p_law_made) : FnD false P w K mg base T 2 f fd ["_law_one", "_law_other"] p_law_minus := by
  refine fn_okD F sc_law_minus fun cdv A outer s H E hr hG0 cc => ?_
  have hG : GdOk false (cxOf (L2.CX P w) P w K mg base N_law_minus "_law_minus" (defScope s_law_minus) f cdv A outer s H E).A := hG0
  have tk : Takes (cxOf (L2.CX P w) P w K mg base N_law_minus "_law_minus" (defScope s_law_minus) f cdv A outer s H E) (fun cls d _ H' => E cls d H') := takes_of rfl rfl rfl rfl
  have po : PassesOwn (model P w) (cxOf (L2.CX P w) P w K mg base N_law_minus "_law_minus" (defScope s_law_minus) f cdv A outer s H E).A (cxOf (L2.CX P w) P w K mg base N_law_minus "_law_minus" (defScope s_law_minus) f cdv A outer s H E).env (cxOf (L2.CX P w) P w K mg base N_law_minus "_law_minus" (defScope s_law_minus) f cdv A outer s H E).xe := passes_of rfl
  refine ⟨_, (psd_one (psd_ret (pd_own (c_law_made.up (by decide)) hr (hG.le (by decide)) rfl tk (pad_cons (pd_bin opD_sub (pd_bin opD_mul (pd_ix ixD (pd_var 0) pd_int) (pd_ix ixD (pd_var 1) pd_int)) (pd_bin opD_mul (pd_ix ixD (pd_var 1) pd_int) (pd_ix ixD (pd_var 0) pd_int))) (pad_cons (pd_bin opD_mul (pd_ix ixD (pd_var 0) pd_int) (pd_ix ixD (pd_var 1) pd_int)) pad_nil))))), fun ds S R Rx hl hp => ?_⟩
  clear hG0 hG tk po hr cc; try clear fr c_law_made
  obtain ⟨p, q, rfl, hp, hq, h⟩ := hp
  have h : R (pt (p - q)) S := h
  walk_at "go"
  · exact cm_of hp.n hq.d (by decide)
  · exact cm_of hq.n hp.d (by decide)
  · exact cm_of hp.d hq.d (by decide)
  · refine i_made (b := p.den * q.den) (den_nz2 p q) (by rw [Int.natCast_mul]) (den_mul hp hq) ?_
    rw [Rat.sub_def] at h
    exact h
abbrev N_law_below : List Str := ["_law_one", "_law_other"]
theorem sc_law_below : FnScope N_law_below ["_law_one", "_law_other"] (defScope s_law_below) := ⟨rfl, rfl, rfl, by decide +kernel, rfl, by decide +kernel, by decide +kernel⟩
theorem ok_law_below {f : Addr} {fd : FuncData} (F : FunD K "_law_below" "_law_below" (defArgs s_law_below) (defBody s_law_below) (defScope s_law_below) [] [] f fd) (fr : Fr mg)  : FnD false P w K mg base T 1 f fd ["_law_one", "_law_other"] p_law_below := by
  refine fn_okD F sc_law_below fun cdv A outer s H E hr hG0 cc => ?_
  have hG : GdOk false (cxOf (L2.CX P w) P w K mg base N_law_below "_law_below" (defScope s_law_below) f cdv A outer s H E).A := hG0
  have tk : Takes (cxOf (L2.CX P w) P w K mg base N_law_below "_law_below" (defScope s_law_below) f cdv A outer s H E) (fun cls d _ H' => E cls d H') := takes_of rfl rfl rfl rfl
  have po : PassesOwn (model P w) (cxOf (L2.CX P w) P w K mg base N_law_below "_law_below" (defScope s_law_below) f cdv A outer s H E).A (cxOf (L2.CX P w) P w K mg base N_law_below "_law_below" (defScope s_law_below) f cdv A outer s H E).env (cxOf (L2.CX P w) P w K mg base N_law_below "_law_below" (defScope s_law_below) f cdv A outer s H E).xe := passes_of rfl
  refine ⟨_, (psd_one (psd_ret (pd_cmp opD_lt (nobehind _ (by decide) (by decide)) (pd_bin opD_mul (pd_ix ixD (pd_var 0) pd_int) (pd_ix ixD (pd_var 1) pd_int)) (pd_bin opD_mul (pd_ix ixD (pd_var 1) pd_int) (pd_ix ixD (pd_var 0) pd_int))))), fun ds S R Rx hl hp => ?_⟩
  clear hG0 hG tk po hr cc; try clear fr 
  obtain ⟨p, q, rfl, hp, hq, h⟩ := hp
  walk_at "go"
  · exact cm_of hp.n hq.d (by decide)
  · exact cm_of hq.n hp.d (by decide)
  · rw [lt_pt]
    exact h
abbrev N_law_whole : List Str := ["_law_thing"]
theorem sc_law_whole : FnScope N_law_whole ["_law_thing"] (defScope s_law_whole) := ⟨rfl, rfl, rfl, by decide +kernel, rfl, by decide +kernel, by decide +kernel⟩
theorem ok_law_whole {f : Addr} {fd : FuncData} (F : FunD K "_law_whole" "_law_whole" (defArgs s_law_whole) (defBody s_law_whole) (defScope s_law_whole) [] [] f fd) (fr : Fr mg)  : FnD false P w K mg base T 1 f fd ["_law_thing"] p_law_whole := by
  refine fn_okD F sc_law_whole fun cdv A outer s H E hr hG0 cc => ?_
  have hG : GdOk false (cxOf (L2.CX P w) P w K mg base N_law_whole "_law_whole" (defScope s_law_whole) f cdv A outer s H E).A := hG0
  have tk : Takes (cxOf (L2.CX P w) P w K mg base N_law_whole "_law_whole" (defScope s_law_whole) f cdv A outer s H E) (fun cls d _ H' => E cls d H') := takes_of rfl rfl rfl rfl
  have po : PassesOwn (model P w) (cxOf (L2.CX P w) P w K mg base N_law_whole "_law_whole" (defScope s_law_whole) f cdv A outer s H E).A (cxOf (L2.CX P w) P w K mg base N_law_whole "_law_whole" (defScope s_law_whole) f cdv A outer s H E).env (cxOf (L2.CX P w) P w K mg base N_law_whole "_law_whole" (defScope s_law_whole) f cdv A outer s H E).xe := passes_of rfl
  refine ⟨_, (psd_one (psd_ret (pd_and (pd_callB (cD_isi isi_int) rfl fr.isinstance_ (by decide +kernel) (pad_cons (pd_var 0) (pad_cons (pd_ty (n := "int") rfl fr.int_ (by decide +kernel)) pad_nil))) (pd_one (pd_not (pd_callB (cD_isi isi_bool) rfl fr.isinstance_ (by decide +kernel) (pad_cons (pd_var 0) (pad_cons (pd_ty (n := "bool") rfl fr.bool_ (by decide +kernel)) pad_nil)))))))), fun ds S R Rx hl hp => ?_⟩
  clear hG0 hG tk po hr cc; try clear fr 
  obtain ⟨d, rfl, h0, h⟩ := hp
  cases d <;> first | (cases h0; done) | skip
  all_goals (walk_at "go"; exact h)
abbrev N_law_is_part : List Str := ["_law_thing"]
theorem sc_law_is_part : FnScope N_law_is_part ["_law_thing"] (defScope s_law_is_part) := ⟨rfl, rfl, rfl, by decide +kernel, rfl, by decide +kernel, by decide +kernel⟩
theorem ok_law_is_part {f : Addr} {fd : FuncData} (F : FunD K "_law_is_part" "_law_is_part" (defArgs s_law_is_part) (defBody s_law_is_part) (defScope s_law_is_part) [] [] f fd) (fr : Fr mg) (c_law_whole : Cal false P w K mg base T "_law_whole" 1 1 [] p_law_whole) (c_law_made : Cal false P w K mg base T "_law_made" 1 2 [] p_law_made) : FnD false P w K mg base T 2 f fd ["_law_thing"] p_law_is_part := by
  refine fn_okD F sc_law_is_part fun cdv A outer s H E hr hG0 cc => ?_
  have hG : GdOk false (cxOf (L2.CX P w) P w K mg base N_law_is_part "_law_is_part" (defScope s_law_is_part) f cdv A outer s H E).A := hG0
  have tk : Takes (cxOf (L2.CX P w) P w K mg base N_law_is_part "_law_is_part" (defScope s_law_is_part) f cdv A outer s H E) (fun cls d _ H' => E cls d H') := takes_of rfl rfl rfl rfl
  have po : PassesOwn (model P w) (cxOf (L2.CX P w) P w K mg base N_law_is_part "_law_is_part" (defScope s_law_is_part) f cdv A outer s H E).A (cxOf (L2.CX P w) P w K mg base N_law_is_part "_law_is_part" (defScope s_law_is_part) f cdv A outer s H E).env (cxOf (L2.CX P w) P w K mg base N_law_is_part "_law_is_part" (defScope s_law_is_part) f cdv A outer s H E).xe := passes_of rfl
  refine ⟨_, (psd_cons (psd_if (ptd_w (pwd_or (ptd_not (ptd_val (pd_callB (cD_isi isi_tup) rfl fr.isinstance_ (by decide +kernel) (pad_cons (pd_var 0) (pad_cons (pd_ty (n := "tuple") rfl fr.tuple_ (by decide +kernel)) pad_nil))))) (pwd_or (ptd_cmp (opD_ne hr.units) (nobehind _ (by decide) (by decide)) (pd_callB cD_len rfl fr.len_ (by decide +kernel) (pad_cons (pd_var 0) pad_nil)) pd_int) (pwd_or (ptd_not (ptd_val (pd_own (c_law_whole.up (by decide)) hr (hG.le (by decide)) rfl tk (pad_cons (pd_ix ixD (pd_var 0) pd_int) pad_nil)))) (pwd_or1 (ptd_not (ptd_val (pd_own (c_law_whole.up (by decide)) hr (hG.le (by decide)) rfl tk (pad_cons (pd_ix ixD (pd_var 0) pd_int) pad_nil))))))))) (psd_one (psd_ret pd_bl)) psd_nil) (psd_one (psd_ret (pd_and (pd_cmp opD_gt (nobehind _ (by decide) (by decide)) (pd_ix ixD (pd_var 0) pd_int) pd_int) (pd_one (pd_cmp (opD_eq hr.units) (nobehind _ (by decide) (by decide)) (pd_own (c_law_made.up (by decide)) hr (hG.le (by decide)) rfl tk (pad_cons (pd_ix ixD (pd_var 0) pd_int) (pad_cons (pd_ix ixD (pd_var 0) pd_int) pad_nil))) (pd_var 0))))))), fun ds S R Rx hl hp => ?_⟩
  clear hG0 hG tk po hr cc; try clear fr c_law_whole c_law_made
  obtain ⟨d, rfl, hz, h⟩ := hp
  have h0 := hz.1
  have hb : ∀ a b : Int, d = .tup [.int a, .int b] → b.natAbs < 2 ^ 9000 := fun a b e => Nat.lt_of_lt_of_le (hz.2 a b e).2 (Nat.pow_le_pow_right (by decide) (by decide))
  by_cases ht : ∃ a b, d = .tup [a, b]
  · obtain ⟨a, b, rfl⟩ := ht
    obtain ⟨ha, hb'⟩ := Bool.and_eq_true_iff.mp (show (plainD a && plainD b) = true from h0)
    walk_at "go"
    refine i_whole ha ?_
    cases wa : isWhole a with
    | false =>
      rw [isPart_l wa] at h
      walk_at "go"
      exact h
    | true =>
      walk_at "go"
      refine i_whole hb' ?_
      cases wb : isWhole b with
      | false =>
        rw [isPart_r wb] at h
        walk_at "go"
        exact h
      | true =>
        obtain ⟨i, rfl⟩ := isWhole_of wa
        obtain ⟨j, rfl⟩ := isWhole_of wb
        have hj9 := hb i j rfl
        walk_at "go"
        have h : R (.bl (decide (0 < j) && decide (Nat.gcd i.natAbs j.natAbs = 1))) S := h
        by_cases hj : 0 < j
        · rw [decide_eq_true hj] at h ⊢
          obtain ⟨n, rfl⟩ := Int.eq_ofNat_of_zero_le (show 0 ≤ j by omega)
          have n0 : n ≠ 0 := by omega
          rw [Int.natAbs_natCast] at h hj9
          walk_at "go"
          refine i_made n0 rfl hj9 ?_
          walk_at "go"
          have e := isPart_int (a := i) n0
          refine ⟨_, _, rfl, rfl, rfl, rfl, ?_⟩
          rw [e]
          exact h
        · rw [decide_eq_false hj] at h ⊢
          walk_at "go"
          exact h
  · have hf : isPart d = false := isPart_2 ht
    rw [hf] at h
    cases d with
    | tup xs =>
      walk_at "go"
      have e : (!decide (((xs.length : Nat) : Int) = 2)) = true := len_2 ht
      rw [e]
      walk_at "go"
      exact h
    | ty n => cases h0
    | ob n => cases h0
    | er n => cases h0
    | _ =>
      walk_at "go"
      exact h
abbrev N_law_part : List Str := ["_law_pen", "_law_most", "_law_top"]
theorem sc_law_part : FnScope N_law_part ["_law_pen", "_law_most"] (defScope s_law_part) := ⟨rfl, rfl, rfl, by decide +kernel, rfl, by decide +kernel, by decide +kernel⟩
theorem ok_law_part {f : Addr} {fd : FuncData} (F : FunD K "_law_part" "_law_part" (defArgs s_law_part) (defBody s_law_part) (defScope s_law_part) [] [] f fd) (fr : Fr mg) (c_law_made : Cal false P w K mg base T "_law_made" 1 2 [] p_law_made) (c_law_draw : Cal false P w K mg base T "_law_draw" 2 2 [] p_law_draw) : FnD false P w K mg base T 3 f fd ["_law_pen", "_law_most"] p_law_part := by
  refine fn_okD F sc_law_part fun cdv A outer s H E hr hG0 cc => ?_
  have hG : GdOk false (cxOf (L2.CX P w) P w K mg base N_law_part "_law_part" (defScope s_law_part) f cdv A outer s H E).A := hG0
  have tk : Takes (cxOf (L2.CX P w) P w K mg base N_law_part "_law_part" (defScope s_law_part) f cdv A outer s H E) (fun cls d _ H' => E cls d H') := takes_of rfl rfl rfl rfl
  have po : PassesOwn (model P w) (cxOf (L2.CX P w) P w K mg base N_law_part "_law_part" (defScope s_law_part) f cdv A outer s H E).A (cxOf (L2.CX P w) P w K mg base N_law_part "_law_part" (defScope s_law_part) f cdv A outer s H E).env (cxOf (L2.CX P w) P w K mg base N_law_part "_law_part" (defScope s_law_part) f cdv A outer s H E).xe := passes_of rfl
  refine ⟨_, (psd_cons (psd_set 2 sc_law_part.nd rfl (Or.inl rfl) (pd_bin opD_sub (pd_own (c_law_draw.up (by decide)) hr (hG.le (by decide)) rfl tk (pad_cons (pd_var 0) (pad_cons (pd_bin opD_add (pd_bin opD_mul pd_int (pd_var 1)) pd_int) pad_nil))) (pd_var 1))) (psd_one (psd_ret (pd_own (c_law_made.up (by decide)) hr (hG.le (by decide)) rfl tk (pad_cons (pd_var 2) (pad_cons (pd_ix ixD (pd_lst (pad_cons pd_int (pad_cons pd_int (pad_cons (pd_bin opD_add pd_int (pd_own (c_law_draw.up (by decide)) hr (hG.le (by decide)) rfl tk (pad_cons (pd_var 0) (pad_cons pd_int pad_nil)))) (pad_cons pd_int pad_nil))))) (pd_own (c_law_draw.up (by decide)) hr (hG.le (by decide)) rfl tk (pad_cons (pd_var 0) (pad_cons pd_int pad_nil)))) pad_nil)))))), fun ds S R Rx hl hp => ?_⟩
  clear hG0 hG tk po hr cc; try clear fr c_law_made c_law_draw
  obtain ⟨i, m, rfl, m0, m1, hp, h⟩ := hp
  walk_at "go"
  · exact cm_of (n := 2) (m := 17) (by decide) (by omega) (by decide)
  refine i_draw (by omega) (by omega) hp fun x S1 x0 x1 s1 => ?_
  walk_at "go"
  refine i_draw (by decide) (by decide) s1.pen fun y S2 y0 y1 s2 => ?_
  walk_at "go"
  refine i_draw (by decide) (by decide) s2.pen fun u S3 u0 u1 s3 => ?_
  refine r_ixIn u0 u1 fun d hd => ?_
  obtain ⟨n, rfl, n0, n1⟩ := of_bottom y0 y1 hd
  walk_at "go"
  refine i_made (b := n) (by omega) rfl (lt9000 (by omega)) ?_
  have nl := norm_le (a := x - m) (b := n) (by omega)
  exact h _ _ (norm_sz _ (by omega) (by omega)) ⟨by omega, by omega⟩ (s1.trans (s2.trans s3))
abbrev N_law_above : List Str := ["_law_pen", "_law_most", "_law_part_here"]
theorem sc_law_above : FnScope N_law_above ["_law_pen", "_law_most"] (defScope s_law_above) := ⟨rfl, rfl, rfl, by decide +kernel, rfl, by decide +kernel, by decide +kernel⟩
theorem ok_law_above {f : Addr} {fd : FuncData} (F : FunD K "_law_above" "_law_above" (defArgs s_law_above) (defBody s_law_above) (defScope s_law_above) [] [] f fd) (fr : Fr mg) (c_law_part : Cal false P w K mg base T "_law_part" 3 2 [] p_law_part) : FnD false P w K mg base T 4 f fd ["_law_pen", "_law_most"] p_law_above := by
  refine fn_okD F sc_law_above fun cdv A outer s H E hr hG0 cc => ?_
  have hG : GdOk false (cxOf (L2.CX P w) P w K mg base N_law_above "_law_above" (defScope s_law_above) f cdv A outer s H E).A := hG0
  have tk : Takes (cxOf (L2.CX P w) P w K mg base N_law_above "_law_above" (defScope s_law_above) f cdv A outer s H E) (fun cls d _ H' => E cls d H') := takes_of rfl rfl rfl rfl
  have po : PassesOwn (model P w) (cxOf (L2.CX P w) P w K mg base N_law_above "_law_above" (defScope s_law_above) f cdv A outer s H E).A (cxOf (L2.CX P w) P w K mg base N_law_above "_law_above" (defScope s_law_above) f cdv A outer s H E).env (cxOf (L2.CX P w) P w K mg base N_law_above "_law_above" (defScope s_law_above) f cdv A outer s H E).xe := passes_of rfl
  refine ⟨_, (psd_cons (psd_set 2 sc_law_above.nd rfl (Or.inl rfl) (pd_own (c_law_part.up (by decide)) hr (hG.le (by decide)) rfl tk (pad_cons (pd_var 0) (pad_cons (pd_var 1) pad_nil)))) (psd_one (psd_ret (pd_tup (pad_cons (pd_callB cD_abs rfl fr.abs_ (by decide +kernel) (pad_cons (pd_ix ixD (pd_var 2) pd_int) pad_nil)) (pad_cons (pd_ix ixD (pd_var 2) pd_int) pad_nil)))))), fun ds S R Rx hl hp => ?_⟩
  clear hG0 hG tk po hr cc; try clear fr c_law_part
  obtain ⟨i, m, rfl, m0, m1, hp, h⟩ := hp
  walk_at "go"
  refine i_part12 m0 m1 hp fun q S1 hq h12 s1 => ?_
  walk_at "go"
  have e : D.tup [.int (if q.num < 0 then -q.num else q.num), .int q.den] = pt (absR q) := by
    rw [abs_nat]
    rfl
  rw [e]
  exact h (absR q) _ absR_0 (sz_abs hq) ⟨h12.1, by show (((q.num.natAbs : Int)).natAbs : Int) ≤ m; rw [Int.natAbs_natCast]; exact h12.2⟩ s1
abbrev N_law_odd : List Str := ["_law_pen", "_law_some"]
theorem sc_law_odd : FnScope N_law_odd ["_law_pen"] (defScope s_law_odd) := ⟨rfl, rfl, rfl, by decide +kernel, rfl, by decide +kernel, by decide +kernel⟩
theorem ok_law_odd {f : Addr} {fd : FuncData} (F : FunD K "_law_odd" "_law_odd" (defArgs s_law_odd) (defBody s_law_odd) (defScope s_law_odd) [] [] f fd) (fr : Fr mg) (c_law_draw : Cal false P w K mg base T "_law_draw" 2 2 [] p_law_draw) : FnD false P w K mg base T 3 f fd ["_law_pen"] p_law_odd := by
  refine fn_okD F sc_law_odd fun cdv A outer s H E hr hG0 cc => ?_
  have hG : GdOk false (cxOf (L2.CX P w) P w K mg base N_law_odd "_law_odd" (defScope s_law_odd) f cdv A outer s H E).A := hG0
  have tk : Takes (cxOf (L2.CX P w) P w K mg base N_law_odd "_law_odd" (defScope s_law_odd) f cdv A outer s H E) (fun cls d _ H' => E cls d H') := takes_of rfl rfl rfl rfl
  have po : PassesOwn (model P w) (cxOf (L2.CX P w) P w K mg base N_law_odd "_law_odd" (defScope s_law_odd) f cdv A outer s H E).A (cxOf (L2.CX P w) P w K mg base N_law_odd "_law_odd" (defScope s_law_odd) f cdv A outer s H E).env (cxOf (L2.CX P w) P w K mg base N_law_odd "_law_odd" (defScope s_law_odd) f cdv A outer s H E).xe := passes_of rfl
  refine ⟨_, (psd_cons (psd_set 1 sc_law_odd.nd rfl (Or.inl rfl) (pd_lst (pad_cons pd_non (pad_cons pd_bl (pad_cons pd_bl (pad_cons (pd_un unD_neg pd_int) (pad_cons pd_int (pad_cons pd_int (pad_cons (pd_bin opD_pow pd_int pd_int) (pad_cons pd_str (pad_cons pd_str (pad_cons pd_str (pad_cons (pd_lst pad_nil) (pad_cons (pd_tup pad_nil) (pad_cons pd_emp (pad_cons (pd_tup (pad_cons pd_int (pad_cons pd_int pad_nil))) (pad_cons (pd_tup (pad_cons pd_int (pad_cons pd_int pad_nil))) (pad_cons (pd_tup (pad_cons pd_int (pad_cons (pd_un unD_neg pd_int) pad_nil))) (pad_cons (pd_tup (pad_cons pd_bl (pad_cons pd_int pad_nil))) pad_nil))))))))))))))))))) (psd_one (psd_ret (pd_ix ixD (pd_bin opD_add (pd_var 1) (pd_lst (pad_cons (pd_lst (pad_cons pd_int (pad_cons pd_int pad_nil))) (pad_cons (pd_tup (pad_cons pd_int pad_nil)) (pad_cons (pd_tup (pad_cons pd_int (pad_cons pd_int (pad_cons pd_int pad_nil)))) (pad_cons (pd_tup (pad_cons pd_int (pad_cons pd_int pad_nil))) pad_nil)))))) (pd_own (c_law_draw.up (by decide)) hr (hG.le (by decide)) rfl tk (pad_cons (pd_var 0) (pad_cons pd_int pad_nil))))))), fun ds S R Rx hl hp => ?_⟩
  clear hG0 hG tk po hr cc; try clear fr c_law_draw
  obtain ⟨i, rfl, hp, h⟩ := hp
  walk_at "go"
  · exact ⟨by decide, by decide, by decide⟩
  refine i_draw (by decide) (by decide) hp fun u S1 u0 u1 s1 => ?_
  refine r_ixIn u0 u1 fun d hd => ?_
  exact h d _ hd s1
abbrev N_law_telling : List Str := ["_law_pen", "_law_clocks", "_law_one", "_law_other", "_law_low", "_law_high", "_law_ends"]
theorem sc_law_telling : FnScope N_law_telling ["_law_pen", "_law_clocks"] (defScope s_law_telling) := ⟨rfl, rfl, rfl, by decide +kernel, rfl, by decide +kernel, by decide +kernel⟩
theorem ok_law_telling {f : Addr} {fd : FuncData} (F : FunD K "_law_telling" "_law_telling" (defArgs s_law_telling) (defBody s_law_telling) (defScope s_law_telling) [] [] f fd) (fr : Fr mg) (c_law_draw : Cal false P w K mg base T "_law_draw" 2 2 [] p_law_draw) (c_law_part : Cal false P w K mg base T "_law_part" 3 2 [] p_law_part) (c_law_plus : Cal false P w K mg base T "_law_plus" 2 2 [] p_law_plus) (c_law_above : Cal false P w K mg base T "_law_above" 4 2 [] p_law_above) : FnD false P w K mg base T 5 f fd ["_law_pen", "_law_clocks"] p_lawB_telling := by
  refine fn_okD F sc_law_telling fun cdv A outer s H E hr hG0 cc => ?_
  have hG : GdOk false (cxOf (L2.CX P w) P w K mg base N_law_telling "_law_telling" (defScope s_law_telling) f cdv A outer s H E).A := hG0
  have tk : Takes (cxOf (L2.CX P w) P w K mg base N_law_telling "_law_telling" (defScope s_law_telling) f cdv A outer s H E) (fun cls d _ H' => E cls d H') := takes_of rfl rfl rfl rfl
  have po : PassesOwn (model P w) (cxOf (L2.CX P w) P w K mg base N_law_telling "_law_telling" (defScope s_law_telling) f cdv A outer s H E).A (cxOf (L2.CX P w) P w K mg base N_law_telling "_law_telling" (defScope s_law_telling) f cdv A outer s H E).env (cxOf (L2.CX P w) P w K mg base N_law_telling "_law_telling" (defScope s_law_telling) f cdv A outer s H E).xe := passes_of rfl
  refine ⟨_, (psd_cons (psd_set 2 sc_law_telling.nd rfl (Or.inl rfl) (pd_own (c_law_draw.up (by decide)) hr (hG.le (by decide)) rfl tk (pad_cons (pd_var 0) (pad_cons (pd_var 1) pad_nil)))) (psd_cons (psd_set 3 sc_law_telling.nd rfl (Or.inl rfl) (pd_bin opD_mod (pd_bin opD_add (pd_bin opD_add (pd_var 2) pd_int) (pd_own (c_law_draw.up (by decide)) hr (hG.le (by decide)) rfl tk (pad_cons (pd_var 0) (pad_cons (pd_bin opD_sub (pd_var 1) pd_int) pad_nil)))) (pd_var 1))) (psd_cons (psd_set 4 sc_law_telling.nd rfl (Or.inl rfl) (pd_own (c_law_part.up (by decide)) hr (hG.le (by decide)) rfl tk (pad_cons (pd_var 0) (pad_cons pd_int pad_nil)))) (psd_cons (psd_set 5 sc_law_telling.nd rfl (Or.inl rfl) (pd_own (c_law_plus.up (by decide)) hr (hG.le (by decide)) rfl tk (pad_cons (pd_var 4) (pad_cons (pd_ix ixD (pd_lst (pad_cons (pd_own (c_law_above.up (by decide)) hr (hG.le (by decide)) rfl tk (pad_cons (pd_var 0) (pad_cons pd_int pad_nil))) (pad_cons (pd_tup (pad_cons pd_int (pad_cons pd_int pad_nil))) (pad_cons (pd_own (c_law_above.up (by decide)) hr (hG.le (by decide)) rfl tk (pad_cons (pd_var 0) (pad_cons pd_int pad_nil))) pad_nil)))) (pd_own (c_law_draw.up (by decide)) hr (hG.le (by decide)) rfl tk (pad_cons (pd_var 0) (pad_cons pd_int pad_nil)))) pad_nil)))) (psd_cons (psd_set 6 sc_law_telling.nd rfl (Or.inl rfl) (pd_ix ixD (pd_lst (pad_cons (pd_tup (pad_cons (pd_var 4) (pad_cons (pd_var 5) pad_nil))) (pad_cons (pd_tup (pad_cons (pd_var 4) (pad_cons (pd_var 5) pad_nil))) (pad_cons (pd_tup (pad_cons pd_non (pad_cons (pd_var 5) pad_nil))) (pad_cons (pd_tup (pad_cons (pd_var 4) (pad_cons pd_non pad_nil))) pad_nil))))) (pd_own (c_law_draw.up (by decide)) hr (hG.le (by decide)) rfl tk (pad_cons (pd_var 0) (pad_cons pd_int pad_nil))))) (psd_one (psd_ret (pd_bin opD_add (pd_tup (pad_cons (pd_var 2) (pad_cons (pd_var 3) pad_nil))) (pd_var 6))))))))), fun ds S R Rx hl hp => ?_⟩
  clear hG0 hG tk po hr cc; try clear fr c_law_draw c_law_part c_law_plus c_law_above
  obtain ⟨i, near, rfl, hp, n0, n1, h⟩ := hp
  walk_at "go"
  refine i_draw (by omega) (by omega) hp fun x S1 x0 x1 s1 => ?_
  walk_at "go"
  refine i_draw (by omega) (by omega) s1.pen fun y S2 y0 y1 s2 => ?_
  walk_at "go"
  · omega
  obtain ⟨xn, rfl⟩ := Int.eq_ofNat_of_zero_le x0
  have f0 := fmod_lo (a := (xn : Int) + 1 + y) (m := near) (by omega)
  have f1 := fmod_hi (a := (xn : Int) + 1 + y) (m := near) (by omega)
  have fne : ((xn : Int) + 1 + y).fmod near ≠ xn := fun z => by
    have e := Int.fmod_add_mul_fdiv ((xn : Int) + 1 + y) near
    rw [z] at e
    have e2 : near * ((xn : Int) + 1 + y).fdiv near = 1 + y := by omega
    generalize ((xn : Int) + 1 + y).fdiv near = q at e2
    have hq0 : 0 < q := by
      refine Decidable.byContradiction fun z => ?_
      have := Int.mul_nonpos_of_nonneg_of_nonpos (show 0 ≤ near by omega) (show q ≤ 0 by omega)
      omega
    have hq1 : near * 1 ≤ near * q := Int.mul_le_mul_of_nonneg_left (by omega) (by omega)
    omega
  obtain ⟨on, ho⟩ := Int.eq_ofNat_of_zero_le f0
  rw [ho] at f1 fne ⊢
  have hx6 : xn < 6 := by omega
  have ho6 : on < 6 := by omega
  refine i_part12 (by decide) (by decide) s2.pen fun lo S3 hlo nlo s3 => ?_
  walk_at "go"
  refine i_above12 (by decide) (by decide) s3.pen fun u S4 u0 hu nu s4 => ?_
  walk_at "go"
  refine i_above12 (by decide) (by decide) s4.pen fun v S5 v0 hv nv s5 => ?_
  walk_at "go"
  refine i_draw (by decide) (by decide) s5.pen fun w S6 w0 w1 s6 => ?_
  refine r_ixIn w0 w1 fun d hd => ?_
  have he : ∃ e : Rat, d = pt e ∧ 0 ≤ e ∧ Sz 20 e ∧ Nm 9 e := by
    simp only [List.mem_cons, List.not_mem_nil, or_false] at hd
    rcases hd with rfl | rfl | rfl
    · exact ⟨u, rfl, u0, hu, nm_of ⟨nu.1, by omega⟩⟩
    · exact ⟨0, rfl, by decide, ⟨by decide, by decide⟩, Nm.zero.mono (by decide)⟩
    · exact ⟨v, rfl, v0, hv, nm_of ⟨nv.1, by omega⟩⟩
  obtain ⟨e, rfl, e0, he, ne9⟩ := he
  have nl6 : Nm 6 lo := nm_of ⟨nlo.1, by omega⟩
  have nl : Nm 20 lo := nl6.mono (by decide)
  have nh : Nm 20 (lo + e) := (nl6.add ne9).mono (by decide)
  refine i_sum (hlo.mono (by decide)) (he.mono (by decide)) ?_
  walk_at "go"
  have z1 : Sz 30 lo := hlo.mono (by decide)
  have z2 : Sz 30 (lo + e) := nh.sz (by decide) (by decide)
  have l1 : lo ≤ lo + e := by grind
  refine i_draw (by decide) (by decide) s6.pen fun w S7 w0 w1 s7 => ?_
  refine r_ixIn w0 w1 fun d hd => ?_
  have st := s1.trans (s2.trans (s3.trans (s4.trans (s5.trans (s6.trans s7)))))
  have ne : xn ≠ on := fun z => fne (by omega)
  rcases of_four hd with rfl | rfl | rfl | rfl
  · walk_at "go"
    exact h ⟨xn, on, some lo, some (lo + e)⟩ _ ⟨hx6, ho6, ne, l1, z1, z2⟩ ⟨fun y hy => (by cases hy; exact nl), fun y hy => (by cases hy; exact nh)⟩ st
  · walk_at "go"
    exact h ⟨xn, on, some lo, some (lo + e)⟩ _ ⟨hx6, ho6, ne, l1, z1, z2⟩ ⟨fun y hy => (by cases hy; exact nl), fun y hy => (by cases hy; exact nh)⟩ st
  · walk_at "go"
    exact h ⟨xn, on, none, some (lo + e)⟩ _ ⟨hx6, ho6, ne, z2⟩ ⟨fun y hy => (by cases hy), fun y hy => (by cases hy; exact nh)⟩ st
  · walk_at "go"
    exact h ⟨xn, on, some lo, none⟩ _ ⟨hx6, ho6, ne, z1⟩ ⟨fun y hy => (by cases hy; exact nl), fun y hy => (by cases hy)⟩ st
abbrev N_law_tellings : List Str := ["_law_pen", "_law_most", "_law_clocks", "_law_turn"]
theorem sc_law_tellings : FnScope N_law_tellings ["_law_pen", "_law_most"] (defScope s_law_tellings) := ⟨rfl, rfl, rfl, by decide +kernel, rfl, by decide +kernel, by decide +kernel⟩
theorem ok_law_tellings {f : Addr} {fd : FuncData} (F : FunD K "_law_tellings" "_law_tellings" (defArgs s_law_tellings) (defBody s_law_tellings) (defScope s_law_tellings) [] [] f fd) (fr : Fr mg) (c_law_draw : Cal false P w K mg base T "_law_draw" 2 2 [] p_law_draw) (c_law_telling : Cal false P w K mg base T "_law_telling" 5 2 [] p_lawB_telling) : FnD false P w K mg base T 6 f fd ["_law_pen", "_law_most"] p_lawB_tellings := by
  refine fn_okD F sc_law_tellings fun cdv A outer s H E hr hG0 cc => ?_
  have hG : GdOk false (cxOf (L2.CX P w) P w K mg base N_law_tellings "_law_tellings" (defScope s_law_tellings) f cdv A outer s H E).A := hG0
  have tk : Takes (cxOf (L2.CX P w) P w K mg base N_law_tellings "_law_tellings" (defScope s_law_tellings) f cdv A outer s H E) (fun cls d _ H' => E cls d H') := takes_of rfl rfl rfl rfl
  have po : PassesOwn (model P w) (cxOf (L2.CX P w) P w K mg base N_law_tellings "_law_tellings" (defScope s_law_tellings) f cdv A outer s H E).A (cxOf (L2.CX P w) P w K mg base N_law_tellings "_law_tellings" (defScope s_law_tellings) f cdv A outer s H E).env (cxOf (L2.CX P w) P w K mg base N_law_tellings "_law_tellings" (defScope s_law_tellings) f cdv A outer s H E).xe := passes_of rfl
  refine ⟨_, (psd_cons (psd_set 2 sc_law_tellings.nd rfl (Or.inr rfl) (pd_ix ixD (pd_lst (pad_cons pd_int (pad_cons pd_int (pad_cons pd_int (pad_cons pd_int pad_nil))))) (pd_own (c_law_draw.up (by decide)) hr (hG.le (by decide)) rfl tk (pad_cons (pd_var 0) (pad_cons pd_int pad_nil))))) (psd_one (psd_ret (pd_callTy cD_tup rfl fr.tuple_ (by decide +kernel) (pad_cons (pd_lc (own := [("_law_turn", 3)]) (b := (.nm 3)) rfl sc_law_tellings.nd (pid_range1 rfl fr.range_ (pad_cons (pd_own (c_law_draw.up (by decide)) hr (hG.le (by decide)) rfl tk (pad_cons (pd_var 0) (pad_cons (pd_bin opD_add (pd_var 1) pd_int) pad_nil))) pad_nil)) (blkOk_by (own := [("_law_turn", 3)]) (N := N_law_tellings) (sc := defScope s_law_tellings) (by decide +kernel)) (by intro i hi; simp [Bd.all] at hi ⊢; omega) (fun _ _ _ _ _ => pg_name (i := 3) sc_law_tellings.nd rfl (Or.inl rfl)) (fun _ _ _ _ _ => ptsd_nil) (fun _ _ _ _ _ => (pd_own (c_law_telling.up (by decide)) hr (hG.le (by decide)) rfl L2.takes0 (pad_cons (pd_var 0) (pad_cons (pd_var 2) pad_nil))))) pad_nil))))), fun ds S R Rx hl hp => ?_⟩
  clear hG0 hG tk po hr cc; try clear fr c_law_draw c_law_telling
  obtain ⟨i, most, rfl, hp, m0, m1, h⟩ := hp
  walk_at "go"
  refine i_draw (by decide) (by decide) hp fun x S1 x0 x1 s1 => ?_
  refine r_ixIn x0 x1 fun d hd => ?_
  obtain ⟨near, rfl, n0, n1⟩ := of_near hd
  walk_at "go"
  refine i_draw (by omega) (by omega) s1.pen fun m S2 q0 q1 s2 => ?_
  refine ⟨m, rfl, by omega, by omega, ?_⟩
  refine comp_by (fun k acc S3 => ∃ ts : List Tel, acc = ts.map telD ∧ ts.length = k ∧ (∀ t ∈ ts, TelOk 30 t ∧ TelN 20 t) ∧ Stm i S S3) ⟨[], rfl, rfl, fun t h => (by cases h), s1.trans s2⟩ ?_ ?_
  · intro k d acc S3 N hd ⟨ts, hacc, hlen, hts, st⟩ hN
    subst hacc
    obtain ⟨rfl, hk⟩ := ints_at hd
    refine ⟨trivial, ?_⟩
    walk_at "go"
    refine i_tellingB st.pen n0 n1 fun t S4 ht tn s4 => ?_
    refine ⟨?_, hN _ _ ⟨ts ++ [t], by rw [List.map_append]; rfl, by rw [List.length_append, hlen]; rfl, ?_, st.trans s4⟩⟩
    · rw [List.length_map, hlen]
      exact Nat.lt_of_lt_of_le (show k < 100 by omega) (by decide)
    · intro u hu
      rcases List.mem_append.mp hu with hu | hu
      · exact hts u hu
      · rw [List.mem_singleton.mp hu]
        exact ⟨ht, tn⟩
  · intro acc S3 ⟨ts, hacc, hlen, hts, st⟩
    subst hacc
    rw [ints_len] at hlen
    refine ⟨trivial, ?_⟩
    walk_at "go"
    exact h ts _ ⟨⟨by omega, fun t ht => (hts t ht).1⟩, fun t ht => (hts t ht).2⟩ (by omega) st
abbrev N_law_flags : List Str := ["_law_e", "_law_marks", "_law_words", "_law_word"]
theorem sc_law_flags : FnScope N_law_flags ["_law_e"] (defScope s_law_flags) := ⟨rfl, rfl, rfl, by decide +kernel, rfl, by decide +kernel, by decide +kernel⟩
theorem ok_law_flags {f : Addr} {fd : FuncData} (F : FunD K "_law_flags" "_law_flags" (defArgs s_law_flags) (defBody s_law_flags) (defScope s_law_flags) [] [] f fd) (fr : Fr mg) (o_NoPart : mg "NoPart" = some (.ref (He.ga K "NoPart"))) (o_NoNumber : mg "NoNumber" = some (.ref (He.ga K "NoNumber"))) (o_NoMoment : mg "NoMoment" = some (.ref (He.ga K "NoMoment"))) (o_NoClock : mg "NoClock" = some (.ref (He.ga K "NoClock"))) (o_NoHour : mg "NoHour" = some (.ref (He.ga K "NoHour"))) (o_NoTelling : mg "NoTelling" = some (.ref (He.ga K "NoTelling"))) (o_NoTellings : mg "NoTellings" = some (.ref (He.ga K "NoTellings"))) (o_NoRow : mg "NoRow" = some (.ref (He.ga K "NoRow"))) (o_Apart : mg "Apart" = some (.ref (He.ga K "Apart"))) (o_Twice : mg "Twice" = some (.ref (He.ga K "Twice"))) (o_Missing : mg "Missing" = some (.ref (He.ga K "Missing"))) (o_NoDeed : mg "NoDeed" = some (.ref (He.ga K "NoDeed"))) (o_NoAir : mg "NoAir" = some (.ref (He.ga K "NoAir"))) (o_NoSignal : mg "NoSignal" = some (.ref (He.ga K "NoSignal"))) (o_NoQuarrel : mg "NoQuarrel" = some (.ref (He.ga K "NoQuarrel"))) (o_NoCarriage : mg "NoCarriage" = some (.ref (He.ga K "NoCarriage"))) (o_NoLine : mg "NoLine" = some (.ref (He.ga K "NoLine"))) (o_TooMany : mg "TooMany" = some (.ref (He.ga K "TooMany"))) (o_NoText : mg "NoText" = some (.ref (He.ga K "NoText"))) (EI : ∀ x ∈ known, ErI K x) : FnS P w K mg base T 1 f fd ["_law_e"] (pfE K known) := by
  refine fn_okS F sc_law_flags fun cdv A outer s H a oe C dd hr hz hv => ?_
  by_cases hx : ExcC K C ∧ dd = none
  · obtain ⟨EC, rfl⟩ := hx
    refine ⟨_, (psd_cons (psd_set 1 sc_law_flags.nd rfl (Or.inl rfl) (pd_lst (pad_cons (pd_callB (cD_isP (a := a) (C := C) (List.mem_singleton.mpr rfl) hz hv EC) rfl fr.isinstance_ (by decide +kernel) (pad_cons (pd_var 0) (pad_cons (pd_ob rfl o_NoPart) pad_nil))) (pad_cons (pd_callB (cD_isP (a := a) (C := C) (List.mem_singleton.mpr rfl) hz hv EC) rfl fr.isinstance_ (by decide +kernel) (pad_cons (pd_var 0) (pad_cons (pd_ob rfl o_NoNumber) pad_nil))) (pad_cons (pd_callB (cD_isP (a := a) (C := C) (List.mem_singleton.mpr rfl) hz hv EC) rfl fr.isinstance_ (by decide +kernel) (pad_cons (pd_var 0) (pad_cons (pd_ob rfl o_NoMoment) pad_nil))) (pad_cons (pd_callB (cD_isP (a := a) (C := C) (List.mem_singleton.mpr rfl) hz hv EC) rfl fr.isinstance_ (by decide +kernel) (pad_cons (pd_var 0) (pad_cons (pd_ob rfl o_NoClock) pad_nil))) pad_nil)))))) (psd_cons (psd_set 1 sc_law_flags.nd rfl (Or.inl rfl) (pd_bin opD_add (pd_var 1) (pd_lst (pad_cons (pd_callB (cD_isP (a := a) (C := C) (List.mem_singleton.mpr rfl) hz hv EC) rfl fr.isinstance_ (by decide +kernel) (pad_cons (pd_var 0) (pad_cons (pd_ob rfl o_NoHour) pad_nil))) (pad_cons (pd_callB (cD_isP (a := a) (C := C) (List.mem_singleton.mpr rfl) hz hv EC) rfl fr.isinstance_ (by decide +kernel) (pad_cons (pd_var 0) (pad_cons (pd_ob rfl o_NoTelling) pad_nil))) (pad_cons (pd_callB (cD_isP (a := a) (C := C) (List.mem_singleton.mpr rfl) hz hv EC) rfl fr.isinstance_ (by decide +kernel) (pad_cons (pd_var 0) (pad_cons (pd_ob rfl o_NoTellings) pad_nil))) (pad_cons (pd_callB (cD_isP (a := a) (C := C) (List.mem_singleton.mpr rfl) hz hv EC) rfl fr.isinstance_ (by decide +kernel) (pad_cons (pd_var 0) (pad_cons (pd_ob rfl o_NoRow) pad_nil))) pad_nil))))))) (psd_cons (psd_set 1 sc_law_flags.nd rfl (Or.inl rfl) (pd_bin opD_add (pd_var 1) (pd_lst (pad_cons (pd_callB (cD_isP (a := a) (C := C) (List.mem_singleton.mpr rfl) hz hv EC) rfl fr.isinstance_ (by decide +kernel) (pad_cons (pd_var 0) (pad_cons (pd_ob rfl o_Apart) pad_nil))) (pad_cons (pd_callB (cD_isP (a := a) (C := C) (List.mem_singleton.mpr rfl) hz hv EC) rfl fr.isinstance_ (by decide +kernel) (pad_cons (pd_var 0) (pad_cons (pd_ob rfl o_Twice) pad_nil))) (pad_cons (pd_callB (cD_isP (a := a) (C := C) (List.mem_singleton.mpr rfl) hz hv EC) rfl fr.isinstance_ (by decide +kernel) (pad_cons (pd_var 0) (pad_cons (pd_ob rfl o_Missing) pad_nil))) (pad_cons (pd_callB (cD_isP (a := a) (C := C) (List.mem_singleton.mpr rfl) hz hv EC) rfl fr.isinstance_ (by decide +kernel) (pad_cons (pd_var 0) (pad_cons (pd_ob rfl o_NoDeed) pad_nil))) pad_nil))))))) (psd_cons (psd_set 1 sc_law_flags.nd rfl (Or.inl rfl) (pd_bin opD_add (pd_var 1) (pd_lst (pad_cons (pd_callB (cD_isP (a := a) (C := C) (List.mem_singleton.mpr rfl) hz hv EC) rfl fr.isinstance_ (by decide +kernel) (pad_cons (pd_var 0) (pad_cons (pd_ob rfl o_NoAir) pad_nil))) (pad_cons (pd_callB (cD_isP (a := a) (C := C) (List.mem_singleton.mpr rfl) hz hv EC) rfl fr.isinstance_ (by decide +kernel) (pad_cons (pd_var 0) (pad_cons (pd_ob rfl o_NoSignal) pad_nil))) (pad_cons (pd_callB (cD_isP (a := a) (C := C) (List.mem_singleton.mpr rfl) hz hv EC) rfl fr.isinstance_ (by decide +kernel) (pad_cons (pd_var 0) (pad_cons (pd_ob rfl o_NoQuarrel) pad_nil))) (pad_cons (pd_callB (cD_isP (a := a) (C := C) (List.mem_singleton.mpr rfl) hz hv EC) rfl fr.isinstance_ (by decide +kernel) (pad_cons (pd_var 0) (pad_cons (pd_ob rfl o_NoCarriage) pad_nil))) pad_nil))))))) (psd_cons (psd_set 1 sc_law_flags.nd rfl (Or.inl rfl) (pd_bin opD_add (pd_var 1) (pd_lst (pad_cons (pd_callB (cD_isP (a := a) (C := C) (List.mem_singleton.mpr rfl) hz hv EC) rfl fr.isinstance_ (by decide +kernel) (pad_cons (pd_var 0) (pad_cons (pd_ob rfl o_NoLine) pad_nil))) (pad_cons (pd_callB (cD_isP (a := a) (C := C) (List.mem_singleton.mpr rfl) hz hv EC) rfl fr.isinstance_ (by decide +kernel) (pad_cons (pd_var 0) (pad_cons (pd_ob rfl o_TooMany) pad_nil))) (pad_cons (pd_callB (cD_isP (a := a) (C := C) (List.mem_singleton.mpr rfl) hz hv EC) rfl fr.isinstance_ (by decide +kernel) (pad_cons (pd_var 0) (pad_cons (pd_ob rfl o_NoText) pad_nil))) pad_nil)))))) (psd_cons (psd_if (ptd_w (pwd_or (ptd_not (ptd_val (pd_callB (cD_isP (a := a) (C := C) (List.mem_singleton.mpr rfl) hz hv EC) rfl fr.isinstance_ (by decide +kernel) (pad_cons (pd_var 0) (pad_cons (pd_ty (n := "ValueError") rfl fr.ValueError_ (by decide +kernel)) pad_nil))))) (pwd_or1 (ptd_val (pd_callB (cD_isP (a := a) (C := C) (List.mem_singleton.mpr rfl) hz hv EC) rfl fr.isinstance_ (by decide +kernel) (pad_cons (pd_var 0) (pad_cons (pd_tup (pad_cons (pd_ty (n := "LookupError") rfl fr.LookupError_ (by decide +kernel)) (pad_cons (pd_ty (n := "TypeError") rfl fr.TypeError_ (by decide +kernel)) (pad_cons (pd_ty (n := "ArithmeticError") rfl fr.ArithmeticError_ (by decide +kernel)) (pad_cons (pd_ty (n := "RuntimeError") rfl fr.RuntimeError_ (by decide +kernel)) pad_nil))))) pad_nil))))))) (psd_one (psd_ret (pd_tup (pad_cons pd_str pad_nil)))) psd_nil) (psd_cons (psd_if (ptd_cmp (opD_ne (roomH64 hr)) (nobehind _ (by decide) (by decide)) (pd_bmL PySem.F.slot_list_count ty_list_count (mtD_count (roomH65 hr)) (pd_var 1) (pad_cons pd_bl pad_nil)) pd_int) (psd_one (psd_ret (pd_tup (pad_cons pd_str pad_nil)))) psd_nil) (psd_cons (psd_set 2 sc_law_flags.nd rfl (Or.inl rfl) (pd_lst (pad_cons pd_str (pad_cons pd_str (pad_cons pd_str (pad_cons pd_str (pad_cons pd_str (pad_cons pd_str (pad_cons pd_str (pad_cons pd_str (pad_cons pd_str (pad_cons pd_str (pad_cons pd_str pad_nil))))))))))))) (psd_cons (psd_set 3 sc_law_flags.nd rfl (Or.inl rfl) (pd_ix ixD (pd_bin opD_add (pd_var 2) (pd_lst (pad_cons pd_str (pad_cons pd_str (pad_cons pd_str (pad_cons pd_str (pad_cons pd_str (pad_cons pd_str (pad_cons pd_str (pad_cons pd_str pad_nil)))))))))) (pd_bmL PySem.F.slot_list_index ty_list_index (mtD_index (roomH65 hr)) (pd_var 1) (pad_cons pd_bl pad_nil)))) (psd_cons (psd_if (ptd_cmp (opD_eq (roomH64 hr)) (nobehind _ (by decide) (by decide)) (pd_var 3) pd_str) (psd_one (psd_ret (pd_tup (pad_cons (pd_var 3) (pad_cons pd_never (pad_cons pd_never pad_nil)))))) psd_nil) (psd_one (psd_ret (pd_if (ptd_cmp (opD_eq (roomH64 hr)) (nobehind _ (by decide) (by decide)) (pd_var 3) pd_str) (pd_tup (pad_cons (pd_var 3) (pad_cons pd_never pad_nil))) (pd_tup (pad_cons (pd_var 3) pad_nil))))))))))))))), fun ds S R hl hp => ?_⟩
    obtain ⟨x, hx, rfl, _, rfl, h⟩ := hp
    have E := EI x hx
    rcases (show x = "NoRow" ∨ x = "NoTellings" by simpa using hx) with rfl | rfl
    · walk_at "go"
      refine r_isP E (by decide) (show decide ((("NoRow" : Str)) = "NoPart") = false by decide) ?_
      walk_at "go"
      refine r_isP E (by decide) (show decide ((("NoRow" : Str)) = "NoNumber") = false by decide) ?_
      walk_at "go"
      refine r_isP E (by decide) (show decide ((("NoRow" : Str)) = "NoMoment") = false by decide) ?_
      walk_at "go"
      refine r_isP E (by decide) (show decide ((("NoRow" : Str)) = "NoClock") = false by decide) ?_
      walk_at "go"
      refine r_isP E (by decide) (show decide ((("NoRow" : Str)) = "NoHour") = false by decide) ?_
      walk_at "go"
      refine r_isP E (by decide) (show decide ((("NoRow" : Str)) = "NoTelling") = false by decide) ?_
      walk_at "go"
      refine r_isP E (by decide) (show decide ((("NoRow" : Str)) = "NoTellings") = false by decide) ?_
      walk_at "go"
      refine r_isP E (by decide) (show decide ((("NoRow" : Str)) = "NoRow") = true by decide) ?_
      walk_at "go"
      refine r_isP E (by decide) (show decide ((("NoRow" : Str)) = "Apart") = false by decide) ?_
      walk_at "go"
      refine r_isP E (by decide) (show decide ((("NoRow" : Str)) = "Twice") = false by decide) ?_
      walk_at "go"
      refine r_isP E (by decide) (show decide ((("NoRow" : Str)) = "Missing") = false by decide) ?_
      walk_at "go"
      refine r_isP E (by decide) (show decide ((("NoRow" : Str)) = "NoDeed") = false by decide) ?_
      walk_at "go"
      refine r_isP E (by decide) (show decide ((("NoRow" : Str)) = "NoAir") = false by decide) ?_
      walk_at "go"
      refine r_isP E (by decide) (show decide ((("NoRow" : Str)) = "NoSignal") = false by decide) ?_
      walk_at "go"
      refine r_isP E (by decide) (show decide ((("NoRow" : Str)) = "NoQuarrel") = false by decide) ?_
      walk_at "go"
      refine r_isP E (by decide) (show decide ((("NoRow" : Str)) = "NoCarriage") = false by decide) ?_
      walk_at "go"
      refine r_isP E (by decide) (show decide ((("NoRow" : Str)) = "NoLine") = false by decide) ?_
      walk_at "go"
      refine r_isP E (by decide) (show decide ((("NoRow" : Str)) = "TooMany") = false by decide) ?_
      walk_at "go"
      refine r_isP E (by decide) (show decide ((("NoRow" : Str)) = "NoText") = false by decide) ?_
      walk_at "go"
      refine r_isV E ?_
      walk_at "go"
      refine r_isN E ?_
      walk_at "go"
      refine r_cntB (bs := [false, false, false, false, false, false, false, true, false, false, false, false, false, false, false, false, false, false, false]) (by decide +kernel) ?_
      walk_at "go"
      refine r_idxB (bs := [false, false, false, false, false, false, false, true, false, false, false, false, false, false, false, false, false, false, false]) (j := 7) (by decide +kernel) rfl rfl ?_
      walk_at "go"
      refine r_ixL (d := .str "row") rfl ?_
      walk_at "go"
      exact h
    · walk_at "go"
      refine r_isP E (by decide) (show decide ((("NoTellings" : Str)) = "NoPart") = false by decide) ?_
      walk_at "go"
      refine r_isP E (by decide) (show decide ((("NoTellings" : Str)) = "NoNumber") = false by decide) ?_
      walk_at "go"
      refine r_isP E (by decide) (show decide ((("NoTellings" : Str)) = "NoMoment") = false by decide) ?_
      walk_at "go"
      refine r_isP E (by decide) (show decide ((("NoTellings" : Str)) = "NoClock") = false by decide) ?_
      walk_at "go"
      refine r_isP E (by decide) (show decide ((("NoTellings" : Str)) = "NoHour") = false by decide) ?_
      walk_at "go"
      refine r_isP E (by decide) (show decide ((("NoTellings" : Str)) = "NoTelling") = false by decide) ?_
      walk_at "go"
      refine r_isP E (by decide) (show decide ((("NoTellings" : Str)) = "NoTellings") = true by decide) ?_
      walk_at "go"
      refine r_isP E (by decide) (show decide ((("NoTellings" : Str)) = "NoRow") = false by decide) ?_
      walk_at "go"
      refine r_isP E (by decide) (show decide ((("NoTellings" : Str)) = "Apart") = false by decide) ?_
      walk_at "go"
      refine r_isP E (by decide) (show decide ((("NoTellings" : Str)) = "Twice") = false by decide) ?_
      walk_at "go"
      refine r_isP E (by decide) (show decide ((("NoTellings" : Str)) = "Missing") = false by decide) ?_
      walk_at "go"
      refine r_isP E (by decide) (show decide ((("NoTellings" : Str)) = "NoDeed") = false by decide) ?_
      walk_at "go"
      refine r_isP E (by decide) (show decide ((("NoTellings" : Str)) = "NoAir") = false by decide) ?_
      walk_at "go"
      refine r_isP E (by decide) (show decide ((("NoTellings" : Str)) = "NoSignal") = false by decide) ?_
      walk_at "go"
      refine r_isP E (by decide) (show decide ((("NoTellings" : Str)) = "NoQuarrel") = false by decide) ?_
      walk_at "go"
      refine r_isP E (by decide) (show decide ((("NoTellings" : Str)) = "NoCarriage") = false by decide) ?_
      walk_at "go"
      refine r_isP E (by decide) (show decide ((("NoTellings" : Str)) = "NoLine") = false by decide) ?_
      walk_at "go"
      refine r_isP E (by decide) (show decide ((("NoTellings" : Str)) = "TooMany") = false by decide) ?_
      walk_at "go"
      refine r_isP E (by decide) (show decide ((("NoTellings" : Str)) = "NoText") = false by decide) ?_
      walk_at "go"
      refine r_isV E ?_
      walk_at "go"
      refine r_isN E ?_
      walk_at "go"
      refine r_cntB (bs := [false, false, false, false, false, false, true, false, false, false, false, false, false, false, false, false, false, false, false]) (by decide +kernel) ?_
      walk_at "go"
      refine r_idxB (bs := [false, false, false, false, false, false, true, false, false, false, false, false, false, false, false, false, false, false, false]) (j := 6) (by decide +kernel) rfl rfl ?_
      walk_at "go"
      refine r_ixL (d := .str "tellings") rfl ?_
      walk_at "go"
      exact h
  · exact ⟨_, pss_none, fun ds S R hl hp => by
      obtain ⟨y, hy, rfl, e2, _⟩ := hp
      exact (hx ⟨(EI y hy).c, e2⟩).elim⟩
abbrev N_law_said : List Str := ["_law_call", "_law_e"]
theorem sc_law_said : FnScope N_law_said ["_law_call"] (defScope s_law_said) := ⟨rfl, rfl, rfl, by decide +kernel, rfl, by decide +kernel, by decide +kernel⟩
theorem ok_law_said {g f : Addr} {gd fd : FuncData} (F : FunD K "_law_said" "_law_said" (defArgs s_law_said) (defBody s_law_said) (defScope s_law_said) [] [] g gd) (hg : mg "_law_said" = some (.ref g)) (f_flags : FnS P w K mg base T 1 f fd ["_law_e"] (pfE K known)) (hf : mg "_law_flags" = some (.ref f)) (kf : PySem.W.keepIn K (.ref f) = true) (bf : L2.Binds K fd ["_law_e"] []) (o_ClockError : mg "ClockError" = some (.ref (He.ga K "ClockError"))) (k : Nat) (hk : 2 ≤ k + 1) : TryD P w K mg base "_law_said" k (TTry K T (He.ga K "ClockError") (pfE K known) tellV) := by
  obtain ⟨oc, od, dV, kV, doc, pm, an, cdv, ct, osl, e, lk, hcd, d1, d2⟩ := id F.ex
  have bw := FunD.bindsN F (ps := ["_law_call"]) (fun _ _ _ _ _ _ us hl => match us, hl with | [_], _ => rfl)
  subst e
  refine ⟨⟨g, "_law_call", N_law_said, _, _, _, dV, kV, doc, pm, cdv, ct, oc, an, od, osl, hg, F.kp, lk, hcd, bw, sc_law_said, rfl, .inl rfl, by decide, by decide, ?_⟩⟩
  intro X q e1 e2 e3 e4 e5 hr
  subst e1 e2 e3 e4 e5
  exact try_givesV (k := 1) f_flags (hr.mono hk) rfl hf kf bf rfl o_ClockError (by decide) (by decide) rfl (by decide) (by decide) (by decide)
abbrev N_law_is_row : List Str := ["_law_thing", "_law_one"]
theorem sc_law_is_row : FnScope N_law_is_row ["_law_thing"] (defScope s_law_is_row) := ⟨rfl, rfl, rfl, by decide +kernel, rfl, by decide +kernel, by decide +kernel⟩
theorem ok_law_is_row {f : Addr} {fd : FuncData} (F : FunD K "_law_is_row" "_law_is_row" (defArgs s_law_is_row) (defBody s_law_is_row) (defScope s_law_is_row) [] [] f fd) (fr : Fr mg) (c_law_is_part : Cal false P w K mg base T "_law_is_part" 2 1 [] p_law_is_part) : FnD false P w K mg base T 3 f fd ["_law_thing"] p_law_is_row := by
  refine fn_okD F sc_law_is_row fun cdv A outer s H E hr hG0 cc => ?_
  have hG : GdOk false (cxOf (L2.CX P w) P w K mg base N_law_is_row "_law_is_row" (defScope s_law_is_row) f cdv A outer s H E).A := hG0
  have tk : Takes (cxOf (L2.CX P w) P w K mg base N_law_is_row "_law_is_row" (defScope s_law_is_row) f cdv A outer s H E) (fun cls d _ H' => E cls d H') := takes_of rfl rfl rfl rfl
  have po : PassesOwn (model P w) (cxOf (L2.CX P w) P w K mg base N_law_is_row "_law_is_row" (defScope s_law_is_row) f cdv A outer s H E).A (cxOf (L2.CX P w) P w K mg base N_law_is_row "_law_is_row" (defScope s_law_is_row) f cdv A outer s H E).env (cxOf (L2.CX P w) P w K mg base N_law_is_row "_law_is_row" (defScope s_law_is_row) f cdv A outer s H E).xe := passes_of rfl
  refine ⟨_, (psd_cons (psd_if (ptd_w (pwd_or (ptd_not (ptd_val (pd_callB (cD_isi isi_tup) rfl fr.isinstance_ (by decide +kernel) (pad_cons (pd_var 0) (pad_cons (pd_ty (n := "tuple") rfl fr.tuple_ (by decide +kernel)) pad_nil))))) (pwd_or (ptd_cmp (opD_ne hr.units) (nobehind _ (by decide) (by decide)) (pd_callB cD_len rfl fr.len_ (by decide +kernel) (pad_cons (pd_var 0) pad_nil)) pd_int) (pwd_or1 (ptd_not (ptd_val (pd_callB (cD_all rfl) rfl fr.all_ (by decide +kernel) (pad_cons (pd_lc (own := [("_law_one", 1)]) (b := (.nm 1)) rfl sc_law_is_row.nd (pid_tup (pd_var 0)) (blkOk_by (own := [("_law_one", 1)]) (N := N_law_is_row) (sc := defScope s_law_is_row) (by decide +kernel)) (by intro i hi; simp [Bd.all] at hi ⊢; omega) (fun _ _ _ _ _ => pg_name (i := 1) sc_law_is_row.nd rfl (Or.inl rfl)) (fun _ _ _ _ _ => ptsd_nil) (fun _ _ _ _ _ => (pd_own (c_law_is_part.up (by decide)) hr (hG.le (by decide)) rfl L2.takes0 (pad_cons (pd_var 1) pad_nil)))) pad_nil)))))))) (psd_one (psd_ret pd_bl)) psd_nil) (psd_one (psd_ret (pd_cmp (opD_eq hr.units) (nobehind _ (by decide) (by decide)) (pd_ix ixD (pd_var 0) pd_int) (pd_tup (pad_cons pd_int (pad_cons pd_int pad_nil))))))), fun ds S R Rx hl hp => ?_⟩
  clear hG0 hG tk po hr cc; try clear fr c_law_is_part
  obtain ⟨d, rfl, hz, h⟩ := hp
  cases d with
  | tup xs =>
    have h : R (.bl (decide (xs.length = 6) && (xs.all isPart && isNought (xs.headD .non)))) S := h
    walk_at "go"
    refine r_bothN (fun z => ?_) (fun z => ?_)
    · rw [decide_eq_false (by omega), Bool.false_and] at h
      walk_at "go"
      exact h
    · have z : xs.length = 6 := by omega
      rw [decide_eq_true z, Bool.true_and] at h
      walk_at "au"
      refine comp_all (xs := xs) isPart (by omega) trivial ?_ ?_
      · intro d N hm hN
        walk_at "go"
        exact i_lis_part ((hz.at hm).mono (by decide)) hN
      · walk_at "go"
        refine ⟨_, rfl, ?_⟩
        rw [all_map]
        refine r_bl ?_
        cases ea : xs.all isPart with
        | false =>
          rw [ea] at h
          walk_at "go"
          exact h
        | true =>
          rw [ea] at h
          obtain ⟨r, rfl⟩ := parts_at ea
          cases r with
          | nil => cases z
          | cons q r =>
            walk_at "au"
            refine r_ix0T (a := pt q) (xs := r.map pt) ?_
            walk_at "au"
            have e : isNought (pt q) = decide (q = 0) := by
              by_cases hq : q = 0
              · subst hq
                rfl
              · rw [decide_eq_false hq]
                cases hn : isNought (pt q) with
                | false => rfl
                | true => exact absurd (pt_inj (isNought_at hn)) hq
            have h : R (.bl (isNought (pt q))) S := h
            rw [e] at h
            exact h
  | ty n => cases hz.1
  | ob n => cases hz.1
  | er n => cases hz.1
  | _ =>
    walk_at "go"
    exact h
end
end DL

set_option maxHeartbeats 4000000
namespace DL
open PySem PySem.Spec PyProof.Rows L2
local macro_rules | `(tactic| walk_at "go1") => `(tactic| first
  | with_reducible refine r_seq ?_ | with_reducible refine r_asg ?_ | with_reducible refine r_ret ?_ | with_reducible refine r_ifS ?_ | with_reducible refine r_drop ?_ | with_reducible refine r_par ?_ | with_reducible refine r_next ?_ | with_reducible refine r_retN ?_
  | ((with_reducible refine' r_var ?hv ?_); (case hv => rfl)) | with_reducible refine r_c ?_ | with_reducible refine r_bin ?_ | with_reducible refine r_un ?_ | with_reducible refine r_as1 ?_ | with_reducible refine r_as0 ?_
  | with_reducible refine r_cb ?_ | with_reducible refine r_call ?_ | with_reducible refine r_B ?_ | with_reducible refine r_notT ?_ | with_reducible refine r_andT ?_ | with_reducible refine r_orT ?_
  | with_reducible refine r_andV ?_ | with_reducible refine r_orV ?_ | with_reducible refine r_notV ?_ | with_reducible refine r_if ?_ | with_reducible refine r_tup ?_ | with_reducible refine r_lst ?_ | with_reducible refine r_mu ?_
  | with_reducible refine r_cut ?_ | with_reducible refine r_p0 ?_ | with_reducible refine r_p1 ?_ | with_reducible refine r_gN ?_ | ((with_reducible refine r_gT ?hv ?_); (case hv => rfl)) | with_reducible refine r_gs1 ?_ | with_reducible refine r_gs0 ?_
  | ((with_reducible refine r_trueR ?hv ?_); (case hv => first | rfl | assumption)) | ((with_reducible refine r_falseR ?hv ?_); (case hv => first | rfl | assumption)) | with_reducible refine r_bl ?_ | with_reducible refine r_in ?_ | with_reducible refine r_two ?_
  | with_reducible refine r_addI ?_ | with_reducible refine r_subI ?_ | with_reducible refine r_mulI ?_ ?_ | with_reducible refine r_divI ?_ ?_ | with_reducible refine r_modI ?_ ?_ | with_reducible refine r_powI ?_ ?_ | with_reducible refine r_negI ?_
  | with_reducible refine r_lt ?_ | with_reducible refine r_le ?_ | with_reducible refine r_gt ?_ | with_reducible refine r_ge ?_ | with_reducible refine r_is ?_ | with_reducible refine r_isNot ?_ | with_reducible refine r_eqI ?_ | with_reducible refine r_neI ?_ | with_reducible refine r_eqS ?_ | with_reducible refine r_neS ?_
  | with_reducible refine r_ixP0 ?_ | with_reducible refine r_ixP1 ?_ | with_reducible refine r_ix0T ?_ | with_reducible refine r_ix1T ?_ | with_reducible refine r_lenT ?_ | with_reducible refine r_lenL ?_ | with_reducible refine r_lenC ?_
  | with_reducible refine r_abs ?_ | with_reducible refine r_max ?_ | with_reducible refine r_min ?_ | with_reducible refine r_intI ?_ | with_reducible refine r_intB ?_ | with_reducible refine r_tupL ?_ | with_reducible refine r_tupT ?_
  | with_reducible refine r_gcd ?_ | ((with_reducible refine r_isi ?hv ?_); (case hv => first | rfl | assumption)) | with_reducible refine r_sizeT ?_ | with_reducible refine r_sizeL ?_)
local macro_rules | `(tactic| walk_at "go") => `(tactic| repeat' walk_at "go1")
local macro_rules | `(tactic| walk_at "go1") => `(tactic| first
  | with_reducible refine r_lc ?_ | with_reducible refine r_wiT ?_ | with_reducible refine r_wiZ ?_ | with_reducible refine r_wiL ?_ | with_reducible refine r_wiR1 ?_ | with_reducible refine r_for ?_ | with_reducible refine r_yes ?_
  | with_reducible refine b_nm ?_ | with_reducible refine r_setD0 ?_ | with_reducible refine r_setD1 ?_ | ((with_reducible refine' r_setDT ?hv ?_); (case hv => rfl)) | with_reducible refine r_setsD ?_ | with_reducible refine r_setsCut ?_ | with_reducible refine b_tp2 ?_ | with_reducible refine r_trueL ?_ | with_reducible refine r_falseL ?_ )

local macro_rules | `(tactic| walk_at "go1") => `(tactic| first
  | with_reducible refine r_size0 ?_ | with_reducible refine r_size3 ?_ | with_reducible refine r_app ?_ | with_reducible refine r_setIx ?_ | ((with_reducible refine' r_sizeG ?hv ?_); (case hv => rfl)) | ((with_reducible refine' r_addG ?hv ?_); (case hv => rfl)) | ((with_reducible refine' r_addTG ?hv ?_); (case hv => rfl))
  | with_reducible refine r_bmL ?_ | with_reducible refine r_isL ?_ | with_reducible refine r_try ?_ | with_reducible refine r_emp ?_ | with_reducible refine r_raise ?_ | with_reducible refine r_chain ?_ | with_reducible refine r_mulGI ?_ ?_
  | with_reducible refine r_wiET ?_ | with_reducible refine r_telLen ?_ | with_reducible refine r_telsLen ?_ | with_reducible refine r_rowLen ?_ | ((with_reducible refine' r_telT ?hv ?_); (case hv => rfl)))

local macro_rules | `(tactic| walk_at "szs") => `(tactic| first
  | assumption
  | ((with_reducible apply Sz.add); walk_at "szs"; walk_at "szs")
  | ((with_reducible apply Sz.sub); walk_at "szs"; walk_at "szs")
  | ((with_reducible apply Sz.mul); walk_at "szs"; walk_at "szs")
  | ((with_reducible apply Sz.neg); walk_at "szs")
  | (apply Pz.sz; assumption) | exact sz0 | exact sz1 | exact sz24
  | ((with_reducible apply sz_abs); walk_at "szs"))
local macro_rules | `(tactic| walk_at "sz") => `(tactic| (apply Sz.mono; walk_at "szs"; exact Nat.le_of_ble_eq_true rfl))
local macro_rules | `(tactic| walk_at "pen") => `(tactic| first | assumption | (apply Stm.pen; assumption) | (apply stm_st; assumption) | (apply stm_st; apply Stm.pen; assumption))
local macro_rules | `(tactic| walk_at "stm") => `(tactic| first | assumption | exact Stm.of (by walk_at "pen") | (refine Stm.trans ?_ (by assumption); walk_at "stm") | (refine Stm.trans ?_ (Stm.new (by walk_at "pen")); walk_at "stm"))
local macro_rules | `(tactic| walk_at "side") => `(tactic| first | assumption | rfl | omega | decide | walk_at "sz" | walk_at "pen")
local macro_rules | `(tactic| walk_at "au") => `(tactic| repeat' walk_at "au1")
local macro_rules | `(tactic| walk_at "au1") => `(tactic| first
  | walk_at "go1"
  | (with_reducible refine i_next ?_; intro r _ _)
  | (with_reducible refine i_draw ?a ?b ?c ?_; (case a => walk_at "side"); (case b => walk_at "side"); (case c => walk_at "pen"); intro x S' _ _ _)
  | (with_reducible refine i_sum_of ?a ?b ?_; (case a => walk_at "sz"); (case b => walk_at "sz"))
  | (with_reducible refine i_difference_of ?a ?b ?_; (case a => walk_at "sz"); (case b => walk_at "sz"))
  | (with_reducible refine i_product_of ?a ?b ?_; (case a => walk_at "sz"); (case b => walk_at "sz"))
  | (with_reducible refine i_is_below ?a ?b ?_; (case a => walk_at "sz"); (case b => walk_at "sz"))
  | (with_reducible refine i_added ?a ?b ?_; (case a => walk_at "sz"); (case b => walk_at "sz"))
  | (with_reducible refine i_less ?a ?b ?_; (case a => walk_at "sz"); (case b => walk_at "sz"))
  | (with_reducible refine i_times ?a ?b ?_; (case a => walk_at "sz"); (case b => walk_at "sz"))
  | (with_reducible refine i_is_less ?a ?b ?_; (case a => walk_at "sz"); (case b => walk_at "sz"))
  | (with_reducible refine i_sum ?a ?b ?_; (case a => walk_at "sz"); (case b => walk_at "sz"))
  | (with_reducible refine i_rest ?a ?b ?_; (case a => walk_at "sz"); (case b => walk_at "sz"))
  | (with_reducible refine i_prod ?a ?b ?_; (case a => walk_at "sz"); (case b => walk_at "sz"))
  | (with_reducible refine i_under ?a ?b ?_; (case a => walk_at "sz"); (case b => walk_at "sz"))
  | with_reducible refine i_is_part_pt ?_
  | with_reducible refine r_intB ?_
  | (with_reducible refine r_rng1 ?a ?b ?_; (case a => decide); (case b => decide)) | with_reducible refine r_ix0L ?_ | with_reducible refine r_muE ?_ | with_reducible refine r_itL ?_ | with_reducible refine r_itT ?_
  | with_reducible refine r_par3 ?_ | with_reducible refine r_three ?_ | with_reducible refine r_gSub ?_ | with_reducible refine r_lstM ?_ | with_reducible refine r_lstT ?_ | with_reducible refine r_turn ?_ | with_reducible refine r_callK ?_
  | with_reducible refine i_opposite ?_
  | ((with_reducible refine' r_ixT ?hv ?_); (case hv => rfl))
  | ((with_reducible refine' r_ixL ?hv ?_); (case hv => rfl)) | fail)
local macro_rules | `(tactic| walk_at "au1") => `(tactic| first
  | (with_reducible refine r_modI ?a ?_; (case a => decide))
  | (with_reducible refine r_divI ?a ?_; (case a => exact ⟨by decide, by decide⟩))
  | (with_reducible refine r_powI ?a ?_; (case a => exact ⟨by decide, by decide, by decide⟩)) | fail)
local macro_rules | `(tactic| walk_at "br") => `(tactic| first
  | (with_reducible refine r_bothT ?_ ?_ <;> intro z)
  | (with_reducible refine r_bothF ?_ ?_ <;> intro z)
  | (with_reducible refine r_bothD ?_ ?_ <;> intro z)
  | (with_reducible refine r_bothN ?_ ?_ <;> intro z)
  | (with_reducible refine r_both ?_ ?_ <;> intro z) | fail)
local macro_rules | `(tactic| walk_at "ab") => `(tactic| repeat' first | walk_at "au1" | walk_at "br")

local macro_rules | `(tactic| walk_at "shd") => `(tactic| first
  | assumption | exact ShD.non | exact ShD.bl | exact ShD.lit (by decide) | exact ShD.str (by decide +kernel) (by decide +kernel)
  | (apply ShD.nat; omega)
  | (apply ShD.pt (by walk_at "szs"); exact (Nat.ble_eq_true_of_le (of_decide_eq_true rfl)))
  | (apply ShD.tup; walk_at "shds") | (apply ShD.lst; walk_at "shds"))
local macro_rules | `(tactic| walk_at "shds") => `(tactic| first
  | assumption | exact ShDs.nil | (apply ShDs.cons; walk_at "shd"; walk_at "shds"))

local macro_rules | `(tactic| walk_at "au1") => `(tactic| first
  | (with_reducible refine r_neSS rfl ?_)
  | ((with_reducible refine' r_reprD ?a ?b ?c ?_); (case a => walk_at "shd"); (case b => rfl); (case c => rfl)) | fail)

local macro_rules | `(tactic| walk_at "szs") => `(tactic| ((with_reducible apply Sz.div); walk_at "szs"; walk_at "szs"; assumption))
local macro_rules | `(tactic| walk_at "au1") => `(tactic| first
  | with_reducible refine r_eqPt ?_ | with_reducible refine r_nePt ?_ | with_reducible refine r_eqN ?_ | with_reducible refine r_neN ?_
  | (with_reducible refine n_difference_of1 ?a ?_; (case a => walk_at "sz"))
  | (with_reducible refine n_rest1 ?a ?_; (case a => walk_at "sz"))
  | (with_reducible refine i_divided ?z ?a ?b ?_; (case z => assumption); (case a => walk_at "sz"); (case b => walk_at "sz"))
  | (with_reducible refine i_by ?z ?a ?b ?_; (case z => assumption); (case a => walk_at "sz"); (case b => walk_at "sz"))
  | (with_reducible refine i_between2 ?a ?b ?c ?_; (case a => walk_at "sz"); (case b => walk_at "sz"); (case c => walk_at "sz")) | fail)
local macro_rules | `(tactic| walk_at "pD") => `(tactic| first | rfl | assumption | (apply Pz.pD; assumption))
local macro_rules | `(tactic| walk_at "p2") => `(tactic| first | rfl | assumption | (apply Pz.p2; assumption))
local macro_rules | `(tactic| walk_at "pz") => `(tactic| first | assumption | (apply Pz.mono; (first | assumption | (apply Pz.pt; walk_at "szs")); exact Nat.le_of_ble_eq_true rfl))
local macro_rules | `(tactic| walk_at "au1") => `(tactic| first
  | (with_reducible refine i_part ?a ?b ?c ?_; (case a => walk_at "side"); (case b => walk_at "side"); (case c => walk_at "pen"); intro q S' _ _)
  | (with_reducible refine i_above ?a ?b ?c ?_; (case a => walk_at "side"); (case b => walk_at "side"); (case c => walk_at "pen"); intro q S' _ _ _)
  | (with_reducible refine i_odd ?c ?_; (case c => walk_at "pen"); intro d S' _ _)
  | ((with_reducible refine i_clk_c ?a ?b ?c); (case a => walk_at "pD"); all_goals first | (intro (z : _ = false)) | (intro n e _; subst e))
  | ((with_reducible refine i_lclk_c ?a ?b ?c); (case a => walk_at "pD"); all_goals first | (intro (z : _ = false)) | (intro n e _; subst e))
  | ((with_reducible refine i_part_c ?a ?b ?c); (case a => walk_at "p2"); all_goals first | (intro (z : _ = false)) | (intro q e; subst e))
  | ((with_reducible refine i_up_c ?a ?b ?c); (case a => walk_at "p2"); all_goals first | (intro (z : _ = false)) | (intro q e _; subst e))
  | ((with_reducible refine i_lpart_c ?a ?b ?c); (case a => walk_at "pz"); all_goals first | (intro (z : _ = false)) | (intro q e; subst e)) | fail)

local macro_rules | `(tactic| walk_at "telok") => `(tactic| first | assumption | (apply TelOk.mono; assumption; exact Nat.le_of_ble_eq_true rfl) | (apply TelsOk.mono; assumption; exact Nat.le_of_ble_eq_true rfl) | (apply RowOk.mono; assumption; exact Nat.le_of_ble_eq_true rfl))
local macro_rules | `(tactic| walk_at "au1") => `(tactic| first
  | with_reducible refine r_telsLen ?_ | with_reducible refine r_itTels ?_ | with_reducible refine r_itRow ?_ | with_reducible refine r_rowLen ?_ | with_reducible refine r_wiET ?_ | with_reducible refine r_itET ?_ | with_reducible refine r_itE ?_
  | (with_reducible refine i_check_tellings_ok ?a ?_; (case a => walk_at "telok"))
  | (with_reducible refine i_check_number_ok ?a ?_; (case a => walk_at "side"))
  | (with_reducible refine i_is_kept ?a ?b ?_; (case a => walk_at "telok"); (case b => walk_at "telok"))
  | (with_reducible refine i_first_not_kept ?a ?b ?_; (case a => walk_at "telok"); (case b => walk_at "telok")) | fail)

local macro_rules | `(tactic| walk_at "au1") => `(tactic| first
  | with_reducible refine b_tp4 ?_ | with_reducible refine r_revL ?_ | with_reducible refine r_break ?_ | with_reducible refine r_cont ?_ | fail)

local macro_rules | `(tactic| walk_at "au1") => `(tactic| first
  | (with_reducible refine i_some ?c ?_; (case c => walk_at "pen"); intro q S' _ _ _)
  | (with_reducible refine i_up ?c ?_; (case c => walk_at "pen"); intro q S' _ _ _ _)
  | (with_reducible refine i_row ?c ?_; (case c => walk_at "pen"); intro r S' _ _) | fail)

local macro_rules | `(tactic| walk_at "au1") => `(tactic| first
  | with_reducible refine r_eqB ?_ | with_reducible refine r_eqNil ?_ | fail)
local macro_rules | `(tactic| walk_at "gs1") => `(tactic| first
  | with_reducible refine r_asg ?_ | with_reducible refine r_ret ?_ | with_reducible refine r_ifS ?_ | with_reducible refine r_drop ?_ | with_reducible refine r_par ?_ | with_reducible refine r_next ?_ | with_reducible refine r_retN ?_
  | ((with_reducible refine' r_var ?hv ?_); (case hv => rfl)) | with_reducible refine r_c ?_ | with_reducible refine r_bin ?_ | with_reducible refine r_un ?_ | with_reducible refine r_as1 ?_ | with_reducible refine r_as0 ?_
  | with_reducible refine r_cb ?_ | with_reducible refine r_call ?_ | with_reducible refine r_B ?_ | with_reducible refine r_notT ?_ | with_reducible refine r_andT ?_ | with_reducible refine r_orT ?_
  | with_reducible refine r_andV ?_ | with_reducible refine r_orV ?_ | with_reducible refine r_notV ?_ | with_reducible refine r_if ?_ | with_reducible refine r_tup ?_ | with_reducible refine r_lst ?_ | with_reducible refine r_mu ?_
  | with_reducible refine r_cut ?_ | with_reducible refine r_p0 ?_ | with_reducible refine r_p1 ?_ | with_reducible refine r_gN ?_ | ((with_reducible refine r_gT ?hv ?_); (case hv => rfl)) | with_reducible refine r_gs1 ?_ | with_reducible refine r_gs0 ?_
  | ((with_reducible refine r_trueR ?hv ?_); (case hv => first | rfl | assumption)) | ((with_reducible refine r_falseR ?hv ?_); (case hv => first | rfl | assumption)) | with_reducible refine r_bl ?_ | with_reducible refine r_in ?_ | with_reducible refine r_two ?_
  | with_reducible refine r_addI ?_ | with_reducible refine r_subI ?_ | with_reducible refine r_mulI ?_ ?_ | with_reducible refine r_divI ?_ ?_ | with_reducible refine r_modI ?_ ?_ | with_reducible refine r_powI ?_ ?_ | with_reducible refine r_negI ?_
  | with_reducible refine r_lt ?_ | with_reducible refine r_le ?_ | with_reducible refine r_gt ?_ | with_reducible refine r_ge ?_ | with_reducible refine r_is ?_ | with_reducible refine r_isNot ?_ | with_reducible refine r_eqI ?_ | with_reducible refine r_neI ?_ | with_reducible refine r_eqS ?_ | with_reducible refine r_neS ?_
  | with_reducible refine r_ixP0 ?_ | with_reducible refine r_ixP1 ?_ | with_reducible refine r_ix0T ?_ | with_reducible refine r_ix1T ?_ | with_reducible refine r_lenT ?_ | with_reducible refine r_lenL ?_ | with_reducible refine r_lenC ?_
  | with_reducible refine r_abs ?_ | with_reducible refine r_max ?_ | with_reducible refine r_min ?_ | with_reducible refine r_intI ?_ | with_reducible refine r_intB ?_ | with_reducible refine r_tupL ?_ | with_reducible refine r_tupT ?_
  | with_reducible refine r_gcd ?_ | ((with_reducible refine r_isi ?hv ?_); (case hv => first | rfl | assumption)) | with_reducible refine r_sizeT ?_ | with_reducible refine r_sizeL ?_)
local macro_rules | `(tactic| walk_at "gs") => `(tactic| repeat' walk_at "gs1")
local macro_rules | `(tactic| walk_at "gs1") => `(tactic| first
  | with_reducible refine r_lc ?_ | with_reducible refine r_wiT ?_ | with_reducible refine r_wiZ ?_ | with_reducible refine r_wiL ?_ | with_reducible refine r_wiR1 ?_ | with_reducible refine r_for ?_ | with_reducible refine r_yes ?_
  | with_reducible refine b_nm ?_ | with_reducible refine r_setD0 ?_ | with_reducible refine r_setD1 ?_ | ((with_reducible refine' r_setDT ?hv ?_); (case hv => rfl)) | with_reducible refine r_setsD ?_ | with_reducible refine r_setsCut ?_ | with_reducible refine b_tp2 ?_ | with_reducible refine r_trueL ?_ | with_reducible refine r_falseL ?_ )

local macro_rules | `(tactic| walk_at "gs1") => `(tactic| first
  | with_reducible refine r_size0 ?_ | with_reducible refine r_size3 ?_ | with_reducible refine r_app ?_ | with_reducible refine r_setIx ?_ | ((with_reducible refine' r_sizeG ?hv ?_); (case hv => rfl)) | ((with_reducible refine' r_addG ?hv ?_); (case hv => rfl)) | ((with_reducible refine' r_addTG ?hv ?_); (case hv => rfl))
  | with_reducible refine r_bmL ?_ | with_reducible refine r_isL ?_ | with_reducible refine r_try ?_ | with_reducible refine r_emp ?_ | with_reducible refine r_raise ?_ | with_reducible refine r_chain ?_ | with_reducible refine r_mulGI ?_ ?_
  | with_reducible refine r_wiET ?_ | with_reducible refine r_telLen ?_ | with_reducible refine r_telsLen ?_ | with_reducible refine r_rowLen ?_ | ((with_reducible refine' r_telT ?hv ?_); (case hv => rfl)))

local macro_rules | `(tactic| walk_at "as") => `(tactic| repeat' walk_at "as1")
local macro_rules | `(tactic| walk_at "as1") => `(tactic| first
  | walk_at "gs1"
  | (with_reducible refine i_next ?_; intro r _ _)
  | (with_reducible refine i_draw ?a ?b ?c ?_; (case a => walk_at "side"); (case b => walk_at "side"); (case c => walk_at "pen"); intro x S' _ _ _)
  | (with_reducible refine i_sum_of ?a ?b ?_; (case a => walk_at "sz"); (case b => walk_at "sz"))
  | (with_reducible refine i_difference_of ?a ?b ?_; (case a => walk_at "sz"); (case b => walk_at "sz"))
  | (with_reducible refine i_product_of ?a ?b ?_; (case a => walk_at "sz"); (case b => walk_at "sz"))
  | (with_reducible refine i_is_below ?a ?b ?_; (case a => walk_at "sz"); (case b => walk_at "sz"))
  | (with_reducible refine i_added ?a ?b ?_; (case a => walk_at "sz"); (case b => walk_at "sz"))
  | (with_reducible refine i_less ?a ?b ?_; (case a => walk_at "sz"); (case b => walk_at "sz"))
  | (with_reducible refine i_times ?a ?b ?_; (case a => walk_at "sz"); (case b => walk_at "sz"))
  | (with_reducible refine i_is_less ?a ?b ?_; (case a => walk_at "sz"); (case b => walk_at "sz"))
  | (with_reducible refine i_sum ?a ?b ?_; (case a => walk_at "sz"); (case b => walk_at "sz"))
  | (with_reducible refine i_rest ?a ?b ?_; (case a => walk_at "sz"); (case b => walk_at "sz"))
  | (with_reducible refine i_prod ?a ?b ?_; (case a => walk_at "sz"); (case b => walk_at "sz"))
  | (with_reducible refine i_under ?a ?b ?_; (case a => walk_at "sz"); (case b => walk_at "sz"))
  | with_reducible refine i_is_part_pt ?_
  | with_reducible refine r_intB ?_
  | (with_reducible refine r_rng1 ?a ?b ?_; (case a => decide); (case b => decide)) | with_reducible refine r_ix0L ?_ | with_reducible refine r_muE ?_ | with_reducible refine r_itL ?_ | with_reducible refine r_itT ?_
  | with_reducible refine r_par3 ?_ | with_reducible refine r_three ?_ | with_reducible refine r_gSub ?_ | with_reducible refine r_lstM ?_ | with_reducible refine r_lstT ?_ | with_reducible refine r_turn ?_ | with_reducible refine r_callK ?_
  | with_reducible refine i_opposite ?_
  | ((with_reducible refine' r_ixT ?hv ?_); (case hv => rfl))
  | ((with_reducible refine' r_ixL ?hv ?_); (case hv => rfl)) | fail)
local macro_rules | `(tactic| walk_at "as1") => `(tactic| first
  | (with_reducible refine r_modI ?a ?_; (case a => decide))
  | (with_reducible refine r_divI ?a ?_; (case a => exact ⟨by decide, by decide⟩))
  | (with_reducible refine r_powI ?a ?_; (case a => exact ⟨by decide, by decide, by decide⟩)) | fail)
local macro_rules | `(tactic| walk_at "as1") => `(tactic| first
  | (with_reducible refine r_neSS rfl ?_)
  | ((with_reducible refine' r_reprD ?a ?b ?c ?_); (case a => walk_at "shd"); (case b => rfl); (case c => rfl)) | fail)

local macro_rules | `(tactic| walk_at "as1") => `(tactic| first
  | with_reducible refine r_eqPt ?_ | with_reducible refine r_nePt ?_ | with_reducible refine r_eqN ?_ | with_reducible refine r_neN ?_
  | (with_reducible refine n_difference_of1 ?a ?_; (case a => walk_at "sz"))
  | (with_reducible refine n_rest1 ?a ?_; (case a => walk_at "sz"))
  | (with_reducible refine i_divided ?z ?a ?b ?_; (case z => assumption); (case a => walk_at "sz"); (case b => walk_at "sz"))
  | (with_reducible refine i_by ?z ?a ?b ?_; (case z => assumption); (case a => walk_at "sz"); (case b => walk_at "sz"))
  | (with_reducible refine i_between2 ?a ?b ?c ?_; (case a => walk_at "sz"); (case b => walk_at "sz"); (case c => walk_at "sz")) | fail)
local macro_rules | `(tactic| walk_at "as1") => `(tactic| first
  | (with_reducible refine i_part ?a ?b ?c ?_; (case a => walk_at "side"); (case b => walk_at "side"); (case c => walk_at "pen"); intro q S' _ _)
  | (with_reducible refine i_above ?a ?b ?c ?_; (case a => walk_at "side"); (case b => walk_at "side"); (case c => walk_at "pen"); intro q S' _ _ _)
  | (with_reducible refine i_odd ?c ?_; (case c => walk_at "pen"); intro d S' _ _)
  | ((with_reducible refine i_clk_c ?a ?b ?c); (case a => walk_at "pD"); all_goals first | (intro (z : _ = false)) | (intro n e _; subst e))
  | ((with_reducible refine i_lclk_c ?a ?b ?c); (case a => walk_at "pD"); all_goals first | (intro (z : _ = false)) | (intro n e _; subst e))
  | ((with_reducible refine i_part_c ?a ?b ?c); (case a => walk_at "p2"); all_goals first | (intro (z : _ = false)) | (intro q e; subst e))
  | ((with_reducible refine i_up_c ?a ?b ?c); (case a => walk_at "p2"); all_goals first | (intro (z : _ = false)) | (intro q e _; subst e))
  | ((with_reducible refine i_lpart_c ?a ?b ?c); (case a => walk_at "pz"); all_goals first | (intro (z : _ = false)) | (intro q e; subst e)) | fail)

local macro_rules | `(tactic| walk_at "as1") => `(tactic| first
  | with_reducible refine r_telsLen ?_ | with_reducible refine r_itTels ?_ | with_reducible refine r_itRow ?_ | with_reducible refine r_rowLen ?_ | with_reducible refine r_wiET ?_ | with_reducible refine r_itET ?_ | with_reducible refine r_itE ?_
  | (with_reducible refine i_check_tellings_ok ?a ?_; (case a => walk_at "telok"))
  | (with_reducible refine i_check_number_ok ?a ?_; (case a => walk_at "side"))
  | (with_reducible refine i_is_kept ?a ?b ?_; (case a => walk_at "telok"); (case b => walk_at "telok"))
  | (with_reducible refine i_first_not_kept ?a ?b ?_; (case a => walk_at "telok"); (case b => walk_at "telok")) | fail)

local macro_rules | `(tactic| walk_at "as1") => `(tactic| first
  | with_reducible refine b_tp4 ?_ | with_reducible refine r_revL ?_ | with_reducible refine r_break ?_ | with_reducible refine r_cont ?_ | fail)

local macro_rules | `(tactic| walk_at "as1") => `(tactic| first
  | (with_reducible refine i_some ?c ?_; (case c => walk_at "pen"); intro q S' _ _ _)
  | (with_reducible refine i_up ?c ?_; (case c => walk_at "pen"); intro q S' _ _ _ _)
  | (with_reducible refine i_row ?c ?_; (case c => walk_at "pen"); intro r S' _ _) | fail)

local macro_rules | `(tactic| walk_at "as1") => `(tactic| first
  | with_reducible refine r_eqB ?_ | with_reducible refine r_eqNil ?_ | fail)
section
variable {P : Program} {w : World} {K : PySem.W.Frag} {mg : Str → Option Value} {base : Heap} {T : List (Addr × Str)}

abbrev N_law_due : List Str := ["_law_talks", "_law_line_up", "_law_found", "_law_number", "_law_one", "_law_other", "_law_low", "_law_high", "_law_apart"]
theorem sc_law_due : FnScope N_law_due ["_law_talks", "_law_line_up"] (defScope s_law_due) := ⟨rfl, rfl, rfl, by decide +kernel, rfl, by decide +kernel, by decide +kernel⟩
theorem ok_law_due {f : Addr} {fd : FuncData} (F : FunD K "_law_due" "_law_due" (defArgs s_law_due) (defBody s_law_due) (defScope s_law_due) [] [] f fd) (fr : Fr mg) (c_law_minus : Cal false P w K mg base T "_law_minus" 2 2 [] p_law_minus) (c_law_below : Cal false P w K mg base T "_law_below" 1 2 [] p_law_below) : FnD false P w K mg base T 3 f fd ["_law_talks", "_law_line_up"] p_lawB_due := by
  refine fn_okD F sc_law_due fun cdv A outer s H E hr hG0 cc => ?_
  have hG : GdOk false (cxOf (L2.CX P w) P w K mg base N_law_due "_law_due" (defScope s_law_due) f cdv A outer s H E).A := hG0
  have tk : Takes (cxOf (L2.CX P w) P w K mg base N_law_due "_law_due" (defScope s_law_due) f cdv A outer s H E) (fun cls d _ H' => E cls d H') := takes_of rfl rfl rfl rfl
  have po : PassesOwn (model P w) (cxOf (L2.CX P w) P w K mg base N_law_due "_law_due" (defScope s_law_due) f cdv A outer s H E).A (cxOf (L2.CX P w) P w K mg base N_law_due "_law_due" (defScope s_law_due) f cdv A outer s H E).env (cxOf (L2.CX P w) P w K mg base N_law_due "_law_due" (defScope s_law_due) f cdv A outer s H E).xe := passes_of rfl
  refine ⟨_, (psd_cons (psd_set 2 sc_law_due.nd rfl (Or.inl rfl) (pd_mu pad_nil)) (psd_cons (psd_for po rfl (pid_enumT rfl fr.enumerate_ (pad_cons (pd_var 0) pad_nil)) (pgd_tup rfl (pgsd_cons (pgd_name 3 sc_law_due.nd rfl (Or.inl rfl)) (pgsd_cons (pgd_tup rfl (pgsd_cons (pgd_name 4 sc_law_due.nd rfl (Or.inl rfl)) (pgsd_cons (pgd_name 5 sc_law_due.nd rfl (Or.inl rfl)) (pgsd_cons (pgd_name 6 sc_law_due.nd rfl (Or.inl rfl)) (pgsd_cons (pgd_name 7 sc_law_due.nd rfl (Or.inl rfl)) pgsd_nil))))) pgsd_nil))) (psd_cons (psd_set 8 sc_law_due.nd rfl (Or.inl rfl) (pd_own (c_law_minus.up (by decide)) hr (hG.le (by decide)) rfl tk (pad_cons (pd_ix ixD (pd_var 1) (pd_var 5)) (pad_cons (pd_ix ixD (pd_var 1) (pd_var 4)) pad_nil)))) (psd_one (psd_if (ptd_w (pwd_or (ptd_cmp opD_is (nobehind _ (by decide) (by decide)) (pd_var 6) pd_non) (pwd_or1 (ptd_not (ptd_val (pd_own (c_law_below.up (by decide)) hr (hG.le (by decide)) rfl tk (pad_cons (pd_var 8) (pad_cons (pd_var 6) pad_nil)))))))) (psd_one (psd_if (ptd_w (pwd_or (ptd_cmp opD_is (nobehind _ (by decide) (by decide)) (pd_var 7) pd_non) (pwd_or1 (ptd_not (ptd_val (pd_own (c_law_below.up (by decide)) hr (hG.le (by decide)) rfl tk (pad_cons (pd_var 7) (pad_cons (pd_var 8) pad_nil)))))))) (psd_one (psd_app (pd_var 2) (pd_var 3))) psd_nil)) psd_nil)))) (psd_one (psd_ret (pd_callTy cD_tup rfl fr.tuple_ (by decide +kernel) (pad_cons (pd_var 2) pad_nil)))))), fun ds S R Rx hl hp => ?_⟩
  clear hG0 hG tk po hr cc; try clear fr c_law_minus c_law_below
  obtain ⟨ts, r, rfl, ht, hr, h⟩ := hp
  walk_at "go"
  refine ⟨_, rfl, ?_⟩
  refine loop_by (fun i env S1 => S1 = S ++ [(numsR r (ts.take i)).map fun (n : Nat) => D.int n] ∧ ∃ x3 x4 x5 x6 x7 x8, env = [some (telsD ts), some (rowD r), some (.mu S.length), x3, x4, x5, x6, x7, x8]) ⟨rfl, _, _, _, _, _, _, rfl⟩ ?_ ?_
  · intro i d env S1 N hd hI hN
    obtain ⟨rfl, x3, x4, x5, x6, x7, x8, rfl⟩ := hI
    rw [List.getElem?_map, List.getElem?_zipIdx, List.getElem?_map] at hd
    cases hi : ts[i]? with
    | none =>
      rw [hi] at hd
      cases hd
    | some t =>
      rw [hi] at hd
      have hd : d = D.tup [.int ((0 + i : Nat) : Int), telD t] := (Option.some.inj hd).symm
      subst hd
      have key := nums_take (r := r) hi
      have tk' := ht.ea t (List.mem_of_getElem? hi)
      have g1 := hr.get tk'.other
      have g2 := hr.get tk'.one
      have hs := g1.2.sub g2.2
      have bs := SmO.of tk'.bnd (by decide)
      have bad : keptB t r = false → ∀ y3 y4 y5 y6 y7 y8, N [some (telsD ts), some (rowD r), some (.mu S.length), y3, y4, y5, y6, y7, y8] (S ++ [(numsR r (ts.take i)).map fun (n : Nat) => D.int n]) := fun z y3 y4 y5 y6 y7 y8 => by
        rw [z, if_neg (by decide), List.append_nil] at key
        exact hN _ _ ⟨by rw [key], _, _, _, _, _, _, rfl⟩
      have good : keptB t r = true → ∀ y3 y4 y5 y6 y7 y8, N [some (telsD ts), some (rowD r), some (.mu S.length), y3, y4, y5, y6, y7, y8] ((S ++ [(numsR r (ts.take i)).map fun (n : Nat) => D.int n]).set S.length (((numsR r (ts.take i)).map fun (n : Nat) => D.int n) ++ [D.int ((0 + i : Nat) : Int)])) := fun z y3 y4 y5 y6 y7 y8 => by
        rw [z, if_pos rfl] at key
        rw [sto_set]
        have e2 : ((0 + i : Nat) : Int) = (i : Int) := by omega
        rw [e2]
        exact hN _ _ ⟨by rw [key, List.map_append]; rfl, _, _, _, _, _, _, rfl⟩
      have fits : ((numsR r (ts.take i)).map fun (n : Nat) => D.int n).length < sizeLine := by
        rw [List.length_map]
        have h1 := nums_len (r := r) (ts := ts.take i)
        rw [List.length_take] at h1
        have h2 := ht.len
        exact Nat.lt_of_lt_of_le (show (numsR r (ts.take i)).length < 100 by omega) (by decide)
      refine ⟨trivial, ?_⟩
      walk_at "go"
      refine r_ixRow hr tk'.other ?_
      walk_at "go"
      refine r_ixRow hr tk'.one ?_
      refine i_rest (g1.2.mono (by decide)) (g2.2.mono (by decide)) ?_
      walk_at "go"
      rw [isNon_eD]
      cases el : t.low with
      | none =>
        walk_at "go"
        rw [isNon_eD]
        cases eh : t.high with
        | none =>
          walk_at "go"
          refine ⟨_, rfl, ?_⟩
          walk_at "go"
          refine ⟨_, sto_at, fits, ?_⟩
          exact good (by rw [kept_at (by rw [el]; rfl), eh]; rfl) _ _ _ _ _ _
        | some q2 =>
          walk_at "go"
          refine i_under (bs.2 q2 eh) (hs.mono (by decide)) ?_
          walk_at "go"
          refine r_both ?_ ?_
          · intro z1
            have z2 : decide (q2 < rg r t.other - rg r t.one) = false := by simpa using z1
            walk_at "go"
            refine ⟨_, rfl, ?_⟩
            walk_at "go"
            refine ⟨_, sto_at, fits, ?_⟩
            refine good ?_ _ _ _ _ _ _
            rw [kept_at (by rw [el]; rfl), eh]
            show (!decide _) = true
            rw [z2]
            rfl
          · intro z1
            have z2 : decide (q2 < rg r t.other - rg r t.one) = true := by simpa using z1
            walk_at "go"
            refine bad ?_ _ _ _ _ _ _
            rw [kept_at (by rw [el]; rfl), eh]
            show (!decide _) = false
            rw [z2]
            rfl
      | some q =>
        walk_at "go"
        refine i_under (hs.mono (by decide)) (bs.1 q el) ?_
        walk_at "go"
        refine r_both ?_ ?_
        · intro z0
          have z : decide (rg r t.other - rg r t.one < q) = false := by simpa using z0
          walk_at "go"
          rw [isNon_eD]
          cases eh : t.high with
          | none =>
            walk_at "go"
            refine ⟨_, rfl, ?_⟩
            walk_at "go"
            refine ⟨_, sto_at, fits, ?_⟩
            exact good (by rw [kept_at (by rw [el]; show (!decide _) = true; rw [z]; rfl), eh]; rfl) _ _ _ _ _ _
          | some q2 =>
            walk_at "go"
            refine i_under (bs.2 q2 eh) (hs.mono (by decide)) ?_
            walk_at "go"
            refine r_both ?_ ?_
            · intro z1
              have z2 : decide (q2 < rg r t.other - rg r t.one) = false := by simpa using z1
              walk_at "go"
              refine ⟨_, rfl, ?_⟩
              walk_at "go"
              refine ⟨_, sto_at, fits, ?_⟩
              refine good ?_ _ _ _ _ _ _
              rw [kept_at (by rw [el]; show (!decide _) = true; rw [z]; rfl), eh]
              show (!decide _) = true
              rw [z2]
              rfl
            · intro z1
              have z2 : decide (q2 < rg r t.other - rg r t.one) = true := by simpa using z1
              walk_at "go"
              refine bad ?_ _ _ _ _ _ _
              rw [kept_at (by rw [el]; show (!decide _) = true; rw [z]; rfl), eh]
              show (!decide _) = false
              rw [z2]
              rfl
        · intro z0
          have z : decide (rg r t.other - rg r t.one < q) = true := by simpa using z0
          walk_at "go"
          exact bad (kept_no (by rw [el]; show (!decide _) = false; rw [z]; rfl)) _ _ _ _ _ _
  · intro env S1 hI
    obtain ⟨rfl, x3, x4, x5, x6, x7, x8, rfl⟩ := hI
    refine ⟨trivial, ?_⟩
    walk_at "go"
    refine r_tupM sto_at ?_
    rw [List.length_map, List.length_zipIdx, List.length_map, List.take_length]
    exact h _
abbrev N_law_edge : List Str := ["_law_talks", "_law_line_up", "_law_one", "_law_other", "_law_low", "_law_high", "_law_found", "_law_bound"]
theorem sc_law_edge : FnScope N_law_edge ["_law_talks", "_law_line_up"] (defScope s_law_edge) := ⟨rfl, rfl, rfl, by decide +kernel, rfl, by decide +kernel, by decide +kernel⟩
theorem ok_law_edge {f : Addr} {fd : FuncData} (F : FunD K "_law_edge" "_law_edge" (defArgs s_law_edge) (defBody s_law_edge) (defScope s_law_edge) [] [] f fd) (fr : Fr mg) (c_law_minus : Cal false P w K mg base T "_law_minus" 2 2 [] p_law_minus) (c_law_plus : Cal false P w K mg base T "_law_plus" 2 2 [] p_law_plus) : FnD false P w K mg base T 3 f fd ["_law_talks", "_law_line_up"] p_law_edge := by
  refine fn_okD F sc_law_edge fun cdv A outer s H E hr hG0 cc => ?_
  have hG : GdOk false (cxOf (L2.CX P w) P w K mg base N_law_edge "_law_edge" (defScope s_law_edge) f cdv A outer s H E).A := hG0
  have tk : Takes (cxOf (L2.CX P w) P w K mg base N_law_edge "_law_edge" (defScope s_law_edge) f cdv A outer s H E) (fun cls d _ H' => E cls d H') := takes_of rfl rfl rfl rfl
  have po : PassesOwn (model P w) (cxOf (L2.CX P w) P w K mg base N_law_edge "_law_edge" (defScope s_law_edge) f cdv A outer s H E).A (cxOf (L2.CX P w) P w K mg base N_law_edge "_law_edge" (defScope s_law_edge) f cdv A outer s H E).env (cxOf (L2.CX P w) P w K mg base N_law_edge "_law_edge" (defScope s_law_edge) f cdv A outer s H E).xe := passes_of rfl
  refine ⟨_, (psd_cons (psd_if (ptd_cmp (opD_eq hr.units) (nobehind _ (by decide) (by decide)) (pd_var 0) (pd_tup pad_nil)) (psd_one (psd_ret (pd_var 1))) psd_nil) (psd_cons (psd_asg (pd_ix ixD (pd_var 0) (pd_un unD_neg pd_int)) (pgd_tup rfl (pgsd_cons (pgd_name 2 sc_law_edge.nd rfl (Or.inl rfl)) (pgsd_cons (pgd_name 3 sc_law_edge.nd rfl (Or.inl rfl)) (pgsd_cons (pgd_name 4 sc_law_edge.nd rfl (Or.inl rfl)) (pgsd_cons (pgd_name 5 sc_law_edge.nd rfl (Or.inl rfl)) pgsd_nil)))))) (psd_cons (psd_set 6 sc_law_edge.nd rfl (Or.inl rfl) (pd_callTy cD_lstM rfl fr.list_ (by decide +kernel) (pad_cons (pd_var 1) pad_nil))) (psd_cons (psd_set 7 sc_law_edge.nd rfl (Or.inl rfl) (pd_if (ptd_cmp opD_is (nobehind _ (by decide) (by decide)) (pd_var 5) pd_non) (pd_var 4) (pd_var 5))) (psd_cons (psd_if (ptd_cmp (opD_eq hr.units) (nobehind _ (by decide) (by decide)) (pd_var 3) pd_int) (psd_one (psd_setIx (pd_own (c_law_minus.up (by decide)) hr (hG.le (by decide)) rfl tk (pad_cons (pd_ix ixD (pd_var 1) pd_int) (pad_cons (pd_var 7) pad_nil))) (pd_var 6) (pd_var 2) rfl rfl rfl (pg_sub (pd_var 6) (pd_var 2) set_list))) (psd_one (psd_setIx (pd_own (c_law_plus.up (by decide)) hr (hG.le (by decide)) rfl tk (pad_cons (pd_ix ixD (pd_var 1) (pd_var 2)) (pad_cons (pd_var 7) pad_nil))) (pd_var 6) (pd_var 3) rfl rfl rfl (pg_sub (pd_var 6) (pd_var 3) set_list)))) (psd_one (psd_ret (pd_callTy cD_tup rfl fr.tuple_ (by decide +kernel) (pad_cons (pd_var 6) pad_nil))))))))), fun ds S R Rx hl hp => ?_⟩
  clear hG0 hG tk po hr cc; try clear fr c_law_minus c_law_plus
  obtain ⟨ts, r, rfl, ht, hr, h⟩ := hp
  walk_at "go"
  refine r_eqNil ?_
  rcases List.eq_nil_or_concat ts with rfl | ⟨ts0, t, rfl⟩
  · walk_at "go"
    exact h r _ (hr.mono (by decide)) (.inl rfl)
  rw [List.concat_eq_append] at *
  have e0 : (ts0 ++ [t]).isEmpty = false := by simp
  rw [e0]
  walk_at "go"
  refine ⟨telD t, ?_, ?_⟩
  · rw [List.map_append]
    exact at_last
  have tk' := ht.ea t (by simp)
  have bs : ∀ q, (t.low = some q ∨ t.high = some q) → Sz 30 q := fun q e => by
    have b := tk'.bnd
    cases el : t.low <;> cases eh : t.high <;> rw [el, eh] at b <;> rw [el, eh] at e
    · exact b.elim
    · rcases e with e | e <;> cases e
      exact b
    · rcases e with e | e <;> cases e
      exact b
    · rcases e with e | e <;> cases e
      · exact b.2.1
      · exact b.2.2
  walk_at "go"
  refine r_lstM (xs := r.map pt) ?_
  walk_at "go"
  rw [isNon_eD]
  have ne := tk'.ne
  have r6 : (r.map pt).length = 6 := by rw [List.length_map]; exact hr.len
  have fin : ∀ (k : Nat) (u : Rat), 0 < k → k < 6 → Sz 60 u → R (.tup ((r.map pt).set k (pt u))) (S ++ [(r.map pt).set k (pt u)]) := fun k u k0 k6 hu => by
    have := h (r.set k u) (S ++ [(r.map pt).set k (pt u)]) (row_put (hr.mono (by decide)) k0 hu) (.inr ⟨_, rfl⟩)
    rw [set_pt] at this ⊢
    exact this
  cases eh : t.high with
  | none =>
    cases el : t.low with
    | none =>
      have b := tk'.bnd
      rw [el, eh] at b
      exact b.elim
    | some q =>
      have hq : Sz 30 q := bs q (.inl el)
      walk_at "go"
      walk_at "go"
      refine r_both ?_ ?_
      · intro z
        have z : t.other = 0 := by have := of_decide_eq_true z; omega
        have g0 := hr.get (show 0 < 6 by decide)
        walk_at "go"
        refine r_ixRow (k := 0) hr (by decide) ?_
        walk_at "go"
        refine i_rest (g0.2.mono (by decide)) (hq.mono (by decide)) ?_
        walk_at "go"
        refine ⟨_, _, _, _, rfl, rfl, sto_at, ix6 (by rw [r6]; exact tk'.one), ?_⟩
        rw [sto_set]
        walk_at "go"
        refine r_tupM sto_at ?_
        exact fin _ _ (by omega) tk'.one ((g0.2.sub hq).mono (by decide))
      · intro z
        have z : t.other ≠ 0 := by have := of_decide_eq_false z; omega
        have g0 := hr.get tk'.one
        walk_at "go"
        refine r_ixRow hr tk'.one ?_
        walk_at "go"
        refine i_sum (g0.2.mono (by decide)) (hq.mono (by decide)) ?_
        walk_at "go"
        refine ⟨_, _, _, _, rfl, rfl, sto_at, ix6 (by rw [r6]; exact tk'.other), ?_⟩
        rw [sto_set]
        walk_at "go"
        refine r_tupM sto_at ?_
        exact fin _ _ (by omega) tk'.other ((g0.2.add hq).mono (by decide))
  | some q =>
    have hq : Sz 30 q := bs q (.inr eh)
    walk_at "go"
    walk_at "go"
    refine r_both ?_ ?_
    · intro z
      have z : t.other = 0 := by have := of_decide_eq_true z; omega
      have g0 := hr.get (show 0 < 6 by decide)
      walk_at "go"
      refine r_ixRow (k := 0) hr (by decide) ?_
      walk_at "go"
      refine i_rest (g0.2.mono (by decide)) (hq.mono (by decide)) ?_
      walk_at "go"
      refine ⟨_, _, _, _, rfl, rfl, sto_at, ix6 (by rw [r6]; exact tk'.one), ?_⟩
      rw [sto_set]
      walk_at "go"
      refine r_tupM sto_at ?_
      exact fin _ _ (by omega) tk'.one ((g0.2.sub hq).mono (by decide))
    · intro z
      have z : t.other ≠ 0 := by have := of_decide_eq_false z; omega
      have g0 := hr.get tk'.one
      walk_at "go"
      refine r_ixRow hr tk'.one ?_
      walk_at "go"
      refine i_sum (g0.2.mono (by decide)) (hq.mono (by decide)) ?_
      walk_at "go"
      refine ⟨_, _, _, _, rfl, rfl, sto_at, ix6 (by rw [r6]; exact tk'.other), ?_⟩
      rw [sto_set]
      walk_at "go"
      refine r_tupM sto_at ?_
      exact fin _ _ (by omega) tk'.other ((g0.2.add hq).mono (by decide))
end
end DL

set_option maxHeartbeats 4000000
namespace DL
open PySem PySem.Spec PyProof.Rows L2

def p_law : SpD := fun ds S R _ => ∃ ns : List Int, ds = [.scr (ns.map D.int)] ∧ ns.length ≤ 63 ∧ ∀ S', R (.bl true) S'
theorem i_pen_of {S : Sto} {R : KR} {Rx : Er → Sto → Prop} {z : Int} (k : ∀ a b c : Int, R (.mu S.length) (S ++ [[.int a, .int b, .int c]])) : ([D.int z] ++ ([] : List D)).length = 1 ∧ p_law_pen_of ([D.int z] ++ []) S R Rx := ⟨rfl, z, rfl, k⟩
theorem i_cell_at {S : Sto} {R : KR} {Rx : Er → Sto → Prop} {ns : List Int} (k : ∀ z, R (.int z) S) : ([D.scr (ns.map D.int), D.int 0] ++ ([] : List D)).length = 2 ∧ p_law_cell_at ([D.scr (ns.map D.int), D.int 0] ++ []) S R Rx := ⟨rfl, ns, rfl, k⟩
theorem pen_new {S : Sto} {a b c : Int} {p : Nat} (h : S.length = p) : Pen (S ++ [[.int a, .int b, .int c]]) p := by
  refine ⟨a, b, c, ?_⟩
  rw [List.getElem?_append_right (by omega), h, Nat.sub_self]
  rfl
local macro_rules | `(tactic| walk_at "go1") => `(tactic| first
  | with_reducible refine r_seq ?_ | with_reducible refine r_asg ?_ | with_reducible refine r_ret ?_ | with_reducible refine r_ifS ?_ | with_reducible refine r_drop ?_ | with_reducible refine r_par ?_ | with_reducible refine r_next ?_ | with_reducible refine r_retN ?_
  | ((with_reducible refine' r_var ?hv ?_); (case hv => rfl)) | with_reducible refine r_c ?_ | with_reducible refine r_bin ?_ | with_reducible refine r_un ?_ | with_reducible refine r_as1 ?_ | with_reducible refine r_as0 ?_
  | with_reducible refine r_cb ?_ | with_reducible refine r_call ?_ | with_reducible refine r_B ?_ | with_reducible refine r_notT ?_ | with_reducible refine r_andT ?_ | with_reducible refine r_orT ?_
  | with_reducible refine r_andV ?_ | with_reducible refine r_orV ?_ | with_reducible refine r_notV ?_ | with_reducible refine r_if ?_ | with_reducible refine r_tup ?_ | with_reducible refine r_lst ?_ | with_reducible refine r_mu ?_
  | with_reducible refine r_cut ?_ | with_reducible refine r_p0 ?_ | with_reducible refine r_p1 ?_ | with_reducible refine r_gN ?_ | ((with_reducible refine r_gT ?hv ?_); (case hv => rfl)) | with_reducible refine r_gs1 ?_ | with_reducible refine r_gs0 ?_
  | ((with_reducible refine r_trueR ?hv ?_); (case hv => first | rfl | assumption)) | ((with_reducible refine r_falseR ?hv ?_); (case hv => first | rfl | assumption)) | with_reducible refine r_bl ?_ | with_reducible refine r_in ?_ | with_reducible refine r_two ?_
  | with_reducible refine r_addI ?_ | with_reducible refine r_subI ?_ | with_reducible refine r_mulI ?_ ?_ | with_reducible refine r_divI ?_ ?_ | with_reducible refine r_modI ?_ ?_ | with_reducible refine r_powI ?_ ?_ | with_reducible refine r_negI ?_
  | with_reducible refine r_lt ?_ | with_reducible refine r_le ?_ | with_reducible refine r_gt ?_ | with_reducible refine r_ge ?_ | with_reducible refine r_is ?_ | with_reducible refine r_isNot ?_ | with_reducible refine r_eqI ?_ | with_reducible refine r_neI ?_ | with_reducible refine r_eqS ?_ | with_reducible refine r_neS ?_
  | with_reducible refine r_ixP0 ?_ | with_reducible refine r_ixP1 ?_ | with_reducible refine r_ix0T ?_ | with_reducible refine r_ix1T ?_ | with_reducible refine r_lenT ?_ | with_reducible refine r_lenL ?_ | with_reducible refine r_lenC ?_
  | with_reducible refine r_abs ?_ | with_reducible refine r_max ?_ | with_reducible refine r_min ?_ | with_reducible refine r_intI ?_ | with_reducible refine r_intB ?_ | with_reducible refine r_tupL ?_ | with_reducible refine r_tupT ?_
  | with_reducible refine r_gcd ?_ | ((with_reducible refine r_isi ?hv ?_); (case hv => first | rfl | assumption)) | with_reducible refine r_sizeT ?_ | with_reducible refine r_sizeL ?_)
local macro_rules | `(tactic| walk_at "go") => `(tactic| repeat' walk_at "go1")
local macro_rules | `(tactic| walk_at "go1") => `(tactic| first
  | with_reducible refine r_lc ?_ | with_reducible refine r_wiT ?_ | with_reducible refine r_wiZ ?_ | with_reducible refine r_wiL ?_ | with_reducible refine r_wiR1 ?_ | with_reducible refine r_for ?_ | with_reducible refine r_yes ?_
  | with_reducible refine b_nm ?_ | with_reducible refine r_setD0 ?_ | with_reducible refine r_setD1 ?_ | ((with_reducible refine' r_setDT ?hv ?_); (case hv => rfl)) | with_reducible refine r_setsD ?_ | with_reducible refine r_setsCut ?_ | with_reducible refine b_tp2 ?_ | with_reducible refine r_trueL ?_ | with_reducible refine r_falseL ?_ )

local macro_rules | `(tactic| walk_at "go1") => `(tactic| first
  | with_reducible refine r_size0 ?_ | with_reducible refine r_size3 ?_ | with_reducible refine r_app ?_ | with_reducible refine r_setIx ?_ | ((with_reducible refine' r_sizeG ?hv ?_); (case hv => rfl)) | ((with_reducible refine' r_addG ?hv ?_); (case hv => rfl)) | ((with_reducible refine' r_addTG ?hv ?_); (case hv => rfl))
  | with_reducible refine r_bmL ?_ | with_reducible refine r_isL ?_ | with_reducible refine r_try ?_ | with_reducible refine r_emp ?_ | with_reducible refine r_raise ?_ | with_reducible refine r_chain ?_ | with_reducible refine r_mulGI ?_ ?_
  | with_reducible refine r_wiET ?_ | with_reducible refine r_telLen ?_ | with_reducible refine r_telsLen ?_ | with_reducible refine r_rowLen ?_ | ((with_reducible refine' r_telT ?hv ?_); (case hv => rfl)))

local macro_rules | `(tactic| walk_at "szs") => `(tactic| first
  | assumption
  | ((with_reducible apply Sz.add); walk_at "szs"; walk_at "szs")
  | ((with_reducible apply Sz.sub); walk_at "szs"; walk_at "szs")
  | ((with_reducible apply Sz.mul); walk_at "szs"; walk_at "szs")
  | ((with_reducible apply Sz.neg); walk_at "szs")
  | (apply Pz.sz; assumption) | exact sz0 | exact sz1 | exact sz24
  | ((with_reducible apply sz_abs); walk_at "szs"))
local macro_rules | `(tactic| walk_at "sz") => `(tactic| (apply Sz.mono; walk_at "szs"; exact Nat.le_of_ble_eq_true rfl))
local macro_rules | `(tactic| walk_at "pen") => `(tactic| first | assumption | (apply Stm.pen; assumption) | (apply stm_st; assumption) | (apply stm_st; apply Stm.pen; assumption))
local macro_rules | `(tactic| walk_at "stm") => `(tactic| first | assumption | exact Stm.of (by walk_at "pen") | (refine Stm.trans ?_ (by assumption); walk_at "stm") | (refine Stm.trans ?_ (Stm.new (by walk_at "pen")); walk_at "stm"))
local macro_rules | `(tactic| walk_at "side") => `(tactic| first | assumption | rfl | omega | decide | walk_at "sz" | walk_at "pen")
local macro_rules | `(tactic| walk_at "au") => `(tactic| repeat' walk_at "au1")
local macro_rules | `(tactic| walk_at "au1") => `(tactic| first
  | walk_at "go1"
  | (with_reducible refine i_next ?_; intro r _ _)
  | (with_reducible refine i_draw ?a ?b ?c ?_; (case a => walk_at "side"); (case b => walk_at "side"); (case c => walk_at "pen"); intro x S' _ _ _)
  | (with_reducible refine i_sum_of ?a ?b ?_; (case a => walk_at "sz"); (case b => walk_at "sz"))
  | (with_reducible refine i_difference_of ?a ?b ?_; (case a => walk_at "sz"); (case b => walk_at "sz"))
  | (with_reducible refine i_product_of ?a ?b ?_; (case a => walk_at "sz"); (case b => walk_at "sz"))
  | (with_reducible refine i_is_below ?a ?b ?_; (case a => walk_at "sz"); (case b => walk_at "sz"))
  | (with_reducible refine i_added ?a ?b ?_; (case a => walk_at "sz"); (case b => walk_at "sz"))
  | (with_reducible refine i_less ?a ?b ?_; (case a => walk_at "sz"); (case b => walk_at "sz"))
  | (with_reducible refine i_times ?a ?b ?_; (case a => walk_at "sz"); (case b => walk_at "sz"))
  | (with_reducible refine i_is_less ?a ?b ?_; (case a => walk_at "sz"); (case b => walk_at "sz"))
  | (with_reducible refine i_sum ?a ?b ?_; (case a => walk_at "sz"); (case b => walk_at "sz"))
  | (with_reducible refine i_rest ?a ?b ?_; (case a => walk_at "sz"); (case b => walk_at "sz"))
  | (with_reducible refine i_prod ?a ?b ?_; (case a => walk_at "sz"); (case b => walk_at "sz"))
  | (with_reducible refine i_under ?a ?b ?_; (case a => walk_at "sz"); (case b => walk_at "sz"))
  | with_reducible refine i_is_part_pt ?_
  | with_reducible refine r_intB ?_
  | (with_reducible refine r_rng1 ?a ?b ?_; (case a => decide); (case b => decide)) | with_reducible refine r_ix0L ?_ | with_reducible refine r_muE ?_ | with_reducible refine r_itL ?_ | with_reducible refine r_itT ?_
  | with_reducible refine r_par3 ?_ | with_reducible refine r_three ?_ | with_reducible refine r_gSub ?_ | with_reducible refine r_lstM ?_ | with_reducible refine r_lstT ?_ | with_reducible refine r_turn ?_ | with_reducible refine r_callK ?_
  | with_reducible refine i_opposite ?_
  | ((with_reducible refine' r_ixT ?hv ?_); (case hv => rfl))
  | ((with_reducible refine' r_ixL ?hv ?_); (case hv => rfl)) | fail)
local macro_rules | `(tactic| walk_at "au1") => `(tactic| first
  | (with_reducible refine r_modI ?a ?_; (case a => decide))
  | (with_reducible refine r_divI ?a ?_; (case a => exact ⟨by decide, by decide⟩))
  | (with_reducible refine r_powI ?a ?_; (case a => exact ⟨by decide, by decide, by decide⟩)) | fail)
local macro_rules | `(tactic| walk_at "br") => `(tactic| first
  | (with_reducible refine r_bothT ?_ ?_ <;> intro z)
  | (with_reducible refine r_bothF ?_ ?_ <;> intro z)
  | (with_reducible refine r_bothD ?_ ?_ <;> intro z)
  | (with_reducible refine r_bothN ?_ ?_ <;> intro z)
  | (with_reducible refine r_both ?_ ?_ <;> intro z) | fail)
local macro_rules | `(tactic| walk_at "ab") => `(tactic| repeat' first | walk_at "au1" | walk_at "br")

local macro_rules | `(tactic| walk_at "shd") => `(tactic| first
  | assumption | exact ShD.non | exact ShD.bl | exact ShD.lit (by decide) | exact ShD.str (by decide +kernel) (by decide +kernel)
  | (apply ShD.nat; omega)
  | (apply ShD.pt (by walk_at "szs"); exact (Nat.ble_eq_true_of_le (of_decide_eq_true rfl)))
  | (apply ShD.tup; walk_at "shds") | (apply ShD.lst; walk_at "shds"))
local macro_rules | `(tactic| walk_at "shds") => `(tactic| first
  | assumption | exact ShDs.nil | (apply ShDs.cons; walk_at "shd"; walk_at "shds"))

local macro_rules | `(tactic| walk_at "au1") => `(tactic| first
  | (with_reducible refine r_neSS rfl ?_)
  | ((with_reducible refine' r_reprD ?a ?b ?c ?_); (case a => walk_at "shd"); (case b => rfl); (case c => rfl)) | fail)

local macro_rules | `(tactic| walk_at "szs") => `(tactic| ((with_reducible apply Sz.div); walk_at "szs"; walk_at "szs"; assumption))
local macro_rules | `(tactic| walk_at "au1") => `(tactic| first
  | with_reducible refine r_eqPt ?_ | with_reducible refine r_nePt ?_ | with_reducible refine r_eqN ?_ | with_reducible refine r_neN ?_
  | (with_reducible refine n_difference_of1 ?a ?_; (case a => walk_at "sz"))
  | (with_reducible refine n_rest1 ?a ?_; (case a => walk_at "sz"))
  | (with_reducible refine i_divided ?z ?a ?b ?_; (case z => assumption); (case a => walk_at "sz"); (case b => walk_at "sz"))
  | (with_reducible refine i_by ?z ?a ?b ?_; (case z => assumption); (case a => walk_at "sz"); (case b => walk_at "sz"))
  | (with_reducible refine i_between2 ?a ?b ?c ?_; (case a => walk_at "sz"); (case b => walk_at "sz"); (case c => walk_at "sz")) | fail)
local macro_rules | `(tactic| walk_at "pD") => `(tactic| first | rfl | assumption | (apply Pz.pD; assumption))
local macro_rules | `(tactic| walk_at "p2") => `(tactic| first | rfl | assumption | (apply Pz.p2; assumption))
local macro_rules | `(tactic| walk_at "pz") => `(tactic| first | assumption | (apply Pz.mono; (first | assumption | (apply Pz.pt; walk_at "szs")); exact Nat.le_of_ble_eq_true rfl))
local macro_rules | `(tactic| walk_at "au1") => `(tactic| first
  | (with_reducible refine i_part ?a ?b ?c ?_; (case a => walk_at "side"); (case b => walk_at "side"); (case c => walk_at "pen"); intro q S' _ _)
  | (with_reducible refine i_above ?a ?b ?c ?_; (case a => walk_at "side"); (case b => walk_at "side"); (case c => walk_at "pen"); intro q S' _ _ _)
  | (with_reducible refine i_odd ?c ?_; (case c => walk_at "pen"); intro d S' _ _)
  | ((with_reducible refine i_clk_c ?a ?b ?c); (case a => walk_at "pD"); all_goals first | (intro (z : _ = false)) | (intro n e _; subst e))
  | ((with_reducible refine i_lclk_c ?a ?b ?c); (case a => walk_at "pD"); all_goals first | (intro (z : _ = false)) | (intro n e _; subst e))
  | ((with_reducible refine i_part_c ?a ?b ?c); (case a => walk_at "p2"); all_goals first | (intro (z : _ = false)) | (intro q e; subst e))
  | ((with_reducible refine i_up_c ?a ?b ?c); (case a => walk_at "p2"); all_goals first | (intro (z : _ = false)) | (intro q e _; subst e))
  | ((with_reducible refine i_lpart_c ?a ?b ?c); (case a => walk_at "pz"); all_goals first | (intro (z : _ = false)) | (intro q e; subst e)) | fail)

local macro_rules | `(tactic| walk_at "telok") => `(tactic| first | assumption | (apply TelOk.mono; assumption; exact Nat.le_of_ble_eq_true rfl) | (apply TelsOk.mono; assumption; exact Nat.le_of_ble_eq_true rfl) | (apply RowOk.mono; assumption; exact Nat.le_of_ble_eq_true rfl))
local macro_rules | `(tactic| walk_at "au1") => `(tactic| first
  | with_reducible refine r_telsLen ?_ | with_reducible refine r_itTels ?_ | with_reducible refine r_itRow ?_ | with_reducible refine r_rowLen ?_ | with_reducible refine r_wiET ?_ | with_reducible refine r_itET ?_ | with_reducible refine r_itE ?_
  | (with_reducible refine i_check_tellings_ok ?a ?_; (case a => walk_at "telok"))
  | (with_reducible refine i_check_number_ok ?a ?_; (case a => walk_at "side"))
  | (with_reducible refine i_is_kept ?a ?b ?_; (case a => walk_at "telok"); (case b => walk_at "telok"))
  | (with_reducible refine i_first_not_kept ?a ?b ?_; (case a => walk_at "telok"); (case b => walk_at "telok")) | fail)

local macro_rules | `(tactic| walk_at "au1") => `(tactic| first
  | with_reducible refine b_tp4 ?_ | with_reducible refine r_revL ?_ | with_reducible refine r_break ?_ | with_reducible refine r_cont ?_ | fail)

local macro_rules | `(tactic| walk_at "au1") => `(tactic| first
  | (with_reducible refine i_some ?c ?_; (case c => walk_at "pen"); intro q S' _ _ _)
  | (with_reducible refine i_up ?c ?_; (case c => walk_at "pen"); intro q S' _ _ _ _)
  | (with_reducible refine i_row ?c ?_; (case c => walk_at "pen"); intro r S' _ _) | fail)

local macro_rules | `(tactic| walk_at "au1") => `(tactic| first
  | with_reducible refine r_eqB ?_ | with_reducible refine r_eqNil ?_ | fail)
local macro_rules | `(tactic| walk_at "gs1") => `(tactic| first
  | with_reducible refine r_asg ?_ | with_reducible refine r_ret ?_ | with_reducible refine r_ifS ?_ | with_reducible refine r_drop ?_ | with_reducible refine r_par ?_ | with_reducible refine r_next ?_ | with_reducible refine r_retN ?_
  | ((with_reducible refine' r_var ?hv ?_); (case hv => rfl)) | with_reducible refine r_c ?_ | with_reducible refine r_bin ?_ | with_reducible refine r_un ?_ | with_reducible refine r_as1 ?_ | with_reducible refine r_as0 ?_
  | with_reducible refine r_cb ?_ | with_reducible refine r_call ?_ | with_reducible refine r_B ?_ | with_reducible refine r_notT ?_ | with_reducible refine r_andT ?_ | with_reducible refine r_orT ?_
  | with_reducible refine r_andV ?_ | with_reducible refine r_orV ?_ | with_reducible refine r_notV ?_ | with_reducible refine r_if ?_ | with_reducible refine r_tup ?_ | with_reducible refine r_lst ?_ | with_reducible refine r_mu ?_
  | with_reducible refine r_cut ?_ | with_reducible refine r_p0 ?_ | with_reducible refine r_p1 ?_ | with_reducible refine r_gN ?_ | ((with_reducible refine r_gT ?hv ?_); (case hv => rfl)) | with_reducible refine r_gs1 ?_ | with_reducible refine r_gs0 ?_
  | ((with_reducible refine r_trueR ?hv ?_); (case hv => first | rfl | assumption)) | ((with_reducible refine r_falseR ?hv ?_); (case hv => first | rfl | assumption)) | with_reducible refine r_bl ?_ | with_reducible refine r_in ?_ | with_reducible refine r_two ?_
  | with_reducible refine r_addI ?_ | with_reducible refine r_subI ?_ | with_reducible refine r_mulI ?_ ?_ | with_reducible refine r_divI ?_ ?_ | with_reducible refine r_modI ?_ ?_ | with_reducible refine r_powI ?_ ?_ | with_reducible refine r_negI ?_
  | with_reducible refine r_lt ?_ | with_reducible refine r_le ?_ | with_reducible refine r_gt ?_ | with_reducible refine r_ge ?_ | with_reducible refine r_is ?_ | with_reducible refine r_isNot ?_ | with_reducible refine r_eqI ?_ | with_reducible refine r_neI ?_ | with_reducible refine r_eqS ?_ | with_reducible refine r_neS ?_
  | with_reducible refine r_ixP0 ?_ | with_reducible refine r_ixP1 ?_ | with_reducible refine r_ix0T ?_ | with_reducible refine r_ix1T ?_ | with_reducible refine r_lenT ?_ | with_reducible refine r_lenL ?_ | with_reducible refine r_lenC ?_
  | with_reducible refine r_abs ?_ | with_reducible refine r_max ?_ | with_reducible refine r_min ?_ | with_reducible refine r_intI ?_ | with_reducible refine r_intB ?_ | with_reducible refine r_tupL ?_ | with_reducible refine r_tupT ?_
  | with_reducible refine r_gcd ?_ | ((with_reducible refine r_isi ?hv ?_); (case hv => first | rfl | assumption)) | with_reducible refine r_sizeT ?_ | with_reducible refine r_sizeL ?_)
local macro_rules | `(tactic| walk_at "gs") => `(tactic| repeat' walk_at "gs1")
local macro_rules | `(tactic| walk_at "gs1") => `(tactic| first
  | with_reducible refine r_lc ?_ | with_reducible refine r_wiT ?_ | with_reducible refine r_wiZ ?_ | with_reducible refine r_wiL ?_ | with_reducible refine r_wiR1 ?_ | with_reducible refine r_for ?_ | with_reducible refine r_yes ?_
  | with_reducible refine b_nm ?_ | with_reducible refine r_setD0 ?_ | with_reducible refine r_setD1 ?_ | ((with_reducible refine' r_setDT ?hv ?_); (case hv => rfl)) | with_reducible refine r_setsD ?_ | with_reducible refine r_setsCut ?_ | with_reducible refine b_tp2 ?_ | with_reducible refine r_trueL ?_ | with_reducible refine r_falseL ?_ )

local macro_rules | `(tactic| walk_at "gs1") => `(tactic| first
  | with_reducible refine r_size0 ?_ | with_reducible refine r_size3 ?_ | with_reducible refine r_app ?_ | with_reducible refine r_setIx ?_ | ((with_reducible refine' r_sizeG ?hv ?_); (case hv => rfl)) | ((with_reducible refine' r_addG ?hv ?_); (case hv => rfl)) | ((with_reducible refine' r_addTG ?hv ?_); (case hv => rfl))
  | with_reducible refine r_bmL ?_ | with_reducible refine r_isL ?_ | with_reducible refine r_try ?_ | with_reducible refine r_emp ?_ | with_reducible refine r_raise ?_ | with_reducible refine r_chain ?_ | with_reducible refine r_mulGI ?_ ?_
  | with_reducible refine r_wiET ?_ | with_reducible refine r_telLen ?_ | with_reducible refine r_telsLen ?_ | with_reducible refine r_rowLen ?_ | ((with_reducible refine' r_telT ?hv ?_); (case hv => rfl)))

local macro_rules | `(tactic| walk_at "as") => `(tactic| repeat' walk_at "as1")
local macro_rules | `(tactic| walk_at "as1") => `(tactic| first
  | walk_at "gs1"
  | (with_reducible refine i_next ?_; intro r _ _)
  | (with_reducible refine i_draw ?a ?b ?c ?_; (case a => walk_at "side"); (case b => walk_at "side"); (case c => walk_at "pen"); intro x S' _ _ _)
  | (with_reducible refine i_sum_of ?a ?b ?_; (case a => walk_at "sz"); (case b => walk_at "sz"))
  | (with_reducible refine i_difference_of ?a ?b ?_; (case a => walk_at "sz"); (case b => walk_at "sz"))
  | (with_reducible refine i_product_of ?a ?b ?_; (case a => walk_at "sz"); (case b => walk_at "sz"))
  | (with_reducible refine i_is_below ?a ?b ?_; (case a => walk_at "sz"); (case b => walk_at "sz"))
  | (with_reducible refine i_added ?a ?b ?_; (case a => walk_at "sz"); (case b => walk_at "sz"))
  | (with_reducible refine i_less ?a ?b ?_; (case a => walk_at "sz"); (case b => walk_at "sz"))
  | (with_reducible refine i_times ?a ?b ?_; (case a => walk_at "sz"); (case b => walk_at "sz"))
  | (with_reducible refine i_is_less ?a ?b ?_; (case a => walk_at "sz"); (case b => walk_at "sz"))
  | (with_reducible refine i_sum ?a ?b ?_; (case a => walk_at "sz"); (case b => walk_at "sz"))
  | (with_reducible refine i_rest ?a ?b ?_; (case a => walk_at "sz"); (case b => walk_at "sz"))
  | (with_reducible refine i_prod ?a ?b ?_; (case a => walk_at "sz"); (case b => walk_at "sz"))
  | (with_reducible refine i_under ?a ?b ?_; (case a => walk_at "sz"); (case b => walk_at "sz"))
  | with_reducible refine i_is_part_pt ?_
  | with_reducible refine r_intB ?_
  | (with_reducible refine r_rng1 ?a ?b ?_; (case a => decide); (case b => decide)) | with_reducible refine r_ix0L ?_ | with_reducible refine r_muE ?_ | with_reducible refine r_itL ?_ | with_reducible refine r_itT ?_
  | with_reducible refine r_par3 ?_ | with_reducible refine r_three ?_ | with_reducible refine r_gSub ?_ | with_reducible refine r_lstM ?_ | with_reducible refine r_lstT ?_ | with_reducible refine r_turn ?_ | with_reducible refine r_callK ?_
  | with_reducible refine i_opposite ?_
  | ((with_reducible refine' r_ixT ?hv ?_); (case hv => rfl))
  | ((with_reducible refine' r_ixL ?hv ?_); (case hv => rfl)) | fail)
local macro_rules | `(tactic| walk_at "as1") => `(tactic| first
  | (with_reducible refine r_modI ?a ?_; (case a => decide))
  | (with_reducible refine r_divI ?a ?_; (case a => exact ⟨by decide, by decide⟩))
  | (with_reducible refine r_powI ?a ?_; (case a => exact ⟨by decide, by decide, by decide⟩)) | fail)
local macro_rules | `(tactic| walk_at "as1") => `(tactic| first
  | (with_reducible refine r_neSS rfl ?_)
  | ((with_reducible refine' r_reprD ?a ?b ?c ?_); (case a => walk_at "shd"); (case b => rfl); (case c => rfl)) | fail)

local macro_rules | `(tactic| walk_at "as1") => `(tactic| first
  | with_reducible refine r_eqPt ?_ | with_reducible refine r_nePt ?_ | with_reducible refine r_eqN ?_ | with_reducible refine r_neN ?_
  | (with_reducible refine n_difference_of1 ?a ?_; (case a => walk_at "sz"))
  | (with_reducible refine n_rest1 ?a ?_; (case a => walk_at "sz"))
  | (with_reducible refine i_divided ?z ?a ?b ?_; (case z => assumption); (case a => walk_at "sz"); (case b => walk_at "sz"))
  | (with_reducible refine i_by ?z ?a ?b ?_; (case z => assumption); (case a => walk_at "sz"); (case b => walk_at "sz"))
  | (with_reducible refine i_between2 ?a ?b ?c ?_; (case a => walk_at "sz"); (case b => walk_at "sz"); (case c => walk_at "sz")) | fail)
local macro_rules | `(tactic| walk_at "as1") => `(tactic| first
  | (with_reducible refine i_part ?a ?b ?c ?_; (case a => walk_at "side"); (case b => walk_at "side"); (case c => walk_at "pen"); intro q S' _ _)
  | (with_reducible refine i_above ?a ?b ?c ?_; (case a => walk_at "side"); (case b => walk_at "side"); (case c => walk_at "pen"); intro q S' _ _ _)
  | (with_reducible refine i_odd ?c ?_; (case c => walk_at "pen"); intro d S' _ _)
  | ((with_reducible refine i_clk_c ?a ?b ?c); (case a => walk_at "pD"); all_goals first | (intro (z : _ = false)) | (intro n e _; subst e))
  | ((with_reducible refine i_lclk_c ?a ?b ?c); (case a => walk_at "pD"); all_goals first | (intro (z : _ = false)) | (intro n e _; subst e))
  | ((with_reducible refine i_part_c ?a ?b ?c); (case a => walk_at "p2"); all_goals first | (intro (z : _ = false)) | (intro q e; subst e))
  | ((with_reducible refine i_up_c ?a ?b ?c); (case a => walk_at "p2"); all_goals first | (intro (z : _ = false)) | (intro q e _; subst e))
  | ((with_reducible refine i_lpart_c ?a ?b ?c); (case a => walk_at "pz"); all_goals first | (intro (z : _ = false)) | (intro q e; subst e)) | fail)

local macro_rules | `(tactic| walk_at "as1") => `(tactic| first
  | with_reducible refine r_telsLen ?_ | with_reducible refine r_itTels ?_ | with_reducible refine r_itRow ?_ | with_reducible refine r_rowLen ?_ | with_reducible refine r_wiET ?_ | with_reducible refine r_itET ?_ | with_reducible refine r_itE ?_
  | (with_reducible refine i_check_tellings_ok ?a ?_; (case a => walk_at "telok"))
  | (with_reducible refine i_check_number_ok ?a ?_; (case a => walk_at "side"))
  | (with_reducible refine i_is_kept ?a ?b ?_; (case a => walk_at "telok"); (case b => walk_at "telok"))
  | (with_reducible refine i_first_not_kept ?a ?b ?_; (case a => walk_at "telok"); (case b => walk_at "telok")) | fail)

local macro_rules | `(tactic| walk_at "as1") => `(tactic| first
  | with_reducible refine b_tp4 ?_ | with_reducible refine r_revL ?_ | with_reducible refine r_break ?_ | with_reducible refine r_cont ?_ | fail)

local macro_rules | `(tactic| walk_at "as1") => `(tactic| first
  | (with_reducible refine i_some ?c ?_; (case c => walk_at "pen"); intro q S' _ _ _)
  | (with_reducible refine i_up ?c ?_; (case c => walk_at "pen"); intro q S' _ _ _ _)
  | (with_reducible refine i_row ?c ?_; (case c => walk_at "pen"); intro r S' _ _) | fail)

local macro_rules | `(tactic| walk_at "as1") => `(tactic| first
  | with_reducible refine r_eqB ?_ | with_reducible refine r_eqNil ?_ | fail)
section
variable {P : Program} {w : World} {K : PySem.W.Frag} {mg : Str → Option Value} {base : Heap} {T : List (Addr × Str)}

abbrev N_law : List Str := ["_law_script", "_law_cell", "_law_pen", "_law_talks", "_law_line_up", "_law_rows", "_law_some", "_law_told", "_law_due_here", "_law_odd_here", "_law_bads", "_law_bad", "_law_clock"]
theorem sc_law : FnScope N_law ["_law_script"] (defScope s_law) := ⟨rfl, rfl, rfl, by decide +kernel, rfl, by decide +kernel, by decide +kernel⟩
theorem ok_law {fd : FuncData} (F : FunD K "law" "law" (defArgs s_law) (defBody s_law) (defScope s_law) [] [] (He.ga K "law") fd) (fr : Fr mg) (c_law_pen_of : Cal false P w K mg base T "_law_pen_of" 1 1 [] p_law_pen_of) (c_law_tellings : Cal false P w K mg base T "_law_tellings" 6 2 [] p_lawB_tellings) (c_law_odd : Cal false P w K mg base T "_law_odd" 3 1 [] p_law_odd) (c_law_cell_at : Cal false P w K mg base T "_law_cell_at" 1 2 [] p_law_cell_at) (c_law_edge : Cal false P w K mg base T "_law_edge" 3 2 [] p_law_edge) (c_law_due : Cal false P w K mg base T "_law_due" 3 2 [] p_lawB_due) (c_law_is_row : Cal false P w K mg base T "_law_is_row" 3 1 [] p_law_is_row) (c_law_part : Cal false P w K mg base T "_law_part" 3 2 [] p_law_part) (c_kept_by : Cal false P w K mg base T "kept_by" 7 2 [] (p_kept_by K)) (ck_kept_by_row_tellings : CalK false P w K mg base T "kept_by" 7 2 ["row", "tellings"] [1, 0] (p_kept_by K)) (t_law_said : ∀ k, 2 ≤ k + 1 → TryD P w K mg base "_law_said" k (TTry K T (He.ga K "ClockError") (pfE K known) tellV)) (lam : LamF K base mg T "law") (e_NoRow : ErI K "NoRow") (e_NoTellings : ErI K "NoTellings") : FnD true P w K mg base T 10 (He.ga K "law") fd ["_law_script"] p_law := by
  refine fn_okD F sc_law fun cdv A outer s H E hr hG0 cc => ?_
  have hG : GdOk true (cxOf (L2.CX P w) P w K mg base N_law "law" (defScope s_law) (He.ga K "law") cdv A outer s H E).A := hG0
  have tk : Takes (cxOf (L2.CX P w) P w K mg base N_law "law" (defScope s_law) (He.ga K "law") cdv A outer s H E) (fun cls d _ H' => E cls d H') := takes_of rfl rfl rfl rfl
  have po : PassesOwn (model P w) (cxOf (L2.CX P w) P w K mg base N_law "law" (defScope s_law) (He.ga K "law") cdv A outer s H E).A (cxOf (L2.CX P w) P w K mg base N_law "law" (defScope s_law) (He.ga K "law") cdv A outer s H E).env (cxOf (L2.CX P w) P w K mg base N_law "law" (defScope s_law) (He.ga K "law") cdv A outer s H E).xe := passes_of rfl
  refine ⟨_, (psd_cons (psd_for po rfl (pid_list (pd_bin opD_add (pd_lst (pad_cons (pd_own (c_law_cell_at.up (by decide)) hr (hG.le (by decide)) rfl tk (pad_cons (pd_var 0) (pad_cons pd_int pad_nil))) pad_nil)) (pd_cut (pd_var 0) (pod_some pd_int) (pod_some pd_int)))) (pgd_name 1 sc_law.nd rfl (Or.inl rfl)) (psd_cons (psd_set 2 sc_law.nd rfl (Or.inr rfl) (pd_own (c_law_pen_of.up (by decide)) hr (hG.le (by decide)) rfl tk (pad_cons (pd_var 1) pad_nil))) (psd_cons (psd_set 3 sc_law.nd rfl (Or.inr rfl) (pd_own (c_law_tellings.up (by decide)) hr (hG.le (by decide)) rfl tk (pad_cons (pd_var 2) (pad_cons pd_int pad_nil)))) (psd_cons (psd_set 4 sc_law.nd rfl (Or.inl rfl) (pd_bin opD_add (pd_tup (pad_cons (pd_tup (pad_cons pd_int (pad_cons pd_int pad_nil))) pad_nil)) (pd_callTy cD_tup rfl fr.tuple_ (by decide +kernel) (pad_cons (pd_lc (own := [("_law_clock", 12)]) (b := (.nm 12)) rfl sc_law.nd (pid_range1 rfl fr.range_ (pad_cons pd_int pad_nil)) (blkOk_by (own := [("_law_clock", 12)]) (N := N_law) (sc := defScope s_law) (by decide +kernel)) (by intro i hi; simp [Bd.all] at hi ⊢; omega) (fun _ _ _ _ _ => pg_name (i := 12) sc_law.nd rfl (Or.inl rfl)) (fun _ _ _ _ _ => ptsd_nil) (fun _ _ _ _ _ => (pd_own (c_law_part.up (by decide)) hr (hG.le (by decide)) rfl L2.takes0 (pad_cons (pd_var 2) (pad_cons pd_int pad_nil))))) pad_nil)))) (psd_cons (psd_set 5 sc_law.nd rfl (Or.inl rfl) (pd_lst (pad_cons (pd_var 4) (pad_cons (pd_bin opD_mulG (pd_tup (pad_cons (pd_tup (pad_cons pd_int (pad_cons pd_int pad_nil))) pad_nil)) pd_int) (pad_cons (pd_own (c_law_edge.up (by decide)) hr (hG.le (by decide)) rfl tk (pad_cons (pd_var 3) (pad_cons (pd_var 4) pad_nil))) (pad_cons (pd_own (c_law_edge.up (by decide)) hr (hG.le (by decide)) rfl tk (pad_cons (pd_cut (pd_var 3) pod_none (pod_some pd_int)) (pad_cons (pd_var 4) pad_nil))) pad_nil)))))) (psd_cons (psd_for po rfl (pid_list (pd_var 5)) (pgd_name 6 sc_law.nd rfl (Or.inl rfl)) (psd_one (psd_for po rfl (pid_list (pd_lst (pad_cons (pd_var 3) (pad_cons (pd_turn (pd_var 3)) (pad_cons (pd_cut (pd_var 3) pod_none (pod_some pd_int)) pad_nil))))) (pgd_name 7 sc_law.nd rfl (Or.inl rfl)) (psd_cons (psd_set 8 sc_law.nd rfl (Or.inl rfl) (pd_own (c_law_due.up (by decide)) hr (hG.le (by decide)) rfl tk (pad_cons (pd_var 7) (pad_cons (pd_var 6) pad_nil)))) (psd_one (psd_if (ptd_cmp (opD_ne hr.units) (nobehind _ (by decide) (by decide)) (pd_callB (cD_repr (hG rfl) hr.units) rfl fr.repr_ (by decide +kernel) (pad_cons (pd_lst (pad_cons (pd_own (c_kept_by.up (by decide)) hr (hG.le (by decide)) rfl tk (pad_cons (pd_var 7) (pad_cons (pd_var 6) pad_nil))) (pad_cons (pd_ownK (ck_kept_by_row_tellings.up (by decide)) hr (hG.le (by decide)) rfl tk (pkd_cons (pd_var 6) (pkd_cons (pd_var 7) pkd_nil))) pad_nil))) pad_nil)) (pd_callB (cD_repr (hG rfl) hr.units) rfl fr.repr_ (by decide +kernel) (pad_cons (pd_lst (pad_cons (pd_var 8) (pad_cons (pd_var 8) pad_nil))) pad_nil))) (psd_one (psd_ret pd_bl)) psd_nil)))))) (psd_cons (psd_set 9 sc_law.nd rfl (Or.inl rfl) (pd_own (c_law_odd.up (by decide)) hr (hG.le (by decide)) rfl tk (pad_cons (pd_var 2) pad_nil))) (psd_cons (psd_set 10 sc_law.nd rfl (Or.inl rfl) (pd_lst (pad_cons pd_non (pad_cons (pd_cut (pd_var 4) pod_none (pod_some pd_int)) (pad_cons (pd_bin opD_add (pd_var 4) (pd_tup (pad_cons (pd_tup (pad_cons pd_int (pad_cons pd_int pad_nil))) pad_nil))) (pad_cons (pd_bin opD_add (pd_tup (pad_cons (pd_tup (pad_cons pd_int (pad_cons pd_int pad_nil))) pad_nil)) (pd_cut (pd_var 4) (pod_some pd_int) pod_none)) (pad_cons (pd_bin opD_add (pd_cut (pd_var 4) pod_none (pod_some pd_int)) (pd_tup (pad_cons pd_int pad_nil))) (pad_cons (pd_callTy cD_lst rfl fr.list_ (by decide +kernel) (pad_cons (pd_var 4) pad_nil)) pad_nil)))))))) (psd_cons (psd_for po rfl (pid_list (pd_bin opD_add (pd_var 10) (pd_lst (pad_cons (pd_bin opD_add (pd_cut (pd_var 4) pod_none (pod_some pd_int)) (pd_tup (pad_cons (pd_var 9) pad_nil))) (pad_cons (pd_var 9) pad_nil))))) (pgd_name 11 sc_law.nd rfl (Or.inr rfl)) (psd_one (psd_if (ptd_cmp (opD_eq hr.units) (nobehind _ (by decide) (by decide)) (pd_cmp (opD_eq hr.units) (nobehind _ (by decide) (by decide)) (pd_try (k := 7) (CS := He.ga K "ClockError") (t_law_said 7 (by decide)) wraps_V flE_ok rfl (lam _ cc) rfl (hr.mono (by decide)) (hr.mono (by decide)) (LamX.lamS_by (sc := defScope s_law) (by decide +kernel)) (fun A2 o2 s2 H2 E2 f2 c2 hr2 => (pd_own (c_kept_by.up (by decide)) hr2 (fun h => nomatch h) rfl (takes_of rfl rfl rfl rfl) (pad_cons (pd_var 3) (pad_cons (pd_var 11) pad_nil))))) (pd_tup (pad_cons pd_str pad_nil))) (pd_own (c_law_is_row.up (by decide)) hr (hG.le (by decide)) rfl tk (pad_cons (pd_var 11) pad_nil))) (psd_one (psd_ret pd_bl)) psd_nil))) (psd_one (psd_for po rfl (pid_list (pd_lst (pad_cons pd_non (pad_cons (pd_callTy cD_lst rfl fr.list_ (by decide +kernel) (pad_cons (pd_var 3) pad_nil)) (pad_cons (pd_tup (pad_cons (pd_tup (pad_cons pd_int (pad_cons pd_int (pad_cons (pd_tup (pad_cons pd_int (pad_cons pd_int pad_nil))) (pad_cons (pd_tup (pad_cons pd_int (pad_cons pd_int pad_nil))) pad_nil))))) pad_nil)) (pad_cons (pd_tup (pad_cons (pd_tup (pad_cons pd_int (pad_cons pd_int (pad_cons pd_non (pad_cons (pd_tup (pad_cons pd_int (pad_cons pd_int pad_nil))) pad_nil))))) pad_nil)) (pad_cons (pd_tup (pad_cons (pd_tup (pad_cons pd_int (pad_cons pd_int (pad_cons pd_non (pad_cons (pd_tup (pad_cons pd_int (pad_cons pd_int pad_nil))) pad_nil))))) pad_nil)) pad_nil))))))) (pgd_name 11 sc_law.nd rfl (Or.inr rfl)) (psd_one (psd_if (ptd_cmp (opD_ne hr.units) (nobehind _ (by decide) (by decide)) (pd_try (k := 7) (CS := He.ga K "ClockError") (t_law_said 7 (by decide)) wraps_V flE_ok rfl (lam _ cc) rfl (hr.mono (by decide)) (hr.mono (by decide)) (LamX.lamS_by (sc := defScope s_law) (by decide +kernel)) (fun A2 o2 s2 H2 E2 f2 c2 hr2 => (pd_own (c_kept_by.up (by decide)) hr2 (fun h => nomatch h) rfl (takes_of rfl rfl rfl rfl) (pad_cons (pd_var 11) (pad_cons pd_non pad_nil))))) (pd_tup (pad_cons pd_str pad_nil))) (psd_one (psd_ret pd_bl)) psd_nil))))))))))))) (psd_one (psd_ret pd_bl))), fun ds S R Rx hl hp => ?_⟩
  clear hG0 hG tk po hr cc; try clear fr c_law_pen_of c_law_tellings c_law_odd c_law_cell_at c_law_edge c_law_due c_law_is_row c_law_part c_kept_by ck_kept_by_row_tellings t_law_said lam
  obtain ⟨ns, rfl, hns, h⟩ := hp
  walk_at "go"
  refine i_cell_at fun z => ?_
  walk_at "go"
  refine ⟨_, rfl, ?_⟩
  refine r_addL ?_ ?_
  · have := cut_len (xs := ns.map D.int) (lo := some 1) (hi := some 4)
    rw [List.length_map] at this
    exact size100 (by simp only [List.length_cons, List.length_nil]; omega)
  refine ⟨_, rfl, ?_⟩
  refine loop_by (fun k env S1 => ∃ x1 x2 x3 x4 x5 x6 x7 x8 x9 x10 x11 x12, env = [some (.scr (ns.map D.int)), x1, x2, x3, x4, x5, x6, x7, x8, x9, x10, x11, x12]) ⟨_, _, _, _, _, _, _, _, _, _, _, _, rfl⟩ ?_ ?_
  rotate_left
  · intro env S1 hI
    obtain ⟨x1, x2, x3, x4, x5, x6, x7, x8, x9, x10, x11, x12, rfl⟩ := hI
    refine ⟨rfl, ?_⟩
    walk_at "go"
    exact h _
  · intro k d env S1 N hd ⟨x1, x2, x3, x4, x5, x6, x7, x8, x9, x10, x11, x12, henv⟩ hNx
    subst henv
    obtain ⟨c, rfl⟩ : ∃ c : Int, d = .int c := by
      rcases List.mem_append.mp (List.mem_of_getElem? hd) with hm | hm
      · exact ⟨z, List.mem_singleton.mp hm⟩
      · obtain ⟨c, _, e⟩ := List.mem_map.mp (cut_mem hm)
        exact ⟨c, e.symm⟩
    refine ⟨rfl, ?_⟩
    walk_at "go"
    refine i_pen_of fun pa pb pc => ?_
    generalize hp0 : S1.length = p
    have pen0 := pen_new (S := S1) (a := pa) (b := pb) (c := pc) hp0
    walk_at "go"

    refine i_tellingsB pen0 (by decide) (by decide) fun ts S2 htsB _ s2 => ?_
    have hts := htsB.ok
    walk_at "go"
    refine ⟨5, rfl, by decide, by decide, ?_⟩
    refine comp_by (fun k acc S3 => Pen S3 p ∧ ∃ rs : List Rat, acc = rs.map pt ∧ rs.length = k ∧ ∀ q ∈ rs, Sz 20 q) ⟨s2.pen, [], rfl, rfl, fun q h => (by cases h)⟩ ?_ ?_
    · intro k4 d4 acc S3 N4 hd4 ⟨pen3, rs, hacc, hlen, hrs⟩ hN4
      subst hacc
      obtain ⟨rfl, hk⟩ := ints_at hd4
      have hk : k4 < 5 := hk
      refine ⟨trivial, ?_⟩
      walk_at "go"
      refine i_part (by decide) (by decide) pen3 fun q S4 hq s4 => ?_
      refine ⟨?_, hN4 _ _ ⟨s4.pen, rs ++ [q], by rw [List.map_append]; rfl, by rw [List.length_append, hlen]; rfl, fun x hx => ?_⟩⟩
      · rw [List.length_map, hlen]
        exact Nat.lt_of_lt_of_le (show k4 < 100 by omega) (by decide)
      · rcases List.mem_append.mp hx with hx | hx
        · exact hrs x hx
        · rw [List.mem_singleton.mp hx]
          exact hq
    intro acc S3 ⟨pen3, rs, hacc, hlen, hrs⟩
    subst hacc
    have hlen : rs.length = 5 := hlen
    refine ⟨trivial, ?_⟩
    walk_at "go"
    refine r_addT ?_ ?_
    · rw [List.length_map, hlen]
      exact size100 (by decide)
    have e0 : D.tup ([D.tup [.int 0, .int 1]] ++ rs.map pt) = rowD (0 :: rs) := rfl
    rw [e0]
    have hr : RowOk 20 (0 :: rs) := ⟨by rw [List.length_cons, hlen], rfl, fun q hq => by
      rcases List.mem_cons.mp hq with rfl | hq
      · exact ⟨by decide, by decide⟩
      · exact hrs q hq⟩
    generalize (0 :: rs : List Rat) = r at hr
    clear e0 hrs hlen
    have l6 : (r.map pt).length = 6 := by rw [List.length_map, hr.len]
    have hz6 : RowOk 60 (List.replicate 6 (0 : Rat)) := ⟨by simp, rfl, fun q hq => by rw [List.eq_of_mem_replicate hq]; exact ⟨by decide, by decide⟩⟩
    walk_at "go"
    refine r_mulGT (xs := [.tup [.int 0, .int 1]]) (by simp) (by decide) (by decide) (by decide) ?_
    walk_at "go"
    refine i_edge hts hr fun e1 S4 he1 hS4 => ?_
    have pen4 : Pen S4 p := by
      rcases hS4 with rfl | ⟨_, rfl⟩
      · exact pen3
      · exact stm_st pen3
    walk_at "go"
    refine r_cutT (xs := ts.map telD) ?_
    have c1 : cutD (ts.map telD) none (some 1) = (ts.take 1).map telD := by
      have := cut_to (xs := ts.map telD) (k := 1)
      rw [List.map_take]
      exact this
    have c3 : cutD (ts.map telD) none (some 3) = (ts.take 3).map telD := by
      have := cut_to (xs := ts.map telD) (k := 3)
      rw [List.map_take]
      exact this
    rw [c1]
    walk_at "go"
    refine i_edge hts.take hr fun e2 S5 he2 hS5 => ?_
    have pen5 : Pen S5 p := by
      rcases hS5 with rfl | ⟨_, rfl⟩
      · exact pen4
      · exact stm_st pen4
    walk_at "go"
    refine ⟨_, rfl, ?_⟩
    refine loop_by (fun k env S6 => Pen S6 p ∧ ∃ x5 x6 x7 x8 x9 x10 x11 x12 : Option D, env = [some (.scr (ns.map D.int)), some (.int c), some (.mu p), some (telsD ts), some (rowD r), x5, x6, x7, x8, x9, x10, x11, x12]) ⟨pen5, _, _, _, _, _, _, _, _, rfl⟩ ?_ ?_
    · intro k5 d5 env S6 N5 hd5 ⟨pen6, x5, x6, x7, x8, x9, x10, x11, x12, henv⟩ hN5
      subst henv
      have hq : ∃ u : List Rat, d5 = rowD u ∧ RowOk 60 u := by
        have hx := List.mem_of_getElem? hd5
        simp only [List.mem_cons, List.not_mem_nil, or_false] at hx
        rcases hx with rfl | rfl | rfl | rfl
        · exact ⟨_, rfl, hr.mono (by decide)⟩
        · exact ⟨List.replicate 6 0, rfl, hz6⟩
        · exact ⟨_, rfl, he1⟩
        · exact ⟨_, rfl, he2⟩
      obtain ⟨u, rfl, hu⟩ := hq
      refine ⟨rfl, ?_⟩
      walk_at "go"
      refine r_turn ?_
      walk_at "go"
      refine ⟨ts.map telD, rfl, ?_⟩
      rw [← List.map_reverse]
      walk_at "go"
      refine r_cutT (xs := ts.map telD) ?_
      rw [c3]
      walk_at "go"
      refine ⟨_, rfl, ?_⟩
      refine loop_by (fun k env S7 => Pen S7 p ∧ ∃ x7 x8 x9 x10 x11 x12 : Option D, env = [some (.scr (ns.map D.int)), some (.int c), some (.mu p), some (telsD ts), some (rowD r), x5, some (rowD u), x7, x8, x9, x10, x11, x12]) ⟨pen6, _, _, _, _, _, _, rfl⟩ ?_ ?_
      · intro k6 d6 env S7 N6 hd6 ⟨pen7, x7, x8, x9, x10, x11, x12, henv⟩ hN6
        subst henv
        have hq : ∃ us : List Tel, d6 = telsD us ∧ TelsOk 30 us := by
          have hx := List.mem_of_getElem? hd6
          simp only [List.mem_cons, List.not_mem_nil, or_false] at hx
          rcases hx with rfl | rfl | rfl
          · exact ⟨_, rfl, hts⟩
          · exact ⟨_, rfl, hts.rev⟩
          · exact ⟨_, rfl, hts.take⟩
        obtain ⟨us, rfl, hus⟩ := hq
        refine ⟨rfl, ?_⟩
        have ht := hus.mono (show 30 ≤ 1000 by decide)
        have hu4 := hu.mono (show 60 ≤ 400 by decide)
        walk_at "go"
        refine i_dueB ht hu4 fun xs => ?_
        walk_at "go"
        have small : ∀ n ∈ numsR u us, n < 2 ^ 20 := fun n hn => by have := nums_lt hn; have := hus.len; omega
        have few : (numsR u us).length ≤ 16 := Nat.le_trans nums_len hus.len
        have sn := sh_nums small few
        refine i_kept_by (ht.mono (by decide)) (hu4.mono (by decide)) ?_
        walk_at "go"
        refine r_callK ?_
        walk_at "go"
        refine k_kept_by (ht.mono (by decide)) (hu4.mono (by decide)) ?_
        walk_at "go"
        refine r_reprD (ShD.lst (ShDs.cons sn (ShDs.cons sn ShDs.nil))) rfl rfl ?_
        walk_at "go"
        refine r_reprD (ShD.lst (ShDs.cons sn (ShDs.cons sn ShDs.nil))) rfl rfl ?_
        walk_at "go"
        refine r_falseR (by rw [decide_eq_true rfl]; rfl) ?_
        walk_at "go"
        exact hN6 _ _ ⟨stm_st pen7, _, _, _, _, _, _, rfl⟩
      intro env S7 ⟨pen7, x7, x8, x9, x10, x11, x12, henv⟩
      subst henv
      refine ⟨rfl, ?_⟩
      walk_at "go"
      exact hN5 _ _ ⟨pen7, _, _, _, _, _, _, _, _, rfl⟩
    intro env S6 ⟨pen6, x5, x6, x7, x8, x9, x10, x11, x12, henv⟩
    subst henv
    refine ⟨rfl, ?_⟩
    walk_at "go"
    refine i_odd pen6 fun od S7 hod s7 => ?_
    have oq := odd_qz hod
    have op := odd_pz hod
    have e5 : cutD (r.map pt) none (some 5) = (r.map pt).take 5 := cut_to (k := 5)
    have f1 : cutD (r.map pt) (some 1) none = (r.map pt).drop 1 := cut_from (k := 1)
    have tE : ∀ {n : Nat} {x : D}, x ∈ (r.map pt).take n → Pz 30 x := fun h => (row_pz hr (List.mem_of_mem_take h)).mono (by decide)
    have dE : ∀ {n : Nat} {x : D}, x ∈ (r.map pt).drop n → Pz 30 x := fun h => (row_pz hr (List.mem_of_mem_drop h)).mono (by decide)
    walk_at "go"
    refine r_cutT (xs := r.map pt) ?_
    rw [e5]
    walk_at "go"
    refine r_addT (xs := r.map pt) ?_ ?_
    · rw [l6]
      exact size100 (by decide)
    walk_at "go"
    refine r_cutT (xs := r.map pt) ?_
    rw [f1]
    refine r_addT ?_ ?_
    · rw [List.length_drop, l6]
      exact size100 (by decide)
    walk_at "go"
    refine r_cutT (xs := r.map pt) ?_
    rw [e5]
    walk_at "go"
    refine r_addT ?_ ?_
    · rw [List.length_take, l6]
      exact size100 (by decide)
    walk_at "go"
    refine r_lstT (xs := r.map pt) ?_
    walk_at "go"
    refine r_cutT (xs := r.map pt) ?_
    rw [e5]
    walk_at "go"
    refine r_addT ?_ ?_
    · rw [List.length_take, l6]
      exact size100 (Nat.le_of_ble_eq_true rfl)
    walk_at "go"
    refine ⟨_, rfl, ?_⟩
    refine loop_by (fun k env S8 => Pen S8 p ∧ ∃ x6 x7 x8 x9 x10 x11 x12 : Option D, env = [some (.scr (ns.map D.int)), some (.int c), some (.mu p), some (telsD ts), some (rowD r), x5, x6, x7, x8, x9, x10, x11, x12]) ⟨s7.pen, _, _, _, _, _, _, _, rfl⟩ ?_ ?_
    · intro k5 d5 env S8 N5 hd5 ⟨pen8, x6, x7, x8, x9, x10, x11, x12, henv⟩ hN5
      subst henv
      have hq : Qz 30 d5 := by
        have hx := List.mem_of_getElem? hd5
        simp only [List.mem_append, List.mem_cons, List.not_mem_nil, or_false] at hx
        rcases hx with (rfl | rfl | rfl | rfl | rfl | rfl) | rfl | rfl
        · exact Qz.no rfl rfl
        · exact Qz.tup' (by rw [List.length_take, l6]; decide) fun y hy => tE hy
        · refine Qz.tup' (by rw [List.length_append, l6]; decide) fun y hy => ?_
          rcases List.mem_append.mp hy with hy | hy
          · exact (row_pz hr hy).mono (by decide)
          · rw [List.mem_singleton.mp hy]
            exact Pz.two (by decide) (by decide)
        · refine Qz.tup' (by rw [List.length_append, List.length_drop, l6]; decide) fun y hy => ?_
          rcases List.mem_append.mp hy with hy | hy
          · rw [List.mem_singleton.mp hy]
            exact Pz.two (by decide) (by decide)
          · exact dE hy
        · refine Qz.tup' (by rw [List.length_append, List.length_take, l6]; decide) fun y hy => ?_
          rcases List.mem_append.mp hy with hy | hy
          · exact tE hy
          · rw [List.mem_singleton.mp hy]
            exact Pz.no rfl rfl
        · exact Qz.no rfl rfl
        · refine Qz.tup' (by rw [List.length_append, List.length_take, l6]; exact Nat.le_of_ble_eq_true rfl) fun y hy => ?_
          rcases List.mem_append.mp hy with hy | hy
          · exact tE hy
          · rw [List.mem_singleton.mp hy]
            exact op.mono (by decide)
        · exact oq.mono (by decide)
      refine ⟨rfl, ?_⟩
      have ht := hts.mono (show 30 ≤ 1500 by decide)
      walk_at "go"
      cases z : isRow d5 with
      | false =>
        refine i_kept_by_r ht (hq.mono (by decide)) z (flE_at e_NoRow (by simp) ?_)
        walk_at "go"
        refine r_eqWord (by decide +kernel) (by decide +kernel) ?_
        walk_at "go"
        refine i_lis_row (hq.mono (by decide)) ?_
        rw [z]
        refine r_eqB ?_
        walk_at "go"
        exact hN5 _ _ ⟨pen8, _, _, _, _, _, _, _, rfl⟩
      | true =>
        obtain ⟨r', rfl, hr'⟩ := row_at hq z
        refine i_kept_by ht (hr'.mono (by decide)) ?_
        walk_at "go"
        refine r_eqNums (by decide +kernel) ?_
        walk_at "go"
        refine i_lis_row (hq.mono (by decide)) ?_
        rw [z]
        refine r_eqB ?_
        walk_at "go"
        exact hN5 _ _ ⟨pen8, _, _, _, _, _, _, _, rfl⟩
    intro env S8 ⟨pen8, x6, x7, x8, x9, x10, x11, x12, henv⟩
    subst henv
    refine ⟨rfl, ?_⟩
    walk_at "go"
    refine r_lstT (xs := ts.map telD) ?_
    walk_at "go"
    refine ⟨_, rfl, ?_⟩
    refine loop_by (fun k env S9 => ∃ x6 x7 x8 x9 x10 x11 x12 : Option D, env = [some (.scr (ns.map D.int)), some (.int c), some (.mu p), some (telsD ts), some (rowD r), x5, x6, x7, x8, x9, x10, x11, x12]) ⟨_, _, _, _, _, _, _, rfl⟩ ?_ ?_
    · intro k5 d5 env S9 N5 hd5 ⟨x6, x7, x8, x9, x10, x11, x12, henv⟩ hN5
      subst henv
      have hq : Tz 4000 d5 ∧ isTels d5 = false := by
        have hx := List.mem_of_getElem? hd5
        simp only [List.mem_cons, List.not_mem_nil, or_false] at hx
        rcases hx with rfl | rfl | rfl | rfl | rfl
        · exact ⟨Tz.no rfl rfl, rfl⟩
        · exact ⟨Tz.no rfl rfl, rfl⟩
        · exact ⟨Tz.tup (by decide) fun x hx => (by rw [List.mem_singleton.mp hx]; exact (qz_of (n := 5) (by decide)).mono (by decide)), by decide⟩
        · exact ⟨Tz.tup (by decide) fun x hx => (by rw [List.mem_singleton.mp hx]; exact (qz_of (n := 5) (by decide)).mono (by decide)), by decide⟩
        · exact ⟨Tz.tup (by decide) fun x hx => (by rw [List.mem_singleton.mp hx]; exact (qz_of (n := 5) (by decide)).mono (by decide)), by decide⟩
      refine ⟨rfl, ?_⟩
      walk_at "go"
      refine i_kept_by_t hq.1 hq.2 (flE_at e_NoTellings (by simp) ?_)
      walk_at "go"
      refine r_neWord (by decide +kernel) (by decide +kernel) ?_
      walk_at "go"
      exact hN5 _ _ ⟨_, _, _, _, _, _, _, rfl⟩
    intro env S9 ⟨x6, x7, x8, x9, x10, x11, x12, henv⟩
    subst henv
    refine ⟨rfl, ?_⟩
    walk_at "go"
    exact hNx _ _ ⟨_, _, _, _, _, _, _, _, _, _, _, _, rfl⟩
end
end DL

set_option Elab.async false
set_option linter.all false
set_option maxRecDepth 100000
set_option maxHeartbeats 4000000
set_option exponentiation.threshold 20000
set_option maxHeartbeats 0
namespace DL
open PySem PySem.Spec PyProof.Rows L2
theorem facts {P : Program} {w : World} {K : PySem.W.Frag} {h : Heap} {mg : Str → Option Value} {f : Addr} (X : K.In h) (G : h.Ns mainGlobals mg) (hfa : mg ("law" : Str) = some (.ref f)) (c : He.SaysX fas fns [] tfs exs w h K) :
    ∃ fd : FuncData, (∀ (s : Shared) (v : Value), BindsTo s fd ⟨[v], []⟩ [("_law_script", v)]) ∧ ∀ base : Heap, K.In base → base.Ns mainGlobals mg → (∀ q ∈ tfs.map (He.cT K), LamX.TabB base mg q.1 q.2) → FnD true P w K mg base (tabT K tfs) 10 f fd ["_law_script"] p_law := by
  have cd := c.t.d
  obtain ⟨fd0, F0⟩ := cd.def_ 0 (d := d_is_whole) rfl
  obtain ⟨fd1, F1⟩ := cd.def_ 1 (d := d_is_part) rfl
  obtain ⟨fd2, F2⟩ := cd.def_ 2 (d := d_difference_of) rfl
  obtain ⟨fd3, F3⟩ := cd.def_ 3 (d := d_is_below) rfl
  obtain ⟨fd4, F4⟩ := cd.def_ 4 (d := d_is_clock_number) rfl
  obtain ⟨fd5, F5⟩ := cd.def_ 5 (d := d_are_bounds) rfl
  obtain ⟨fd6, F6⟩ := cd.def_ 6 (d := d_is_telling) rfl
  obtain ⟨fd7, F7⟩ := cd.def_ 7 (d := d_are_tellings) rfl
  obtain ⟨fd8, F8⟩ := cd.def_ 8 (d := d_is_row) rfl
  obtain ⟨fd9, F9⟩ := cd.def_ 9 (d := d_check_tellings) rfl
  obtain ⟨fd10, F10⟩ := cd.def_ 10 (d := d_check_row) rfl
  obtain ⟨fd11, F11⟩ := cd.def_ 11 (d := d_is_between) rfl
  obtain ⟨fd12, F12⟩ := cd.def_ 12 (d := d_is_kept) rfl
  obtain ⟨fd13, F13⟩ := cd.def_ 13 (d := d_kept_by) rfl
  obtain ⟨fd14, F14⟩ := cd.def_ 14 (d := d_law_cell_at) rfl
  obtain ⟨fd15, F15⟩ := cd.def_ 15 (d := d_law_next) rfl
  obtain ⟨fd16, F16⟩ := cd.def_ 16 (d := d_law_pen_of) rfl
  obtain ⟨fd17, F17⟩ := cd.def_ 17 (d := d_law_draw) rfl
  obtain ⟨fd18, F18⟩ := cd.def_ 18 (d := d_law_made) rfl
  obtain ⟨fd19, F19⟩ := cd.def_ 19 (d := d_law_plus) rfl
  obtain ⟨fd20, F20⟩ := cd.def_ 20 (d := d_law_minus) rfl
  obtain ⟨fd21, F21⟩ := cd.def_ 21 (d := d_law_below) rfl
  obtain ⟨fd22, F22⟩ := cd.def_ 22 (d := d_law_whole) rfl
  obtain ⟨fd23, F23⟩ := cd.def_ 23 (d := d_law_is_part) rfl
  obtain ⟨fd24, F24⟩ := cd.def_ 24 (d := d_law_part) rfl
  obtain ⟨fd25, F25⟩ := cd.def_ 25 (d := d_law_above) rfl
  obtain ⟨fd26, F26⟩ := cd.def_ 26 (d := d_law_odd) rfl
  obtain ⟨fd27, F27⟩ := cd.def_ 27 (d := d_law_telling) rfl
  obtain ⟨fd28, F28⟩ := cd.def_ 28 (d := d_law_tellings) rfl
  obtain ⟨fd29, F29⟩ := cd.def_ 29 (d := d_law_flags) rfl
  obtain ⟨fd30, F30⟩ := cd.def_ 30 (d := d_law_said) rfl
  obtain ⟨fd31, F31⟩ := cd.def_ 31 (d := d_law_due) rfl
  obtain ⟨fd32, F32⟩ := cd.def_ 32 (d := d_law_edge) rfl
  obtain ⟨fd33, F33⟩ := cd.def_ 33 (d := d_law_is_row) rfl
  obtain ⟨fd34, F34⟩ := cd.def_ 34 (d := d_law) rfl
  have e := hfa.symm.trans (He.glo_ok X G (cd.fact 34 (f := .glo "law") rfl))
  cases e
  have b := FunD.bindsA (ps := ["_law_script"]) F34 fun _ _ _ _ _ _ us hl => match us, hl with | [_], _ => rfl
  refine ⟨fd34, fun s v => b s [v] rfl, fun base _ _ TB => ?_⟩
  have fr : Fr mg := ⟨He.free_ok X G (cd.fact 55 (f := .free "len") rfl), He.free_ok X G (cd.fact 56 (f := .free "isinstance") rfl), He.free_ok X G (cd.fact 57 (f := .free "tuple") rfl), He.free_ok X G (cd.fact 58 (f := .free "int") rfl), He.free_ok X G (cd.fact 59 (f := .free "bool") rfl), He.free_ok X G (cd.fact 60 (f := .free "abs") rfl), He.free_ok X G (cd.fact 61 (f := .free "max") rfl), He.free_ok X G (cd.fact 62 (f := .free "min") rfl), He.free_ok X G (cd.fact 63 (f := .free "range") rfl), He.free_ok X G (cd.fact 64 (f := .free "all") rfl), He.free_ok X G (cd.fact 65 (f := .free "any") rfl), He.free_ok X G (cd.fact 66 (f := .free "zip") rfl), He.free_ok X G (cd.fact 67 (f := .free "list") rfl), He.free_ok X G (cd.fact 68 (f := .free "repr") rfl), He.free_ok X G (cd.fact 69 (f := .free "enumerate") rfl), He.free_ok X G (cd.fact 70 (f := .free "str") rfl), He.free_ok X G (cd.fact 71 (f := .free "LookupError") rfl), He.free_ok X G (cd.fact 72 (f := .free "TypeError") rfl), He.free_ok X G (cd.fact 73 (f := .free "ArithmeticError") rfl), He.free_ok X G (cd.fact 74 (f := .free "RuntimeError") rfl), He.free_ok X G (cd.fact 75 (f := .free "ValueError") rfl), He.free_ok X G (cd.fact 76 (f := .free "sum") rfl), He.free_ok X G (cd.fact 77 (f := .free "sorted") rfl)⟩
  have k_CLOCKS : Con K mg "CLOCKS" v_CLOCKS := by
    obtain ⟨t, e⟩ := He.int_ok X G (cd.fact 78 (f := .int "CLOCKS" 6) rfl)
    exact ⟨_, .int 6, e, ⟨t, rfl⟩, fun _ _ => .int 6⟩
  have k_MOST_TELLINGS : Con K mg "MOST_TELLINGS" v_MOST_TELLINGS := by
    obtain ⟨t, e⟩ := He.int_ok X G (cd.fact 79 (f := .int "MOST_TELLINGS" 16) rfl)
    exact ⟨_, .int 16, e, ⟨t, rfl⟩, fun _ _ => .int 16⟩
  have k_NOUGHT : Con K mg "NOUGHT" v_NOUGHT := ⟨_, .ref (He.ga K "NOUGHT"), He.glo_ok X G (cd.fact 80 (f := .glo "NOUGHT") rfl), rfl, fun _ G2 => .tup (He.tupB_ok (x := "NOUGHT") (He.ba c.more).1 G2) (.cons (.int 0) (.cons (.int 1) .nil))⟩
  have m_gcd : mg "gcd" = some (.builtin "math.gcd") := PySem.W.mg_of X G (He.eqO_ok (He.ba (He.ba c.more).2).1)
  have o_NoPart := He.glo_ok X G (cd.fact 35 (f := .glo "NoPart") rfl)
  have o_NoNumber := He.glo_ok X G (cd.fact 36 (f := .glo "NoNumber") rfl)
  have o_NoMoment := He.glo_ok X G (cd.fact 37 (f := .glo "NoMoment") rfl)
  have o_NoClock := He.glo_ok X G (cd.fact 38 (f := .glo "NoClock") rfl)
  have o_NoHour := He.glo_ok X G (cd.fact 39 (f := .glo "NoHour") rfl)
  have o_NoTelling := He.glo_ok X G (cd.fact 40 (f := .glo "NoTelling") rfl)
  have o_NoTellings := He.glo_ok X G (cd.fact 41 (f := .glo "NoTellings") rfl)
  have o_NoRow := He.glo_ok X G (cd.fact 42 (f := .glo "NoRow") rfl)
  have o_Apart := He.glo_ok X G (cd.fact 43 (f := .glo "Apart") rfl)
  have o_Twice := He.glo_ok X G (cd.fact 44 (f := .glo "Twice") rfl)
  have o_Missing := He.glo_ok X G (cd.fact 45 (f := .glo "Missing") rfl)
  have o_NoDeed := He.glo_ok X G (cd.fact 46 (f := .glo "NoDeed") rfl)
  have o_NoAir := He.glo_ok X G (cd.fact 47 (f := .glo "NoAir") rfl)
  have o_NoSignal := He.glo_ok X G (cd.fact 48 (f := .glo "NoSignal") rfl)
  have o_NoQuarrel := He.glo_ok X G (cd.fact 49 (f := .glo "NoQuarrel") rfl)
  have o_NoCarriage := He.glo_ok X G (cd.fact 50 (f := .glo "NoCarriage") rfl)
  have o_NoLine := He.glo_ok X G (cd.fact 51 (f := .glo "NoLine") rfl)
  have o_TooMany := He.glo_ok X G (cd.fact 52 (f := .glo "TooMany") rfl)
  have o_NoText := He.glo_ok X G (cd.fact 53 (f := .glo "NoText") rfl)
  have o_ClockError := He.glo_ok X G (cd.fact 54 (f := .glo "ClockError") rfl)
  have x_NoTellings : Xc K mg "NoTellings" := xc_of X G (cd.fact 41 (f := .glo "NoTellings") rfl) (cd.fact 81 (f := .exc "NoTellings") rfl)
  have x_NoRow : Xc K mg "NoRow" := xc_of X G (cd.fact 42 (f := .glo "NoRow") rfl) (cd.fact 82 (f := .exc "NoRow") rfl)
  have e_NoRow : ErI K "NoRow" := errB_ok (He.ba (He.ba (He.ba c.more).2).2).1
  have e_NoTellings : ErI K "NoTellings" := errB_ok (He.ba (He.ba (He.ba (He.ba c.more).2).2).2).1
  have lam_law : LamF K base mg (tabT K tfs) "law" := lamF_of (He.ba (He.ba (He.ba (He.ba c.more).2).2).2).2 (by decide) TB
  have f_is_whole : FnD false P w K mg base (tabT K tfs) 1 (He.ga K "is_whole") fd0 ["thing"] p_is_whole := ok_is_whole F0 fr
  have c_is_whole : Cal false P w K mg base (tabT K tfs) "is_whole" 1 1 [] p_is_whole := ⟨_, fd0, ["thing"], [], [], f_is_whole, rfl, He.glo_ok X G (cd.fact 0 (f := .glo "is_whole") rfl), F0.kp, FunD.bindsN F0 (fun _ _ _ _ _ _ us hl => match us, hl with | [_], _ => rfl), .nil, fun _ _ => .nil⟩
  have f_difference_of : FnD false P w K mg base (tabT K tfs) 1 (He.ga K "difference_of") fd2 ["one", "other"] p_difference_of := ok_difference_of F2 fr (m_gcd := m_gcd)
  have c_difference_of : Cal false P w K mg base (tabT K tfs) "difference_of" 1 2 [] p_difference_of := ⟨_, fd2, ["one", "other"], [], [], f_difference_of, rfl, He.glo_ok X G (cd.fact 2 (f := .glo "difference_of") rfl), F2.kp, FunD.bindsN F2 (fun _ _ _ _ _ _ us hl => match us, hl with | [_, _], _ => rfl), .nil, fun _ _ => .nil⟩
  have f_is_below : FnD false P w K mg base (tabT K tfs) 1 (He.ga K "is_below") fd3 ["one", "other"] p_is_below := ok_is_below F3 fr
  have c_is_below : Cal false P w K mg base (tabT K tfs) "is_below" 1 2 [] p_is_below := ⟨_, fd3, ["one", "other"], [], [], f_is_below, rfl, He.glo_ok X G (cd.fact 3 (f := .glo "is_below") rfl), F3.kp, FunD.bindsN F3 (fun _ _ _ _ _ _ us hl => match us, hl with | [_, _], _ => rfl), .nil, fun _ _ => .nil⟩
  have f_law_cell_at : FnD false P w K mg base (tabT K tfs) 1 (He.ga K "_law_cell_at") fd14 ["_law_script", "_law_k"] p_law_cell_at := ok_law_cell_at F14 fr
  have c_law_cell_at : Cal false P w K mg base (tabT K tfs) "_law_cell_at" 1 2 [] p_law_cell_at := ⟨_, fd14, ["_law_script", "_law_k"], [], [], f_law_cell_at, rfl, He.glo_ok X G (cd.fact 14 (f := .glo "_law_cell_at") rfl), F14.kp, FunD.bindsN F14 (fun _ _ _ _ _ _ us hl => match us, hl with | [_, _], _ => rfl), .nil, fun _ _ => .nil⟩
  have f_law_next : FnD false P w K mg base (tabT K tfs) 1 (He.ga K "_law_next") fd15 ["_law_seed"] p_law_next := ok_law_next F15 fr
  have c_law_next : Cal false P w K mg base (tabT K tfs) "_law_next" 1 1 [] p_law_next := ⟨_, fd15, ["_law_seed"], [], [], f_law_next, rfl, He.glo_ok X G (cd.fact 15 (f := .glo "_law_next") rfl), F15.kp, FunD.bindsN F15 (fun _ _ _ _ _ _ us hl => match us, hl with | [_], _ => rfl), .nil, fun _ _ => .nil⟩
  have f_law_pen_of : FnD false P w K mg base (tabT K tfs) 1 (He.ga K "_law_pen_of") fd16 ["_law_cell"] p_law_pen_of := ok_law_pen_of F16 fr
  have c_law_pen_of : Cal false P w K mg base (tabT K tfs) "_law_pen_of" 1 1 [] p_law_pen_of := ⟨_, fd16, ["_law_cell"], [], [], f_law_pen_of, rfl, He.glo_ok X G (cd.fact 16 (f := .glo "_law_pen_of") rfl), F16.kp, FunD.bindsN F16 (fun _ _ _ _ _ _ us hl => match us, hl with | [_], _ => rfl), .nil, fun _ _ => .nil⟩
  have f_law_made : FnD false P w K mg base (tabT K tfs) 1 (He.ga K "_law_made") fd18 ["_law_top", "_law_bottom"] p_law_made := ok_law_made F18 fr
  have c_law_made : Cal false P w K mg base (tabT K tfs) "_law_made" 1 2 [] p_law_made := ⟨_, fd18, ["_law_top", "_law_bottom"], [], [], f_law_made, rfl, He.glo_ok X G (cd.fact 18 (f := .glo "_law_made") rfl), F18.kp, FunD.bindsN F18 (fun _ _ _ _ _ _ us hl => match us, hl with | [_, _], _ => rfl), .nil, fun _ _ => .nil⟩
  have f_law_below : FnD false P w K mg base (tabT K tfs) 1 (He.ga K "_law_below") fd21 ["_law_one", "_law_other"] p_law_below := ok_law_below F21 fr
  have c_law_below : Cal false P w K mg base (tabT K tfs) "_law_below" 1 2 [] p_law_below := ⟨_, fd21, ["_law_one", "_law_other"], [], [], f_law_below, rfl, He.glo_ok X G (cd.fact 21 (f := .glo "_law_below") rfl), F21.kp, FunD.bindsN F21 (fun _ _ _ _ _ _ us hl => match us, hl with | [_, _], _ => rfl), .nil, fun _ _ => .nil⟩
  have f_law_whole : FnD false P w K mg base (tabT K tfs) 1 (He.ga K "_law_whole") fd22 ["_law_thing"] p_law_whole := ok_law_whole F22 fr
  have c_law_whole : Cal false P w K mg base (tabT K tfs) "_law_whole" 1 1 [] p_law_whole := ⟨_, fd22, ["_law_thing"], [], [], f_law_whole, rfl, He.glo_ok X G (cd.fact 22 (f := .glo "_law_whole") rfl), F22.kp, FunD.bindsN F22 (fun _ _ _ _ _ _ us hl => match us, hl with | [_], _ => rfl), .nil, fun _ _ => .nil⟩
  have f_flags : FnS P w K mg base (tabT K tfs) 1 (He.ga K "_law_flags") fd29 ["_law_e"] (pfE K known) := ok_law_flags F29 fr (o_NoPart := o_NoPart) (o_NoNumber := o_NoNumber) (o_NoMoment := o_NoMoment) (o_NoClock := o_NoClock) (o_NoHour := o_NoHour) (o_NoTelling := o_NoTelling) (o_NoTellings := o_NoTellings) (o_NoRow := o_NoRow) (o_Apart := o_Apart) (o_Twice := o_Twice) (o_Missing := o_Missing) (o_NoDeed := o_NoDeed) (o_NoAir := o_NoAir) (o_NoSignal := o_NoSignal) (o_NoQuarrel := o_NoQuarrel) (o_NoCarriage := o_NoCarriage) (o_NoLine := o_NoLine) (o_TooMany := o_TooMany) (o_NoText := o_NoText) (by intro x hx; simp at hx; rcases hx with rfl | rfl; exact e_NoRow; exact e_NoTellings)
  have b_flags := FunD.bindsN F29 (ps := ["_law_e"]) (fun _ _ _ _ _ _ us hl => match us, hl with | [_], _ => rfl)
  have f_is_part : FnD false P w K mg base (tabT K tfs) 2 (He.ga K "is_part") fd1 ["thing"] p_is_part := ok_is_part F1 fr (c_is_whole := c_is_whole) (m_gcd := m_gcd)
  have c_is_part : Cal false P w K mg base (tabT K tfs) "is_part" 2 1 [] p_is_part := ⟨_, fd1, ["thing"], [], [], f_is_part, rfl, He.glo_ok X G (cd.fact 1 (f := .glo "is_part") rfl), F1.kp, FunD.bindsN F1 (fun _ _ _ _ _ _ us hl => match us, hl with | [_], _ => rfl), .nil, fun _ _ => .nil⟩
  have f_is_clock_number : FnD false P w K mg base (tabT K tfs) 2 (He.ga K "is_clock_number") fd4 ["thing"] p_is_clock_number := ok_is_clock_number F4 fr (c_is_whole := c_is_whole) (k_CLOCKS := k_CLOCKS)
  have c_is_clock_number : Cal false P w K mg base (tabT K tfs) "is_clock_number" 2 1 [] p_is_clock_number := ⟨_, fd4, ["thing"], [], [], f_is_clock_number, rfl, He.glo_ok X G (cd.fact 4 (f := .glo "is_clock_number") rfl), F4.kp, FunD.bindsN F4 (fun _ _ _ _ _ _ us hl => match us, hl with | [_], _ => rfl), .nil, fun _ _ => .nil⟩
  have f_is_between : FnD false P w K mg base (tabT K tfs) 2 (He.ga K "is_between") fd11 ["worth", "low", "high"] p_is_between := ok_is_between F11 fr (c_is_below := c_is_below)
  have c_is_between : Cal false P w K mg base (tabT K tfs) "is_between" 2 3 [] p_is_between := ⟨_, fd11, ["worth", "low", "high"], [], [], f_is_between, rfl, He.glo_ok X G (cd.fact 11 (f := .glo "is_between") rfl), F11.kp, FunD.bindsN F11 (fun _ _ _ _ _ _ us hl => match us, hl with | [_, _, _], _ => rfl), .nil, fun _ _ => .nil⟩
  have f_law_draw : FnD false P w K mg base (tabT K tfs) 2 (He.ga K "_law_draw") fd17 ["_law_pen", "_law_many"] p_law_draw := ok_law_draw F17 fr (c_law_next := c_law_next)
  have c_law_draw : Cal false P w K mg base (tabT K tfs) "_law_draw" 2 2 [] p_law_draw := ⟨_, fd17, ["_law_pen", "_law_many"], [], [], f_law_draw, rfl, He.glo_ok X G (cd.fact 17 (f := .glo "_law_draw") rfl), F17.kp, FunD.bindsN F17 (fun _ _ _ _ _ _ us hl => match us, hl with | [_, _], _ => rfl), .nil, fun _ _ => .nil⟩
  have f_law_plus : FnD false P w K mg base (tabT K tfs) 2 (He.ga K "_law_plus") fd19 ["_law_one", "_law_other"] p_law_plus := ok_law_plus F19 fr (c_law_made := c_law_made)
  have c_law_plus : Cal false P w K mg base (tabT K tfs) "_law_plus" 2 2 [] p_law_plus := ⟨_, fd19, ["_law_one", "_law_other"], [], [], f_law_plus, rfl, He.glo_ok X G (cd.fact 19 (f := .glo "_law_plus") rfl), F19.kp, FunD.bindsN F19 (fun _ _ _ _ _ _ us hl => match us, hl with | [_, _], _ => rfl), .nil, fun _ _ => .nil⟩
  have f_law_minus : FnD false P w K mg base (tabT K tfs) 2 (He.ga K "_law_minus") fd20 ["_law_one", "_law_other"] p_law_minus := ok_law_minus F20 fr (c_law_made := c_law_made)
  have c_law_minus : Cal false P w K mg base (tabT K tfs) "_law_minus" 2 2 [] p_law_minus := ⟨_, fd20, ["_law_one", "_law_other"], [], [], f_law_minus, rfl, He.glo_ok X G (cd.fact 20 (f := .glo "_law_minus") rfl), F20.kp, FunD.bindsN F20 (fun _ _ _ _ _ _ us hl => match us, hl with | [_, _], _ => rfl), .nil, fun _ _ => .nil⟩
  have f_law_is_part : FnD false P w K mg base (tabT K tfs) 2 (He.ga K "_law_is_part") fd23 ["_law_thing"] p_law_is_part := ok_law_is_part F23 fr (c_law_whole := c_law_whole) (c_law_made := c_law_made)
  have c_law_is_part : Cal false P w K mg base (tabT K tfs) "_law_is_part" 2 1 [] p_law_is_part := ⟨_, fd23, ["_law_thing"], [], [], f_law_is_part, rfl, He.glo_ok X G (cd.fact 23 (f := .glo "_law_is_part") rfl), F23.kp, FunD.bindsN F23 (fun _ _ _ _ _ _ us hl => match us, hl with | [_], _ => rfl), .nil, fun _ _ => .nil⟩
  have t_law_said := fun (k : Nat) (hk : 2 ≤ k + 1) => ok_law_said (T := tabT K tfs) (base := base) F30 (He.glo_ok X G (cd.fact 30 (f := .glo "_law_said") rfl)) f_flags (He.glo_ok X G (cd.fact 29 (f := .glo "_law_flags") rfl)) F29.kp b_flags o_ClockError k hk
  have f_are_bounds : FnD false P w K mg base (tabT K tfs) 3 (He.ga K "are_bounds") fd5 ["low", "high"] p_are_bounds := ok_are_bounds F5 fr (c_is_part := c_is_part) (c_is_below := c_is_below)
  have c_are_bounds : Cal false P w K mg base (tabT K tfs) "are_bounds" 3 2 [] p_are_bounds := ⟨_, fd5, ["low", "high"], [], [], f_are_bounds, rfl, He.glo_ok X G (cd.fact 5 (f := .glo "are_bounds") rfl), F5.kp, FunD.bindsN F5 (fun _ _ _ _ _ _ us hl => match us, hl with | [_, _], _ => rfl), .nil, fun _ _ => .nil⟩
  have f_is_row : FnD false P w K mg base (tabT K tfs) 3 (He.ga K "is_row") fd8 ["thing"] p_is_row := ok_is_row F8 fr (c_is_part := c_is_part) (k_CLOCKS := k_CLOCKS) (k_NOUGHT := k_NOUGHT)
  have c_is_row : Cal false P w K mg base (tabT K tfs) "is_row" 3 1 [] p_is_row := ⟨_, fd8, ["thing"], [], [], f_is_row, rfl, He.glo_ok X G (cd.fact 8 (f := .glo "is_row") rfl), F8.kp, FunD.bindsN F8 (fun _ _ _ _ _ _ us hl => match us, hl with | [_], _ => rfl), .nil, fun _ _ => .nil⟩
  have f_is_kept : FnD false P w K mg base (tabT K tfs) 3 (He.ga K "is_kept") fd12 ["telling", "row"] p_is_kept := ok_is_kept F12 fr (c_is_between := c_is_between) (c_difference_of := c_difference_of)
  have c_is_kept : Cal false P w K mg base (tabT K tfs) "is_kept" 3 2 [] p_is_kept := ⟨_, fd12, ["telling", "row"], [], [], f_is_kept, rfl, He.glo_ok X G (cd.fact 12 (f := .glo "is_kept") rfl), F12.kp, FunD.bindsN F12 (fun _ _ _ _ _ _ us hl => match us, hl with | [_, _], _ => rfl), .nil, fun _ _ => .nil⟩
  have f_law_part : FnD false P w K mg base (tabT K tfs) 3 (He.ga K "_law_part") fd24 ["_law_pen", "_law_most"] p_law_part := ok_law_part F24 fr (c_law_made := c_law_made) (c_law_draw := c_law_draw)
  have c_law_part : Cal false P w K mg base (tabT K tfs) "_law_part" 3 2 [] p_law_part := ⟨_, fd24, ["_law_pen", "_law_most"], [], [], f_law_part, rfl, He.glo_ok X G (cd.fact 24 (f := .glo "_law_part") rfl), F24.kp, FunD.bindsN F24 (fun _ _ _ _ _ _ us hl => match us, hl with | [_, _], _ => rfl), .nil, fun _ _ => .nil⟩
  have f_law_odd : FnD false P w K mg base (tabT K tfs) 3 (He.ga K "_law_odd") fd26 ["_law_pen"] p_law_odd := ok_law_odd F26 fr (c_law_draw := c_law_draw)
  have c_law_odd : Cal false P w K mg base (tabT K tfs) "_law_odd" 3 1 [] p_law_odd := ⟨_, fd26, ["_law_pen"], [], [], f_law_odd, rfl, He.glo_ok X G (cd.fact 26 (f := .glo "_law_odd") rfl), F26.kp, FunD.bindsN F26 (fun _ _ _ _ _ _ us hl => match us, hl with | [_], _ => rfl), .nil, fun _ _ => .nil⟩
  have f_law_due : FnD false P w K mg base (tabT K tfs) 3 (He.ga K "_law_due") fd31 ["_law_talks", "_law_line_up"] p_lawB_due := ok_law_due F31 fr (c_law_minus := c_law_minus) (c_law_below := c_law_below)
  have c_law_due : Cal false P w K mg base (tabT K tfs) "_law_due" 3 2 [] p_lawB_due := ⟨_, fd31, ["_law_talks", "_law_line_up"], [], [], f_law_due, rfl, He.glo_ok X G (cd.fact 31 (f := .glo "_law_due") rfl), F31.kp, FunD.bindsN F31 (fun _ _ _ _ _ _ us hl => match us, hl with | [_, _], _ => rfl), .nil, fun _ _ => .nil⟩
  have f_law_edge : FnD false P w K mg base (tabT K tfs) 3 (He.ga K "_law_edge") fd32 ["_law_talks", "_law_line_up"] p_law_edge := ok_law_edge F32 fr (c_law_minus := c_law_minus) (c_law_plus := c_law_plus)
  have c_law_edge : Cal false P w K mg base (tabT K tfs) "_law_edge" 3 2 [] p_law_edge := ⟨_, fd32, ["_law_talks", "_law_line_up"], [], [], f_law_edge, rfl, He.glo_ok X G (cd.fact 32 (f := .glo "_law_edge") rfl), F32.kp, FunD.bindsN F32 (fun _ _ _ _ _ _ us hl => match us, hl with | [_, _], _ => rfl), .nil, fun _ _ => .nil⟩
  have f_law_is_row : FnD false P w K mg base (tabT K tfs) 3 (He.ga K "_law_is_row") fd33 ["_law_thing"] p_law_is_row := ok_law_is_row F33 fr (c_law_is_part := c_law_is_part)
  have c_law_is_row : Cal false P w K mg base (tabT K tfs) "_law_is_row" 3 1 [] p_law_is_row := ⟨_, fd33, ["_law_thing"], [], [], f_law_is_row, rfl, He.glo_ok X G (cd.fact 33 (f := .glo "_law_is_row") rfl), F33.kp, FunD.bindsN F33 (fun _ _ _ _ _ _ us hl => match us, hl with | [_], _ => rfl), .nil, fun _ _ => .nil⟩
  have f_is_telling : FnD false P w K mg base (tabT K tfs) 4 (He.ga K "is_telling") fd6 ["thing"] p_is_telling := ok_is_telling F6 fr (c_are_bounds := c_are_bounds) (c_is_clock_number := c_is_clock_number)
  have c_is_telling : Cal false P w K mg base (tabT K tfs) "is_telling" 4 1 [] p_is_telling := ⟨_, fd6, ["thing"], [], [], f_is_telling, rfl, He.glo_ok X G (cd.fact 6 (f := .glo "is_telling") rfl), F6.kp, FunD.bindsN F6 (fun _ _ _ _ _ _ us hl => match us, hl with | [_], _ => rfl), .nil, fun _ _ => .nil⟩
  have f_check_row : FnD false P w K mg base (tabT K tfs) 4 (He.ga K "check_row") fd10 ["thing"] (p_check_row K) := ok_check_row F10 fr (c_is_row := c_is_row) (x_NoRow := x_NoRow)
  have c_check_row : Cal false P w K mg base (tabT K tfs) "check_row" 4 1 [] (p_check_row K) := ⟨_, fd10, ["thing"], [], [], f_check_row, rfl, He.glo_ok X G (cd.fact 10 (f := .glo "check_row") rfl), F10.kp, FunD.bindsN F10 (fun _ _ _ _ _ _ us hl => match us, hl with | [_], _ => rfl), .nil, fun _ _ => .nil⟩
  have f_law_above : FnD false P w K mg base (tabT K tfs) 4 (He.ga K "_law_above") fd25 ["_law_pen", "_law_most"] p_law_above := ok_law_above F25 fr (c_law_part := c_law_part)
  have c_law_above : Cal false P w K mg base (tabT K tfs) "_law_above" 4 2 [] p_law_above := ⟨_, fd25, ["_law_pen", "_law_most"], [], [], f_law_above, rfl, He.glo_ok X G (cd.fact 25 (f := .glo "_law_above") rfl), F25.kp, FunD.bindsN F25 (fun _ _ _ _ _ _ us hl => match us, hl with | [_, _], _ => rfl), .nil, fun _ _ => .nil⟩
  have f_are_tellings : FnD false P w K mg base (tabT K tfs) 5 (He.ga K "are_tellings") fd7 ["thing"] p_are_tellings := ok_are_tellings F7 fr (c_is_telling := c_is_telling) (k_MOST_TELLINGS := k_MOST_TELLINGS)
  have c_are_tellings : Cal false P w K mg base (tabT K tfs) "are_tellings" 5 1 [] p_are_tellings := ⟨_, fd7, ["thing"], [], [], f_are_tellings, rfl, He.glo_ok X G (cd.fact 7 (f := .glo "are_tellings") rfl), F7.kp, FunD.bindsN F7 (fun _ _ _ _ _ _ us hl => match us, hl with | [_], _ => rfl), .nil, fun _ _ => .nil⟩
  have f_law_telling : FnD false P w K mg base (tabT K tfs) 5 (He.ga K "_law_telling") fd27 ["_law_pen", "_law_clocks"] p_lawB_telling := ok_law_telling F27 fr (c_law_draw := c_law_draw) (c_law_part := c_law_part) (c_law_plus := c_law_plus) (c_law_above := c_law_above)
  have c_law_telling : Cal false P w K mg base (tabT K tfs) "_law_telling" 5 2 [] p_lawB_telling := ⟨_, fd27, ["_law_pen", "_law_clocks"], [], [], f_law_telling, rfl, He.glo_ok X G (cd.fact 27 (f := .glo "_law_telling") rfl), F27.kp, FunD.bindsN F27 (fun _ _ _ _ _ _ us hl => match us, hl with | [_, _], _ => rfl), .nil, fun _ _ => .nil⟩
  have f_check_tellings : FnD false P w K mg base (tabT K tfs) 6 (He.ga K "check_tellings") fd9 ["thing"] (p_check_tellings K) := ok_check_tellings F9 fr (c_are_tellings := c_are_tellings) (x_NoTellings := x_NoTellings)
  have c_check_tellings : Cal false P w K mg base (tabT K tfs) "check_tellings" 6 1 [] (p_check_tellings K) := ⟨_, fd9, ["thing"], [], [], f_check_tellings, rfl, He.glo_ok X G (cd.fact 9 (f := .glo "check_tellings") rfl), F9.kp, FunD.bindsN F9 (fun _ _ _ _ _ _ us hl => match us, hl with | [_], _ => rfl), .nil, fun _ _ => .nil⟩
  have f_law_tellings : FnD false P w K mg base (tabT K tfs) 6 (He.ga K "_law_tellings") fd28 ["_law_pen", "_law_most"] p_lawB_tellings := ok_law_tellings F28 fr (c_law_draw := c_law_draw) (c_law_telling := c_law_telling)
  have c_law_tellings : Cal false P w K mg base (tabT K tfs) "_law_tellings" 6 2 [] p_lawB_tellings := ⟨_, fd28, ["_law_pen", "_law_most"], [], [], f_law_tellings, rfl, He.glo_ok X G (cd.fact 28 (f := .glo "_law_tellings") rfl), F28.kp, FunD.bindsN F28 (fun _ _ _ _ _ _ us hl => match us, hl with | [_, _], _ => rfl), .nil, fun _ _ => .nil⟩
  have f_kept_by : FnD false P w K mg base (tabT K tfs) 7 (He.ga K "kept_by") fd13 ["tellings", "row"] (p_kept_by K) := ok_kept_by F13 fr (c_check_tellings := c_check_tellings) (c_check_row := c_check_row) (c_is_kept := c_is_kept)
  have ck_kept_by_row_tellings : CalK false P w K mg base (tabT K tfs) "kept_by" 7 2 ["row", "tellings"] [1, 0] (p_kept_by K) := ⟨⟨_, fd13, ["tellings", "row"], f_kept_by, kwB_of F13 (fun _ _ _ _ _ _ us hl => match us, hl with | [], hl => (by cases hl) | [_], hl => (by cases hl) | _ :: _ :: _, _ => rfl), rfl, He.glo_ok X G (cd.fact 13 (f := .glo "kept_by") rfl), F13.kp⟩⟩
  have c_kept_by : Cal false P w K mg base (tabT K tfs) "kept_by" 7 2 [] (p_kept_by K) := ⟨_, fd13, ["tellings", "row"], [], [], f_kept_by, rfl, He.glo_ok X G (cd.fact 13 (f := .glo "kept_by") rfl), F13.kp, FunD.bindsN F13 (fun _ _ _ _ _ _ us hl => match us, hl with | [_, _], _ => rfl), .nil, fun _ _ => .nil⟩
  have f_law : FnD true P w K mg base (tabT K tfs) 10 (He.ga K "law") fd34 ["_law_script"] p_law := ok_law F34 fr (c_law_pen_of := c_law_pen_of) (c_law_tellings := c_law_tellings) (c_law_odd := c_law_odd) (c_law_cell_at := c_law_cell_at) (c_law_edge := c_law_edge) (c_law_due := c_law_due) (c_law_is_row := c_law_is_row) (c_law_part := c_law_part) (c_kept_by := c_kept_by) (ck_kept_by_row_tellings := ck_kept_by_row_tellings) (t_law_said := t_law_said) (lam := lam_law) (e_NoRow := e_NoRow) (e_NoTellings := e_NoTellings)
  exact f_law
end DL
open PySem PySem.W PySem.Calls PyProof.Rows
theorem PySem.Challenge.cw_gunclocks_k35_rows_that_keep_tellings_holds : PySem.Challenge.rw_gunclocks_k35_rows_that_keep_tellings.Holds := by
  w_on; o_law
  refine HandSHeadRun.head_imp (r := DL.Rw) (q := view DL.Rw.prog [0, 68]) (H := DL.hkX) (ob := DL.obX) (M := 9000) (loose := DL.nms) (d := HandSHeadRun.topDef DL.Rw.prog 68) (kwd := []) DL.obX_eq
    DL.runX (by kernel_rfl) (by kernel_rfl) (by kernel_rfl) (by rfl) (by first | assumption | decide +kernel) (by decide +kernel) ⟨rfl, rfl, rfl, rfl, rfl, by decide +kernel⟩ ?hw ?hc
  case hw => w_witness2
  case hc =>
    refine DL.walkT (l := PySem.Challenge.rw_gunclocks_k35_rows_that_keep_tellings) (n := 63) (k := 10) (x := "_law_script") rfl (by decide) (by kernel_rfl) ⟨rfl, by decide, by decide⟩ ?F
    intro w mg fa h Y G hmg0
    obtain ⟨K, KX, c⟩ := Y
    have hmg : mg ("law" : PySem.Str) = some (.ref fa) := by
      have e : (HandSHeadRun.topDef DL.Rw.prog 68).name = ("law" : PySem.Str) := by kernel_rfl
      rw [← e]
      exact hmg0
    obtain ⟨fd, hb, hF⟩ := DL.facts (P := (PySem.Challenge.rw_gunclocks_k35_rows_that_keep_tellings).prog) (w := w) KX G hmg c
    exact ⟨K, fd, DL.p_law, true, DL.tfs.map (He.cT K), DL.tabT K DL.tfs, KX, hb, DL.tab_emp c.empty, DL.tab_out c.out, DL.tab_hd KX c.hd, DL.tab_mem, fun ns hl hbit => ⟨ns, rfl, hl, fun _ => rfl⟩, hF⟩
