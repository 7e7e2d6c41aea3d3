import PyProof.Rows.All
import PySem.Challenge.RW_gunclocks_k02_clocks_known
import Wide.All
import OpenK.AllK
import Wide.FinOn
import HandS.ForMost
import HandS.Exc
import HandS.ExcOwn
import HandS.WordsExc
import HandS.TryOnly
import HandS.Gcd
import HandS.IsInst
import HandS.Wide
import HandS.TupAny
import HandS.Lambda
import HandS.HeadHook4
import HandS.Defaults
import HandS.EndBits
import HandS.Zip
import HandS.Finally
import KE.GoesMore
import KE.GoesEnum
import HandS.List
import PyProof.ExcBaseAll.ValueError
import HandS.HeadHook1
import HandS.ExcIs
import HandS.HotCalls
import HandS.EndTab
import HandS.HeadWalk
import HandS.Deep
import HandS.Dict
import HandS.HeadHook2
import HandS.HeadHook3
import HandS.TupMul
import HandS.Style
import OpenK.KMore
import KE.KMathG
import HandS.SetFor
import HandS.Strs
import HandS.Conv
import KE.KDictZip
import HandS.ExcValue
import PyProof.Rows.SumAny
import HandS.Flow
import HandS.ExcInit
import HandS.Keys
import KE.GoesComp
import HandS.Base
import HandS.Call
import HandS.Ends
import HandS.More
import HandS.Words
import HandS.Head0
import HandS.Head1
import HandS.Head2
import HandS.HeadEnd
import HandS.Head3
import KE.KStateDown
import Lean
set_option Elab.async false
set_option linter.all false
set_option maxRecDepth 100000
set_option maxHeartbeats 4000000
set_option exponentiation.threshold 20000
set_option maxHeartbeats 4000000
namespace DL
open PySem PySem.Spec PyProof.Rows L2

/-! values that carry their parts with them; mu: the i-th growing list of the store -/
/-- what is told of an object that nobody changes: it stays told -/
def Abk (P : List Addr → Hp → Addr → Prop) : Prop := ∀ (m : List Addr) (G : Hp) (t : List Addr) (G1 : Hp), (∀ a ∈ m, ∃ vs, G a = some (.lst vs)) → (∀ a o, G a = some o → a ∉ m → G1 a = some o) → (∀ a ∈ t, G a = none) → ∀ a, P m G a → P (m ++ t) G1 a
inductive D where
  | non | bl (b : Bool) | int (i : Int) | str (x : Str)
  | tup (xs : List D) | lst (xs : List D) | scr (xs : List D)
  | mu (i : Nat) | emp | ty (n : String) | ob (a : Addr) | er (C : Addr)
  | ab (P : List Addr → Hp → Addr → Prop)

abbrev Sto := List (List D)
abbrev Vars := List (Option D)
/-- an own error: its class, its fields -/
abbrev Er := Addr × Option (List (Str × D))

/-- a list that nobody changes: the script, or a list of the module's own -/
def SqF (K : PySem.W.Frag) (G : Hp) (a : Addr) (vs : List V) : Prop :=
  (∃ o, G a = some (.frz o (.lst vs))) ∨ ∃ (o : Obj) (its : Array Value) (n : Nat), K.lookup a = some o ∧ o.cls = .type "list" ∧ o.dict = none ∧ o.data = .seq its n ∧ its.size ≤ sizeLine ∧ Vals vs its.toList
/-- at a stands just this object -/
def xob (oe : Obj) (a : Addr) : HO := .ext fun h => h.get? a = some oe
mutual
inductive DR (K : PySem.W.Frag) (m : List Addr) (G : Hp) : D → V → Prop
  | non : DR K m G .non .non
  | bl (b : Bool) : DR K m G (.bl b) (.bl b)
  | int (i : Int) : DR K m G (.int i) (.int i)
  | str (x : Str) : DR K m G (.str x) (.str x)
  | ty (n : String) : DR K m G (.ty n) (.ty n)
  | ob (a : Addr) : DR K m G (.ob a) (.ref a)
  | er {C a : Addr} {oe : Obj} : G a = some (xob oe a) → Zc (.ref C) none oe → (∃ vs, oe.data = .fields vs) → DR K m G (.er C) (.ref a)
  | emp {a : Addr} : G a = some (.dK []) → DR K m G .emp (.ref a)
  | ab {P : List Addr → Hp → Addr → Prop} {a : Addr} : Abk P → P m G a → DR K m G (.ab P) (.ref a)
  | mu {i : Nat} {a : Addr} : m[i]? = some a → DR K m G (.mu i) (.ref a)
  | tup {a : Addr} {ds : List D} {vs : List V} : SqT K G a vs → DRs K m G ds vs → DR K m G (.tup ds) (.ref a)
  | lst {a : Addr} {ds : List D} {vs : List V} : G a = some (.lst vs) → a ∉ m → DRs K m G ds vs → DR K m G (.lst ds) (.ref a)
  | scr {a : Addr} {ds : List D} {vs : List V} : SqF K G a vs → DRs K m G ds vs → DR K m G (.scr ds) (.ref a)
inductive DRs (K : PySem.W.Frag) (m : List Addr) (G : Hp) : List D → List V → Prop
  | nil : DRs K m G [] []
  | cons {d : D} {v : V} {ds : List D} {vs : List V} : DR K m G d v → DRs K m G ds vs → DRs K m G (d :: ds) (v :: vs)
end

/-- what stands in the heap: G the part that is ours, H all that is tracked -/
structure Rp (K : PySem.W.Frag) (T : List (Addr × Str)) (m : List Addr) (S : Sto) (G H : Hp) : Prop where
  sub : ∀ a o, G a = some o → H a = some o
  nd : m.Nodup
  len : m.length = S.length
  sto : ∀ (i : Nat) (a : Addr) (xs : List D), m[i]? = some a → S[i]? = some xs → ∃ vs, G a = some (.lst vs) ∧ DRs K m G xs vs
  tabs : LamX.Tabs T H
  nt : ∀ (a : Addr) (ps : Array Value), G a ≠ some (.tbl ps)

structure Stp (m : List Addr) (G H : Hp) (m' : List Addr) (G' H' : Hp) : Prop where
  grow : ∃ t, m' = m ++ t ∧ ∀ a ∈ t, G a = none
  keep : ∀ a o, G a = some o → a ∉ m → G' a = some o
  dom : ∀ a o, G a = some o → ∃ o', G' a = some o'
  frame : ∀ a o, H a = some o → G a = none → (∀ ps, o ≠ .tbl ps) → H' a = some o ∧ G' a = none

section
variable {K : PySem.W.Frag} {T : List (Addr × Str)} {m m1 m2 : List Addr} {G G1 G2 H H0 H1 H2 : Hp} {S S1 : Sto}
theorem Stp.refl : Stp m G H m G H := ⟨⟨[], by simp, by simp⟩, fun _ _ h _ => h, fun _ o h => ⟨o, h⟩, fun _ _ h g _ => ⟨h, g⟩⟩
theorem none_of {G G1 : Hp} (k : ∀ a o, G a = some o → ∃ o', G1 a = some o') {a : Addr} (h : G1 a = none) : G a = none := by
  cases e : G a with
  | none => rfl
  | some o =>
    obtain ⟨o', e'⟩ := k a o e
    rw [h] at e'
    cases e'
theorem Stp.trans (a : Stp m G H m1 G1 H1) (b : Stp m1 G1 H1 m2 G2 H2) : Stp m G H m2 G2 H2 := by
  obtain ⟨t, rfl, ht⟩ := a.grow
  obtain ⟨u, rfl, hu⟩ := b.grow
  refine ⟨⟨t ++ u, by simp, fun x hx => ?_⟩, fun x o h n => ?_, fun x o h => ?_, fun x o h g n => ?_⟩
  · rcases List.mem_append.mp hx with q | q
    · exact ht x q
    · exact none_of a.dom (hu x q)
  · refine b.keep x o (a.keep x o h n) fun z => ?_
    rcases List.mem_append.mp z with z | z
    · exact n z
    · rw [ht x z] at h
      cases h
  · obtain ⟨o1, e1⟩ := a.dom x o h
    exact b.dom x o1 e1
  · obtain ⟨h1, g1⟩ := a.frame x o h g n
    exact b.frame x o h1 g1 n
theorem Rp.lists (r : Rp K T m S G H) {a : Addr} (h : a ∈ m) : ∃ vs, G a = some (.lst vs) := by
  obtain ⟨i, hi⟩ := List.mem_iff_getElem?.mp h
  have hl : i < S.length := by
    rw [← r.len]
    exact (List.getElem?_eq_some_iff.mp hi).1
  obtain ⟨vs, e, _⟩ := r.sto i a _ hi (List.getElem?_eq_getElem hl)
  exact ⟨vs, e⟩
theorem notMem (r : Rp K T m S G H) {a : Addr} {o : HO} (h : G a = some o) (n : ∀ vs, o ≠ .lst vs) : a ∉ m := fun z => by
  obtain ⟨vs, e⟩ := r.lists z
  rw [h] at e
  cases e
  exact n vs rfl
theorem sqT_mono {a : Addr} {vs : List V} (r : Rp K T m S G H) (s : Stp m G H0 m1 G1 H1) (h : SqT K G a vs) : SqT K G1 a vs := by
  rcases h with (h | ⟨o, h⟩) | h
  · exact .inl (.inl (s.keep _ _ h (notMem r h (by intro vs z; cases z))))
  · exact .inl (.inr ⟨o, s.keep _ _ h (notMem r h (by intro vs z; cases z))⟩)
  · exact .inr h
theorem getE_app {l t : List Addr} {i : Nat} {a : Addr} (h : l[i]? = some a) : (l ++ t)[i]? = some a := by
  rw [List.getElem?_append_left (List.getElem?_eq_some_iff.mp h).1]
  exact h
mutual
theorem DR.mono (r : Rp K T m S G H) (s : Stp m G H0 m1 G1 H1) : ∀ {d : D} {v : V}, DR K m G d v → DR K m1 G1 d v
  | _, _, .non => .non
  | _, _, .bl b => .bl b
  | _, _, .int i => .int i
  | _, _, .str x => .str x
  | _, _, .ty n => .ty n
  | _, _, .ob a => .ob a
  | _, _, .er h z f => .er (s.keep _ _ h (notMem r h (by intro vs z; cases z))) z f
  | _, _, .emp h => .emp (s.keep _ _ h (notMem r h (by intro vs z; cases z)))
  | _, _, .ab k h => by
    obtain ⟨t, rfl, ht⟩ := s.grow
    exact .ab k (k m G t _ (fun a z => r.lists z) s.keep ht _ h)
  | _, _, .mu h => by
    obtain ⟨t, rfl, _⟩ := s.grow
    exact .mu (getE_app h)
  | _, _, .tup h hs => .tup (sqT_mono r s h) (DRs.mono r s hs)
  | _, _, .lst h n hs => by
    obtain ⟨t, e, ht⟩ := s.grow
    refine .lst (s.keep _ _ h n) (fun z => ?_) (DRs.mono r s hs)
    rw [e] at z
    rcases List.mem_append.mp z with z | z
    · exact n z
    · rw [ht _ z] at h
      cases h
  | _, _, .scr h hs => .scr (h.elim (fun ⟨o, q⟩ => .inl ⟨o, s.keep _ _ q (notMem r q (by intro vs z; cases z))⟩) .inr) (DRs.mono r s hs)
theorem DRs.mono (r : Rp K T m S G H) (s : Stp m G H0 m1 G1 H1) : ∀ {ds : List D} {vs : List V}, DRs K m G ds vs → DRs K m1 G1 ds vs
  | _, _, .nil => .nil
  | _, _, .cons h hs => .cons (DR.mono r s h) (DRs.mono r s hs)
end
theorem DRs.length : ∀ {ds : List D} {vs : List V}, DRs K m G ds vs → ds.length = vs.length
  | _, _, .nil => rfl
  | _, _, .cons _ h => congrArg (· + 1) h.length
theorem DRs.get : ∀ {ds : List D} {vs : List V} {i : Nat} {d : D}, DRs K m G ds vs → ds[i]? = some d → ∃ v, vs[i]? = some v ∧ DR K m G d v
  | _, _, _, _, .nil, e => by simp at e
  | _, _, 0, _, .cons h _, e => by simp at e; subst e; exact ⟨_, rfl, h⟩
  | _, _, i + 1, d, .cons _ h, e => by
    obtain ⟨v, h1, h2⟩ := DRs.get (i := i) (d := d) h (by simpa using e)
    exact ⟨v, by simpa using h1, h2⟩
theorem DRs.getV : ∀ {ds : List D} {vs : List V} {i : Nat} {v : V}, DRs K m G ds vs → vs[i]? = some v → ∃ d, ds[i]? = some d ∧ DR K m G d v
  | _, _, _, _, .nil, e => by simp at e
  | _, _, 0, _, .cons h _, e => by simp at e; subst e; exact ⟨_, rfl, h⟩
  | _, _, i + 1, d, .cons _ h, e => by
    obtain ⟨v, h1, h2⟩ := DRs.getV (i := i) (v := d) h (by simpa using e)
    exact ⟨v, by simpa using h1, h2⟩
theorem DRs.append : ∀ {xs ys : List D} {vs ws : List V}, DRs K m G xs vs → DRs K m G ys ws → DRs K m G (xs ++ ys) (vs ++ ws)
  | _, _, _, _, .nil, h => h
  | _, _, _, _, .cons a t, h => .cons a (DRs.append t h)
theorem DRs.take : ∀ {xs : List D} {vs : List V} (n : Nat), DRs K m G xs vs → DRs K m G (xs.take n) (vs.take n)
  | _, _, 0, _ => .nil
  | _, _, _ + 1, .nil => .nil
  | _, _, n + 1, .cons a t => .cons a (DRs.take n t)
theorem DRs.drop : ∀ {xs : List D} {vs : List V} (n : Nat), DRs K m G xs vs → DRs K m G (xs.drop n) (vs.drop n)
  | _, _, 0, h => h
  | _, _, _ + 1, .nil => .nil
  | _, _, n + 1, .cons _ t => DRs.drop n t
theorem DRs.one {d : D} {v : V} (h : DR K m G d v) : DRs K m G [d] [v] := .cons h .nil
theorem tabs_keep {T : List (Addr × Str)} {H H' : Hp} (t : LamX.Tabs T H) (k : ∀ b o, H b = some o → (∀ vs, o ≠ .lst vs) → H' b = some o) : LamX.Tabs T H' := fun p hp => by
  obtain ⟨ps, h1, h2, h3⟩ := t p hp
  refine ⟨ps, k _ _ h1 (by intro vs z; cases z), h2, fun pos cv hc => ?_⟩
  obtain ⟨c, e1, e2⟩ := h3 pos cv hc
  exact ⟨c, e1, k _ _ e2 (by intro vs z; cases z)⟩
/-- a new object of ours -/
theorem nt_upd {G : Hp} {p : Addr} {o : HO} (n : ∀ (a : Addr) (ps : Array Value), G a ≠ some (.tbl ps)) (ho : ∀ ps, o ≠ .tbl ps) (a : Addr) (ps : Array Value) : upd G p o a ≠ some (.tbl ps) := fun z => by
  by_cases e : a = p
  · rw [e, upd_same] at z
    exact ho ps (Option.some.inj z)
  · rw [upd_ne e] at z
    exact n a ps z
theorem Rp.new (r : Rp K T m S G H) {p : Addr} {o : HO} (hp : H p = none) (ho : ∀ ps, o ≠ .tbl ps := by intro ps z; cases z) : Rp K T m S (upd G p o) (upd H p o) ∧ Stp m G H m (upd G p o) (upd H p o) := by
  have gp : G p = none := none_of (fun a o h => ⟨o, r.sub a o h⟩) hp
  have st : Stp m G H m (upd G p o) (upd H p o) := by
    refine ⟨⟨[], by simp, by simp⟩, fun a u h _ => ?_, fun a u h => ⟨u, ?_⟩, fun a u h g _ => ?_⟩
    · rw [upd_ne (ne_of_none h gp)]
      exact h
    · rw [upd_ne (ne_of_none h gp)]
      exact h
    · rw [upd_ne (ne_of_none h hp), upd_ne (ne_of_none h hp)]
      exact ⟨h, g⟩
  refine ⟨⟨fun a u h => ?_, r.nd, r.len, fun i a xs h1 h2 => ?_, tabs_keep r.tabs (fun b u h _ => ?_), nt_upd r.nt ho⟩, st⟩
  · by_cases e : a = p
    · subst e
      rw [upd_same] at h ⊢
      exact h
    · rw [upd_ne e] at h ⊢
      exact r.sub a u h
  · obtain ⟨vs, h3, h4⟩ := r.sto i a xs h1 h2
    exact ⟨vs, by rw [upd_ne (ne_of_none h3 gp)]; exact h3, h4.mono r st⟩
  · rw [upd_ne (ne_of_none h hp)]
    exact h
/-- a new growing list -/
theorem Rp.newMu (r : Rp K T m S G H) {p : Addr} {ds : List D} {vs : List V} (hp : H p = none) (hd : DRs K m G ds vs) :
    Rp K T (m ++ [p]) (S ++ [ds]) (upd G p (.lst vs)) (upd H p (.lst vs)) ∧ Stp m G H (m ++ [p]) (upd G p (.lst vs)) (upd H p (.lst vs)) ∧ (m ++ [p])[S.length]? = some p := by
  have gp : G p = none := none_of (fun a o h => ⟨o, r.sub a o h⟩) hp
  have pm : p ∉ m := fun z => by
    obtain ⟨vs, e⟩ := r.lists z
    rw [gp] at e
    cases e
  have st : Stp m G H (m ++ [p]) (upd G p (.lst vs)) (upd H p (.lst vs)) := by
    refine ⟨⟨[p], rfl, fun a ha => by rw [List.mem_singleton.mp ha]; exact gp⟩, fun a u h _ => ?_, fun a u h => ⟨u, ?_⟩, fun a u h g _ => ?_⟩
    · rw [upd_ne (ne_of_none h gp)]
      exact h
    · rw [upd_ne (ne_of_none h gp)]
      exact h
    · rw [upd_ne (ne_of_none h hp), upd_ne (ne_of_none h hp)]
      exact ⟨h, g⟩
  have at_ : (m ++ [p])[S.length]? = some p := by
    rw [← r.len]
    simp
  refine ⟨⟨fun a u h => ?_, ?_, by simp [r.len], fun i a xs h1 h2 => ?_, tabs_keep r.tabs (fun b u h _ => ?_), nt_upd r.nt (by intro ps z; cases z)⟩, st, at_⟩
  · by_cases e : a = p
    · subst e
      rw [upd_same] at h ⊢
      exact h
    · rw [upd_ne e] at h ⊢
      exact r.sub a u h
  · rw [List.nodup_append]
    exact ⟨r.nd, by simp, fun a ha b hb => by rw [List.mem_singleton.mp hb]; intro z; subst z; exact pm ha⟩
  · by_cases hi : i < m.length
    · rw [List.getElem?_append_left hi] at h1
      rw [List.getElem?_append_left (by rw [← r.len]; exact hi)] at h2
      obtain ⟨ws, h3, h4⟩ := r.sto i a xs h1 h2
      exact ⟨ws, by rw [upd_ne (ne_of_none h3 gp)]; exact h3, h4.mono r st⟩
    · have hl : i < (m ++ [p]).length := (List.getElem?_eq_some_iff.mp h1).1
      rw [List.length_append, List.length_singleton] at hl
      have e : i = m.length := by omega
      subst e
      rw [r.len, at_] at h1
      cases h1
      have z : (S ++ [ds])[m.length]? = some ds := by
        rw [r.len]
        simp
      rw [z] at h2
      cases h2
      exact ⟨vs, upd_same, hd.mono r st⟩
  · rw [upd_ne (ne_of_none h hp)]
    exact h
/-- a growing list changes -/
theorem Rp.put (r : Rp K T m S G H) {i : Nat} {a : Addr} {ds : List D} {vs : List V} (hi : m[i]? = some a) (hd : DRs K m G ds vs) :
    Rp K T m (S.set i ds) (upd G a (.lst vs)) (upd H a (.lst vs)) ∧ Stp m G H m (upd G a (.lst vs)) (upd H a (.lst vs)) := by
  have am : a ∈ m := List.mem_iff_getElem?.mpr ⟨i, hi⟩
  obtain ⟨ws, ga⟩ := r.lists am
  have st : Stp m G H m (upd G a (.lst vs)) (upd H a (.lst vs)) := by
    refine ⟨⟨[], by simp, by simp⟩, fun b u h n => ?_, fun b u h => ?_, fun b u h g _ => ?_⟩
    · rw [upd_ne (fun z : b = a => n (by rw [z]; exact am))]
      exact h
    · by_cases e : b = a
      · subst e
        exact ⟨_, upd_same⟩
      · exact ⟨u, by rw [upd_ne e]; exact h⟩
    · have e : b ≠ a := fun z => by
        subst z
        rw [ga] at g
        cases g
      rw [upd_ne e, upd_ne e]
      exact ⟨h, g⟩
  refine ⟨⟨fun b u h => ?_, r.nd, by rw [List.length_set]; exact r.len, fun j b xs h1 h2 => ?_, tabs_keep r.tabs (fun b u h n => ?_), nt_upd r.nt (by intro ps z; cases z)⟩, st⟩
  · by_cases e : b = a
    · subst e
      rw [upd_same] at h ⊢
      exact h
    · rw [upd_ne e] at h ⊢
      exact r.sub b u h
  · by_cases e : j = i
    · subst e
      rw [hi] at h1
      cases h1
      have hl : j < S.length := by
        rw [← r.len]
        exact (List.getElem?_eq_some_iff.mp hi).1
      rw [List.getElem?_set_self hl] at h2
      cases h2
      exact ⟨vs, upd_same, hd.mono r st⟩
    · have hne : b ≠ a := fun z => by
        subst z
        exact e ((List.getElem?_inj (List.getElem?_eq_some_iff.mp h1).1 r.nd).mp (h1.trans hi.symm))
      rw [List.getElem?_set_ne (Ne.symm e)] at h2
      obtain ⟨us, h3, h4⟩ := r.sto j b xs h1 h2
      exact ⟨us, by rw [upd_ne hne]; exact h3, h4.mono r st⟩
  · have e : b ≠ a := fun z => by
      subst z
      have := r.sub _ _ ga
      rw [h] at this
      cases this
      exact n _ rfl
    rw [upd_ne e]
    exact h
end

/-! the variables of a def -/
structure RE (K : PySem.W.Frag) (m : List Addr) (G : Hp) (env : Vars) (σ : L2.St) : Prop where
  len : env.length = σ.length
  at_ : ∀ (i : Nat) (d : D), env[i]? = some (some d) → ∃ v, σ[i]? = some (some v) ∧ DR K m G d v
section
variable {K : PySem.W.Frag} {T : List (Addr × Str)} {m m1 : List Addr} {G G1 H H1 : Hp} {S : Sto} {env : Vars} {σ : L2.St}
theorem RE.mono (e : RE K m G env σ) (r : Rp K T m S G H) (s : Stp m G H m1 G1 H1) : RE K m1 G1 env σ :=
  ⟨e.len, fun i d h => let ⟨v, h1, h2⟩ := e.at_ i d h; ⟨v, h1, h2.mono r s⟩⟩
theorem RE.set (e : RE K m G env σ) {i : Nat} {d : D} {v : V} (h : DR K m G d v) : RE K m G (env.set i (some d)) (σ.set i (some v)) := by
  refine ⟨by rw [List.length_set, List.length_set]; exact e.len, fun j c hj => ?_⟩
  by_cases z : j = i
  · subst z
    by_cases hl : j < env.length
    · rw [List.getElem?_set_self hl] at hj
      cases hj
      exact ⟨v, List.getElem?_set_self (by rw [← e.len]; exact hl), h⟩
    · rw [List.getElem?_eq_none (by simpa using hl)] at hj
      cases hj
  · rw [List.getElem?_set_ne (Ne.symm z)] at hj ⊢
    exact e.at_ j c hj
theorem RE.unset (e : RE K m G env σ) {i : Nat} {o : Option V} : RE K m G (env.set i none) (σ.set i o) := by
  refine ⟨by rw [List.length_set, List.length_set]; exact e.len, fun j c hj => ?_⟩
  by_cases z : j = i
  · subst z
    by_cases hl : j < env.length
    · rw [List.getElem?_set_self hl] at hj
      cases hj
    · rw [List.getElem?_eq_none (by simpa using hl)] at hj
      cases hj
  · rw [List.getElem?_set_ne (Ne.symm z)] at hj ⊢
    exact e.at_ j c hj
end
def DE (K : PySem.W.Frag) (m : List Addr) (G : Hp) (e : Er) (cls : Value) (dd : Option Addr) : Prop :=
  cls = .ref e.1 ∧ match e.2 with
    | none => dd = none
    | some fs => ∃ a vs, dd = some a ∧ G a = some (.xd vs) ∧ vs.map (·.1) = fs.map (·.1) ∧ DRs K m G (fs.map (·.2)) (vs.map (·.2))
theorem DE.mono {K : PySem.W.Frag} {T : List (Addr × Str)} {m m1 : List Addr} {G G1 H H1 : Hp} {S : Sto} {e : Er} {cls : Value} {dd : Option Addr} (r : Rp K T m S G H) (s : Stp m G H m1 G1 H1) (h : DE K m G e cls dd) : DE K m1 G1 e cls dd := by
  obtain ⟨C, fs⟩ := e
  obtain ⟨h1, h2⟩ := h
  refine ⟨h1, ?_⟩
  cases fs with
  | none => exact h2
  | some fs =>
    obtain ⟨a, vs, h3, h4, h5, h6⟩ := h2
    exact ⟨a, vs, h3, s.keep _ _ h4 (notMem r h4 (by intro vs z; cases z)), h5, h6.mono r s⟩
end DL

set_option maxHeartbeats 4000000
namespace DL
open PySem PySem.Spec PyProof.Rows L2

abbrev KR := D → Sto → Prop
abbrev KX := Er → Vars → Sto → Prop
abbrev WE' := Vars → Sto → KR → KX → Prop
abbrev WT' := Vars → Sto → (Bool → Sto → Prop) → KX → Prop
abbrev WA' := Vars → Sto → (List D → Sto → Prop) → KX → Prop
/-- by values -/
abbrev F2 := D → D → Sto → KR → Prop
abbrev F1 := D → Sto → KR → Prop
abbrev FL := List D → Sto → KR → Prop
structure Ds where
  nx : Vars → Sto → Prop
  rt : KR
  bk : Vars → Sto → Prop
  ct : Vars → Sto → Prop
  ex : KX
abbrev WS' := Vars → Sto → Ds → Prop
abbrev WG' := D → Vars → Sto → (Vars → Sto → Prop) → Prop
abbrev WGs' := List D → Vars → Sto → (Vars → Sto → Prop) → Prop
/-- a def's promise -/
abbrev SpD := List D → Sto → KR → (Er → Sto → Prop) → Prop

section
variable (K : PySem.W.Frag) (T : List (Addr × Str)) (W : WX)
def Exl (m : List Addr) (G H : Hp) (Rx : KX) : Prop :=
  ∀ e env S cls dd σ m' G' H', Rx e env S → Stp m G H m' G' H' → Rp K T m' S G' H' → RE K m' G' env σ → DE K m' G' e cls dd → W cls dd σ H'
def Okl (m : List Addr) (G H : Hp) (R : KR) (Q : VK) : Prop :=
  ∀ d S v m' G' H', R d S → Stp m G H m' G' H' → Rp K T m' S G' H' → DR K m' G' d v → Q v H'
def lE (w : WE') : TE := fun σ H Q => ∃ G env S m R Rx, RE K m G env σ ∧ Rp K T m S G H ∧ w env S R Rx ∧ Okl K T m G H R Q ∧ Exl K T W m G H Rx
def lT (w : WT') : TT := fun σ H Q => ∃ G env S m R Rx, RE K m G env σ ∧ Rp K T m S G H ∧ w env S R Rx ∧
  (∀ b S' m' G' H', R b S' → Stp m G H m' G' H' → Rp K T m' S' G' H' → Q b H') ∧ Exl K T W m G H Rx
def lA (w : WA') : TA := fun σ H Q => ∃ G env S m R Rx, RE K m G env σ ∧ Rp K T m S G H ∧ w env S R Rx ∧
  (∀ ds S' vs m' G' H', R ds S' → Stp m G H m' G' H' → Rp K T m' S' G' H' → DRs K m' G' ds vs → Q vs H') ∧ Exl K T W m G H Rx
def lO (f : F2) : R2 := fun x y H Q => ∃ G a b S m R, DR K m G a x ∧ DR K m G b y ∧ Rp K T m S G H ∧ f a b S R ∧ Okl K T m G H R Q
def lU (f : F1) : V → Hp → VK → Prop := fun x H Q => ∃ G a S m R, DR K m G a x ∧ Rp K T m S G H ∧ f a S R ∧ Okl K T m G H R Q
def lC (f : FL) : List V → Hp → VK → Prop := fun vs H Q => ∃ G ds S m R, DRs K m G ds vs ∧ Rp K T m S G H ∧ f ds S R ∧ Okl K T m G H R Q
end
section
variable {K : PySem.W.Frag} {T : List (Addr × Str)} {W : WX} {m m1 : List Addr} {G G1 H H1 : Hp} {R : KR} {Rx : KX} {Q : VK}
theorem Exl.on (h : Exl K T W m G H Rx) (s : Stp m G H m1 G1 H1) : Exl K T W m1 G1 H1 Rx :=
  fun e env S cls dd σ m' G' H' hr hs hp he hd => h e env S cls dd σ m' G' H' hr (s.trans hs) hp he hd
theorem Okl.on (h : Okl K T m G H R Q) (s : Stp m G H m1 G1 H1) : Okl K T m1 G1 H1 R Q :=
  fun d S v m' G' H' hr hs hp hd => h d S v m' G' H' hr (s.trans hs) hp hd
theorem Okl.at {S : Sto} {d : D} {v : V} (h : Okl K T m G H R Q) (hr : R d S) (hp : Rp K T m S G H) (hd : DR K m G d v) : Q v H := h d S v m G H hr Stp.refl hp hd
end

def PD (X : Cx) (T : List (Addr × Str)) (W : WX) (e : Expr) (w : WE') : Prop := PE X e (lE X.K T W w)
def PTD (X : Cx) (T : List (Addr × Str)) (W : WX) (e : Expr) (w : WT') : Prop := PT X e (lT X.K T W w)
def PWD (X : Cx) (T : List (Addr × Str)) (W : WX) (e : Expr) (w : WT') : Prop := PW X e (lT X.K T W w)
def PAD (X : Cx) (T : List (Addr × Str)) (W : WX) (es : List Expr) (w : WA') : Prop := PA X es (lA X.K T W w)

theorem pe_imp {X : Cx} {e : Expr} {t t' : TE} (h : PE X e t) (i : ∀ σ H Q, t' σ H Q → t σ H Q) : PE X e t' := ⟨fun pins s σ H Q I q => h.run pins s σ H Q I (i σ H Q q)⟩
theorem pt_imp {X : Cx} {e : Expr} {t t' : TT} (h : PT X e t) (i : ∀ σ H Q, t' σ H Q → t σ H Q) : PT X e t' := ⟨fun pins s σ H Q I q => h.run pins s σ H Q I (i σ H Q q)⟩
theorem pw_imp {X : Cx} {e : Expr} {t t' : TT} (h : PW X e t) (i : ∀ σ H Q, t' σ H Q → t σ H Q) : PW X e t' := ⟨fun w pins s σ H Q I q => h.run w pins s σ H Q I (i σ H Q q)⟩
theorem pa_imp {X : Cx} {es : List Expr} {t t' : TA} (h : PA X es t) (i : ∀ σ H Q, t' σ H Q → t σ H Q) : PA X es t' := ⟨fun pos pins s σ H Q I q => h.run pos pins s σ H Q I (i σ H Q q)⟩

/-! the readings -/
def wVar (i : Nat) : WE' := fun env S R _ => ∃ d, env[i]? = some (some d) ∧ R d S
def wC (d : D) : WE' := fun _ S R _ => R d S
def wBin (f : F2) (a b : WE') : WE' := fun env S R Rx => a env S (fun x S1 => b env S1 (fun y S2 => f x y S2 R) Rx) Rx
def wUn (f : F1) (a : WE') : WE' := fun env S R Rx => a env S (fun x S1 => f x S1 R) Rx
def wAs0 : WA' := fun _ S R _ => R [] S
def wAs1 (a : WE') (as : WA') : WA' := fun env S R Rx => a env S (fun x S1 => as env S1 (fun xs S2 => R (x :: xs) S2) Rx) Rx
def wTup (as : WA') : WE' := fun env S R Rx => as env S (fun ds S1 => ds.length ≤ sizeLine ∧ R (.tup ds) S1) Rx
def wLst (as : WA') : WE' := fun env S R Rx => as env S (fun ds S1 => ds.length ≤ sizeLine ∧ R (.lst ds) S1) Rx
/-- a list that will grow -/
def wMu (as : WA') : WE' := fun env S R Rx => as env S (fun ds S1 => ds.length ≤ sizeLine ∧ R (.mu S1.length) (S1 ++ [ds])) Rx
def wCB (f : FL) (as : WA') : WE' := fun env S R Rx => as env S (fun ds S1 => f ds S1 R) Rx
def wCall (p : SpD) (as : WA') (more : List D) : WE' := fun env S R Rx => as env S (fun ds S1 => p (ds ++ more) S1 R (fun e S2 => Rx e env S2)) Rx
def wB (a : WE') : WT' := fun env S R Rx => a env S (fun d S1 => ∃ b, d = .bl b ∧ R b S1) Rx
def wNotT (t : WT') : WT' := fun env S R Rx => t env S (fun b S1 => R (!b) S1) Rx
def wAndT (t u : WT') : WT' := fun env S R Rx => t env S (fun b S1 => if b = true then u env S1 R Rx else R false S1) Rx
def wOrT (t u : WT') : WT' := fun env S R Rx => t env S (fun b S1 => if b = true then R true S1 else u env S1 R Rx) Rx
def wAndV (a b : WE') : WE' := fun env S R Rx => a env S (fun x S1 => ∃ c, x = .bl c ∧ if c = true then b env S1 R Rx else R (.bl false) S1) Rx
def wOrV (a b : WE') : WE' := fun env S R Rx => a env S (fun x S1 => ∃ c, x = .bl c ∧ if c = true then R (.bl true) S1 else b env S1 R Rx) Rx
def wNotV (a : WE') : WE' := fun env S R Rx => a env S (fun x S1 => ∃ c, x = .bl c ∧ R (.bl (!c)) S1) Rx
def wIf (t : WT') (a b : WE') : WE' := fun env S R Rx => t env S (fun c S1 => if c = true then a env S1 R Rx else b env S1 R Rx) Rx

section
variable {X : Cx} {T : List (Addr × Str)} {W : WX} {e a b c : Expr} {es : List Expr} {pos : Pos} {wa wb : WE'} {ta tb : WT'} {as : WA'}
theorem pd_var (i : Nat) {x : Str} (hN : X.N[i]? = some x := by rfl) (hv : Vis X.env.scope x := by first | exact Or.inl rfl | exact Or.inr (Or.inl rfl) | exact Or.inr (Or.inr rfl)) (hd : (x == ("__debug__" : Str)) = false := by decide)
    (hcd : (x == ("__classdict__" : Str)) = false := by decide) : PD X T W (.Name x pos) (wVar i) := by
  refine pe_imp (pe_var hN hv hd hcd) fun σ H Q ⟨G, env, S, m, R, Rx, he, hp, ⟨d, h1, h2⟩, hk, _⟩ => ?_
  obtain ⟨v, h3, h4⟩ := he.at_ i d h1
  exact ⟨v, h3, hk.at h2 hp h4⟩
theorem pd_c {d : D} {v : V} (h : PE X e (tC v)) (r : ∀ m G, DR X.K m G d v) : PD X T W e (wC d) :=
  pe_imp h fun σ H Q ⟨G, env, S, m, R, Rx, he, hp, h, hk, _⟩ => hk.at h hp (r m G)
theorem pd_int {i j} : PD X T W (.Constant (.int i) j pos) (wC (.int i)) := pd_c pe_int fun _ _ => .int i
theorem pd_bl {i j} : PD X T W (.Constant (.bool i) j pos) (wC (.bl i)) := pd_c pe_bl fun _ _ => .bl i
theorem pd_non {j} : PD X T W (.Constant .none j pos) (wC .non) := pd_c pe_non fun _ _ => .non
theorem pd_str {i j} : PD X T W (.Constant (.str i) j pos) (wC (.str i)) := pd_c pe_str fun _ _ => .str i
theorem pd_ty {x : Str} {n : String} (hg : Gl X x) (hm : X.mg x = none) (hv : bootBuiltins x = some (.type n)) (hn : x ≠ "__name__" := by decide) (hd : (x == ("__debug__" : Str)) = false := by decide) : PD X T W (.Name x pos) (wC (.ty n)) :=
  pd_c (v := .ty n) (pe_bltn hg hm hv rfl hn hd) fun _ _ => .ty n
theorem pd_ob {x : Str} {f : Addr} (hg : Gl X x) (hm : X.mg x = some (.ref f)) (hd : (x == ("__debug__" : Str)) = false := by decide) : PD X T W (.Name x pos) (wC (.ob f)) :=
  pd_c (v := .ref f) (pe_glob hg hm rfl hd) fun _ _ => .ob f
/-- a constant of the module that is plain data -/
theorem pd_con {x : Str} {u : Value} {v : V} {d : D} (hg : Gl X x) (hm : X.mg x = some u) (r : RelV v u) (rd : ∀ m G, DR X.K m G d v) (hd : (x == ("__debug__" : Str)) = false := by decide) : PD X T W (.Name x pos) (wC d) :=
  pd_c (pe_glob hg hm r hd) rd
theorem lE_of {σ : L2.St} {H : Hp} {Q : VK} {G env S m R Rx} {w : WE'} (he : RE X.K m G env σ) (hp : Rp X.K T m S G H) (h : w env S R Rx) (hk : Okl X.K T m G H R Q) (hx : Exl X.K T W m G H Rx) : lE X.K T W w σ H Q := ⟨G, env, S, m, R, Rx, he, hp, h, hk, hx⟩
theorem pd_bin {op : Operator} {f : F2} (ho : OpR X (binaryOp op) (lO X.K T f)) (ha : PD X T W a wa) (hb : PD X T W b wb) : PD X T W (.BinOp a op b pos) (wBin f wa wb) := by
  refine pe_imp (pe_op ho ha hb) fun σ H Q ⟨G, env, S, m, R, Rx, he, hp, h, hk, hx⟩ => ?_
  refine lE_of he hp h (fun x S1 v m1 G1 H1 h1 s1 p1 d1 => ?_) hx
  refine lE_of (he.mono hp s1) p1 h1 (fun y S2 u m2 G2 H2 h2 s2 p2 d2 => ?_) (hx.on s1)
  exact ⟨G2, x, y, S2, m2, R, d1.mono p1 s2, d2, p2, h2, hk.on (s1.trans s2)⟩
theorem pd_cmp {op : CmpOp} {f : F2} (ho : OpR X (compareOp op) (lO X.K T f)) (hm : behindInMarks op b = false) (ha : PD X T W a wa) (hb : PD X T W b wb) : PD X T W (.Compare a [op] [b] pos) (wBin f wa wb) := by
  refine pe_imp (pe_cmpR ho ha hb hm) fun σ H Q ⟨G, env, S, m, R, Rx, he, hp, h, hk, hx⟩ => ?_
  refine lE_of he hp h (fun x S1 v m1 G1 H1 h1 s1 p1 d1 => ?_) hx
  refine lE_of (he.mono hp s1) p1 h1 (fun y S2 u m2 G2 H2 h2 s2 p2 d2 => ?_) (hx.on s1)
  exact ⟨G2, x, y, S2, m2, R, d1.mono p1 s2, d2, p2, h2, hk.on (s1.trans s2)⟩
theorem pd_ix {f : F2} (hr : IxR X (lO X.K T f)) (ha : PD X T W a wa) (hb : PD X T W b wb) (hs : PlainIx b := by intro _ _; rfl) : PD X T W (.Subscript a b pos) (wBin f wa wb) := by
  refine pe_imp (pe_ix hr ha hb hs) fun σ H Q ⟨G, env, S, m, R, Rx, he, hp, h, hk, hx⟩ => ?_
  refine lE_of he hp h (fun x S1 v m1 G1 H1 h1 s1 p1 d1 => ?_) hx
  refine lE_of (he.mono hp s1) p1 h1 (fun y S2 u m2 G2 H2 h2 s2 p2 d2 => ?_) (hx.on s1)
  exact ⟨G2, x, y, S2, m2, R, d1.mono p1 s2, d2, p2, h2, hk.on (s1.trans s2)⟩
theorem pd_un {op : UnaryOp} {f : F1} (ho : UnR X (unaryOp op) (lU X.K T f)) (ha : PD X T W a wa) (hn : op ≠ .Not := by decide) : PD X T W (.UnaryOp op a pos) (wUn f wa) := by
  refine pe_imp (pe_un ho ha) fun σ H Q ⟨G, env, S, m, R, Rx, he, hp, h, hk, hx⟩ => ?_
  exact lE_of he hp h (fun x S1 v m1 G1 H1 h1 s1 p1 d1 => ⟨G1, x, S1, m1, R, d1, p1, h1, hk.on s1⟩) hx
theorem pad_nil : PAD X T W [] wAs0 := pa_imp pa_nil fun σ H Q ⟨G, env, S, m, R, Rx, he, hp, h, hk, hx⟩ => hk [] S [] m G H h Stp.refl hp .nil
theorem pad_cons (ha : PD X T W e wa) (hr : PAD X T W es as) (hs : starEach (e :: es) X.env = (false, eval e X.env) :: starEach es X.env := by rfl) : PAD X T W (e :: es) (wAs1 wa as) := by
  refine pa_imp (pa_cons ha hr hs) fun σ H Q ⟨G, env, S, m, R, Rx, he, hp, h, hk, hx⟩ => ?_
  refine lE_of he hp h (fun x S1 v m1 G1 H1 h1 s1 p1 d1 => ?_) hx
  exact ⟨G1, env, S1, m1, _, Rx, he.mono hp s1, p1, h1, fun xs S2 vs m2 G2 H2 h2 s2 p2 d2 => hk _ S2 _ m2 G2 H2 h2 (s1.trans s2) p2 (.cons (d1.mono p1 s2) d2), hx.on s1⟩
theorem pd_tup {x1} (h : PAD X T W es as) : PD X T W (.Tuple es x1 pos) (wTup as) := by
  refine pe_imp (pe_tup h) fun σ H Q ⟨G, env, S, m, R, Rx, he, hp, h, hk, hx⟩ => ?_
  refine ⟨G, env, S, m, _, Rx, he, hp, h, fun ds S1 vs m1 G1 H1 h1 s1 p1 d1 => ⟨by rw [← d1.length]; exact h1.1, fun p np => ?_⟩, hx⟩
  obtain ⟨r1, r2⟩ := p1.new (o := .tup vs) np
  exact hk _ S1 _ m1 _ _ h1.2 (s1.trans r2) r1 (.tup (SqT.of upd_same) (d1.mono p1 r2))
theorem pd_lst (h : PAD X T W es as) : PD X T W (.List es pos) (wLst as) := by
  refine pe_imp (pe_lst h) fun σ H Q ⟨G, env, S, m, R, Rx, he, hp, h, hk, hx⟩ => ?_
  refine ⟨G, env, S, m, _, Rx, he, hp, h, fun ds S1 vs m1 G1 H1 h1 s1 p1 d1 => ⟨by rw [← d1.length]; exact h1.1, fun p np => ?_⟩, hx⟩
  obtain ⟨r1, r2⟩ := p1.new (o := .lst vs) np
  refine hk _ S1 _ m1 _ _ h1.2 (s1.trans r2) r1 (.lst upd_same (fun z => ?_) (d1.mono p1 r2))
  obtain ⟨ws, e⟩ := p1.lists z
  have := p1.sub _ _ e
  rw [np] at this
  cases this
theorem pd_mu (h : PAD X T W es as) : PD X T W (.List es pos) (wMu as) := by
  refine pe_imp (pe_lst h) fun σ H Q ⟨G, env, S, m, R, Rx, he, hp, h, hk, hx⟩ => ?_
  refine ⟨G, env, S, m, _, Rx, he, hp, h, fun ds S1 vs m1 G1 H1 h1 s1 p1 d1 => ⟨by rw [← d1.length]; exact h1.1, fun p np => ?_⟩, hx⟩
  obtain ⟨r1, r2, r3⟩ := p1.newMu np d1
  exact hk _ _ _ _ _ _ h1.2 (s1.trans r2) r1 (.mu r3)
theorem pd_callB {x : Str} {p : Pos} {id : String} {f : FL} (hc : CallR X (.builtin id) (lC X.K T f)) (hg : Gl X x) (hm : X.mg x = none) (hv : bootBuiltins x = some (.builtin id)) (h : PAD X T W (e :: es) as) (hn : x ≠ "__name__" := by decide)
    (hdb : (x == ("__debug__" : Str)) = false := by decide) (he : starEach (e :: es) X.env = (false, eval e X.env) :: starEach es X.env := by rfl) (hpl : (backTo pos (starEach es X.env)).any (·.1) = false := by rfl) : PD X T W (.Call (.Name x p) (e :: es) [] pos) (wCB f as) := by
  refine pe_imp (pe_callB hc hg hm hv h hn hdb he hpl) fun σ H Q ⟨G, env, S, m, R, Rx, he, hp, h, hk, hx⟩ => ?_
  exact ⟨G, env, S, m, _, Rx, he, hp, h, fun ds S1 vs m1 G1 H1 h1 s1 p1 d1 => ⟨G1, ds, S1, m1, R, d1, p1, h1, hk.on s1⟩, hx⟩
theorem pd_callF {x : Str} {p : Pos} {id : String} {f : FL} (hc : CallR X (.builtin id) (lC X.K T f)) (hg : Gl X x) (hm : X.mg x = some (.builtin id)) (h : PAD X T W (e :: es) as)
    (hdb : (x == ("__debug__" : Str)) = false := by decide) (he : starEach (e :: es) X.env = (false, eval e X.env) :: starEach es X.env := by rfl) (hpl : (backTo pos (starEach es X.env)).any (·.1) = false := by rfl) : PD X T W (.Call (.Name x p) (e :: es) [] pos) (wCB f as) := by
  refine pe_imp (pe_callBfun hc hg hm h hdb he hpl) fun σ H Q ⟨G, env, S, m, R, Rx, he, hp, h, hk, hx⟩ => ?_
  exact ⟨G, env, S, m, _, Rx, he, hp, h, fun ds S1 vs m1 G1 H1 h1 s1 p1 d1 => ⟨G1, ds, S1, m1, R, d1, p1, h1, hk.on s1⟩, hx⟩
theorem pd_callTy {x : Str} {p : Pos} {id : String} {f : FL} (hc : CallR X (.type id) (lC X.K T f)) (hg : Gl X x) (hm : X.mg x = none) (hv : bootBuiltins x = some (.type id)) (h : PAD X T W (e :: es) as) (hn : x ≠ "__name__" := by decide)
    (hdb : (x == ("__debug__" : Str)) = false := by decide) (he : starEach (e :: es) X.env = (false, eval e X.env) :: starEach es X.env := by rfl) (hpl : (backTo pos (starEach es X.env)).any (·.1) = false := by rfl) : PD X T W (.Call (.Name x p) (e :: es) [] pos) (wCB f as) := by
  refine pe_imp (pe_callTy hc hg hm hv h hn hdb he hpl) fun σ H Q ⟨G, env, S, m, R, Rx, he, hp, h, hk, hx⟩ => ?_
  exact ⟨G, env, S, m, _, Rx, he, hp, h, fun ds S1 vs m1 G1 H1 h1 s1 p1 d1 => ⟨G1, ds, S1, m1, R, d1, p1, h1, hk.on s1⟩, hx⟩
/-! tests -/
theorem ptd_val (h : PD X T W e wa) (hs : ∀ whole, isTrue e X.env whole = (do let v ← whole; standAt e.pos; holding [v] (truthy v)) := by intro _; rfl) : PTD X T W e (wB wa) := by
  refine pt_imp (pt_val h hs) fun σ H Q ⟨G, env, S, m, R, Rx, he, hp, h, hk, hx⟩ => ?_
  refine lE_of he hp h (fun x S1 v m1 G1 H1 ⟨b, hb, h1⟩ s1 p1 d1 => ?_) hx
  subst hb
  cases d1
  exact ⟨b, rfl, hk b S1 m1 G1 H1 h1 s1 p1⟩
theorem ptd_cmp {op : CmpOp} {f : F2} (ho : OpR X (compareOp op) (lO X.K T f)) (hm : behindInMarks op b = false) (ha : PD X T W a wa) (hb : PD X T W b wb) : PTD X T W (.Compare a [op] [b] pos) (wB (wBin f wa wb)) := by
  refine pt_imp (pt_cmpR ho ha hb hm) fun σ H Q ⟨G, env, S, m, R, Rx, he, hp, h, hk, hx⟩ => ?_
  refine lE_of he hp h (fun x S1 v m1 G1 H1 h1 s1 p1 d1 => ?_) hx
  refine lE_of (he.mono hp s1) p1 h1 (fun y S2 u m2 G2 H2 h2 s2 p2 d2 => ?_) (hx.on s1)
  refine ⟨G2, x, y, S2, m2, _, d1.mono p1 s2, d2, p2, h2, fun d S3 z m3 G3 H3 ⟨c, hc, h3⟩ s3 p3 d3 => ?_⟩
  subst hc
  cases d3
  exact ⟨c, rfl, hk c S3 m3 G3 H3 h3 ((s1.trans s2).trans s3) p3⟩
theorem ptd_not (h : PTD X T W a ta) : PTD X T W (.UnaryOp .Not a pos) (wNotT ta) := by
  refine pt_imp (pt_not h) fun σ H Q ⟨G, env, S, m, R, Rx, he, hp, h, hk, hx⟩ => ?_
  exact ⟨G, env, S, m, _, Rx, he, hp, h, fun b S1 m1 G1 H1 h1 s1 p1 => hk _ S1 m1 G1 H1 h1 s1 p1, hx⟩
theorem pwd_and1 (h : PTD X T W a ta) : PWD X T W (.BoolOp .And [a] pos) ta := pw_and1 h
theorem pwd_or1 (h : PTD X T W a ta) : PWD X T W (.BoolOp .Or [a] pos) ta := pw_or1 h
theorem pwd_and (h : PTD X T W a ta) (hb : PWD X T W (.BoolOp .And (b :: es) pos) tb) : PWD X T W (.BoolOp .And (a :: b :: es) pos) (wAndT ta tb) := by
  refine pw_imp (pw_and h hb) fun σ H Q ⟨G, env, S, m, R, Rx, he, hp, h, hk, hx⟩ => ?_
  refine ⟨G, env, S, m, _, Rx, he, hp, h, fun b S1 m1 G1 H1 h1 s1 p1 => ?_, hx⟩
  cases b with
  | true => exact ⟨G1, env, S1, m1, R, Rx, he.mono hp s1, p1, h1, fun b S2 m2 G2 H2 h2 s2 p2 => hk b S2 m2 G2 H2 h2 (s1.trans s2) p2, hx.on s1⟩
  | false => exact hk false S1 m1 G1 H1 h1 s1 p1
theorem pwd_or (h : PTD X T W a ta) (hb : PWD X T W (.BoolOp .Or (b :: es) pos) tb) : PWD X T W (.BoolOp .Or (a :: b :: es) pos) (wOrT ta tb) := by
  refine pw_imp (pw_or h hb) fun σ H Q ⟨G, env, S, m, R, Rx, he, hp, h, hk, hx⟩ => ?_
  refine ⟨G, env, S, m, _, Rx, he, hp, h, fun b S1 m1 G1 H1 h1 s1 p1 => ?_, hx⟩
  cases b with
  | true => exact hk true S1 m1 G1 H1 h1 s1 p1
  | false => exact ⟨G1, env, S1, m1, R, Rx, he.mono hp s1, p1, h1, fun b S2 m2 G2 H2 h2 s2 p2 => hk b S2 m2 G2 H2 h2 (s1.trans s2) p2, hx.on s1⟩
theorem ptd_w (h : PWD X T W e ta) : PTD X T W e ta := PW.pt h
theorem pd_one {op} (h : PD X T W a wa) : PD X T W (.BoolOp op [a] pos) wa := pe_one h
theorem pd_and (ha : PD X T W a wa) (hb : PD X T W (.BoolOp .And (b :: es) pos) wb) : PD X T W (.BoolOp .And (a :: b :: es) pos) (wAndV wa wb) := by
  refine pe_imp (pe_and ha hb) fun σ H Q ⟨G, env, S, m, R, Rx, he, hp, h, hk, hx⟩ => ?_
  refine lE_of he hp h (fun x S1 v m1 G1 H1 ⟨c, hc, h1⟩ s1 p1 d1 => ?_) hx
  subst hc
  cases d1
  refine ⟨c, rfl, ?_⟩
  cases c with
  | true => exact lE_of (he.mono hp s1) p1 h1 (hk.on s1) (hx.on s1)
  | false => exact hk _ S1 _ m1 G1 H1 h1 s1 p1 (.bl _)
theorem pd_or (ha : PD X T W a wa) (hb : PD X T W (.BoolOp .Or (b :: es) pos) wb) : PD X T W (.BoolOp .Or (a :: b :: es) pos) (wOrV wa wb) := by
  refine pe_imp (pe_or ha hb) fun σ H Q ⟨G, env, S, m, R, Rx, he, hp, h, hk, hx⟩ => ?_
  refine lE_of he hp h (fun x S1 v m1 G1 H1 ⟨c, hc, h1⟩ s1 p1 d1 => ?_) hx
  subst hc
  cases d1
  refine ⟨c, rfl, ?_⟩
  cases c with
  | true => exact hk _ S1 _ m1 G1 H1 h1 s1 p1 (.bl _)
  | false => exact lE_of (he.mono hp s1) p1 h1 (hk.on s1) (hx.on s1)
theorem pd_not (ha : PD X T W a wa) : PD X T W (.UnaryOp .Not a pos) (wNotV wa) := by
  refine pe_imp (pe_not ha) fun σ H Q ⟨G, env, S, m, R, Rx, he, hp, h, hk, hx⟩ => ?_
  refine lE_of he hp h (fun x S1 v m1 G1 H1 ⟨c, hc, h1⟩ s1 p1 d1 => ?_) hx
  subst hc
  cases d1
  exact ⟨c, rfl, hk _ S1 _ m1 G1 H1 h1 s1 p1 (.bl _)⟩
theorem pd_if (hc : PTD X T W c ta) (ha : PD X T W a wa) (hb : PD X T W b wb) : PD X T W (.IfExp c a b pos) (wIf ta wa wb) := by
  refine pe_imp (pe_ifExp hc ha hb) fun σ H Q ⟨G, env, S, m, R, Rx, he, hp, h, hk, hx⟩ => ?_
  refine ⟨G, env, S, m, _, Rx, he, hp, h, fun b S1 m1 G1 H1 h1 s1 p1 => ?_, hx⟩
  cases b with
  | true => exact lE_of (he.mono hp s1) p1 h1 (hk.on s1) (hx.on s1)
  | false => exact lE_of (he.mono hp s1) p1 h1 (hk.on s1) (hx.on s1)
end
end DL

set_option maxHeartbeats 4000000
namespace DL
open PySem PySem.Spec PyProof.Rows L2

/-! what is wanted behind a statement -/
structure Lk (K : PySem.W.Frag) (T : List (Addr × Str)) (W : WX) (m : List Addr) (G H : Hp) (E : Ds) (D : Ends) : Prop where
  nx : ∀ env S σ m' G' H', E.nx env S → Stp m G H m' G' H' → Rp K T m' S G' H' → RE K m' G' env σ → D.nx σ H'
  bk : ∀ env S σ m' G' H', E.bk env S → Stp m G H m' G' H' → Rp K T m' S G' H' → RE K m' G' env σ → D.bk σ H'
  ct : ∀ env S σ m' G' H', E.ct env S → Stp m G H m' G' H' → Rp K T m' S G' H' → RE K m' G' env σ → D.ct σ H'
  rt : Okl K T m G H E.rt D.rt
  ex : Exl K T W m G H E.ex
def lS (K : PySem.W.Frag) (T : List (Addr × Str)) (W : WX) (w : WS') : TS := fun D σ H => ∃ G env S m E, RE K m G env σ ∧ Rp K T m S G H ∧ w env S E ∧ Lk K T W m G H E D
def PSD (X : Cx) (T : List (Addr × Str)) (W : WX) (st : Stmt) (w : WS') : Prop := PS X st (lS X.K T W w)
def PSsD (X : Cx) (T : List (Addr × Str)) (W : WX) (st : List Stmt) (w : WS') : Prop := PSs X st (lS X.K T W w)
def lG (K : PySem.W.Frag) (T : List (Addr × Str)) (g : WG') : TG := fun v σ H Q => ∃ G d env S m R, DR K m G d v ∧ RE K m G env σ ∧ Rp K T m S G H ∧ g d env S R ∧
  ∀ env' S' σ' m' G' H', R env' S' → Stp m G H m' G' H' → Rp K T m' S' G' H' → RE K m' G' env' σ' → Q σ' H'
def lGs (K : PySem.W.Frag) (T : List (Addr × Str)) (g : WGs') : TGs := fun vs σ H Q => ∃ G ds env S m R, DRs K m G ds vs ∧ RE K m G env σ ∧ Rp K T m S G H ∧ g ds env S R ∧
  ∀ env' S' σ' m' G' H', R env' S' → Stp m G H m' G' H' → Rp K T m' S' G' H' → RE K m' G' env' σ' → Q σ' H'
def PGD (X : Cx) (T : List (Addr × Str)) (e : Expr) (g : WG') : Prop := PG X e (lG X.K T g)
def PGsD (X : Cx) (T : List (Addr × Str)) (e : List Expr) (g : WGs') : Prop := PGs X e (lGs X.K T g)
theorem ps_imp {X : Cx} {e : Stmt} {t t' : TS} (h : PS X e t) (i : ∀ D σ H, t' D σ H → t D σ H) : PS X e t' := ⟨fun pins s σ H D I q => h.run pins s σ H D I (i D σ H q)⟩
theorem pss_imp {X : Cx} {e : List Stmt} {t t' : TS} (h : PSs X e t) (i : ∀ D σ H, t' D σ H → t D σ H) : PSs X e t' := ⟨fun pins s σ H D I q => h.run pins s σ H D I (i D σ H q)⟩
theorem pg_imp {X : Cx} {e : Expr} {t t' : TG} (h : PG X e t) (i : ∀ v σ H Q, t' v σ H Q → t v σ H Q) : PG X e t' := ⟨fun pins s σ H v u Q I r q => h.run pins s σ H v u Q I r (i v σ H Q q)⟩
theorem pgs_imp {X : Cx} {e : List Expr} {t t' : TGs} (h : PGs X e t) (i : ∀ v σ H Q, t' v σ H Q → t v σ H Q) : PGs X e t' := ⟨fun pins s σ H v u Q I r q => h.run pins s σ H v u Q I r (i v σ H Q q)⟩

section
variable {K : PySem.W.Frag} {T : List (Addr × Str)} {W : WX} {m m1 : List Addr} {G G1 H H1 : Hp} {E : Ds} {D : Ends}
theorem Lk.on (l : Lk K T W m G H E D) (s : Stp m G H m1 G1 H1) : Lk K T W m1 G1 H1 E D :=
  ⟨fun env S σ m' G' H' h t p r => l.nx env S σ m' G' H' h (s.trans t) p r, fun env S σ m' G' H' h t p r => l.bk env S σ m' G' H' h (s.trans t) p r, fun env S σ m' G' H' h t p r => l.ct env S σ m' G' H' h (s.trans t) p r, l.rt.on s, l.ex.on s⟩
theorem Lk.next (l : Lk K T W m G H E D) {nx : Vars → Sto → Prop} {dn : L2.St → Hp → Prop} (h : ∀ env S σ m' G' H', nx env S → Stp m G H m' G' H' → Rp K T m' S G' H' → RE K m' G' env σ → dn σ H') : Lk K T W m G H { E with nx := nx } { D with nx := dn } :=
  ⟨h, l.bk, l.ct, l.rt, l.ex⟩
end

/-! the readings -/
def sNext : WS' := fun env S E => E.nx env S
def sBreak : WS' := fun env S E => E.bk env S
def sCont : WS' := fun env S E => E.ct env S
def sSeq (t u : WS') : WS' := fun env S E => t env S { E with nx := fun env1 S1 => u env1 S1 E }
def sRet (w : WE') : WS' := fun env S E => w env S E.rt E.ex
def sRetN : WS' := fun _ S E => E.rt .non S
def sDrop (w : WE') : WS' := fun env S E => w env S (fun _ S1 => E.nx env S1) E.ex
def sIf (t : WT') (u v : WS') : WS' := fun env S E => t env S (fun b S1 => if b = true then u env S1 E else v env S1 E) E.ex
def sAsg (w : WE') (g : WG') : WS' := fun env S E => w env S (fun d S1 => g d env S1 E.nx) E.ex
def sNever : WS' := fun _ _ _ => False
def gN (i : Nat) : WG' := fun d env S R => R (env.set i (some d)) S
def gT (n : Nat) (g : WGs') : WG' := fun d env S R => ∃ xs, d = .tup xs ∧ xs.length = n ∧ g xs env S R
def gs0 : WGs' := fun ds env S R => ds = [] ∧ R env S
def gs1 (g : WG') (r : WGs') : WGs' := fun ds env S R => ∃ x xs, ds = x :: xs ∧ g x env S fun env1 S1 => r xs env1 S1 R
/-- a, b = x, y -/
def sPar (i j : Nat) (as : WA') : WS' := fun env S E => as env S (fun ds S1 => ∃ x y, ds = [x, y] ∧ E.nx ((env.set i (some x)).set j (some y)) S1) E.ex
/-- xs[i] = e -/
def sSetIx (wo wi we : WE') : WS' := fun env S E => we env S (fun d S1 => wo env S1 (fun o S2 => wi env S2 (fun k S3 => ∃ i z ds j, o = .mu i ∧ k = .int z ∧ S3[i]? = some ds ∧ ixN ds.length z = some j ∧ E.nx env (S3.set i (ds.set j d))) E.ex) E.ex) E.ex
/-- xs.append(e) -/
def sApp (wo we : WE') : WS' := fun env S E => wo env S (fun o S1 => ∃ i, o = .mu i ∧ we env S1 (fun d S2 => ∃ ds, S2[i]? = some ds ∧ ds.length < sizeLine ∧ E.nx env (S2.set i (ds ++ [d]))) E.ex) E.ex
def sWhile (t : WT') (u : WS') : WS' := fun env S E => ∃ I : Nat → Vars → Sto → Prop, (∃ n, I n env S) ∧ ∀ n env S, I n env S →
  t env S (fun b S1 => if b = true then u env S1 { E with nx := fun e s => ∃ n', n' < n ∧ I n' e s, ct := fun e s => ∃ n', n' < n ∧ I n' e s, bk := E.nx } else E.nx env S1) E.ex
/-- the items one by one -/
def loop (ck : Sto → Prop) (g : WG') (u : WS') (E : Ds) : List D → Vars → Sto → Prop
  | [], env, S => ck S ∧ E.nx env S
  | d :: ds, env, S => ck S ∧ g d env S fun env1 S1 => u env1 S1 { E with nx := fun e s => loop ck g u E ds e s, ct := fun e s => loop ck g u E ds e s, bk := E.nx }
def itemsL : D → Sto → Option (List D)
  | .lst xs, _ => some xs
  | .scr xs, _ => some xs
  | .mu i, S => S[i]?
  | _, _ => none
def intsD (lo : Int) (n : Nat) : List D := (List.range n).map fun (i : Nat) => D.int (lo + i)
/-- what is walked: the items, and what must stay true of the store meanwhile -/
structure Src where
  xs : List D
  ck : Sto → Prop
abbrev WI' := Vars → Sto → (Src → Sto → Prop) → KX → Prop
def wiL (w : WE') : WI' := fun env S R Rx => w env S (fun d S1 => ∃ xs, itemsL d S1 = some xs ∧ R ⟨xs, fun S => itemsL d S = some xs⟩ S1) Rx
def wiT (w : WE') : WI' := fun env S R Rx => w env S (fun d S1 => ∃ xs, d = .tup xs ∧ R ⟨xs, fun _ => True⟩ S1) Rx
def wiR1 (as : WA') : WI' := fun env S R Rx => as env S (fun ds S1 => ∃ j : Int, ds = [.int j] ∧ -(2 ^ 62) ≤ j ∧ j < 2 ^ 62 ∧ R ⟨intsD 0 j.toNat, fun _ => True⟩ S1) Rx
def wiR2 (as : WA') : WI' := fun env S R Rx => as env S (fun ds S1 => ∃ i j : Int, ds = [.int i, .int j] ∧ (-(2 ^ 62) ≤ i ∧ i < 2 ^ 62 ∧ -(2 ^ 62) ≤ j ∧ j < 2 ^ 62) ∧ R ⟨intsD i (j - i).toNat, fun _ => True⟩ S1) Rx
def sFor (wi : WI') (g : WG') (u : WS') : WS' := fun env S E => wi env S (fun src S1 => loop src.ck g u E src.xs env S1) E.ex
def WalkOf (K : PySem.W.Frag) (T : List (Addr × Str)) (J : It) (xs : List D) (ck : Sto → Prop) (m0 : List Addr) (G0 H0 : Hp) : Prop :=
  (∀ (i : Nat) (d : D) (S : Sto) (m : List Addr) (G H : Hp), xs[i]? = some d → ck S → Rp K T m S G H → Stp m0 G0 H0 m G H → J.go i H ∧ ∀ x H', J.yld i H x H' → ∃ m' G', Stp m G H m' G' H' ∧ Rp K T m' S G' H' ∧ DR K m' G' d x) ∧
  ∀ (S : Sto) (m : List Addr) (G H : Hp), ck S → Rp K T m S G H → Stp m0 G0 H0 m G H → J.stop xs.length H
def lI (K : PySem.W.Frag) (T : List (Addr × Str)) (W : WX) (wi : WI') : TI := fun σ H R => ∃ G env S m R' Rx, RE K m G env σ ∧ Rp K T m S G H ∧ wi env S R' Rx ∧
  (∀ src S' m' G' H' J, R' src S' → Stp m G H m' G' H' → Rp K T m' S' G' H' → WalkOf K T J src.xs src.ck m' G' H' → R J H') ∧ Exl K T W m G H Rx
def PID (X : Cx) (T : List (Addr × Str)) (W : WX) (tg iter : Expr) (wi : WI') : Prop := PI X tg iter (lI X.K T W wi)
theorem pi_imp {X : Cx} {tg iter : Expr} {t t' : TI} (h : PI X tg iter t) (i : ∀ σ H R, t' σ H R → t σ H R) : PI X tg iter t' := ⟨fun pins s σ H R I q => h.run pins s σ H R I (i σ H R q)⟩

section
variable {X : Cx} {T : List (Addr × Str)} {W : WX} {e o k c : Expr} {es : List Expr} {pos : Pos} {w wo wk : WE'} {t : WT'} {as : WA'} {u v : WS'} {st : Stmt} {sts body els : List Stmt} {g : WG'} {gs : WGs'}
theorem psd_nil : PSsD X T W [] sNext := pss_imp pss_nil fun D σ H ⟨G, env, S, m, E, he, hp, h, l⟩ => l.nx env S σ m G H h Stp.refl hp he
theorem psd_one (h : PSD X T W st u) : PSsD X T W [st] u := pss_one h
theorem psd_cons (h : PSD X T W st u) (hr : PSsD X T W sts v) : PSsD X T W (st :: sts) (sSeq u v) := by
  refine pss_imp (pss_cons h hr) fun D σ H ⟨G, env, S, m, E, he, hp, h, l⟩ => ?_
  exact ⟨G, env, S, m, _, he, hp, h, l.next fun env1 S1 σ1 m1 G1 H1 h1 s1 p1 e1 => ⟨G1, env1, S1, m1, E, e1, p1, h1, l.on s1⟩⟩
theorem psd_pass : PSD X T W (.Pass pos) sNext := ps_imp ps_pass fun D σ H ⟨G, env, S, m, E, he, hp, h, l⟩ => l.nx env S σ m G H h Stp.refl hp he
theorem psd_break : PSD X T W (.Break pos) sBreak := ps_imp ps_break fun D σ H ⟨G, env, S, m, E, he, hp, h, l⟩ => l.bk env S σ m G H h Stp.refl hp he
theorem psd_continue : PSD X T W (.Continue pos) sCont := ps_imp ps_continue fun D σ H ⟨G, env, S, m, E, he, hp, h, l⟩ => l.ct env S σ m G H h Stp.refl hp he
theorem psd_doc {x j pos'} : PSD X T W (.Expr (.Constant (.str x) j pos) pos') sNext := ps_imp ps_doc fun D σ H ⟨G, env, S, m, E, he, hp, h, l⟩ => l.nx env S σ m G H h Stp.refl hp he
theorem psd_ret (h : PD X T W e w) : PSD X T W (.Return (some e) pos) (sRet w) := by
  refine ps_imp (ps_ret h) fun D σ H ⟨G, env, S, m, E, he, hp, h, l⟩ => ?_
  exact ⟨G, env, S, m, _, _, he, hp, h, l.rt, l.ex⟩
theorem psd_retN : PSD X T W (.Return none pos) sRetN := ps_imp ps_retN fun D σ H ⟨G, env, S, m, E, he, hp, h, l⟩ => l.rt .non S .non m G H h Stp.refl hp .non
theorem psd_expr (h : PD X T W e w) (hs : swapsWith e none pos.line X.env = pure false := by rfl) : PSD X T W (.Expr e pos) (sDrop w) := by
  refine ps_imp (ps_expr h hs) fun D σ H ⟨G, env, S, m, E, he, hp, h, l⟩ => ?_
  exact ⟨G, env, S, m, _, _, he, hp, h, fun d S1 v m1 G1 H1 h1 s1 p1 d1 => l.nx env S1 σ m1 G1 H1 h1 s1 p1 (he.mono hp s1), l.ex⟩
theorem psd_if (h : PTD X T W c t) (hu : PSsD X T W body u) (hv : PSsD X T W els v) : PSD X T W (.If c body els pos) (sIf t u v) := by
  refine ps_imp (ps_if h hu hv) fun D σ H ⟨G, env, S, m, E, he, hp, h, l⟩ => ?_
  refine ⟨G, env, S, m, _, _, he, hp, h, fun b S1 m1 G1 H1 h1 s1 p1 => ?_, l.ex⟩
  cases b with
  | true => exact ⟨G1, env, S1, m1, E, he.mono hp s1, p1, h1, l.on s1⟩
  | false => exact ⟨G1, env, S1, m1, E, he.mono hp s1, p1, h1, l.on s1⟩
theorem psd_never : PSD X T W st sNever := ps_imp ps_never fun D σ H ⟨G, env, S, m, E, he, hp, h, l⟩ => h.elim
theorem pgd_name (i : Nat) {x : Str} (hN : X.N.Nodup) (hi : X.N[i]? = some x) (hx : Loc X.env.scope x) (hf : X.fn x = true ∨ X.env.scope.names.lookup x = some .local := by first | exact .inl rfl | exact .inr rfl | assumption) : PGD X T (.Name x pos) (gN i) := by
  refine pg_imp (pg_name hN hi hx hf) fun v σ H Q ⟨G, d, env, S, m, R, dr, he, hp, h, k⟩ => ?_
  exact k _ S _ m G H h Stp.refl hp (he.set dr)
theorem pgsd_nil : PGsD X T [] gs0 := by
  refine pgs_imp pgs_nil fun vs σ H Q ⟨G, ds, env, S, m, R, dr, he, hp, ⟨h0, h⟩, k⟩ => ?_
  subst h0
  cases dr
  exact ⟨rfl, k _ S _ m G H h Stp.refl hp he⟩
theorem pgsd_cons {e : Expr} (h1 : PGD X T e g) (h2 : PGsD X T es gs) (hs : (assignEach (e :: es) X.env).map (·.2) = assign e X.env :: (assignEach es X.env).map (·.2) := by rfl) : PGsD X T (e :: es) (gs1 g gs) := by
  refine pgs_imp (pgs_cons h1 h2 hs) fun vs σ H Q ⟨G, ds, env, S, m, R, dr, he, hp, ⟨x, xs, h0, h⟩, k⟩ => ?_
  subst h0
  cases dr with
  | cons d1 d2 =>
    refine ⟨_, _, rfl, G, x, env, S, m, _, d1, he, hp, h, fun env1 S1 σ1 m1 G1 H1 q1 s1 p1 e1 => ?_⟩
    exact ⟨G1, xs, env1, S1, m1, R, d2.mono hp s1, e1, p1, q1, fun env2 S2 σ2 m2 G2 H2 q2 s2 p2 e2 => k env2 S2 σ2 m2 G2 H2 q2 (s1.trans s2) p2 e2⟩
theorem pgd_tup {kk : Nat} {n : Nat} (hc : X.calm = true) (h : PGsD X T es gs) (hn : (assignEach es X.env).length = n := by rfl) (hst : (assignEach es X.env).findIdx? (·.1) = none := by rfl) : PGD X T (.Tuple es kk pos) (gT n gs) := by
  refine pg_imp (pg_tup hc h hn hst) fun v σ H Q ⟨G, d, env, S, m, R, dr, he, hp, ⟨xs, h0, hl, h⟩, k⟩ => ?_
  subst h0
  cases dr with
  | tup hs hd =>
    refine ⟨_, _, rfl, ?_, by rw [← hd.length]; exact hl, G, xs, env, S, m, R, hd, he, hp, h, k⟩
    rcases hs with (hs | ⟨o, hs⟩) | hs
    · exact .inl (.inl (hp.sub _ _ hs))
    · exact .inl (.inr ⟨o, hp.sub _ _ hs⟩)
    · exact .inr hs
theorem psd_asg {tg : Expr} (h : PD X T W e w) (hg : PGD X T tg g) (hs : swapsWithSole [tg] e pos.line X.env = pure false := by rfl) (hw : swappedStores [tg] e X.env = pure none := by rfl) (h1 : (assignEach [tg] X.env).map (·.2) = [assign tg X.env] := by rfl) :
    PSD X T W (.Assign [tg] e pos) (sAsg w g) := by
  refine ps_imp (ps_asg h hg hs hw h1) fun D σ H ⟨G, env, S, m, E, he, hp, h, l⟩ => ?_
  refine ⟨G, env, S, m, _, _, he, hp, h, fun d S1 v m1 G1 H1 h1 s1 p1 d1 => ?_, l.ex⟩
  exact ⟨G1, d, env, S1, m1, _, d1, he.mono hp s1, p1, h1, fun env2 S2 σ2 m2 G2 H2 q2 s2 p2 e2 => l.nx env2 S2 σ2 m2 G2 H2 q2 (s1.trans s2) p2 e2⟩
theorem psd_set (i : Nat) {x : Str} {pos' : Pos} (hN : X.N.Nodup) (hi : X.N[i]? = some x) (hx : Loc X.env.scope x) (h : PD X T W e w) (hs : swapsWith e (some (.Name x pos')) pos.line X.env = pure false := by rfl)
    (hf : X.fn x = true ∨ X.env.scope.names.lookup x = some .local := by first | exact .inl rfl | exact .inr rfl | assumption) : PSD X T W (.Assign [.Name x pos'] e pos) (sAsg w (gN i)) := by
  refine ps_imp (ps_set hN hi hx h hs hf) fun D σ H ⟨G, env, S, m, E, he, hp, h, l⟩ => ?_
  exact ⟨G, env, S, m, _, _, he, hp, h, fun d S1 v m1 G1 H1 h1 s1 p1 d1 => l.nx _ S1 _ m1 G1 H1 h1 s1 p1 ((he.mono hp s1).set d1), l.ex⟩
theorem psd_par (i j : Nat) {x y : Str} {a b : Expr} {px py pt : Pos} {kt k2 pt2} (hc : X.calm = true) (hN : X.N.Nodup) (hi : X.N[i]? = some x) (hj : X.N[j]? = some y) (hij : i ≠ j)
    (hx : X.env.scope.names.lookup x = some .local) (hy : X.env.scope.names.lookup y = some .local) (h : PAD X T W [a, b] as)
    (hw : swappedStores [.Tuple [.Name x px, .Name y py] kt pt] (.Tuple [a, b] k2 pt2) X.env = pure (some [x, y])) (hs : swapsWithSole [.Tuple [.Name x px, .Name y py] kt pt] (.Tuple [a, b] k2 pt2) pos.line X.env = pure false := by rfl) : PSD X T W (.Assign [.Tuple [.Name x px, .Name y py] kt pt] (.Tuple [a, b] k2 pt2) pos) (sPar i j as) := by
  refine ps_imp (ps_par hc hN hi hj hij hx hy h hw hs) fun D σ H ⟨G, env, S, m, E, he, hp, h, l⟩ => ?_
  refine ⟨G, env, S, m, _, _, he, hp, h, fun ds S1 vs m1 G1 H1 ⟨d1, d2, hd, h1⟩ s1 p1 dr => ?_, l.ex⟩
  subst hd
  cases dr with
  | cons r1 r2 =>
    cases r2 with
    | cons r2 r3 =>
      cases r3
      exact ⟨_, _, rfl, l.nx _ S1 _ m1 G1 H1 h1 s1 p1 (((he.mono hp s1).set r1).set r2)⟩
/-- the list that a growing list stands for -/
theorem mu_at {K : PySem.W.Frag} {m : List Addr} {S : Sto} {G H : Hp} {i : Nat} {v : V} {ds : List D} (hp : Rp K T m S G H) (h : DR K m G (.mu i) v) (hs : S[i]? = some ds) : ∃ a vs, v = .ref a ∧ m[i]? = some a ∧ G a = some (.lst vs) ∧ H a = some (.lst vs) ∧ DRs K m G ds vs := by
  cases h with
  | mu hi =>
    obtain ⟨vs, h1, h2⟩ := hp.sto _ _ _ hi hs
    exact ⟨_, vs, rfl, hi, h1, hp.sub _ _ h1, h2⟩
theorem DRs.set {K : PySem.W.Frag} {m : List Addr} {G : Hp} : ∀ {ds : List D} {vs : List V} {d : D} {v : V} (i : Nat), DRs K m G ds vs → DR K m G d v → DRs K m G (ds.set i d) (vs.set i v)
  | _, _, _, _, _, .nil, _ => .nil
  | _, _, _, _, 0, .cons _ t, h => .cons h t
  | _, _, _, _, i + 1, .cons a t, h => .cons a (DRs.set i t h)
theorem psd_setIx {p : Pos} (h : PD X T W e w) (ho : PD X T W o wo) (hk : PD X T W k wk) (hs : swapsWithSole [.Subscript o k p] e pos.line X.env = pure false := by rfl) (hw : swappedStores [.Subscript o k p] e X.env = pure none := by rfl)
    (h1 : (assignEach [.Subscript o k p] X.env).map (·.2) = [assign (.Subscript o k p) X.env] := by rfl) (ha : PG X (.Subscript o k p) (gSub (lE X.K T W wo) (lE X.K T W wk) rSetL)) : PSD X T W (.Assign [.Subscript o k p] e pos) (sSetIx wo wk w) := by
  refine ps_imp (ps_asg h ha hs hw h1) fun D σ H ⟨G, env, S, m, E, he, hp, h, l⟩ => ?_
  refine ⟨G, env, S, m, _, _, he, hp, h, fun d S1 v m1 G1 H1 h1 s1 p1 d1 => ?_, l.ex⟩
  have he1 := he.mono hp s1
  refine ⟨G1, env, S1, m1, _, _, he1, p1, h1, fun x S2 u m2 G2 H2 h2 s2 p2 d2 => ?_, l.ex.on s1⟩
  have he2 := he1.mono p1 s2
  refine ⟨G2, env, S2, m2, _, _, he2, p2, h2, fun y S3 z m3 G3 H3 h3 s3 p3 d3 => ?_, l.ex.on (s1.trans s2)⟩
  obtain ⟨i, n, ds, j, rfl, rfl, hS, hj, hn⟩ := h3
  cases d3
  obtain ⟨a, vs, rfl, hm, hg, hh, dr⟩ := mu_at p3 (d2.mono p2 s3) hS
  obtain ⟨q1, q2⟩ := p3.put (vs := vs.set j v) hm (dr.set j ((d1.mono p1 s2).mono p2 s3))
  exact ⟨a, vs, n, j, rfl, rfl, hh, by rw [← dr.length]; exact hj, l.nx _ _ _ _ _ _ hn (((s1.trans s2).trans s3).trans q2) q1 ((he2.mono p2 s3).mono p3 q2)⟩
theorem psd_app {apos cpos : Pos} (ho : PD X T W o wo) (h : PD X T W e w) (hs : swapsWith (.Call (.Attribute o "append" apos) [e] [] cpos) none pos.line X.env = pure false := by rfl)
    (hbase : attributeBase o "append" X.env (eval o X.env) = eval o X.env := by rfl)
    (hfew : ((backTo cpos (starEach [e] X.env)).all (fun x => !x.1) && (backToKw cpos (keywordEach [] X.env)).all (fun x => x.1.isSome)
      && decide ([e].length + ([] : List Keyword).length + (if ([] : List Keyword).isEmpty then 0 else 1) < 30)) = true := by rfl)
    (hline : (apos.endLine == cpos.line) = true := by rfl) (hst : starEach [e] X.env = (false, eval e X.env) :: starEach [] X.env := by rfl) (hplain : (backTo cpos (starEach [] X.env)).any (·.1) = false := by rfl) :
    PSD X T W (.Expr (.Call (.Attribute o "append" apos) [e] [] cpos) pos) (sApp wo w) := by
  refine ps_imp (ps_expr (pe_bm PySem.F.plainAttrs_list PySem.F.slot_list_append PySem.F.type_list_append mt_append ho (pad_cons (X := X) (T := T) (W := W) h pad_nil hst) hbase hfew hline hst hplain) hs) fun D σ H ⟨G, env, S, m, E, he, hp, h, l⟩ => ?_
  refine ⟨G, env, S, m, _, _, he, hp, h, fun x S1 v m1 G1 H1 ⟨i, hi, h1⟩ s1 p1 d1 => ?_, l.ex⟩
  subst hi
  have he1 := he.mono hp s1
  refine ⟨?_, G1, env, S1, m1, (fun ys S2 => match ys with | [d] => ∃ ds, S2[i]? = some ds ∧ ds.length < sizeLine ∧ E.nx env (S2.set i (ds ++ [d])) | _ => False), _, he1, p1, h1, fun ys S2 us m2 G2 H2 h2 s2 p2 d2 => ?_, l.ex.on s1⟩
  · cases d1 with
    | mu hm =>
      obtain ⟨vs, q⟩ := p1.lists (List.mem_iff_getElem?.mpr ⟨i, hm⟩)
      exact Or.inl ⟨rfl, vs, .inl (.inl (p1.sub _ _ q))⟩
  · obtain ⟨d, ds, rfl, hS, hl, hn⟩ : ∃ d ds, ys = [d] ∧ S2[i]? = some ds ∧ ds.length < sizeLine ∧ E.nx env (S2.set i (ds ++ [d])) := by
      match ys, h2 with
      | [d], ⟨ds, q1, q2, q3⟩ => exact ⟨d, ds, rfl, q1, q2, q3⟩
    cases d2 with
    | cons r1 r2 =>
      cases r2
      obtain ⟨a, vs, rfl, hm, hg, hh, dr⟩ := mu_at p2 (d1.mono p1 s2) hS
      obtain ⟨q1, q2⟩ := p2.put hm (dr.append (DRs.one r1))
      exact ⟨a, vs, _, rfl, rfl, hh, by rw [← dr.length]; exact hl, l.nx _ _ _ _ _ _ hn ((s1.trans s2).trans q2) q1 ((he1.mono p1 s2).mono p2 q2)⟩
theorem psd_while (hpo : PassesOwn (model X.prog X.w) X.A X.env X.xe) (hc : PTD X T W c t) (hb : PSsD X T W body u) : PSD X T W (.While c body [] pos) (sWhile t u) := by
  refine ps_imp (ps_while hpo hc hb) fun D σ H ⟨G, env, S, m, E, he, hp, ⟨I, ⟨n0, h0⟩, turn⟩, l⟩ => ?_
  refine ⟨fun n σ1 H1 => ∃ G1 env1 S1 m1, RE X.K m1 G1 env1 σ1 ∧ Rp X.K T m1 S1 G1 H1 ∧ Stp m G H m1 G1 H1 ∧ I n env1 S1, ⟨n0, G, env, S, m, he, hp, Stp.refl, h0⟩, ?_⟩
  rintro n σ1 H1 ⟨G1, env1, S1, m1, e1, p1, s1, i1⟩
  refine ⟨G1, env1, S1, m1, _, _, e1, p1, turn n env1 S1 i1, fun b S2 m2 G2 H2 h2 s2 p2 => ?_, l.ex.on s1⟩
  have s12 := s1.trans s2
  have e2 := e1.mono p1 s2
  cases b with
  | true =>
    refine ⟨fun σ' H' => ∃ n', n' < n ∧ ∃ G1 env1 S1 m1, RE X.K m1 G1 env1 σ' ∧ Rp X.K T m1 S1 G1 H' ∧ Stp m G H m1 G1 H' ∧ I n' env1 S1, fun σ' H' ⟨n', h, q⟩ => ⟨n', h, q⟩, G2, env1, S2, m2, _, e2, p2, h2, ?_⟩
    exact ⟨fun env3 S3 σ3 m3 G3 H3 ⟨n', hn, hi⟩ s3 p3 e3 => ⟨n', hn, G3, env3, S3, m3, e3, p3, s12.trans s3, hi⟩, fun env3 S3 σ3 m3 G3 H3 h3 s3 p3 e3 => l.nx env3 S3 σ3 m3 G3 H3 h3 (s12.trans s3) p3 e3,
      fun env3 S3 σ3 m3 G3 H3 ⟨n', hn, hi⟩ s3 p3 e3 => ⟨n', hn, G3, env3, S3, m3, e3, p3, s12.trans s3, hi⟩, l.rt.on s12, l.ex.on s12⟩
  | false =>
    exact l.nx env1 S2 σ1 m2 G2 H2 h2 s12 p2 e2
/-- one turn of a walk, whatever is walked -/
theorem loop_turns {K : PySem.W.Frag} {J : It} {xs : List D} {ck : Sto → Prop} {E : Ds} {D0 : Ends} {G0 H0 : Hp} {m0 : List Addr} {S0 : Sto} {env0 : Vars} {σ0 : L2.St} {tg : TG} {tb : TS} (he : RE K m0 G0 env0 σ0) (hp : Rp K T m0 S0 G0 H0) (l : Lk K T W m0 G0 H0 E D0)
    (hg : ∀ v σ H Q, lG K T g v σ H Q → tg v σ H Q) (hb : ∀ D σ H, lS K T W u D σ H → tb D σ H) (hw : WalkOf K T J xs ck m0 G0 H0) (h : loop ck g u E xs env0 S0) :
    ∃ W' : Nat → Nat → L2.St → Hp → Prop, (∃ n, W' 0 n σ0 H0) ∧ ∀ i n σ H, W' i n σ H →
      (J.stop i H ∧ D0.nx σ H) ∨ (J.go i H ∧ ∃ N : L2.St → Hp → Prop, (∀ σ' H', N σ' H' → ∃ n', n' < n ∧ W' (i + 1) n' σ' H') ∧ ∀ x H', J.yld i H x H' → tg x σ H' fun σ2 H2 => tb { D0 with nx := N, ct := N, bk := D0.nx } σ2 H2) := by
  refine ⟨fun i n σ H => n = xs.length - i ∧ i ≤ xs.length ∧ ∃ G env S m, RE K m G env σ ∧ Rp K T m S G H ∧ Stp m0 G0 H0 m G H ∧ loop ck g u E (xs.drop i) env S, ⟨xs.length, by simp, Nat.zero_le _, G0, env0, S0, m0, he, hp, Stp.refl, by simpa using h⟩, ?_⟩
  rintro i n σ H ⟨rfl, hi, G, env, S, m, he1, hp1, s1, hl⟩
  by_cases hlt : i < xs.length
  · have e : xs.drop i = xs[i] :: xs.drop (i + 1) := List.drop_eq_getElem_cons hlt
    rw [e] at hl
    obtain ⟨hck, hl⟩ := hl
    obtain ⟨g1, g2⟩ := hw.1 i xs[i] S m G H (List.getElem?_eq_getElem hlt) hck hp1 s1
    refine .inr ⟨g1, fun σ' H' => ∃ G' env' S' m', RE K m' G' env' σ' ∧ Rp K T m' S' G' H' ∧ Stp m0 G0 H0 m' G' H' ∧ loop ck g u E (xs.drop (i + 1)) env' S', fun σ' H' q => ⟨xs.length - (i + 1), by omega, rfl, hlt, q⟩, fun x H' y => ?_⟩
    obtain ⟨m2, G2, s2, p2, d2⟩ := g2 x H' y
    refine hg _ _ _ _ ⟨G2, xs[i], env, S, m2, _, d2, he1.mono hp1 s2, p2, hl, fun env3 S3 σ3 m3 G3 H3 h3 s3 p3 e3 => hb _ _ _ ?_⟩
    have s13 := (s1.trans s2).trans s3
    exact ⟨G3, env3, S3, m3, _, e3, p3, h3, fun env4 S4 σ4 m4 G4 H4 h4 s4 p4 e4 => ⟨G4, env4, S4, m4, e4, p4, s13.trans s4, h4⟩, fun env4 S4 σ4 m4 G4 H4 h4 s4 p4 e4 => l.nx env4 S4 σ4 m4 G4 H4 h4 (s13.trans s4) p4 e4,
      fun env4 S4 σ4 m4 G4 H4 h4 s4 p4 e4 => ⟨G4, env4, S4, m4, e4, p4, s13.trans s4, h4⟩, l.rt.on s13, l.ex.on s13⟩
  · have e : i = xs.length := by omega
    subst e
    rw [List.drop_length] at hl
    exact .inl ⟨hw.2 S m G H hl.1 hp1 s1, l.nx env S σ m G H hl.2 s1 hp1 he1⟩
theorem items_at {K : PySem.W.Frag} {m : List Addr} {S : Sto} {G H : Hp} {d : D} {xs : List D} {v : V} (hp : Rp K T m S G H) (dr : DR K m G d v) (hi : itemsL d S = some xs) : ∃ a vs, v = .ref a ∧ SqL K H a vs ∧ DRs K m G xs vs := by
  cases dr with
  | lst h1 _ h2 =>
    cases (Option.some.inj hi)
    exact ⟨_, _, rfl, .inl (.inl (hp.sub _ _ h1)), h2⟩
  | scr h1 h2 =>
    cases (Option.some.inj hi)
    rcases h1 with ⟨o, h1⟩ | h1
    · exact ⟨_, _, rfl, .inl (.inr ⟨o, hp.sub _ _ h1⟩), h2⟩
    · exact ⟨_, _, rfl, .inr h1, h2⟩
  | mu h1 =>
    obtain ⟨vs, h3, h4⟩ := hp.sto _ _ _ h1 hi
    exact ⟨_, vs, rfl, .inl (.inl (hp.sub _ _ h3)), h4⟩
  | _ => cases hi
theorem sqT_sub {K : PySem.W.Frag} {m : List Addr} {S : Sto} {G H : Hp} {a : Addr} {vs : List V} (hp : Rp K T m S G H) (hs : SqT K G a vs) : SqT K H a vs := by
  rcases hs with (hs | ⟨o, hs⟩) | hs
  · exact .inl (.inl (hp.sub _ _ hs))
  · exact .inl (.inr ⟨o, hp.sub _ _ hs⟩)
  · exact .inr hs
theorem tup_at {K : PySem.W.Frag} {m : List Addr} {S : Sto} {G H : Hp} {xs : List D} {v : V} (hp : Rp K T m S G H) (dr : DR K m G (.tup xs) v) : ∃ a vs, v = .ref a ∧ SqT K H a vs ∧ DRs K m G xs vs := by
  cases dr with
  | tup hs h2 => exact ⟨_, _, rfl, sqT_sub hp hs, h2⟩
theorem psd_for {tg iter : Expr} {wi : WI'} (hpo : PassesOwn (model X.prog X.w) X.A X.env X.xe) (hc : X.calm = true) (hi : PID X T W tg iter wi) (hg : PGD X T tg g) (hb : PSsD X T W body u) (hs : ∀ x, foldedSetIterable iter X.env x = pure x := by intro _; rfl) :
    PSD X T W (.For tg iter body [] pos) (sFor wi g u) := by
  refine ps_imp (ps_for hpo hc hi hg hb hs) fun D σ H ⟨G, env, S, m, E, he, hp, h, l⟩ => ?_
  exact ⟨G, env, S, m, _, _, he, hp, h, fun src S1 m1 G1 H1 J h1 s1 p1 hw => loop_turns (he.mono hp s1) p1 (l.on s1) (fun _ _ _ _ q => q) (fun _ _ _ q => q) hw h1, l.ex⟩
theorem walk_list {K : PySem.W.Frag} {m : List Addr} {S : Sto} {G H : Hp} {d : D} {a : Addr} {xs : List D} (hp : Rp K T m S G H) (dr : DR K m G d (.ref a)) : WalkOf K T (Itl K a) xs (fun S => itemsL d S = some xs) m G H := by
  refine ⟨fun i d' S2 m2 G2 H2 hd hck p2 s2 => ?_, fun S2 m2 G2 H2 hck p2 s2 => ?_⟩
  · obtain ⟨a', vs', ea, sq', dr'⟩ := items_at p2 (dr.mono hp s2) hck
    cases ea
    obtain ⟨v', hv, dv⟩ := dr'.get hd
    refine ⟨⟨vs', v', sq', hv⟩, fun x H' ⟨e1, e2⟩ => ?_⟩
    subst e1
    have := e2 vs' sq'
    rw [hv] at this
    cases this
    exact ⟨m2, G2, Stp.refl, p2, dv⟩
  · obtain ⟨a', vs', ea, sq', dr'⟩ := items_at p2 (dr.mono hp s2) hck
    cases ea
    exact ⟨vs', sq', by rw [← dr'.length]; exact Nat.le_refl _⟩
theorem walk_tup {K : PySem.W.Frag} {m : List Addr} {S : Sto} {G H : Hp} {a : Addr} {xs : List D} (hp : Rp K T m S G H) (dr : DR K m G (.tup xs) (.ref a)) : WalkOf K T (Itt K a) xs (fun _ => True) m G H := by
  refine ⟨fun i d' S2 m2 G2 H2 hd hck p2 s2 => ?_, fun S2 m2 G2 H2 hck p2 s2 => ?_⟩
  · obtain ⟨a', vs', ea, sq', dr'⟩ := tup_at p2 (dr.mono hp s2)
    cases ea
    obtain ⟨v', hv, dv⟩ := dr'.get hd
    refine ⟨⟨vs', v', sq', hv⟩, fun x H' ⟨e1, e2⟩ => ?_⟩
    subst e1
    have := e2 vs' sq'
    rw [hv] at this
    cases this
    exact ⟨m2, G2, Stp.refl, p2, dv⟩
  · obtain ⟨a', vs', ea, sq', dr'⟩ := tup_at p2 (dr.mono hp s2)
    cases ea
    exact ⟨vs', sq', by rw [← dr'.length]; exact Nat.le_refl _⟩
theorem intsD_get {lo : Int} {n i : Nat} {d : D} (h : (intsD lo n)[i]? = some d) : i < n ∧ d = .int (lo + i) := by
  unfold intsD at h
  rw [List.getElem?_map] at h
  by_cases hi : i < n
  · rw [List.getElem?_range hi] at h
    exact ⟨hi, (Option.some.inj h).symm⟩
  · rw [List.getElem?_eq_none (by simpa using hi)] at h
    cases h
theorem intsD_len {lo : Int} {n : Nat} : (intsD lo n).length = n := by simp [intsD]
theorem walk_range {K : PySem.W.Frag} {m : List Addr} {G H : Hp} {lo : Int} {n : Nat} : WalkOf K T (Itr lo n) (intsD lo n) (fun _ => True) m G H := by
  refine ⟨fun i d' S2 m2 G2 H2 hd hck p2 s2 => ?_, fun S2 m2 G2 H2 hck p2 s2 => ?_⟩
  · obtain ⟨q1, rfl⟩ := intsD_get hd
    refine ⟨q1, fun x H' ⟨e1, e2⟩ => ?_⟩
    subst e1 e2
    exact ⟨m2, G2, Stp.refl, p2, .int _⟩
  · rw [intsD_len]
    exact Nat.le_refl _
theorem pid_list {tg iter : Expr} (hi : PD X T W iter w) : PID X T W tg iter (wiL w) := by
  refine pi_imp (pi_list hi) fun σ H R ⟨G, env, S, m, R', Rx, he, hp, h, hk, hx⟩ => ?_
  refine ⟨G, env, S, m, _, _, he, hp, h, fun d S1 v m1 G1 H1 ⟨xs, hxs, h1⟩ s1 p1 d1 => ?_, hx⟩
  obtain ⟨a, vs, rfl, sq, dr⟩ := items_at p1 d1 hxs
  exact ⟨a, rfl, ⟨vs, sq⟩, hk _ S1 m1 G1 H1 _ h1 s1 p1 (walk_list p1 d1)⟩
theorem pid_tup {tg iter : Expr} (hi : PD X T W iter w) : PID X T W tg iter (wiT w) := by
  refine pi_imp (pi_tup hi) fun σ H R ⟨G, env, S, m, R', Rx, he, hp, h, hk, hx⟩ => ?_
  refine ⟨G, env, S, m, _, _, he, hp, h, fun d S1 v m1 G1 H1 ⟨xs, hxs, h1⟩ s1 p1 d1 => ?_, hx⟩
  subst hxs
  obtain ⟨a, vs, rfl, sq, dr⟩ := tup_at p1 d1
  exact ⟨a, rfl, ⟨vs, sq⟩, hk _ S1 m1 G1 H1 _ h1 s1 p1 (walk_tup p1 d1)⟩
theorem pid_range1 {tg a : Expr} {p q : Pos} (hgl : Gl X "range") (hm : X.mg "range" = none) (hi : PAD X T W [a] as) (hs : starEach [a] X.env = [(false, eval a X.env)] := by rfl) : PID X T W tg (.Call (.Name "range" p) [a] [] q) (wiR1 as) := by
  refine pi_imp (pi_range1 hgl hm hi hs) fun σ H R ⟨G, env, S, m, R', Rx, he, hp, h, hk, hx⟩ => ?_
  refine ⟨G, env, S, m, _, _, he, hp, h, fun ds S1 vs m1 G1 H1 ⟨j, hj, b1, b2, h1⟩ s1 p1 d1 => ?_, hx⟩
  subst hj
  cases d1 with
  | cons r1 r2 =>
    cases r2
    cases r1
    exact ⟨j, rfl, b1, b2, hk _ S1 m1 G1 H1 _ h1 s1 p1 walk_range⟩
theorem pid_range2 {tg a b : Expr} {p q : Pos} (hgl : Gl X "range") (hm : X.mg "range" = none) (hi : PAD X T W [a, b] as) (hs : starEach [a, b] X.env = [(false, eval a X.env), (false, eval b X.env)] := by rfl) (hs1 : starEach [b] X.env = [(false, eval b X.env)] := by rfl) : PID X T W tg (.Call (.Name "range" p) [a, b] [] q) (wiR2 as) := by
  refine pi_imp (pi_range2 hgl hm hi hs hs1) fun σ H R ⟨G, env, S, m, R', Rx, he, hp, h, hk, hx⟩ => ?_
  refine ⟨G, env, S, m, _, _, he, hp, h, fun ds S1 vs m1 G1 H1 ⟨i0, j, hj, b1, h1⟩ s1 p1 d1 => ?_, hx⟩
  subst hj
  cases d1 with
  | cons r1 r2 =>
    cases r2 with
    | cons r2 r3 =>
      cases r3
      cases r1
      cases r2
      exact ⟨i0, j, rfl, b1, hk _ S1 m1 G1 H1 _ h1 s1 p1 walk_range⟩
end
end DL

set_option maxHeartbeats 4000000
namespace DL
open PySem PySem.Spec PyProof.Rows L2

/-- a def keeps its promise; asked where no repr is under way -/
abbrev GdOk (gd : Bool) (A : Around) : Prop := gd = true → A.guards = some []
theorem GdOk.le {a b : Bool} {A : Around} (h : GdOk a A) (i : b = true → a = true) : GdOk b A := fun z => h (i z)
/-- where the def's code stands -/
def CodeAt (K : PySem.W.Frag) (f : Addr) (cdv : Value) : Prop := ∃ oc od fd osl, K.lookup f = some ⟨oc, od, .func fd, osl⟩ ∧ fd.code = cdv ∧ ∃ c, cdv = .ref c
structure FnD (gd : Bool) (P : Program) (w : World) (K : PySem.W.Frag) (mg : Str → Option Value) (base : Heap) (T : List (Addr × Str)) (k : Nat) (f : Addr) (fd : FuncData) (ps : List Str) (p : SpD) : Prop where
  run : ∀ (A : Around) (outer : List Env) (s : Shared) (args : Args) (us : List Value) (vs : List V) (ds : List D) (S : Sto) (m : List Addr) (G H : Hp) (R : KR) (Rx : Er → Sto → Prop) (Q : VK) (E : XK),
    Room k A → GdOk gd A → Env0 P w K mg base A outer s H → BindsTo s fd args (ps.zip us) → Vals vs us → DRs K m G ds vs → Rp K T m S G H → ds.length = ps.length → p ds S R Rx →
    Okl K T m G H R Q → (∀ e S' cls dd m' G' H', Rx e S' → Stp m G H m' G' H' → Rp K T m' S' G' H' → DE K m' G' e cls dd → E cls dd H') →
    codeAny (model P w) A (.call (.ref f) args) (CR (L2.CX P w) outer P w H s Q E) s
theorem FnD.mono {gd : Bool} {P : Program} {w : World} {K : PySem.W.Frag} {mg : Str → Option Value} {base : Heap} {T : List (Addr × Str)} {j k : Nat} {f : Addr} {fd : FuncData} {ps : List Str} {p : SpD} (F : FnD gd P w K mg base T j f fd ps p) (h : j ≤ k) : FnD gd P w K mg base T k f fd ps p :=
  ⟨fun A outer s args us vs ds S m G H R Rx Q E hr => F.run A outer s args us vs ds S m G H R Rx Q E (hr.mono h)⟩
def startE (N : List Str) (ds : List D) : Vars := ds.map some ++ List.replicate (N.length - ds.length) none
theorem start_rel {K : PySem.W.Frag} {m : List Addr} {G : Hp} {N : List Str} {ds : List D} {vs : List V} (h : DRs K m G ds vs) : RE K m G (startE N ds) (L2.start N vs) := by
  have hl := h.length
  have e : L2.start N vs = vs.map some ++ List.replicate (N.length - vs.length) none := rfl
  refine ⟨by rw [e]; simp [startE, hl], fun i d hi => ?_⟩
  unfold startE at hi
  rw [e]
  by_cases z : i < ds.length
  · rw [List.getElem?_append_left (by simpa using z), List.getElem?_map] at hi
    cases q : ds[i]? with
    | none =>
      rw [q] at hi
      cases hi
    | some d' =>
      rw [q] at hi
      cases hi
      obtain ⟨v, h1, h2⟩ := h.get q
      refine ⟨v, ?_, h2⟩
      rw [List.getElem?_append_left (by rw [List.length_map, ← hl]; exact z), List.getElem?_map, h1]
      rfl
  · rw [List.getElem?_append_right (by simpa using z), List.getElem?_replicate] at hi
    split at hi <;> cases hi
section
variable {P : Program} {w : World} {K : PySem.W.Frag} {mg : Str → Option Value} {base : Heap} {T : List (Addr × Str)} {x qual : Str} {params : Arguments} {body : List Stmt} {scope : Scope} {dvs : List V} {kws : List (Str × V)} {f : Addr} {fd : FuncData}
/-- what holds of a def's body -/
structure Bx (X : Cx) (P : Program) (w : World) (K : PySem.W.Frag) (mg : Str → Option Value) (base : Heap) (W : WX) (N : List Str) (sc : Scope) (k : Nat) : Prop where
  prog : X.prog = P
  wo : X.w = w
  kf : X.K = K
  mgl : X.mg = mg
  ba : X.base = base
  nn : X.N = N
  sco : X.env.scope = sc
  calm : X.calm = true
  gu : GdOk true X.A
  room : Room k X.A
  tk : Takes X W
  po : PassesOwn (model X.prog X.w) X.A X.env X.xe
/-- a def: its body's reading -/
theorem fn_okD {gd : Bool} {N ps : List Str} {k : Nat} {p : SpD} (F : FunD K x qual params body scope dvs kws f fd) (Sc : FnScope N ps scope)
    (hbody : ∀ (cdv : Value) (A : Around) (outer : List Env) (s : Shared) (H : Hp) (E : XK), Room k (A.deeper (envOfC qual scope s.heap.objs.size f cdv)) → GdOk gd A → CodeAt K f cdv →
      ∃ u : WS', PSsD (cxOf (L2.CX P w) P w K mg base N qual scope f cdv A outer s H E) T (fun cls d _ H' => E cls d H') body u ∧
        ∀ ds S R Rx, ds.length = ps.length → p ds S R Rx → u (startE N ds) S { nx := fun _ S' => R .non S', rt := R, bk := fun _ _ => False, ct := fun _ _ => False, ex := fun e _ S' => Rx e S' }) :
    FnD gd P w K mg base T (k + 1) f fd ps p := by
  obtain ⟨oc, od, dV, kV, doc, pm, an, cdv, ct, osl, rfl, lk, hcd, _, _⟩ := F.ex
  refine ⟨fun A outer s args us vs ds S m G H R Rx Q E hr hgd e0 hb rv dr rp hl hsp hk hx => ?_⟩
  have hlen : vs.length = ps.length := by rw [← dr.length]; exact hl
  have go := LamX.run_ofS (CX := L2.CX P w) (P := P) (w := w) (mg := mg) (base := base) (k := k) (args := args) (Q := Q) (E := E) lk hcd Sc hr e0 hb rv hlen fun hr' => by
    obtain ⟨u, hu, hq⟩ := hbody cdv A outer s H E hr' hgd ⟨_, _, _, _, lk, rfl, He.codeIn_ref hcd⟩
    exact ⟨_, hu, G, startE N ds, S, m, _, start_rel dr, rp, hq ds S R Rx hl hsp, fun env S' σ m' G' H' h1 h2 h3 h4 => hk .non S' .non m' G' H' h1 h2 h3 .non, fun _ _ _ _ _ _ h => h.elim, fun _ _ _ _ _ _ h => h.elim, hk,
      fun e env S' cls dd σ m' G' H' h1 h2 h3 h4 h5 => hx e S' cls dd m' G' H' h1 h2 h3 h5⟩
  exact go
end
section
variable {X : Cx} {T : List (Addr × Str)} {W : WX} {k : Nat} {f : Addr} {fd : FuncData} {ps : List Str} {p : SpD} {more : List D} {mv : List V} {ds : List Value} {x : Str} {pp pos : Pos} {e : Expr} {es : List Expr} {as : WA'}
/-- the callee runs -/
theorem run_fnD {gd : Bool} {pins : List (Addr × Obj)} {σ : L2.St} {H : Hp} {s : Shared} {Q : VK} {us : List Value} {vs : List V} {xs : List D} {S : Sto} {m : List Addr} {G : Hp} {R : KR} {Rx : KX} {env : Vars} (F : FnD gd X.prog X.w X.K X.mg X.base T k f fd ps p) (hr : Room k X.A) (hgd : GdOk gd X.A) (hb : Binds X.K fd ps ds) (hd : Vals mv ds)
    (hm : ∀ m G, DRs X.K m G more mv) (tk : Takes X W) (I : Inv X pins σ H s) (r : Vals vs us) (dr : DRs X.K m G xs vs) (rp : Rp X.K T m S G H) (hl : (xs ++ more).length = ps.length) (he : RE X.K m G env σ)
    (h : p (xs ++ more) S R (fun e S2 => Rx e env S2)) (hk : Okl X.K T m G H R Q) (hx : Exl X.K T W m G H Rx) : wpAny (model X.prog X.w) X.A (call (.ref f) us) (EP X pins σ Q) X.xe s := by
  have r2 : Vals (vs ++ mv) (us ++ ds) := r.append hd
  have d2 : DRs X.K m G (xs ++ more) (vs ++ mv) := dr.append (hm m G)
  have l2 : (us ++ ds).length = ps.length := by rw [← r2.length, ← d2.length]; exact hl
  refine wpAny_call (codeAny_mono (F.run X.A X.stack s ⟨us, []⟩ (us ++ ds) (vs ++ mv) (xs ++ more) S m G H R _ Q (WE W σ) hr hgd I.env0 (hb s us I.kIn l2) r2 d2 rp hl h hk
    (fun e S' cls dd m' G' H' q1 q2 q3 q4 => hx e env S' cls dd σ m' G' H' q1 q2 q3 (he.mono rp q2) q4)) fun rr s' hq => ?_)
  cases rr with
  | error er => exact passAt tk σ pins H s er s' I hq
  | ok fl =>
    cases fl with
    | ret u => exact I.after hq
    | _ => exact False.elim hq
def wCallN (p : SpD) (n : Nat) (as : WA') (more : List D) : WE' := fun env S R Rx => as env S (fun ds S1 => (ds ++ more).length = n ∧ p (ds ++ more) S1 R (fun e S2 => Rx e env S2)) Rx
theorem pd_call {gd : Bool} (F : FnD gd X.prog X.w X.K X.mg X.base T k f fd ps p) (hr : Room k X.A) (hgd : GdOk gd X.A) (hg : Gl X x) (hm : X.mg x = some (.ref f)) (hk : PySem.W.keepIn X.K (.ref f) = true) (hb : Binds X.K fd ps ds) (hd : Vals mv ds) (hmo : ∀ m G, DRs X.K m G more mv) (tk : Takes X W)
    (ha : PAD X T W (e :: es) as) (hdb : (x == ("__debug__" : Str)) = false := by decide) (he : starEach (e :: es) X.env = (false, eval e X.env) :: starEach es X.env := by rfl) (hpl : (backTo pos (starEach es X.env)).any (·.1) = false := by rfl) :
    PD X T W (.Call (.Name x pp) (e :: es) [] pos) (wCallN p ps.length as more) := by
  refine ⟨fun pins s σ H Q I ⟨G, env, S, m, R, Rx, hre, hp, h, hok, hx⟩ => ?_⟩
  refine wpAny_Call_Name_kw (ld_glob I hg hm ?_ hdb)
  refine PySem.W.callWith_K (h₀ := X.base) I.ok.mod.kin hk (thn (ha.run pos pins s σ H (fun vs H1 => ∃ m1 G1 S1 xs, DRs X.K m1 G1 xs vs ∧ Rp X.K T m1 S1 G1 H1 ∧ RE X.K m1 G1 env σ ∧ ((xs ++ more).length = ps.length ∧ p (xs ++ more) S1 R (fun e S2 => Rx e env S2)) ∧ Okl X.K T m1 G1 H1 R Q ∧ Exl X.K T W m1 G1 H1 Rx) I
    ⟨G, env, S, m, _, Rx, hre, hp, h, fun xs S1 vs m1 G1 H1 h1 s1 p1 d1 => ⟨m1, G1, S1, xs, d1, p1, hre.mono hp s1, h1, hok.on s1, hx.on s1⟩, hx⟩) fun us s1 ⟨vs, H1, I1, r1, m1, G1, S1, xs, d1, p1, e1, ⟨hl, h1⟩, k1, x1⟩ => ⟨I1.kIn, ?_⟩) he hpl
  exact run_fnD F hr hgd hb hd hmo tk I1 r1 d1 p1 hl e1 h1 k1 x1
end

/-! ### the law's call -/
theorem dInts {K : PySem.W.Frag} {m : List Addr} {G : Hp} : ∀ l : List Int, DRs K m G (l.map D.int) (l.map V.int)
  | [] => .nil
  | z :: l => .cons (.int z) (dInts l)
/-- from a heap in which the script at most is tracked -/
theorem law_core {gd : Bool} {P : Program} {w : World} {K : PySem.W.Frag} {mg mb : Str → Option Value} {k : Nat} {fa a : Addr} {fd : FuncData} {x : Str} {p : SpD} {s1 : Shared} {us : List Value} {ns : List Int} {H : Hp} {ob : Obj} (hob : ob = { cls := .type "list", data := .seq us.toArray })
    (KX : K.In s1.heap) (hns : s1.heap.Ns mainGlobals mg) (hb : s1.heap.Ns builtinsNs mb) (hbb : ∀ x : Str, x ≠ "__name__" → mb x = bootBuiltins x) (hlim : s1.heap.NoLimit) (hg : s1.gens = #[])
    (ha : s1.heap.get? a = some ob) (hl : ns.length ≤ sizeLine) (rv : Vals (ns.map V.int) us) (hr : Room k callerA) (Hn : ∀ b, b ≠ a → H b = none) (Ha : (H a = some (.frz ob (.lst (ns.map V.int))) ∧ K.lookup a = none) ∨ (H a = none ∧ K.lookup a = some ob))
    (F : ∀ base : Heap, K.In base → base.Ns mainGlobals mg → FnD gd P w K mg base [] k fa fd [x] p) (hbind : ∀ (s : Shared) (u : Value), BindsTo s fd ⟨[u], []⟩ [(x, u)])
    (hp : p [.scr (ns.map D.int)] [] (fun d _ => d = .bl true) fun _ _ => False) :
    codeAny (model P w) callerA (.call (.ref fa) ⟨[.ref a], []⟩) (fun r s' => r = .ok (.ret (.bool true)) ∧ OldK s1.heap s'.heap ∧ s'.os = s1.os ∧ AllBare s'.gens) s1 := by
  have lv : us.length = ns.length := by rw [← rv.length, List.length_map]
  have hid : ∀ {b : Addr} {o : Obj}, b ≠ a → s1.heap.get? b = some o → (hidT s1.heap H).get? b = some o := fun nb e => hidT_get e (Hn _ nb)
  have dictNe : ∀ {b : Addr} {o : Obj} {es : Array DictEntry} {ep : Nat}, s1.heap.get? b = some o → o.data = .dict es ep → b ≠ a := fun e d z => by
    rw [z, ha] at e
    cases e
    rw [hob] at d
    cases d
  have nsAt : ∀ {b : Addr} {mm : Str → Option Value}, s1.heap.Ns b mm → (hidT s1.heap H).Ns b mm := fun ⟨o, es, ep, e, d, r⟩ => ⟨o, es, ep, hid (dictNe e d) e, d, r⟩
  have kin : K.In (hidT s1.heap H) := fun b o e => by
    by_cases z : b = a
    · rcases Ha with ⟨_, q⟩ | ⟨q, _⟩
      · rw [z, q] at e
        cases e
      · exact hidT_get (KX b o e) (by rw [z]; exact q)
    · exact hid z (KX b o e)
  have md : L2.Mod K mg (hidT s1.heap H) := by
    obtain ⟨mc, l1, l2⟩ := hlim
    exact ⟨kin, nsAt hns, ⟨mb, nsAt hb, hbb⟩, mc, nsAt l1, l2⟩
  have hok : HOk P w H s1.heap := fun b o e => by
    by_cases z : b = a
    · subst z
      rcases Ha with ⟨q, _⟩ | ⟨q, _⟩
      · rw [q] at e
        cases e
        refine ⟨ha, ?_, us, 0, rv, by rw [ha, hob]⟩
        rw [List.length_map]
        exact hl
      · rw [q] at e
        cases e
    · rw [Hn b z] at e
      cases e
  have e0 : Env0 P w K mg (hidT s1.heap H) callerA [] s1 H := ⟨rfl, md, fun b o e => of_hidT e, Nat.le_of_eq (hidT_size _ _), trivial, fun b hb => absurd (show b ∈ ([] : List Addr) from hb) (by simp), hok, .of_eq hg⟩
  have rp : Rp K [] [] [] H H := ⟨fun _ _ h => h, List.nodup_nil, rfl, fun i b xs h => by simp at h, (fun q hq => by cases hq), fun b ps z => Classical.byCases (fun e : b = a => by
      rw [e] at z
      rcases Ha with ⟨q, _⟩ | ⟨q, _⟩ <;> rw [q] at z <;> cases z) (fun e : ¬ b = a => by
      rw [Hn b e] at z
      cases z)⟩
  have sf : SqF K H a (ns.map V.int) := by
    rcases Ha with ⟨q, _⟩ | ⟨_, q⟩
    · exact .inl ⟨_, q⟩
    · refine .inr ⟨ob, us.toArray, 0, q, by rw [hob], by rw [hob], by rw [hob], ?_, by simpa using rv⟩
      rw [List.size_toArray, lv]
      exact hl
  have dr : DRs K [] H [D.scr (ns.map D.int)] [V.ref a] := .cons (.scr sf (dInts ns)) .nil
  refine codeAny_mono ((F _ kin (nsAt hns)).run callerA [] s1 ⟨[.ref a], []⟩ [.ref a] [.ref a] [.scr (ns.map D.int)] [] [] H H _ _ (fun v H' => v = .bl true ∧ ∀ o u, H a = some (.frz o u) → H' a = some (.frz o u)) (fun _ _ _ => False) hr (fun _ => rfl) e0 (hbind s1 (.ref a)) (.cons rfl .nil) dr rp rfl hp
    (fun d S v m' G' H' h1 s p' d' => by
      subst h1
      cases d'
      exact ⟨rfl, fun o u q => p'.sub _ _ (s.keep _ _ q (by simp))⟩) fun _ _ _ _ _ _ _ h => h.elim) fun r s' h => ?_
  cases r with
  | error e =>
    obtain ⟨_, _, _, _, _, _, _, _, _, _, _, _, z⟩ := (h : L2.CX P w [] H s1 (fun _ _ _ => False) e s')
    exact z.elim
  | ok fl =>
    cases fl with
    | ret u =>
      obtain ⟨v, H', os, bare, un, hok', rr, q1, q2⟩ := (h : CE [] P w H s1 _ u s')
      subst q1
      obtain rfl : u = Value.bool true := rr
      refine ⟨rfl, OldK.of_keep fun b o e => ?_, os, bare⟩
      have old : H b = none → s'.heap.get? b = some o := fun n => un.keep b o e n (fun y => absurd (show b ∈ ([] : List Addr) from y) (by simp)) (by simp)
      by_cases z : b = a
      · subst z
        rcases Ha with ⟨q, _⟩ | ⟨q, _⟩
        · obtain ⟨e2, _⟩ := hok' b _ (q2 _ _ q)
          rw [ha] at e
          cases e
          exact e2
        · exact old q
      · exact old (Hn b z)
    | _ => exact False.elim h
theorem law_runD {gd : Bool} {P : Program} {w : World} {K : PySem.W.Frag} {mg mb : Str → Option Value} {k : Nat} {fa a : Addr} {fd : FuncData} {x : Str} {p : SpD} {s1 : Shared} {us : List Value} {ns : List Int}
    (KX : K.In s1.heap) (hns : s1.heap.Ns mainGlobals mg) (hb : s1.heap.Ns builtinsNs mb) (hbb : ∀ x : Str, x ≠ "__name__" → mb x = bootBuiltins x) (hlim : s1.heap.NoLimit) (hg : s1.gens = #[])
    (ha : s1.heap.get? a = some { cls := .type "list", data := .seq us.toArray }) (hi : IntsAre us ns) (hl : ns.length ≤ sizeLine) (hr : Room k callerA)
    (F : ∀ base : Heap, K.In base → base.Ns mainGlobals mg → FnD gd P w K mg base [] k fa fd [x] p) (hbind : ∀ (s : Shared) (u : Value), BindsTo s fd ⟨[u], []⟩ [(x, u)])
    (hp : p [.scr (ns.map D.int)] [] (fun d _ => d = .bl true) fun _ _ => False) :
    codeAny (model P w) callerA (.call (.ref fa) ⟨[.ref a], []⟩) (fun r s' => r = .ok (.ret (.bool true)) ∧ OldK s1.heap s'.heap ∧ s'.os = s1.os ∧ AllBare s'.gens) s1 := by
  cases hk : K.lookup a with
  | none => exact law_core (H := upd (fun _ => none) a (.frz _ (.lst (ns.map V.int)))) rfl KX hns hb hbb hlim hg ha hl (vals_ints hi) hr (fun b n => upd_ne n) (.inl ⟨upd_same, hk⟩) F hbind hp
  | some o =>
    have e := KX a o hk
    rw [ha] at e
    cases e
    exact law_core (H := fun _ => none) rfl KX hns hb hbb hlim hg ha hl (vals_ints hi) hr (fun _ _ => rfl) (.inr ⟨rfl, hk⟩) F hbind hp
/-- the goal behind the head, from the law's promise -/
theorem walkD {l : PySem.W.OpenLaw} {n k : Nat} {q : Program} {loose : List Str} {XP : (Str → Option Value) → Heap → Prop} {YP : World → Heap → Prop} {d : DefRec} {x : Str}
    (hn : l.most = some n) (hn2 : n ≤ sizeLine) (hdf : d.params.defaults = []) (hr : Room k callerA)
    (F : ∀ (w : World) (mg : Str → Option Value) (fa : Addr) (h : Heap), YP w h → h.Ns mainGlobals mg → mg d.name = some (.ref fa) →
      ∃ (K : PySem.W.Frag) (fd : FuncData) (p : SpD) (gd : Bool), K.In h ∧ (∀ (s : Shared) (u : Value), BindsTo s fd ⟨[u], []⟩ [(x, u)]) ∧
        (∀ ns : List Int, ns.length ≤ n → p [.scr (ns.map D.int)] [] (fun d _ => d = .bl true) fun _ _ => False) ∧
        ∀ base : Heap, K.In base → base.Ns mainGlobals mg → FnD gd l.prog w K mg base [] k fa fd [x] p) :
    PySem.W.WalkO q loose XP YP l.row.toRowW d [] (fun f vs => PySem.call f vs) := by
  refine Att.attach_call hn hdf fun w s₀ s₁ mg mb fa o pm cd doc a vs ns G Y ho hd hcd hmg hobj hints hlen hg => ?_
  obtain ⟨K, fd, p, gd, KX, hb, hp, hF⟩ := F w mg fa _ Y G.T.g hmg
  exact law_runD KX G.T.g G.T.b G.T.builtins G.T.nolimit hg hobj hints (Nat.le_trans hlen hn2) hr hF hb (hp ns hlen)
end DL

set_option maxHeartbeats 4000000
namespace DL
open PySem PySem.Spec PyProof.Rows L2

/-! ### operations by values -/
def itemsM : D → Sto → Option (List D)
  | .lst xs, _ => some xs
  | .mu i, S => S[i]?
  | _, _ => none
def dAdd : F2 := fun a b S R => match a, b with
  | .int i, .int j => R (.int (i + j)) S
  | .tup xs, .tup ys => xs.length + ys.length ≤ sizeLine ∧ R (.tup (xs ++ ys)) S
  | .str x, .str y => x.length + y.length ≤ sizeLine ∧ R (.str (x ++ y)) S
  | a, b => ∃ xs ys, itemsM a S = some xs ∧ itemsM b S = some ys ∧ xs.length + ys.length ≤ sizeLine ∧ R (.lst (xs ++ ys)) S
def dAddM : F2 := fun a b S R => ∃ xs ys, itemsM a S = some xs ∧ itemsM b S = some ys ∧ xs.length + ys.length ≤ sizeLine ∧ R (.mu S.length) (S ++ [xs ++ ys])
def dSub : F2 := fun a b S R => match a, b with
  | .int i, .int j => R (.int (i - j)) S
  | _, _ => False
def dMul : F2 := fun a b S R => match a, b with
  | .int i, .int j => CMulW i j ∧ R (.int (i * j)) S
  | _, _ => False
def dDiv : F2 := fun a b S R => match a, b with
  | .int i, .int j => (j ≠ 0 ∧ j.natAbs.log2 < 9000) ∧ R (.int (i.fdiv j)) S
  | _, _ => False
def dMod : F2 := fun a b S R => match a, b with
  | .int i, .int j => j ≠ 0 ∧ R (.int (i.fmod j)) S
  | _, _ => False
def dPow : F2 := fun a b S R => match a, b with
  | .int i, .int j => CPow i j ∧ R (.int (i ^ j.toNat)) S
  | _, _ => False
def dNeg : F1 := fun a S R => match a with
  | .int i => R (.int (-i)) S
  | _ => False
def dLt : F2 := fun a b S R => match a, b with
  | .int i, .int j => R (.bl (decide (i < j))) S
  | _, _ => False
def dLe : F2 := fun a b S R => match a, b with
  | .int i, .int j => R (.bl (decide (i ≤ j))) S
  | _, _ => False
def dGt : F2 := fun a b S R => match a, b with
  | .int i, .int j => R (.bl (decide (j < i))) S
  | _, _ => False
def dGe : F2 := fun a b S R => match a, b with
  | .int i, .int j => R (.bl (decide (j ≤ i))) S
  | _, _ => False
def isNon : D → Bool
  | .non => true
  | _ => false
def dIs : F2 := fun a b S R => match b with
  | .non => R (.bl (isNon a)) S
  | _ => False
def dIsNot : F2 := fun a b S R => match b with
  | .non => R (.bl (!isNon a)) S
  | _ => False
mutual
def toP (S : Sto) : D → Option PyData
  | .non => some .none
  | .bl b => some (.bool b)
  | .int i => some (.int i)
  | .str x => some (.str x)
  | .tup xs => (toPs S xs).map .tuple
  | .lst xs => (toPs S xs).map .list
  | .scr xs => (toPs S xs).map .list
  | _ => none
def toPs (S : Sto) : List D → Option (List PyData)
  | [] => some []
  | x :: xs => match toP S x, toPs S xs with
    | some p, some ps => some (p :: ps)
    | _, _ => none
end
/-- growing lists stand for what they hold -/
def toQ (S : Sto) : D → Option PyData
  | .mu i => (S[i]?).bind fun xs => (toPs S xs).map .list
  | d => toP S d
def dEq : F2 := fun a b S R => match a, b with
  | .int i, .int j => R (.bl (decide (i = j))) S
  | .str i, .str j => R (.bl (decide (i = j))) S
  | a, b => ∃ p q, toQ S a = some p ∧ toQ S b = some q ∧ SeqAt.shaped p = true ∧ SeqAt.shaped q = true ∧ R (.bl (PyData.eqv p q)) S
def dNe : F2 := fun a b S R => match a, b with
  | .int i, .int j => R (.bl (!decide (i = j))) S
  | .str i, .str j => R (.bl (!decide (i = j))) S
  | a, b => ∃ p q, toQ S a = some p ∧ toQ S b = some q ∧ SeqAt.shaped p = true ∧ SeqAt.shaped q = true ∧ R (.bl (!PyData.eqv p q)) S
def dIx : F2 := fun a b S R => match a, b with
  | .tup xs, .int i => ∃ d, atI xs i = some d ∧ R d S
  | a, .int i => ∃ xs d, itemsL a S = some xs ∧ atI xs i = some d ∧ R d S
  | _, _ => False
def cutD (xs : List D) (lo hi : Option Int) : List D := (xs.drop (HT.sIx xs.length 0 lo)).take (HT.sIx xs.length xs.length hi - HT.sIx xs.length 0 lo)
def dCut (a : D) (lo hi : Option Int) (S : Sto) (R : KR) : Prop := match a with
  | .tup xs => R (.tup (cutD xs lo hi)) S
  | a => ∃ xs, itemsL a S = some xs ∧ R (.lst (cutD xs lo hi)) S
def dLen : FL := fun ds S R => match ds with
  | [.tup xs] => R (.int xs.length) S
  | [.str z] => z.length ≤ sizeLine ∧ R (.int z.length) S
  | [a] => ∃ xs, itemsL a S = some xs ∧ R (.int xs.length) S
  | _ => False
def dAbs : FL := fun ds S R => match ds with
  | [.int i] => R (.int (if i < 0 then -i else i)) S
  | _ => False
def dMax2 : FL := fun ds S R => match ds with
  | [.int i, .int j] => R (.int (if j > i then j else i)) S
  | _ => False
def dMin2 : FL := fun ds S R => match ds with
  | [.int i, .int j] => R (.int (if j < i then j else i)) S
  | _ => False
def dInt : FL := fun ds S R => match ds with
  | [.int i] => R (.int i) S
  | [.bl b] => R (.int (if b then 1 else 0)) S
  | _ => False
def dTupOf : FL := fun ds S R => match ds with
  | [.tup xs] => R (.tup xs) S
  | [a] => ∃ xs, itemsL a S = some xs ∧ R (.tup xs) S
  | _ => False
def dLstOf : FL := fun ds S R => match ds with
  | [.tup xs] => R (.lst xs) S
  | [a] => ∃ xs, itemsL a S = some xs ∧ R (.lst xs) S
  | _ => False
def dAll : FL := fun ds S R => match ds with
  | [a] => ∃ bs : List Bool, itemsL a S = some (bs.map D.bl) ∧ R (.bl (bs.all id)) S
  | _ => False
def dAny : FL := fun ds S R => match ds with
  | [a] => ∃ bs : List Bool, itemsL a S = some (bs.map D.bl) ∧ R (.bl (bs.any id)) S
  | _ => False
def dGcd : FL := fun ds S R => match ds with
  | [.int a, .int b] => R (.int ((Nat.gcd a.natAbs b.natAbs : Nat) : Int)) S
  | _ => False
def dRepr : FL := fun ds S R => match ds with
  | [a] => ∃ p, toQ S a = some p ∧ p.showable = true ∧ p.shown.length ≤ sizeLine ∧ p.depth ≤ 60 ∧ R (.str p.shown) S
  | _ => False
/-! kinds -/
def plainD : D → Bool
  | .ty _ | .ob _ | .er _ | .ab _ => false
  | _ => true
def isTup : D → Bool
  | .tup _ => true
  | _ => false
def isInt : D → Bool
  | .int _ | .bl _ => true
  | _ => false
def isBool : D → Bool
  | .bl _ => true
  | _ => false
def isStr : D → Bool
  | .str _ => true
  | _ => false
def isLst : D → Bool
  | .lst _ | .scr _ | .mu _ => true
  | _ => false
def dIsi (f : D → Bool) : FL := fun ds S R => match ds with
  | [a, .ty _] => plainD a = true ∧ R (.bl (f a)) S
  | _ => False
def kindN : D → String
  | .non => "NoneType"
  | .bl _ => "bool"
  | .int _ => "int"
  | .str _ => "str"
  | .tup _ => "tuple"
  | .lst _ | .scr _ | .mu _ => "list"
  | .emp => "dict"
  | _ => "object"

section
variable {X : Cx} {T : List (Addr × Str)}
theorem items_atM {K : PySem.W.Frag} {m : List Addr} {S : Sto} {G H : Hp} {d : D} {xs : List D} {v : V} (hp : Rp K T m S G H) (dr : DR K m G d v) (hi : itemsM d S = some xs) : ∃ a vs, v = .ref a ∧ H a = some (.lst vs) ∧ DRs K m G xs vs := by
  cases dr with
  | lst h1 _ h2 =>
    cases (Option.some.inj hi)
    exact ⟨_, _, rfl, hp.sub _ _ h1, h2⟩
  | mu h1 =>
    obtain ⟨vs, h3, h4⟩ := hp.sto _ _ _ h1 hi
    exact ⟨_, vs, rfl, hp.sub _ _ h3, h4⟩
  | _ => cases hi
/-- a new tuple, a new list is told -/
theorem tell_tup {K : PySem.W.Frag} {m : List Addr} {S : Sto} {G H : Hp} {R : KR} {Q : VK} {ds : List D} {vs : List V} (hp : Rp K T m S G H) (hk : Okl K T m G H R Q) (dr : DRs K m G ds vs) (h : R (.tup ds) S) : ∀ p, H p = none → Q (.ref p) (upd H p (.tup vs)) := fun p np => by
  obtain ⟨r1, r2⟩ := hp.new (o := .tup vs) np
  exact hk _ S _ m _ _ h r2 r1 (.tup (SqT.of upd_same) (dr.mono hp r2))
theorem tell_lst {K : PySem.W.Frag} {m : List Addr} {S : Sto} {G H : Hp} {R : KR} {Q : VK} {ds : List D} {vs : List V} (hp : Rp K T m S G H) (hk : Okl K T m G H R Q) (dr : DRs K m G ds vs) (h : R (.lst ds) S) : ∀ p, H p = none → Q (.ref p) (upd H p (.lst vs)) := fun p np => by
  obtain ⟨r1, r2⟩ := hp.new (o := .lst vs) np
  refine hk _ S _ m _ _ h r2 r1 (.lst upd_same (fun z => ?_) (dr.mono hp r2))
  obtain ⟨ws, e⟩ := hp.lists z
  have := hp.sub _ _ e
  rw [np] at this
  cases this
theorem tell_mu {K : PySem.W.Frag} {m : List Addr} {S : Sto} {G H : Hp} {R : KR} {Q : VK} {ds : List D} {vs : List V} (hp : Rp K T m S G H) (hk : Okl K T m G H R Q) (dr : DRs K m G ds vs) (h : R (.mu S.length) (S ++ [ds])) : ∀ p, H p = none → Q (.ref p) (upd H p (.lst vs)) := fun p np => by
  obtain ⟨r1, r2, r3⟩ := hp.newMu np dr
  exact hk _ _ _ _ _ _ h r2 r1 (.mu r3)
theorem cat_lists {x y : V} {v u : Value} {pins : List (Addr × Obj)} {s : Shared} {σ : L2.St} {H G : Hp} {Q : VK} {a b : D} {S : Sto} {m : List Addr} {xs ys : List D} (I : Inv X pins σ H s) (rx : RelV x v) (ry : RelV y u) (d1 : DR X.K m G a x) (d2 : DR X.K m G b y) (hp : Rp X.K T m S G H)
    (h1 : itemsM a S = some xs) (h2 : itemsM b S = some ys) (hl : xs.length + ys.length ≤ sizeLine) (k : ∀ vs, DRs X.K m G (xs ++ ys) vs → ∀ p, H p = none → Q (.ref p) (upd H p (.lst vs))) :
    wpAny (model X.prog X.w) X.A (binaryOp .Add v u) (EP X pins σ Q) X.xe s := by
  obtain ⟨p, vs, rfl, e1, r1⟩ := items_atM hp d1 h1
  obtain ⟨q, ws, rfl, e2, r2⟩ := items_atM hp d2 h2
  exact op_cat pins s σ H _ _ v u Q I rx ry ⟨p, q, vs, ws, rfl, rfl, e1, e2, by rw [← r1.length, ← r2.length]; exact hl, k _ (r1.append r2)⟩
theorem opD_addM : OpR X (binaryOp .Add) (lO X.K T dAddM) := by
  intro pins s σ H x y v u Q I rx ry ⟨G, a, b, S, m, R, d1, d2, hp, ⟨xs, ys, h1, h2, hl, h⟩, hk⟩
  exact cat_lists I rx ry d1 d2 hp h1 h2 hl fun vs dr => tell_mu hp hk dr h
theorem cat_tups {x y : V} {v u : Value} {pins : List (Addr × Obj)} {s : Shared} {σ : L2.St} {H G : Hp} {Q : VK} {S : Sto} {m : List Addr} {R : KR} {xs ys : List D} (I : Inv X pins σ H s) (rx : RelV x v) (ry : RelV y u) (d1 : DR X.K m G (.tup xs) x) (d2 : DR X.K m G (.tup ys) y) (hp : Rp X.K T m S G H)
    (hl : xs.length + ys.length ≤ sizeLine) (h : R (.tup (xs ++ ys)) S) (hk : Okl X.K T m G H R Q) : wpAny (model X.prog X.w) X.A (binaryOp .Add v u) (EP X pins σ Q) X.xe s := by
  obtain ⟨p, vs, rfl, e1, r1⟩ := tup_at hp d1
  obtain ⟨q, ws, rfl, e2, r2⟩ := tup_at hp d2
  refine op_catA pins s σ H _ _ v u Q I rx ry ⟨p, q, vs, ws, rfl, rfl, e1, e2, by rw [← r1.length, ← r2.length]; exact hl, fun z => ?_, fun _ z => ?_, fun _ _ => tell_tup hp hk (r1.append r2) h⟩
  · have : xs = [] := List.length_eq_zero_iff.mp (by rw [r1.length, z]; rfl)
    subst this
    exact hk.at h hp d2
  · have : ys = [] := List.length_eq_zero_iff.mp (by rw [r2.length, z]; rfl)
    subst this
    rw [List.append_nil] at h
    exact hk.at h hp d1
theorem opD_add : OpR X (binaryOp .Add) (lO X.K T dAdd) := by
  intro pins s σ H x y v u Q I rx ry ⟨G, a, b, S, m, R, d1, d2, hp, h, hk⟩
  cases a with
  | int i =>
    cases b with
    | int j =>
      cases d1
      cases d2
      exact op_add pins s σ H _ _ v u Q I rx ry ⟨_, _, rfl, rfl, hk.at h hp (.int _)⟩
    | _ =>
      obtain ⟨xs, ys, h1, _⟩ := h
      cases h1
  | str i =>
    cases b with
    | str j =>
      cases d1
      cases d2
      exact op_add_str pins s σ H _ _ v u Q I rx ry ⟨_, _, rfl, rfl, h.1, hk.at h.2 hp (.str _)⟩
    | _ =>
      obtain ⟨xs, ys, h1, _⟩ := h
      cases h1
  | tup xs =>
    cases b with
    | tup ys => exact cat_tups I rx ry d1 d2 hp h.1 h.2 hk
    | _ =>
      obtain ⟨xs, ys, h1, _⟩ := h
      cases h1
  | lst zs =>
    obtain ⟨xs, ys, h1, h2, hl, h⟩ : ∃ xs ys, itemsM (.lst zs) S = some xs ∧ itemsM b S = some ys ∧ xs.length + ys.length ≤ sizeLine ∧ R (.lst (xs ++ ys)) S := h
    exact cat_lists I rx ry d1 d2 hp h1 h2 hl fun vs dr => tell_lst hp hk dr h
  | mu i =>
    obtain ⟨xs, ys, h1, h2, hl, h⟩ : ∃ xs ys, itemsM (.mu i) S = some xs ∧ itemsM b S = some ys ∧ xs.length + ys.length ≤ sizeLine ∧ R (.lst (xs ++ ys)) S := h
    exact cat_lists I rx ry d1 d2 hp h1 h2 hl fun vs dr => tell_lst hp hk dr h
  | _ =>
    obtain ⟨xs, ys, h1, _⟩ := h
    cases h1
/-- two whole numbers -/
theorem opD_ints {f : Value → Value → Sem Value} {r : R2} {g : F2} (ho : OpR X f r) (hg : ∀ a b S R, g a b S R → ∃ i j, a = .int i ∧ b = .int j)
    (hr : ∀ i j S R H (Q : VK), g (.int i) (.int j) S R → (∀ d v, R d S → (∀ m G, DR X.K m G d v) → Q v H) → r (.int i) (.int j) H Q) : OpR X f (lO X.K T g) := by
  intro pins s σ H x y v u Q I rx ry ⟨G, a, b, S, m, R, d1, d2, hp, h, hk⟩
  obtain ⟨i, j, rfl, rfl⟩ := hg _ _ _ _ h
  cases d1
  cases d2
  exact ho pins s σ H _ _ v u Q I rx ry (hr i j S R H Q h fun d v q1 q2 => hk.at q1 hp (q2 m G))
theorem opD_sub : OpR X (binaryOp .Sub) (lO X.K T dSub) := opD_ints op_sub (fun a b S R h => by cases a <;> cases b <;> first | exact ⟨_, _, rfl, rfl⟩ | exact h.elim) fun i j S R H Q h k => ⟨i, j, rfl, rfl, k _ _ h fun _ _ => .int _⟩
theorem opD_mul : OpR X (binaryOp .Mult) (lO X.K T dMul) := opD_ints op_mulW (fun a b S R h => by cases a <;> cases b <;> first | exact ⟨_, _, rfl, rfl⟩ | exact h.elim) fun i j S R H Q h k => ⟨i, j, rfl, rfl, h.1, k _ _ h.2 fun _ _ => .int _⟩
theorem op_divN : OpR X (binaryOp .FloorDiv) (rI (fun _ j => j ≠ 0 ∧ j.natAbs.log2 < 9000) fun i j => .int (i.fdiv j)) := opI fun i j _ _ _ _ _ hc q => floordiv_int hc.1 q (.inl (PyProof.noPylong_of_log2 hc.2))
theorem opD_div : OpR X (binaryOp .FloorDiv) (lO X.K T dDiv) := opD_ints op_divN (fun a b S R h => by cases a <;> cases b <;> first | exact ⟨_, _, rfl, rfl⟩ | exact h.elim) fun i j S R H Q h k => ⟨i, j, rfl, rfl, h.1, k _ _ h.2 fun _ _ => .int _⟩
theorem opD_mod : OpR X (binaryOp .Mod) (lO X.K T dMod) := opD_ints op_modN (fun a b S R h => by cases a <;> cases b <;> first | exact ⟨_, _, rfl, rfl⟩ | exact h.elim) fun i j S R H Q h k => ⟨i, j, rfl, rfl, h.1, k _ _ h.2 fun _ _ => .int _⟩
theorem opD_pow : OpR X (binaryOp .Pow) (lO X.K T dPow) := opD_ints op_pow (fun a b S R h => by cases a <;> cases b <;> first | exact ⟨_, _, rfl, rfl⟩ | exact h.elim) fun i j S R H Q h k => ⟨i, j, rfl, rfl, h.1, k _ _ h.2 fun _ _ => .int _⟩
theorem opD_lt : OpR X (compareOp .Lt) (lO X.K T dLt) := opD_ints op_lt (fun a b S R h => by cases a <;> cases b <;> first | exact ⟨_, _, rfl, rfl⟩ | exact h.elim) fun i j S R H Q h k => ⟨i, j, rfl, rfl, k _ _ h fun _ _ => .bl _⟩
theorem opD_le : OpR X (compareOp .LtE) (lO X.K T dLe) := opD_ints op_le (fun a b S R h => by cases a <;> cases b <;> first | exact ⟨_, _, rfl, rfl⟩ | exact h.elim) fun i j S R H Q h k => ⟨i, j, rfl, rfl, k _ _ h fun _ _ => .bl _⟩
theorem opD_gt : OpR X (compareOp .Gt) (lO X.K T dGt) := opD_ints op_gt (fun a b S R h => by cases a <;> cases b <;> first | exact ⟨_, _, rfl, rfl⟩ | exact h.elim) fun i j S R H Q h k => ⟨i, j, rfl, rfl, k _ _ h fun _ _ => .bl _⟩
theorem opD_ge : OpR X (compareOp .GtE) (lO X.K T dGe) := opD_ints op_ge (fun a b S R h => by cases a <;> cases b <;> first | exact ⟨_, _, rfl, rfl⟩ | exact h.elim) fun i j S R H Q h k => ⟨i, j, rfl, rfl, k _ _ h fun _ _ => .bl _⟩
theorem unD_neg : UnR X (unaryOp .USub) (lU X.K T dNeg) := by
  intro pins s σ H x v Q I rx ⟨G, a, S, m, R, d1, hp, h, hk⟩
  cases a with
  | int i =>
    cases d1
    exact un_neg pins s σ H _ v Q I rx ⟨i, rfl, hk.at h hp (.int _)⟩
  | _ => exact h.elim
theorem isNon_ok {K : PySem.W.Frag} {m : List Addr} {G : Hp} {a : D} {x : V} (d : DR K m G a x) : decide (x = V.non) = isNon a := by
  cases d with
  | non => rfl
  | _ => exact decide_eq_false (by intro z; cases z)
theorem opD_is : OpR X (compareOp .Is) (lO X.K T dIs) := by
  intro pins s σ H x y v u Q I rx ry ⟨G, a, b, S, m, R, d1, d2, hp, h, hk⟩
  cases b with
  | non =>
    cases d2
    exact op_isN pins s σ H _ _ v u Q I rx ry ⟨rfl, by rw [isNon_ok d1]; exact hk.at h hp (.bl _)⟩
  | _ => exact h.elim
theorem opD_isNot : OpR X (compareOp .IsNot) (lO X.K T dIsNot) := by
  intro pins s σ H x y v u Q I rx ry ⟨G, a, b, S, m, R, d1, d2, hp, h, hk⟩
  cases b with
  | non =>
    cases d2
    exact op_notN pins s σ H _ _ v u Q I rx ry ⟨rfl, by rw [isNon_ok d1]; exact hk.at h hp (.bl _)⟩
  | _ => exact h.elim
/-! data as a whole -/
mutual
theorem toP_dp {K : PySem.W.Frag} {m : List Addr} {S : Sto} {G H : Hp} (hp : Rp K T m S G H) : ∀ {d : D} {v : V} {p : PyData}, DR K m G d v → toP S d = some p → Dp K H v p
  | _, _, _, .non, e => by cases (Option.some.inj (by simpa [toP] using e)); exact .non
  | _, _, _, .bl b, e => by cases (Option.some.inj (by simpa [toP] using e)); exact .bl b
  | _, _, _, .int i, e => by cases (Option.some.inj (by simpa [toP] using e)); exact .int i
  | _, _, _, .str x, e => by cases (Option.some.inj (by simpa [toP] using e)); exact .str x
  | _, _, _, .ty n, e => by simp [toP] at e
  | _, _, _, .ob a, e => by simp [toP] at e
  | _, _, _, .er _ _ _, e => by simp [toP] at e
  | _, _, _, .ab _ _, e => by simp [toP] at e
  | _, _, _, .emp h, e => by simp [toP] at e
  | _, _, _, .mu h, e => by simp [toP] at e
  | _, _, _, .tup (ds := ds) h hs, e => by
    unfold toP at e
    obtain ⟨ps, e1, rfl⟩ := Option.map_eq_some_iff.mp e
    exact .tup (sqT_sub hp h) (toPs_dp hp hs e1)
  | _, _, _, .lst (ds := ds) h n hs, e => by
    unfold toP at e
    obtain ⟨ps, e1, rfl⟩ := Option.map_eq_some_iff.mp e
    exact .lst (.inl (.inl (hp.sub _ _ h))) (toPs_dp hp hs e1)
  | _, _, _, .scr (ds := ds) h hs, e => by
    unfold toP at e
    obtain ⟨ps, e1, rfl⟩ := Option.map_eq_some_iff.mp e
    refine .lst ?_ (toPs_dp hp hs e1)
    rcases h with ⟨o, h⟩ | h
    · exact .inl (.inr ⟨o, hp.sub _ _ h⟩)
    · exact .inr h
theorem toPs_dp {K : PySem.W.Frag} {m : List Addr} {S : Sto} {G H : Hp} (hp : Rp K T m S G H) : ∀ {ds : List D} {vs : List V} {ps : List PyData}, DRs K m G ds vs → toPs S ds = some ps → DpAll K H vs ps
  | _, _, _, .nil, e => by cases (Option.some.inj (by simpa [toPs] using e)); exact .nil
  | _, _, _, .cons (d := d) (ds := ds) h hs, e => by
    unfold toPs at e
    cases e1 : toP S d with
    | none =>
      rw [e1] at e
      cases e
    | some p =>
      cases e2 : toPs S ds with
      | none =>
        rw [e1, e2] at e
        cases e
      | some ps =>
        rw [e1, e2] at e
        cases e
        exact .cons (toP_dp hp h e1) (toPs_dp hp hs e2)
end
theorem toQ_dp {K : PySem.W.Frag} {m : List Addr} {S : Sto} {G H : Hp} (hp : Rp K T m S G H) {d : D} {v : V} {p : PyData} (h : DR K m G d v) (e : toQ S d = some p) : Dp K H v p := by
  cases d with
  | mu i =>
    have e : ((S[i]?).bind fun xs => (toPs S xs).map PyData.list) = some p := e
    cases q : S[i]? with
    | none =>
      rw [q] at e
      cases e
    | some xs =>
      rw [q] at e
      obtain ⟨ps, e1, rfl⟩ := Option.map_eq_some_iff.mp (show (toPs S xs).map PyData.list = some p from e)
      obtain ⟨a, vs, rfl, _, _, hh, dr⟩ := mu_at hp h q
      exact .lst (.inl (.inl hh)) (toPs_dp hp dr e1)
  | _ => exact toP_dp hp h e
theorem opD_eqG {pins : List (Addr × Obj)} {s : Shared} {σ : L2.St} {H G : Hp} {x y : V} {v u : Value} {Q : VK} {a b : D} {S : Sto} {m : List Addr} {R : KR} (hu : X.A.units + 64 < cLine) (I : Inv X pins σ H s) (rx : RelV x v) (ry : RelV y u) (d1 : DR X.K m G a x) (d2 : DR X.K m G b y) (hp : Rp X.K T m S G H)
    (h : ∃ p q, toQ S a = some p ∧ toQ S b = some q ∧ SeqAt.shaped p = true ∧ SeqAt.shaped q = true ∧ R (.bl (PyData.eqv p q)) S) (hk : Okl X.K T m G H R Q) : wpAny (model X.prog X.w) X.A (compareOp .Eq v u) (EP X pins σ Q) X.xe s := by
  obtain ⟨p, q, h1, h2, h3, h4, h5⟩ := h
  exact op_eqD hu pins s σ H _ _ v u Q I rx ry ⟨p, q, toQ_dp hp d1 h1, toQ_dp hp d2 h2, h3, h4, hk.at h5 hp (.bl _)⟩
theorem opD_neG {pins : List (Addr × Obj)} {s : Shared} {σ : L2.St} {H G : Hp} {x y : V} {v u : Value} {Q : VK} {a b : D} {S : Sto} {m : List Addr} {R : KR} (hu : X.A.units + 64 < cLine) (I : Inv X pins σ H s) (rx : RelV x v) (ry : RelV y u) (d1 : DR X.K m G a x) (d2 : DR X.K m G b y) (hp : Rp X.K T m S G H)
    (h : ∃ p q, toQ S a = some p ∧ toQ S b = some q ∧ SeqAt.shaped p = true ∧ SeqAt.shaped q = true ∧ R (.bl (!PyData.eqv p q)) S) (hk : Okl X.K T m G H R Q) : wpAny (model X.prog X.w) X.A (compareOp .NotEq v u) (EP X pins σ Q) X.xe s := by
  obtain ⟨p, q, h1, h2, h3, h4, h5⟩ := h
  exact op_neD hu pins s σ H _ _ v u Q I rx ry ⟨p, q, toQ_dp hp d1 h1, toQ_dp hp d2 h2, h3, h4, hk.at h5 hp (.bl _)⟩
theorem dEq_gen {a b : D} {S : Sto} {R : KR} (h : dEq a b S R) : (∃ i j, a = .int i ∧ b = .int j ∧ R (.bl (decide (i = j))) S) ∨ (∃ i j, a = .str i ∧ b = .str j ∧ R (.bl (decide (i = j))) S) ∨
    ∃ p q, toQ S a = some p ∧ toQ S b = some q ∧ SeqAt.shaped p = true ∧ SeqAt.shaped q = true ∧ R (.bl (PyData.eqv p q)) S := by
  unfold dEq at h
  split at h
  · exact .inl ⟨_, _, rfl, rfl, h⟩
  · exact .inr (.inl ⟨_, _, rfl, rfl, h⟩)
  · exact .inr (.inr h)
theorem dNe_gen {a b : D} {S : Sto} {R : KR} (h : dNe a b S R) : (∃ i j, a = .int i ∧ b = .int j ∧ R (.bl (!decide (i = j))) S) ∨ (∃ i j, a = .str i ∧ b = .str j ∧ R (.bl (!decide (i = j))) S) ∨
    ∃ p q, toQ S a = some p ∧ toQ S b = some q ∧ SeqAt.shaped p = true ∧ SeqAt.shaped q = true ∧ R (.bl (!PyData.eqv p q)) S := by
  unfold dNe at h
  split at h
  · exact .inl ⟨_, _, rfl, rfl, h⟩
  · exact .inr (.inl ⟨_, _, rfl, rfl, h⟩)
  · exact .inr (.inr h)
theorem dec_int {i j : Int} : decide (V.int i = V.int j) = decide (i = j) := by
  by_cases h : i = j
  · subst h
    simp
  · rw [decide_eq_false h]
    exact decide_eq_false fun z => h (by cases z; rfl)
theorem dec_str {i j : Str} : decide (V.str i = V.str j) = decide (i = j) := by
  by_cases h : i = j
  · subst h
    simp
  · rw [decide_eq_false h]
    exact decide_eq_false fun z => h (by cases z; rfl)
theorem opD_eq (hu : X.A.units + 64 < cLine) : OpR X (compareOp .Eq) (lO X.K T dEq) := by
  intro pins s σ H x y v u Q I rx ry ⟨G, a, b, S, m, R, d1, d2, hp, h, hk⟩
  rcases dEq_gen h with ⟨i, j, rfl, rfl, h⟩ | ⟨i, j, rfl, rfl, h⟩ | h
  · cases d1
    cases d2
    exact op_eq pins s σ H _ _ v u Q I rx ry ⟨rfl, by rw [dec_int]; exact hk.at h hp (.bl _)⟩
  · cases d1
    cases d2
    exact op_eq pins s σ H _ _ v u Q I rx ry ⟨rfl, by rw [dec_str]; exact hk.at h hp (.bl _)⟩
  · exact opD_eqG hu I rx ry d1 d2 hp h hk
theorem opD_ne (hu : X.A.units + 64 < cLine) : OpR X (compareOp .NotEq) (lO X.K T dNe) := by
  intro pins s σ H x y v u Q I rx ry ⟨G, a, b, S, m, R, d1, d2, hp, h, hk⟩
  rcases dNe_gen h with ⟨i, j, rfl, rfl, h⟩ | ⟨i, j, rfl, rfl, h⟩ | h
  · cases d1
    cases d2
    exact op_ne pins s σ H _ _ v u Q I rx ry ⟨rfl, by rw [dec_int]; exact hk.at h hp (.bl _)⟩
  · cases d1
    cases d2
    exact op_ne pins s σ H _ _ v u Q I rx ry ⟨rfl, by rw [dec_str]; exact hk.at h hp (.bl _)⟩
  · exact opD_neG hu I rx ry d1 d2 hp h hk
end
end DL

set_option maxHeartbeats 4000000
namespace DL
open PySem PySem.Spec PyProof.Rows L2
section
variable {X : Cx} {T : List (Addr × Str)} {W : WX}
theorem atI_rel {K : PySem.W.Frag} {m : List Addr} {G : Hp} {ds : List D} {vs : List V} {i : Int} {d : D} (dr : DRs K m G ds vs) (h : atI ds i = some d) : ∃ v, atI vs i = some v ∧ DR K m G d v := by
  unfold atI at h ⊢
  rw [← dr.length]
  cases q : ixN ds.length i with
  | none =>
    rw [q] at h
    cases h
  | some j =>
    rw [q] at h
    exact dr.get h
theorem dIx_gen {a b : D} {S : Sto} {R : KR} (h : dIx a b S R) : (∃ xs i d, a = .tup xs ∧ b = .int i ∧ atI xs i = some d ∧ R d S) ∨ ∃ xs i d, b = .int i ∧ itemsL a S = some xs ∧ atI xs i = some d ∧ R d S := by
  unfold dIx at h
  split at h
  · obtain ⟨d, h⟩ := h
    exact .inl ⟨_, _, d, rfl, rfl, h⟩
  · obtain ⟨xs, d, h⟩ := h
    exact .inr ⟨xs, _, d, rfl, h⟩
  · exact h.elim
theorem ixD : IxR X (lO X.K T dIx) := by
  intro ve se pins s σ H x y v u Q I rx ry ⟨G, a, b, S, m, R, d1, d2, hp, h, hk⟩ hs
  rcases dIx_gen h with ⟨xs, i, d, rfl, rfl, h1, h2⟩ | ⟨xs, i, d, rfl, h1, h2, h3⟩
  · cases d2
    obtain ⟨p, vs, rfl, sq, dr⟩ := tup_at hp d1
    obtain ⟨w, hw, dw⟩ := atI_rel dr h1
    exact ix_tup ve se pins s σ H _ _ v u Q I rx ry ⟨p, vs, i, w, rfl, rfl, sq, hw, hk.at h2 hp dw⟩ hs
  · cases d2
    obtain ⟨p, vs, rfl, sq, dr⟩ := items_at hp d1 h1
    obtain ⟨w, hw, dw⟩ := atI_rel dr h2
    exact ix_list ve se pins s σ H _ _ v u Q I rx ry ⟨p, vs, i, w, rfl, rfl, sq, hw, hk.at h3 hp dw⟩ hs
/-! slices -/
abbrev WO' := Vars → Sto → (Option Int → Sto → Prop) → KX → Prop
def wP0 : WO' := fun _ S R _ => R none S
def wP1 (w : WE') : WO' := fun env S R Rx => w env S (fun d S1 => ∃ i, d = .int i ∧ R (some i) S1) Rx
def lP (K : PySem.W.Frag) (T : List (Addr × Str)) (W : WX) (w : WO') : L2.TO := fun σ H Q => ∃ G env S m R Rx, RE K m G env σ ∧ Rp K T m S G H ∧ w env S R Rx ∧
  (∀ o S' m' G' H', R o S' → Stp m G H m' G' H' → Rp K T m' S' G' H' → Q o H') ∧ Exl K T W m G H Rx
def POD (X : Cx) (T : List (Addr × Str)) (W : WX) (e : Option Expr) (w : WO') : Prop := PO X e (lP X.K T W w)
theorem po_imp {e : Option Expr} {t t' : L2.TO} (h : PO X e t) (i : ∀ σ H Q, t' σ H Q → t σ H Q) : PO X e t' := ⟨fun pins s σ H Q I q => h.run pins s σ H Q I (i σ H Q q)⟩
theorem pod_none : POD X T W none wP0 := po_imp po_none fun σ H Q ⟨G, env, S, m, R, Rx, he, hp, h, hk, hx⟩ => hk none S m G H h Stp.refl hp
theorem pod_some {e : Expr} {w : WE'} (h : PD X T W e w) : POD X T W (some e) (wP1 w) := po_imp (po_some h) fun σ H Q ⟨G, env, S, m, R, Rx, he, hp, h, hk, hx⟩ => by
  refine ⟨G, env, S, m, _, _, he, hp, h, fun d S1 v m1 G1 H1 ⟨i, hi, h1⟩ s1 p1 d1 => ?_, hx⟩
  subst hi
  cases d1
  exact ⟨i, rfl, hk _ S1 m1 G1 H1 h1 s1 p1⟩
def wCut (wa : WE') (wl wh : WO') : WE' := fun env S R Rx => wa env S (fun a S1 => wl env S1 (fun l S2 => wh env S2 (fun h S3 => dCut a l h S3 R) Rx) Rx) Rx
def lCut (K : PySem.W.Frag) (T : List (Addr × Str)) : V → Option Int → Option Int → Hp → VK → Prop := fun x lo hi H Q => ∃ G a S m R, DR K m G a x ∧ Rp K T m S G H ∧ dCut a lo hi S R ∧ Okl K T m G H R Q
theorem cut_rel {K : PySem.W.Frag} {m : List Addr} {G : Hp} {ds : List D} {vs : List V} {lo hi : Option Int} (dr : DRs K m G ds vs) : DRs K m G (cutD ds lo hi) (cutV vs lo hi) := by
  unfold cutD cutV
  rw [dr.length]
  exact (dr.drop _).take _
theorem cut_whole {xs : List D} {lo hi : Option Int} (h1 : HT.sIx xs.length 0 lo = 0) (h2 : HT.sIx xs.length xs.length hi = xs.length) : cutD xs lo hi = xs := by
  unfold cutD
  rw [h1, h2]
  simp
theorem dCut_gen {a : D} {lo hi : Option Int} {S : Sto} {R : KR} (h : dCut a lo hi S R) : (∃ xs, a = .tup xs ∧ R (.tup (cutD xs lo hi)) S) ∨ ∃ xs, itemsL a S = some xs ∧ R (.lst (cutD xs lo hi)) S := by
  unfold dCut at h
  split at h
  · exact .inl ⟨_, rfl, h⟩
  · exact .inr h
theorem slD : SlR X (lCut X.K T) := by
  intro pins s σ H x v vl vu lo hi sl Q I rx hs pl pu ⟨G, a, S, m, R, d1, hp, h, hk⟩
  rcases dCut_gen h with ⟨xs, rfl, h0⟩ | ⟨xs, h1, h2⟩
  · obtain ⟨p, vs, rfl, sq, dr⟩ := tup_at hp d1
    refine sl_tupA pins s σ H _ v vl vu lo hi sl Q I rx hs pl pu ⟨p, vs, rfl, sq, fun ⟨z1, z2⟩ => ?_, fun _ => tell_tup hp hk (cut_rel dr) h0⟩
    rw [← dr.length] at z1 z2
    rw [cut_whole z1 z2] at h0
    exact hk.at h0 hp d1
  · obtain ⟨p, vs, rfl, sq, dr⟩ := items_at hp d1 h1
    exact sl_list pins s σ H _ v vl vu lo hi sl Q I rx hs pl pu ⟨p, vs, rfl, sq, tell_lst hp hk (cut_rel dr) h2⟩
theorem pd_cut {e : Expr} {lo hi : Option Expr} {p2 pos : Pos} {wa : WE'} {wl wh : WO'} (he : PD X T W e wa) (hl : POD X T W lo wl) (hh : POD X T W hi wh) : PD X T W (.Subscript e (.Slice lo hi none p2) pos) (wCut wa wl wh) := by
  refine pe_imp (pe_slice (slD (T := T)) he hl hh) fun σ H Q ⟨G, env, S, m, R, Rx, he, hp, h, hk, hx⟩ => ?_
  refine lE_of he hp h (fun a S1 v m1 G1 H1 h1 s1 p1 d1 => ?_) hx
  have e1 := he.mono hp s1
  refine ⟨G1, env, S1, m1, _, _, e1, p1, h1, fun l S2 m2 G2 H2 h2 s2 p2 => ?_, hx.on s1⟩
  refine ⟨G2, env, S2, m2, _, _, e1.mono p1 s2, p2, h2, fun u S3 m3 G3 H3 h3 s3 p3 => ?_, hx.on (s1.trans s2)⟩
  exact ⟨G3, a, S3, m3, R, (d1.mono p1 s2).mono p2 s3, p3, h3, hk.on ((s1.trans s2).trans s3)⟩
/-! calls of built-ins -/
theorem two_of {K : PySem.W.Frag} {m : List Addr} {G : Hp} {a b : D} {vs : List V} (h : DRs K m G [a, b] vs) : ∃ x y, vs = [x, y] ∧ DR K m G a x ∧ DR K m G b y := by
  cases h with
  | cons h1 h2 =>
    cases h2 with
    | cons h2 h3 =>
      cases h3
      exact ⟨_, _, rfl, h1, h2⟩
theorem one_of {K : PySem.W.Frag} {m : List Addr} {G : Hp} {a : D} {vs : List V} (h : DRs K m G [a] vs) : ∃ x, vs = [x] ∧ DR K m G a x := by
  cases h with
  | cons h1 h2 =>
    cases h2
    exact ⟨_, rfl, h1⟩
theorem dLen_gen {ds : List D} {S : Sto} {R : KR} (h : dLen ds S R) : (∃ xs, ds = [.tup xs] ∧ R (.int xs.length) S) ∨ (∃ z, ds = [.str z] ∧ z.length ≤ sizeLine ∧ R (.int z.length) S) ∨ ∃ a xs, ds = [a] ∧ itemsL a S = some xs ∧ R (.int xs.length) S := by
  unfold dLen at h
  split at h
  · exact .inl ⟨_, rfl, h⟩
  · exact .inr (.inl ⟨_, rfl, h⟩)
  · obtain ⟨xs, h⟩ := h
    exact .inr (.inr ⟨_, xs, rfl, h⟩)
  · exact h.elim
theorem cD_len : CallR X (.builtin "len") (lC X.K T dLen) := by
  intro pins s σ H vs us Q I r ⟨G, ds, S, m, R, dr, hp, h, hk⟩
  rcases dLen_gen h with ⟨xs, rfl, h⟩ | ⟨z, rfl, h1, h⟩ | ⟨a, xs, rfl, h1, h2⟩
  · obtain ⟨x, rfl, d1⟩ := one_of dr
    obtain ⟨p, ws, rfl, sq, dw⟩ := tup_at hp d1
    exact call_len_seq pins s σ H _ us Q I r ⟨p, ws, rfl, .inr sq, by rw [← dw.length]; exact hk.at h hp (.int _)⟩
  · obtain ⟨x, rfl, d1⟩ := one_of dr
    cases d1
    exact call_len_str pins s σ H _ us Q I r ⟨z, rfl, h1, hk.at h hp (.int _)⟩
  · obtain ⟨x, rfl, d1⟩ := one_of dr
    obtain ⟨p, ws, rfl, sq, dw⟩ := items_at hp d1 h1
    exact call_len_seq pins s σ H _ us Q I r ⟨p, ws, rfl, .inl sq, by rw [← dw.length]; exact hk.at h2 hp (.int _)⟩
theorem cD_abs : CallR X (.builtin "abs") (lC X.K T dAbs) := by
  intro pins s σ H vs us Q I r ⟨G, ds, S, m, R, dr, hp, h, hk⟩
  match ds, h with
  | [.int i], h =>
    obtain ⟨x, rfl, d1⟩ := one_of dr
    cases d1
    exact call_abs pins s σ H _ us Q I r ⟨i, rfl, hk.at h hp (.int _)⟩
theorem cD_max (hc : X.calm = true) : CallR X (.builtin "max") (lC X.K T dMax2) := by
  intro pins s σ H vs us Q I r ⟨G, ds, S, m, R, dr, hp, h, hk⟩
  match ds, h with
  | [.int i, .int j], h =>
    obtain ⟨x, y, rfl, d1, d2⟩ := two_of dr
    cases d1
    cases d2
    exact call_max2 hc pins s σ H _ us Q I r ⟨i, j, rfl, hk.at h hp (.int _)⟩
theorem cD_min (hc : X.calm = true) : CallR X (.builtin "min") (lC X.K T dMin2) := by
  intro pins s σ H vs us Q I r ⟨G, ds, S, m, R, dr, hp, h, hk⟩
  match ds, h with
  | [.int i, .int j], h =>
    obtain ⟨x, y, rfl, d1, d2⟩ := two_of dr
    cases d1
    cases d2
    exact call_min2 hc pins s σ H _ us Q I r ⟨i, j, rfl, hk.at h hp (.int _)⟩
theorem cD_int : CallR X (.type "int") (lC X.K T dInt) := by
  intro pins s σ H vs us Q I r ⟨G, ds, S, m, R, dr, hp, h, hk⟩
  match ds, h with
  | [.int i], h =>
    obtain ⟨x, rfl, d1⟩ := one_of dr
    cases d1
    exact call_int1 pins s σ H _ us Q I r (.inl ⟨i, rfl, hk.at h hp (.int _)⟩)
  | [.bl i], h =>
    obtain ⟨x, rfl, d1⟩ := one_of dr
    cases d1
    exact call_int1 pins s σ H _ us Q I r (.inr ⟨i, rfl, hk.at h hp (.int _)⟩)
theorem cD_gcd : CallR X (.builtin "math.gcd") (lC X.K T dGcd) := by
  intro pins s σ H vs us Q I r ⟨G, ds, S, m, R, dr, hp, h, hk⟩
  match ds, h with
  | [.int i, .int j], h =>
    obtain ⟨x, y, rfl, d1, d2⟩ := two_of dr
    cases d1
    cases d2
    exact cr_gcd pins s σ H _ us Q I r ⟨i, j, rfl, hk.at h hp (.int _)⟩
theorem dTupOf_gen {ds : List D} {S : Sto} {R : KR} (h : dTupOf ds S R) : (∃ xs, ds = [.tup xs] ∧ R (.tup xs) S) ∨ ∃ a xs, ds = [a] ∧ itemsL a S = some xs ∧ R (.tup xs) S := by
  unfold dTupOf at h
  split at h
  · exact .inl ⟨_, rfl, h⟩
  · obtain ⟨xs, h⟩ := h
    exact .inr ⟨_, xs, rfl, h⟩
  · exact h.elim
theorem dLstOf_gen {ds : List D} {S : Sto} {R : KR} (h : dLstOf ds S R) : (∃ xs, ds = [.tup xs] ∧ R (.lst xs) S) ∨ ∃ a xs, ds = [a] ∧ itemsL a S = some xs ∧ R (.lst xs) S := by
  unfold dLstOf at h
  split at h
  · exact .inl ⟨_, rfl, h⟩
  · obtain ⟨xs, h⟩ := h
    exact .inr ⟨_, xs, rfl, h⟩
  · exact h.elim
theorem cD_tup : CallR X (.type "tuple") (lC X.K T dTupOf) := by
  intro pins s σ H vs us Q I r ⟨G, ds, S, m, R, dr, hp, h, hk⟩
  rcases dTupOf_gen h with ⟨xs, rfl, h⟩ | ⟨a, xs, rfl, h1, h2⟩
  · obtain ⟨x, rfl, d1⟩ := one_of dr
    obtain ⟨p, ws, rfl, sq, dw⟩ := tup_at hp d1
    exact call_tuple_of pins s σ H _ us Q I r ⟨p, ws, rfl, .inr ⟨sq, hk.at h hp d1⟩⟩
  · obtain ⟨x, rfl, d1⟩ := one_of dr
    obtain ⟨p, ws, rfl, sq, dw⟩ := items_at hp d1 h1
    exact call_tuple_of pins s σ H _ us Q I r ⟨p, ws, rfl, .inl ⟨sq, tell_tup hp hk dw h2⟩⟩
theorem cD_lst : CallR X (.type "list") (lC X.K T dLstOf) := by
  intro pins s σ H vs us Q I r ⟨G, ds, S, m, R, dr, hp, h, hk⟩
  rcases dLstOf_gen h with ⟨xs, rfl, h⟩ | ⟨a, xs, rfl, h1, h2⟩
  · obtain ⟨x, rfl, d1⟩ := one_of dr
    obtain ⟨p, ws, rfl, sq, dw⟩ := tup_at hp d1
    exact call_list_of pins s σ H _ us Q I r ⟨p, ws, rfl, .inr sq, tell_lst hp hk dw h⟩
  · obtain ⟨x, rfl, d1⟩ := one_of dr
    obtain ⟨p, ws, rfl, sq, dw⟩ := items_at hp d1 h1
    exact call_list_of pins s σ H _ us Q I r ⟨p, ws, rfl, .inl sq, tell_lst hp hk dw h2⟩
theorem bls_rel {K : PySem.W.Frag} {m : List Addr} {G : Hp} : ∀ {bs : List Bool} {vs : List V}, DRs K m G (bs.map D.bl) vs → vs = bs.map V.bl
  | [], _, .nil => rfl
  | b :: bs, _, .cons h hs => by
    cases h
    rw [bls_rel hs]
    rfl
theorem cD_all (hc : X.calm = true) : CallR X (.builtin "all") (lC X.K T dAll) := by
  intro pins s σ H vs us Q I r ⟨G, ds, S, m, R, dr, hp, h, hk⟩
  match ds, h with
  | [a], ⟨bs, h1, h2⟩ =>
    obtain ⟨x, rfl, d1⟩ := one_of dr
    obtain ⟨p, ws, rfl, sq, dw⟩ := items_at hp d1 h1
    rw [bls_rel dw] at sq
    exact cr_all hc pins s σ H _ us Q I r ⟨p, bs, rfl, sq, hk.at h2 hp (.bl _)⟩
theorem cD_any (hc : X.calm = true) : CallR X (.builtin "any") (lC X.K T dAny) := by
  intro pins s σ H vs us Q I r ⟨G, ds, S, m, R, dr, hp, h, hk⟩
  match ds, h with
  | [a], ⟨bs, h1, h2⟩ =>
    obtain ⟨x, rfl, d1⟩ := one_of dr
    obtain ⟨p, ws, rfl, sq, dw⟩ := items_at hp d1 h1
    rw [bls_rel dw] at sq
    exact cr_any hc pins s σ H _ us Q I r ⟨p, bs, rfl, sq, hk.at h2 hp (.bl _)⟩
theorem kind_ty {K : PySem.W.Frag} {m : List Addr} {S : Sto} {G H : Hp} {a : D} {x : V} (hp : Rp K T m S G H) (d : DR K m G a x) (hpl : plainD a = true) : TyX K H x (.type (kindN a)) := by
  cases d with
  | non => exact .base .non
  | bl b => exact .base (.bl b)
  | int b => exact .base (.int b)
  | str b => exact .base (.str b)
  | ty n => cases hpl
  | ob n => cases hpl
  | er n => cases hpl
  | ab n => cases hpl
  | emp h => exact .base (.dK (hp.sub _ _ h))
  | mu h =>
    obtain ⟨vs, e⟩ := hp.lists (List.mem_iff_getElem?.mpr ⟨_, h⟩)
    exact .base (.lst (hp.sub _ _ e))
  | lst h _ _ => exact .base (.lst (hp.sub _ _ h))
  | scr h _ =>
    rcases h with ⟨o, h⟩ | ⟨o, its, n, hk, hc, _⟩
    · exact .base (.frz (hp.sub _ _ h))
    · exact .kList hk hc
  | tup h _ =>
    rcases h with (h | ⟨o, h⟩) | ⟨o, its, n, hk, hc, _⟩
    · exact .base (.tup (hp.sub _ _ h))
    · exact .fTuple (hp.sub _ _ h)
    · exact .kTuple hk hc
theorem cD_isi {n : String} {f : D → Bool} (hf : ∀ a, plainD a = true → kitB (kindN a) n = some (f a)) : CallR X (.builtin "isinstance") (lC X.K T fun ds S R => (∃ a, ds = [a, .ty n]) ∧ dIsi f ds S R) := by
  intro pins s σ H vs us Q I r ⟨G, ds, S, m, R, dr, hp, ⟨⟨a, ea⟩, h⟩, hk⟩
  subst ea
  obtain ⟨x, y, rfl, d1, d2⟩ := two_of dr
  cases d2
  have h : plainD a = true ∧ R (.bl (f a)) S := h
  exact call_isi pins s σ H _ us Q I r ⟨x, _, _, _, _, rfl, .ty n, kind_ty hp d1 h.1, kit_ty (hf a h.1), hk.at h.2 hp (.bl _)⟩
theorem isi_tup : ∀ a, plainD a = true → kitB (kindN a) "tuple" = some (isTup a) := fun a h => by cases a <;> first | (cases h; done) | (simp only [kindN, isTup, isInt, isBool, isStr, isLst]; decide +kernel) 
theorem isi_int : ∀ a, plainD a = true → kitB (kindN a) "int" = some (isInt a) := fun a h => by cases a <;> first | (cases h; done) | (simp only [kindN, isTup, isInt, isBool, isStr, isLst]; decide +kernel)
theorem isi_bool : ∀ a, plainD a = true → kitB (kindN a) "bool" = some (isBool a) := fun a h => by cases a <;> first | (cases h; done) | (simp only [kindN, isTup, isInt, isBool, isStr, isLst]; decide +kernel)
theorem isi_str : ∀ a, plainD a = true → kitB (kindN a) "str" = some (isStr a) := fun a h => by cases a <;> first | (cases h; done) | (simp only [kindN, isTup, isInt, isBool, isStr, isLst]; decide +kernel)
theorem isi_lst : ∀ a, plainD a = true → kitB (kindN a) "list" = some (isLst a) := fun a h => by cases a <;> first | (cases h; done) | (simp only [kindN, isTup, isInt, isBool, isStr, isLst]; decide +kernel)
end
end DL

set_option maxHeartbeats 4000000
namespace DL
open PySem PySem.Spec PyProof.Rows L2
/-! ### repr -/
theorem hasDict_no : (∀ {K : PySem.W.Frag} {H : Hp} {v : V} {p : PyData}, Dp K H v p → p.hasDict = false) := by
  intro K H v p h
  refine Dp.rec (motive_1 := fun v p _ => p.hasDict = false) (motive_2 := fun vs ps _ => PyData.hasDictAll ps = false) ?_ ?_ ?_ ?_ ?_ ?_ ?_ ?_ h
  all_goals first | (intros; simp_all [PyData.hasDict, PyData.hasDictAll]; done) | simp [PyData.hasDict, PyData.hasDictAll]
section
variable {X : Cx} {T : List (Addr × Str)} {W : WX}
theorem dRepr_gen {ds : List D} {S : Sto} {R : KR} (h : dRepr ds S R) : ∃ a p, ds = [a] ∧ toQ S a = some p ∧ p.showable = true ∧ p.shown.length ≤ sizeLine ∧ p.depth ≤ 60 ∧ R (.str p.shown) S := by
  unfold dRepr at h
  split at h
  · obtain ⟨p, h⟩ := h
    exact ⟨_, p, rfl, h⟩
  · exact h.elim
theorem cD_repr (hg : X.A.guards = some []) (hu : X.A.units + 64 < cLine) : CallR X (.builtin "repr") (lC X.K T dRepr) := by
  intro pins s σ H vs us Q I r ⟨G, ds, S, m, R, dr, hp, h, hk⟩
  obtain ⟨a, p, rfl, h1, h2, h3, h4, h5⟩ := dRepr_gen h
  obtain ⟨x, rfl, d1⟩ := one_of dr
  obtain ⟨u, rfl, rx⟩ := vals1 r
  have dp := toQ_dp hp d1 h1
  have qv : ∀ t : Tok, ∀ s', Inv X pins σ H s' → EP X pins σ Q (.str p.shown t) s' := fun t s' I' => ⟨.str p.shown, H, I', ⟨t, rfl⟩, hk.at h5 hp (.str _)⟩
  cases dp with
  | non =>
    cases (show u = Value.none from rx)
    exact P.repr_of_none (qv _ _ (I.tok _))
  | bl b =>
    cases (show u = Value.bool b from rx)
    exact P.repr_of_bool (qv _ _ (I.tok _))
  | int i =>
    obtain ⟨t, e⟩ := (show ∃ t, u = Value.int i t from rx)
    subst e
    exact P.repr_of_int (of_decide_eq_true h2) (qv _ _ (I.tok _))
  | str z =>
    obtain ⟨t, e⟩ := (show ∃ t, u = Value.str z t from rx)
    subst e
    exact P.repr_of_str (qv _ _ (I.tok _)) h3
  | lst hs ha =>
    cases (show u = Value.ref _ from rx)
    have nd := hasDict_no (.lst hs ha)
    obtain ⟨as, rd⟩ := Dp.reads I _ _ _ (.lst hs ha) rx
    refine repr_of_reads' rd h2 (fun z => absurd (nd.symm.trans z) Bool.false_ne_true) hg (by omega) (fun _ _ e => e) (fun h' t tk hk' => qv t _ (I.kept hk')) h3
  | tup hs ha =>
    cases (show u = Value.ref _ from rx)
    have nd := hasDict_no (.tup hs ha)
    obtain ⟨as, rd⟩ := Dp.reads I _ _ _ (.tup hs ha) rx
    refine repr_of_reads' rd h2 (fun z => absurd (nd.symm.trans z) Bool.false_ne_true) hg (by omega) (fun _ _ e => e) (fun h' t tk hk' => qv t _ (I.kept hk')) h3
/-! ### zip of two tuples, enumerate of a list -/
def wiZT (as : WA') : WI' := fun env S R Rx => as env S (fun ds S1 => ∃ xs ys, ds = [.tup xs, .tup ys] ∧ R ⟨List.zipWith (fun x y => D.tup [x, y]) xs ys, fun _ => True⟩ S1) Rx
def wiEL (as : WA') : WI' := fun env S R Rx => as env S (fun ds S1 => ∃ d xs, ds = [d] ∧ itemsL d S1 = some xs ∧ R ⟨xs.zipIdx.map fun q => D.tup [.int (q.2 : Nat), q.1], fun S => itemsL d S = some xs⟩ S1) Rx
theorem pair_new {K : PySem.W.Frag} {m : List Addr} {S : Sto} {G H : Hp} {c d : D} {x y : V} {p : Addr} (hp : Rp K T m S G H) (np : H p = none) (d1 : DR K m G c x) (d2 : DR K m G d y) :
    ∃ m' G', Stp m G H m' G' (upd H p (.tup [x, y])) ∧ Rp K T m' S G' (upd H p (.tup [x, y])) ∧ DR K m' G' (.tup [c, d]) (.ref p) := by
  obtain ⟨r1, r2⟩ := hp.new (o := .tup [x, y]) np
  exact ⟨m, _, r2, r1, .tup (SqT.of upd_same) (.cons (d1.mono hp r2) (.cons (d2.mono hp r2) .nil))⟩
theorem pid_zipT {es : List Expr} {kk : Nat} {tpos p pos : Pos} {e e2 : Expr} {as : WA'} (hg : Gl X "zip") (hm : X.mg "zip" = none) (ha : PAD X T W [e, e2] as)
    (hs : starEach [e, e2] X.env = (false, eval e X.env) :: starEach [e2] X.env := by rfl) (hpl : (backTo pos (starEach [e2] X.env)).any (·.1) = false := by rfl) : PID X T W (.Tuple es kk tpos) (.Call (.Name "zip" p) [e, e2] [] pos) (wiZT as) := by
  refine pi_imp (RZ.pi_zipA hg hm ha hs hpl) fun σ H R ⟨G, env, S, m, R', Rx, he, hp, h, hk, hx⟩ => ?_
  refine ⟨G, env, S, m, _, _, he, hp, h, fun ds S1 vs m1 G1 H1 ⟨xs, ys, hd, h1⟩ s1 p1 d1 => ?_, hx⟩
  subst hd
  obtain ⟨x, y, rfl, da, db⟩ := two_of d1
  obtain ⟨a, us, rfl, sa, _⟩ := tup_at p1 da
  obtain ⟨b, ws, rfl, sb, _⟩ := tup_at p1 db
  refine ⟨a, b, us, ws, rfl, .inr ⟨sa, sb, hk _ S1 m1 G1 H1 _ h1 s1 p1 ⟨fun i d S2 m2 G2 H2 hd _ p2 s2 => ?_, fun S2 m2 G2 H2 _ p2 s2 => ?_⟩⟩⟩
  · obtain ⟨a', us', ea, sa', ra⟩ := tup_at p2 (da.mono p1 s2)
    obtain ⟨b', ws', eb, sb', rb⟩ := tup_at p2 (db.mono p1 s2)
    cases ea
    cases eb
    rw [List.getElem?_zipWith] at hd
    cases q1 : xs[i]? with
    | none =>
      rw [q1] at hd
      cases hd
    | some c1 =>
      cases q2 : ys[i]? with
      | none =>
        rw [q1, q2] at hd
        cases hd
      | some c2 =>
        rw [q1, q2] at hd
        cases hd
        obtain ⟨v1, hv1, dv1⟩ := ra.get q1
        obtain ⟨v2, hv2, dv2⟩ := rb.get q2
        refine ⟨⟨us', ws', v1, v2, sa', sb', hv1, hv2⟩, fun z H' ⟨Tn, x1, y1, e0, e1, e2, e3, e4⟩ => ?_⟩
        subst e0 e2
        have f1 := e3 us' sa'
        have f2 := e4 ws' sb'
        rw [hv1] at f1
        rw [hv2] at f2
        cases f1
        cases f2
        exact pair_new p2 e1 dv1 dv2
  · obtain ⟨a', us', ea, sa', ra⟩ := tup_at p2 (da.mono p1 s2)
    obtain ⟨b', ws', eb, sb', rb⟩ := tup_at p2 (db.mono p1 s2)
    cases ea
    cases eb
    refine ⟨us', ws', sa', sb', ?_⟩
    rw [← ra.length, ← rb.length, List.length_zipWith]
    omega
theorem pid_enumL {es : List Expr} {kk : Nat} {tpos p pos : Pos} {e : Expr} {as : WA'} (hg : Gl X "enumerate") (hm : X.mg "enumerate" = none) (ha : PAD X T W [e] as)
    (hs : starEach [e] X.env = [(false, eval e X.env)] := by rfl) : PID X T W (.Tuple es kk tpos) (.Call (.Name "enumerate" p) [e] [] pos) (wiEL as) := by
  refine pi_imp (pi_enum hg hm ha hs) fun σ H R ⟨G, env, S, m, R', Rx, he, hp, h, hk, hx⟩ => ?_
  refine ⟨G, env, S, m, _, _, he, hp, h, fun ds S1 vs m1 G1 H1 ⟨d0, xs, hd, hi, h1⟩ s1 p1 d1 => ?_, hx⟩
  subst hd
  obtain ⟨x, rfl, da⟩ := one_of d1
  obtain ⟨a, us, rfl, sa, _⟩ := items_at p1 da hi
  refine ⟨a, us, rfl, sa, hk _ S1 m1 G1 H1 _ h1 s1 p1 ⟨fun i d S2 m2 G2 H2 hd hck p2 s2 => ?_, fun S2 m2 G2 H2 hck p2 s2 => ?_⟩⟩
  · obtain ⟨a', us', ea, sa', ra⟩ := items_at p2 (da.mono p1 s2) hck
    cases ea
    rw [List.getElem?_map, List.getElem?_zipIdx] at hd
    cases q1 : xs[i]? with
    | none =>
      rw [q1] at hd
      cases hd
    | some c1 =>
      rw [q1] at hd
      have hd : d = D.tup [.int ((0 + i : Nat) : Int), c1] := (Option.some.inj hd).symm
      subst hd
      obtain ⟨v1, hv1, dv1⟩ := ra.get q1
      refine ⟨⟨us', v1, sa', hv1⟩, fun z H' ⟨Tn, x1, e0, e1, e2, e3⟩ => ?_⟩
      subst e0 e2
      have f1 := e3 us' sa'
      rw [hv1] at f1
      cases f1
      have e : ((0 + i : Nat) : Int) = (i : Int) := by rw [Nat.zero_add]
      rw [e]
      exact pair_new p2 e1 (.int _) dv1
  · obtain ⟨a', us', ea, sa', ra⟩ := items_at p2 (da.mono p1 s2) hck
    cases ea
    refine ⟨us', sa', ?_⟩
    rw [← ra.length, List.length_map, List.length_zipIdx]
    exact Nat.le_refl _
/-! ### comprehensions -/
inductive Bd where
  | nm (i : Nat)
  | tp (is : List Nat)
def bdGs : List Nat → TGs
  | [] => gNil
  | i :: is => gCons (gName i) (bdGs is)
def bdG (K : PySem.W.Frag) : Bd → TG
  | .nm i => gName i
  | .tp is => gTup K is.length (bdGs is)
def Bd.all : Bd → List Nat
  | .nm i => [i]
  | .tp is => is
def setsE : List Nat → List D → Vars → Vars
  | i :: is, d :: ds, env => setsE is ds (env.set i (some d))
  | _, _, env => env
def bindE (b : Bd) (d : D) (env : Vars) (Q : Vars → Prop) : Prop := match b with
  | .nm i => Q (env.set i (some d))
  | .tp is => ∃ xs, d = .tup xs ∧ xs.length = is.length ∧ Q (setsE is xs env)
def wipeE (env : Vars) : List Nat → Vars
  | [] => env
  | i :: is => (wipeE env is).set i none
theorem wipe_rel {K : PySem.W.Frag} {m : List Addr} {G : Hp} {env : Vars} {σ : L2.St} (h : RE K m G env σ) : ∀ is : List Nat, RE K m G (wipeE env is) (L2.wipe σ is)
  | [] => h
  | i :: is => (wipe_rel h is).unset
theorem wipe_set {σ : L2.St} {o : Option V} : ∀ {is : List Nat} {i : Nat}, i ∈ is → L2.wipe (σ.set i o) is = L2.wipe σ is
  | j :: is, i, h => by
    show (L2.wipe (σ.set i o) is).set j none = (L2.wipe σ is).set j none
    by_cases hi : i ∈ is
    · rw [wipe_set hi]
    · have e : i = j := by
        rcases List.mem_cons.mp h with e | e
        · exact e
        · exact absurd e hi
      subst e
      have key : ∀ is : List Nat, i ∉ is → L2.wipe (σ.set i o) is = (L2.wipe σ is).set i o := fun is hn => by
        induction is with
        | nil => rfl
        | cons k is ih =>
          have n1 : i ≠ k := fun z => hn (by rw [z]; exact List.mem_cons_self)
          show (L2.wipe (σ.set i o) is).set k none = ((L2.wipe σ is).set k none).set i o
          rw [ih fun z => hn (List.mem_cons_of_mem _ z), List.set_comm _ _ n1]
      rw [key is hi, List.set_set]
theorem wipe_wipe {σ : L2.St} {own : List Nat} : ∀ {is : List Nat}, (∀ i ∈ is, i ∈ own) → L2.wipe (L2.wipe σ is) own = L2.wipe σ own
  | [], _ => rfl
  | i :: is, h => (wipe_set (h i List.mem_cons_self)).trans (wipe_wipe fun j hj => h j (List.mem_cons_of_mem _ hj))
theorem setsV {K : PySem.W.Frag} {m : List Addr} {G H : Hp} {own : List Nat} {Qd : L2.St → Hp → Prop} : ∀ {is : List Nat} {ds : List D} {vs : List V} {env : Vars} {σ : L2.St}, (∀ i ∈ is, i ∈ own) → ds.length = is.length → DRs K m G ds vs → RE K m G env σ →
    (∀ σ2, RE K m G (setsE is ds env) σ2 → L2.wipe σ2 own = L2.wipe σ own → Qd σ2 H) → bdGs is vs σ H Qd
  | [], [], _, _, σ, _, _, .nil, he, k => ⟨rfl, k σ he rfl⟩
  | i :: is, d :: ds, _, env, σ, ho, hl, .cons d1 d2, he, k =>
    ⟨_, _, rfl, setsV (is := is) (ds := ds) (env := env.set i (some d)) (fun j hj => ho j (List.mem_cons_of_mem _ hj)) (by simpa using hl) d2 (he.set d1) fun σ2 h1 h2 => k σ2 h1 (h2.trans (wipe_set (ho i List.mem_cons_self)))⟩
  | [], _ :: _, _, _, _, _, hl, _, _, _ => by cases hl
  | _ :: _, [], _, _, _, _, hl, _, _, _ => by cases hl
theorem bind_rel {K : PySem.W.Frag} {m : List Addr} {S : Sto} {G H : Hp} {own : List Nat} {b : Bd} {d : D} {v : V} {env : Vars} {σ : L2.St} {Q : Vars → Prop} {Qd : L2.St → Hp → Prop} (hp : Rp K T m S G H) (ho : ∀ i ∈ b.all, i ∈ own) (dr : DR K m G d v) (he : RE K m G env σ) (h : bindE b d env Q)
    (k : ∀ env2 σ2, Q env2 → RE K m G env2 σ2 → L2.wipe σ2 own = L2.wipe σ own → Qd σ2 H) : bdG K b v σ H Qd := by
  cases b with
  | nm i => exact k _ _ h (he.set dr) (wipe_set (ho i (by simp [Bd.all])))
  | tp is =>
    obtain ⟨xs, rfl, hl, h⟩ := h
    obtain ⟨a, vs, rfl, sq, dx⟩ := tup_at hp dr
    exact ⟨a, vs, rfl, sq, by rw [← dx.length]; exact hl, setsV ho hl dx he fun σ2 h1 h2 => k _ σ2 h h1 h2⟩
def wYes : WT' := fun _ S R _ => R true S
def PTsD (X : Cx) (T : List (Addr × Str)) (W : WX) (ifs : List Expr) (w : WT') : Prop := PTs X ifs (lT X.K T W w)
theorem ptsd_nil : PTsD X T W [] wYes := ⟨fun pins s σ H Q I ⟨G, env, S, m, R, Rx, he, hp, h, hk, hx⟩ => pts_nil.run pins s σ H Q I (hk true S m G H h Stp.refl hp)⟩
theorem ptsd_one {c : Expr} {w : WT'} (h : PTD X T W c w) : PTsD X T W [c] w := pts_one h
def noX : KX := fun _ _ _ => False
def comp (ck : Sto → Prop) (b : Bd) (tt : WT') (te : WE') (own : List Nat) (env : Vars) (Rf : List D → Sto → Prop) : List D → List D → Sto → Prop
  | [], acc, S => ck S ∧ Rf acc S
  | d :: ds, acc, S => ck S ∧ bindE b d (wipeE env own) fun env1 => tt env1 S (fun ok S2 => if ok = true then te env1 S2 (fun y S3 => acc.length < sizeLine ∧ comp ck b tt te own env Rf ds (acc ++ [y]) S3) noX else comp ck b tt te own env Rf ds acc S2) noX
def wLc (wi : WI') (b : Bd) (tt : WT') (te : WE') (own : List Nat) : WE' := fun env S R Rx => wi env S (fun src S1 => comp src.ck b tt te own env (fun acc S2 => R (.lst acc) S2) src.xs [] S1) Rx
theorem exl_no {K : PySem.W.Frag} {m : List Addr} {G H : Hp} {Wn : WX} : Exl K T Wn m G H noX := fun _ _ _ _ _ _ _ _ _ h => h.elim
theorem comp_turns {K : PySem.W.Frag} {Wn Wm : WX} {wi : WI'} {b : Bd} {tt : WT'} {te : WE'} {own : List Nat} {σ : L2.St} {H : Hp} {Q : VK} (ho : ∀ i ∈ b.all, i ∈ own) (h : lE K T W (wLc wi b tt te own) σ H Q) :
    tLc (lI K T W wi) (bdG K b) (lT K T Wn tt) (lE K T Wm te) own σ H Q := by
  obtain ⟨G, env, S, m, R, Rx, he, hp, h, hk, hx⟩ := h
  refine ⟨G, env, S, m, _, Rx, he, hp, h, fun src S1 m1 G1 H1 J h1 s1 p1 hw => fun Da nD => ?_, hx⟩
  have he1 := he.mono hp s1
  have gD : G1 Da = none := none_of (fun a o q => ⟨o, p1.sub a o q⟩) nD
  have neD : ∀ {a o}, H1 a = some o → a ≠ Da := fun q => ne_of_none q nD
  have lists : ∀ {vs : List V} {m2 G2 H2 S2}, Rp K T m2 S2 G2 H2 → H2 Da = some (.lst vs) → G2 Da = none → ∀ ws, Rp K T m2 S2 G2 (upd H2 Da (.lst ws)) := fun {vs m2 G2 H2 S2} p2 hD gD ws => by
    refine ⟨fun a o q => ?_, p2.nd, p2.len, p2.sto, tabs_keep p2.tabs (fun a o q n => ?_), p2.nt⟩
    · rw [upd_ne (fun z => by rw [z, gD] at q; cases q)]
      exact p2.sub a o q
    · rw [upd_ne (fun z => by rw [z, hD] at q; cases q; exact n _ rfl)]
      exact q
  refine ⟨fun i n H' => n = src.xs.length - i ∧ i ≤ src.xs.length ∧ ∃ m2 G2 S2 acc vs, Rp K T m2 S2 G2 H' ∧ Stp m1 G1 H1 m2 G2 H' ∧ H' Da = some (.lst vs) ∧ G2 Da = none ∧ DRs K m2 G2 acc vs ∧ comp src.ck b tt te own env (fun acc S2 => R (.lst acc) S2) (src.xs.drop i) acc S2,
    ⟨src.xs.length, by simp, Nat.zero_le _, m1, G1, S1, [], [], ?_, ?_, upd_same, gD, .nil, by simpa using h1⟩, ?_⟩
  · refine ⟨fun a o q => ?_, p1.nd, p1.len, p1.sto, tabs_keep p1.tabs (fun a o q n => ?_), p1.nt⟩
    · rw [upd_ne (neD (p1.sub a o q))]
      exact p1.sub a o q
    · rw [upd_ne (neD q)]
      exact q
  · exact ⟨⟨[], by simp, by simp⟩, fun _ _ q _ => q, fun _ o q => ⟨o, q⟩, fun a o q g _ => ⟨by rw [upd_ne (neD q)]; exact q, g⟩⟩
  · rintro i n H' ⟨rfl, hi, m2, G2, S2, acc, vs, p2, s2, hD, gD2, da, hc⟩
    by_cases hlt : i < src.xs.length
    · have e : src.xs.drop i = src.xs[i] :: src.xs.drop (i + 1) := List.drop_eq_getElem_cons hlt
      rw [e] at hc
      obtain ⟨hck, hc⟩ := hc
      obtain ⟨g1, g2⟩ := hw.1 i src.xs[i] S2 m2 G2 H' (List.getElem?_eq_getElem hlt) hck p2 s2
      refine .inr ⟨g1, fun H3 => ∃ m2 G2 S2 acc vs, Rp K T m2 S2 G2 H3 ∧ Stp m1 G1 H1 m2 G2 H3 ∧ H3 Da = some (.lst vs) ∧ G2 Da = none ∧ DRs K m2 G2 acc vs ∧ comp src.ck b tt te own env (fun acc S2 => R (.lst acc) S2) (src.xs.drop (i + 1)) acc S2, fun H3 q => ⟨src.xs.length - (i + 1), by omega, rfl, hlt, q⟩, fun x H3 y => ?_⟩
      obtain ⟨m3, G3, s3, p3, d3⟩ := g2 x H3 y
      obtain ⟨hD3, gD3⟩ := s3.frame Da _ hD gD2 (by intro ps z; cases z)
      have s13 := s2.trans s3
      refine bind_rel p3 ho d3 (wipe_rel (he1.mono p1 s13) own) hc fun env3 σ3 h3 e3 w3 => ⟨w3.trans (wipe_wipe fun _ q => q), G3, env3, S2, m3, _, _, e3, p3, h3, fun ok S4 m4 G4 H4 h4 s4 p4 => ?_, exl_no⟩
      obtain ⟨hD4, gD4⟩ := s4.frame Da _ hD3 gD3 (by intro ps z; cases z)
      cases ok with
      | true =>
        refine ⟨G4, env3, S4, m4, _, _, e3.mono p3 s4, p4, h4, fun yd S5 yv m5 G5 H5 ⟨hl5, h5⟩ s5 p5 d5 => ?_, exl_no⟩
        obtain ⟨hD5, gD5⟩ := s5.frame Da _ hD4 gD4 (by intro ps z; cases z)
        have da5 := ((da.mono p2 s3).mono p3 s4).mono p4 s5
        have s15 := (s13.trans s4).trans s5
        refine ⟨vs, hD5, by rw [← da5.length]; exact hl5, m5, G5, S5, _, _, lists p5 hD5 gD5 _, ⟨s15.grow, s15.keep, s15.dom, fun a o q g n => ?_⟩, upd_same, gD5, da5.append (DRs.one d5), h5⟩
        rw [upd_ne (neD q)]
        exact s15.frame a o q g n
      | false => exact ⟨m4, G4, S4, acc, vs, p4, s13.trans s4, hD4, gD4, (da.mono p2 s3).mono p3 s4, h4⟩
    · have e : i = src.xs.length := by omega
      subst e
      rw [List.drop_length] at hc
      refine .inl ⟨hw.2 S2 m2 G2 H' hc.1 p2 s2, ?_⟩
      have gne : ∀ {a o}, G2 a = some o → a ≠ Da := fun q => ne_of_none q gD2
      have up : Stp m2 G2 G2 m2 (upd G2 Da (.lst vs)) (upd G2 Da (.lst vs)) :=
        ⟨⟨[], by simp, by simp⟩, fun a o q _ => by rw [upd_ne (gne q)]; exact q, fun a o q => ⟨o, by rw [upd_ne (gne q)]; exact q⟩, fun a o q g _ => by rw [g] at q; cases q⟩
      have s3 : Stp m1 G1 H1 m2 (upd G2 Da (.lst vs)) H' := by
        have g1 : ∀ {a o}, G1 a = some o → a ≠ Da := fun q => ne_of_none q gD
        refine ⟨s2.grow, fun a o q n => ?_, fun a o q => ?_, fun a o q g n => ?_⟩
        · rw [upd_ne (g1 q)]
          exact s2.keep a o q n
        · rw [upd_ne (g1 q)]
          exact s2.dom a o q
        · rw [upd_ne (neD q)]
          exact s2.frame a o q g n
      have r3 : Rp K T m2 S2 (upd G2 Da (.lst vs)) H' := by
        refine ⟨fun a o q => ?_, p2.nd, p2.len, fun i a xs q1 q2 => ?_, p2.tabs, nt_upd p2.nt (by intro ps z; cases z)⟩
        · by_cases z : a = Da
          · subst z
            rw [upd_same] at q
            cases q
            exact hD
          · rw [upd_ne z] at q
            exact p2.sub a o q
        · obtain ⟨ws, q3, q4⟩ := p2.sto i a xs q1 q2
          exact ⟨ws, by rw [upd_ne (gne q3)]; exact q3, q4.mono p2 up⟩
      refine hk _ S2 _ m2 _ H' hc.2 (s1.trans s3) r3 (.lst upd_same (fun z => ?_) (da.mono p2 up))
      obtain ⟨ws, e⟩ := p2.lists z
      rw [gD2] at e
      cases e
theorem pd_lc {elt tg iter : Expr} {ifs : List Expr} {scope : Scope} {own : List (Str × Nat)} {pos : Pos} {wi : WI'} {b : Bd} {tt : WT'} {te : WE'} (hc : X.calm = true) (hN : X.N.Nodup) (hi : PID X T W tg iter wi) (ok : BlkOk X.N X.env.scope scope own) (ho : ∀ i ∈ b.all, i ∈ own.map (·.2))
    (hg : ∀ (s : Shared) (H : Hp) (C : Addr) (cl : List (Str × Addr)) (fp : List Addr), PG (X.blk s H scope (compEnvC scope cl C X.env) fp) tg (bdG X.K b))
    (ht : ∀ (s : Shared) (H : Hp) (C : Addr) (cl : List (Str × Addr)) (fp : List Addr), PTsD (X.blk s H scope (compEnvC scope cl C X.env) fp) T (fun _ _ _ _ => False) ifs tt)
    (he : ∀ (s : Shared) (H : Hp) (C : Addr) (cl : List (Str × Addr)) (fp : List Addr), PD (X.blk s H scope (compEnvC scope cl C X.env) fp) T (fun _ _ _ _ => False) elt te) (hs : ∀ x, foldedSetIterable iter X.env x = pure x := by intro _; rfl) :
    PD X T W (.ListComp elt [⟨tg, iter, ifs, 0⟩] scope pos) (wLc wi b tt te (own.map (·.2))) :=
  pe_imp (pe_lc (tt := lT X.K T (fun _ _ _ _ => False) tt) (te := lE X.K T (fun _ _ _ _ => False) te) hc hN hi ok hg ht he hs) fun σ H Q h => comp_turns ho h
theorem psd_setLc (i : Nat) {y : Str} {py : Pos} {elt tg iter : Expr} {ifs : List Expr} {scope : Scope} {own : List (Str × Nat)} {pos spos : Pos} {wi : WI'} {b : Bd} {tt : WT'} {te : WE'} (hc : X.calm = true) (hN : X.N.Nodup) (hy : X.N[i]? = some y) (hyl : X.env.scope.names.lookup y = some .local)
    (hsw : swapsWith (.ListComp elt [⟨tg, iter, ifs, 0⟩] scope pos) (some (.Name y py)) spos.line X.env = pure true) (hi : PID X T W tg iter wi) (ok : BlkOk X.N X.env.scope scope own) (ho : ∀ i ∈ b.all, i ∈ own.map (·.2))
    (hg : ∀ (s : Shared) (H : Hp) (C : Addr) (cl : List (Str × Addr)) (fp : List Addr), PG (X.blk s H scope (compEnvC scope cl C X.env) fp) tg (bdG X.K b))
    (ht : ∀ (s : Shared) (H : Hp) (C : Addr) (cl : List (Str × Addr)) (fp : List Addr), PTsD (X.blk s H scope (compEnvC scope cl C X.env) fp) T (fun _ _ _ _ => False) ifs tt)
    (he : ∀ (s : Shared) (H : Hp) (C : Addr) (cl : List (Str × Addr)) (fp : List Addr), PD (X.blk s H scope (compEnvC scope cl C X.env) fp) T (fun _ _ _ _ => False) elt te) (hs : ∀ x, foldedSetIterable iter X.env x = pure x := by intro _; rfl) :
    PSD X T W (.Assign [.Name y py] (.ListComp elt [⟨tg, iter, ifs, 0⟩] scope pos) spos) (sAsg (wLc wi b tt te (own.map (·.2))) (gN i)) := by
  refine ps_imp (ps_setLc (tt := lT X.K T (fun _ _ _ _ => False) tt) (te := lE X.K T (fun _ _ _ _ => False) te) hc hN hy hyl hsw hi ok hg ht he hs) fun D σ H ⟨G, env, S, m, E, he, hp, h, l⟩ => ?_
  have key := comp_turns (Q := fun x H1 => D.nx (σ.set i (some x)) H1) (Wn := fun _ _ _ _ => False) (Wm := fun _ _ _ _ => False) ho (⟨G, env, S, m, _, _, he, hp, h, fun d S1 v m1 G1 H1 h1 s1 p1 d1 => l.nx _ S1 _ m1 G1 H1 h1 s1 p1 ((he.mono hp s1).set d1), l.ex⟩ : lE X.K T W (wLc wi b tt te (own.map (·.2))) σ H _)
  exact key
end
end DL

set_option maxHeartbeats 4000000
namespace DL
open PySem PySem.Spec PyProof.Rows L2
/-! ### a def that may be called; a constant -/
structure Cal (gd : Bool) (P : Program) (w : World) (K : PySem.W.Frag) (mg : Str → Option Value) (base : Heap) (T : List (Addr × Str)) (x : Str) (k n : Nat) (more : List D) (p : SpD) : Prop where
  ex : ∃ (f : Addr) (fd : FuncData) (ps : List Str) (mv : List V) (ds : List Value), FnD gd P w K mg base T k f fd ps p ∧ ps.length = n ∧ mg x = some (.ref f) ∧ PySem.W.keepIn K (.ref f) = true ∧ Binds K fd ps ds ∧ Vals mv ds ∧ ∀ m G, DRs K m G more mv
theorem Cal.up {gd : Bool} {P : Program} {w : World} {K : PySem.W.Frag} {mg : Str → Option Value} {base : Heap} {T : List (Addr × Str)} {x : Str} {j k n : Nat} {more : List D} {p : SpD} (C : Cal gd P w K mg base T x j n more p) (h : j ≤ k) : Cal gd P w K mg base T x k n more p := by
  obtain ⟨f, fd, ps, mv, ds, F, r⟩ := C.ex
  exact ⟨f, fd, ps, mv, ds, F.mono h, r⟩
structure Con (K : PySem.W.Frag) (mg : Str → Option Value) (x : Str) (d : D) : Prop where
  ex : ∃ (u : Value) (v : V), mg x = some u ∧ RelV v u ∧ ∀ m G, DR K m G d v
section
variable {X : Cx} {T : List (Addr × Str)} {W : WX} {k n : Nat} {p : SpD} {more : List D} {x : Str} {pp pos : Pos} {e : Expr} {es : List Expr} {as : WA'}
theorem pd_own {gd : Bool} (C : Cal gd X.prog X.w X.K X.mg X.base T x k n more p) (hr : Room k X.A) (hgd : GdOk gd X.A) (hg : Gl X x) (tk : Takes X W) (ha : PAD X T W (e :: es) as)
    (hdb : (x == ("__debug__" : Str)) = false := by decide) (he : starEach (e :: es) X.env = (false, eval e X.env) :: starEach es X.env := by rfl) (hpl : (backTo pos (starEach es X.env)).any (·.1) = false := by rfl) :
    PD X T W (.Call (.Name x pp) (e :: es) [] pos) (wCallN p n as more) := by
  obtain ⟨f, fd, ps, mv, ds, F, hl, hm, hk, hb, hd, hmo⟩ := C.ex
  rw [← hl]
  exact pd_call F hr hgd hg hm hk hb hd hmo tk ha hdb he hpl
theorem pd_const {d : D} (C : Con X.K X.mg x d) (hg : Gl X x) (hd : (x == ("__debug__" : Str)) = false := by decide) : PD X T W (.Name x pos) (wC d) := by
  obtain ⟨u, v, hm, r, h⟩ := C.ex
  exact pd_con hg hm r h hd
end
/-! ### steps of a reading -/
section
variable {env : Vars} {S : Sto} {R : KR} {Rx : KX} {E : Ds} {d a b : D} {wa wb : WE'} {ta tb : WT'} {as : WA'} {u v : WS'} {g : WG'} {i j : Int} {xs ys : List D}
theorem r_var {i : Nat} (h : env[i]? = some (some d)) (k : R d S) : wVar i env S R Rx := ⟨d, h, k⟩
theorem r_c (k : R d S) : wC d env S R Rx := k
theorem r_bin {f : F2} (k : wa env S (fun x S1 => wb env S1 (fun y S2 => f x y S2 R) Rx) Rx) : wBin f wa wb env S R Rx := k
theorem r_un {f : F1} (k : wa env S (fun x S1 => f x S1 R) Rx) : wUn f wa env S R Rx := k
theorem r_as0 {R : List D → Sto → Prop} (k : R [] S) : wAs0 env S R Rx := k
theorem r_as1 {R : List D → Sto → Prop} (k : wa env S (fun x S1 => as env S1 (fun xs S2 => R (x :: xs) S2) Rx) Rx) : wAs1 wa as env S R Rx := k
theorem r_tup (k : as env S (fun ds S1 => ds.length ≤ sizeLine ∧ R (.tup ds) S1) Rx) : wTup as env S R Rx := k
theorem r_lst (k : as env S (fun ds S1 => ds.length ≤ sizeLine ∧ R (.lst ds) S1) Rx) : wLst as env S R Rx := k
theorem r_mu (k : as env S (fun ds S1 => ds.length ≤ sizeLine ∧ R (.mu S1.length) (S1 ++ [ds])) Rx) : wMu as env S R Rx := k
theorem r_cb {f : FL} (k : as env S (fun ds S1 => f ds S1 R) Rx) : wCB f as env S R Rx := k
theorem r_call {p : SpD} {n : Nat} {more : List D} (k : as env S (fun ds S1 => (ds ++ more).length = n ∧ p (ds ++ more) S1 R (fun e S2 => Rx e env S2)) Rx) : wCallN p n as more env S R Rx := k
theorem r_B {R : Bool → Sto → Prop} (k : wa env S (fun d S1 => ∃ b, d = .bl b ∧ R b S1) Rx) : wB wa env S R Rx := k
theorem r_notT {R : Bool → Sto → Prop} (k : ta env S (fun b S1 => R (!b) S1) Rx) : wNotT ta env S R Rx := k
theorem r_andT {R : Bool → Sto → Prop} (k : ta env S (fun b S1 => if b = true then tb env S1 R Rx else R false S1) Rx) : wAndT ta tb env S R Rx := k
theorem r_orT {R : Bool → Sto → Prop} (k : ta env S (fun b S1 => if b = true then R true S1 else tb env S1 R Rx) Rx) : wOrT ta tb env S R Rx := k
theorem r_andV (k : wa env S (fun x S1 => ∃ c, x = .bl c ∧ if c = true then wb env S1 R Rx else R (.bl false) S1) Rx) : wAndV wa wb env S R Rx := k
theorem r_orV (k : wa env S (fun x S1 => ∃ c, x = .bl c ∧ if c = true then R (.bl true) S1 else wb env S1 R Rx) Rx) : wOrV wa wb env S R Rx := k
theorem r_notV (k : wa env S (fun x S1 => ∃ c, x = .bl c ∧ R (.bl (!c)) S1) Rx) : wNotV wa env S R Rx := k
theorem r_if (k : ta env S (fun c S1 => if c = true then wa env S1 R Rx else wb env S1 R Rx) Rx) : wIf ta wa wb env S R Rx := k
theorem r_cut {wl wh : WO'} (k : wa env S (fun a S1 => wl env S1 (fun l S2 => wh env S2 (fun h S3 => dCut a l h S3 R) Rx) Rx) Rx) : wCut wa wl wh env S R Rx := k
theorem r_p0 {R : Option Int → Sto → Prop} (k : R none S) : wP0 env S R Rx := k
theorem r_p1 {R : Option Int → Sto → Prop} (k : wa env S (fun d S1 => ∃ i, d = .int i ∧ R (some i) S1) Rx) : wP1 wa env S R Rx := k
theorem r_seq (k : u env S { E with nx := fun env1 S1 => v env1 S1 E }) : sSeq u v env S E := k
theorem r_next (k : E.nx env S) : sNext env S E := k
theorem r_break (k : E.bk env S) : sBreak env S E := k
theorem r_cont (k : E.ct env S) : sCont env S E := k
theorem r_ret (k : wa env S E.rt E.ex) : sRet wa env S E := k
theorem r_retN (k : E.rt .non S) : sRetN env S E := k
theorem r_drop (k : wa env S (fun _ S1 => E.nx env S1) E.ex) : sDrop wa env S E := k
theorem r_ifS (k : ta env S (fun b S1 => if b = true then u env S1 E else v env S1 E) E.ex) : sIf ta u v env S E := k
theorem r_asg (k : wa env S (fun d S1 => g d env S1 E.nx) E.ex) : sAsg wa g env S E := k
theorem r_gN {i : Nat} {R : Vars → Sto → Prop} (k : R (env.set i (some d)) S) : gN i d env S R := k
theorem r_gT {n : Nat} {gs : WGs'} {R : Vars → Sto → Prop} (h : xs.length = n) (k : gs xs env S R) : gT n gs (.tup xs) env S R := ⟨xs, rfl, h, k⟩
theorem r_gs0 {R : Vars → Sto → Prop} (k : R env S) : gs0 [] env S R := ⟨rfl, k⟩
theorem r_gs1 {gs : WGs'} {R : Vars → Sto → Prop} (k : g d env S fun env1 S1 => gs xs env1 S1 R) : gs1 g gs (d :: xs) env S R := ⟨d, xs, rfl, k⟩
theorem r_par {i j : Nat} (k : as env S (fun ds S1 => ∃ x y, ds = [x, y] ∧ E.nx ((env.set i (some x)).set j (some y)) S1) E.ex) : sPar i j as env S E := k
theorem r_true {A B : Prop} (k : A) : if true = true then A else B := k
theorem r_false {A B : Prop} (k : B) : if false = true then A else B := k
theorem r_trueR {c : Bool} {A B : Prop} (h : c = true) (k : A) : if c = true then A else B := by rw [if_pos h]; exact k
theorem r_falseR {c : Bool} {A B : Prop} (h : c = false) (k : B) : if c = true then A else B := by rw [if_neg (by rw [h]; decide)]; exact k
theorem r_both {c : Bool} {A B : Prop} (k1 : c = true → A) (k2 : c = false → B) : if c = true then A else B := by
  cases c with
  | true => exact k1 rfl
  | false => exact k2 rfl
theorem r_bl {b : Bool} {Q : Bool → Prop} (k : Q b) : ∃ c, D.bl b = D.bl c ∧ Q c := ⟨b, rfl, k⟩
theorem r_in {Q : Int → Prop} (k : Q i) : ∃ c, D.int i = D.int c ∧ Q c := ⟨i, rfl, k⟩
theorem r_two {Q : D → D → Prop} (k : Q a b) : ∃ x y, [a, b] = [x, y] ∧ Q x y := ⟨a, b, rfl, k⟩
theorem r_addI (k : R (.int (i + j)) S) : dAdd (.int i) (.int j) S R := k
theorem r_addT (h : xs.length + ys.length ≤ sizeLine) (k : R (.tup (xs ++ ys)) S) : dAdd (.tup xs) (.tup ys) S R := ⟨h, k⟩
theorem r_addL (h : xs.length + ys.length ≤ sizeLine) (k : R (.lst (xs ++ ys)) S) : dAdd (.lst xs) (.lst ys) S R := ⟨xs, ys, rfl, rfl, h, k⟩
theorem r_subI (k : R (.int (i - j)) S) : dSub (.int i) (.int j) S R := k
theorem r_mulI (h : CMulW i j) (k : R (.int (i * j)) S) : dMul (.int i) (.int j) S R := ⟨h, k⟩
theorem r_divI (h : j ≠ 0 ∧ j.natAbs.log2 < 9000) (k : R (.int (i.fdiv j)) S) : dDiv (.int i) (.int j) S R := ⟨h, k⟩
theorem r_modI (h : j ≠ 0) (k : R (.int (i.fmod j)) S) : dMod (.int i) (.int j) S R := ⟨h, k⟩
theorem r_powI (h : CPow i j) (k : R (.int (i ^ j.toNat)) S) : dPow (.int i) (.int j) S R := ⟨h, k⟩
theorem r_negI (k : R (.int (-i)) S) : dNeg (.int i) S R := k
theorem r_lt (k : R (.bl (decide (i < j))) S) : dLt (.int i) (.int j) S R := k
theorem r_le (k : R (.bl (decide (i ≤ j))) S) : dLe (.int i) (.int j) S R := k
theorem r_gt (k : R (.bl (decide (j < i))) S) : dGt (.int i) (.int j) S R := k
theorem r_ge (k : R (.bl (decide (j ≤ i))) S) : dGe (.int i) (.int j) S R := k
theorem r_is (k : R (.bl (isNon a)) S) : dIs a .non S R := k
theorem r_isNot (k : R (.bl (!isNon a)) S) : dIsNot a .non S R := k
theorem r_eqI (k : R (.bl (decide (i = j))) S) : dEq (.int i) (.int j) S R := k
theorem r_neI (k : R (.bl (!decide (i = j))) S) : dNe (.int i) (.int j) S R := k
theorem r_eqS {x y : Str} (k : R (.bl (decide (x = y))) S) : dEq (.str x) (.str y) S R := k
theorem r_neS {x y : Str} (k : R (.bl (!decide (x = y))) S) : dNe (.str x) (.str y) S R := k
theorem r_ixT (h : atI xs i = some d) (k : R d S) : dIx (.tup xs) (.int i) S R := ⟨d, h, k⟩
theorem r_ixL (h : atI xs i = some d) (k : R d S) : dIx (.lst xs) (.int i) S R := ⟨xs, d, rfl, h, k⟩
theorem r_ixC (h : atI xs i = some d) (k : R d S) : dIx (.scr xs) (.int i) S R := ⟨xs, d, rfl, h, k⟩
theorem r_ixM {n : Nat} (hs : S[n]? = some xs) (h : atI xs i = some d) (k : R d S) : dIx (.mu n) (.int i) S R := ⟨xs, d, hs, h, k⟩
theorem r_lenT (k : R (.int xs.length) S) : dLen [.tup xs] S R := k
theorem r_lenL (k : R (.int xs.length) S) : dLen [.lst xs] S R := ⟨xs, rfl, k⟩
theorem r_lenC (k : R (.int xs.length) S) : dLen [.scr xs] S R := ⟨xs, rfl, k⟩
theorem r_lenM {n : Nat} (hs : S[n]? = some xs) (k : R (.int xs.length) S) : dLen [.mu n] S R := ⟨xs, hs, k⟩
theorem r_abs (k : R (.int (if i < 0 then -i else i)) S) : dAbs [.int i] S R := k
theorem r_max (k : R (.int (if j > i then j else i)) S) : dMax2 [.int i, .int j] S R := k
theorem r_min (k : R (.int (if j < i then j else i)) S) : dMin2 [.int i, .int j] S R := k
theorem r_intI (k : R (.int i) S) : dInt [.int i] S R := k
theorem r_intB {b : Bool} (k : R (.int (if b then 1 else 0)) S) : dInt [.bl b] S R := k
theorem r_tupL (k : R (.tup xs) S) : dTupOf [.lst xs] S R := ⟨xs, rfl, k⟩
theorem r_tupT (k : R (.tup xs) S) : dTupOf [.tup xs] S R := k
theorem r_tupM {n : Nat} (hs : S[n]? = some xs) (k : R (.tup xs) S) : dTupOf [.mu n] S R := ⟨xs, hs, k⟩
theorem r_allL {bs : List Bool} (k : R (.bl (bs.all id)) S) : dAll [.lst (bs.map D.bl)] S R := ⟨bs, rfl, k⟩
theorem r_gcd (k : R (.int ((Nat.gcd i.natAbs j.natAbs : Nat) : Int)) S) : dGcd [.int i, .int j] S R := k
theorem r_isi {f : D → Bool} {n : String} (h : plainD a = true) (k : R (.bl (f a)) S) : (∃ c, [a, D.ty n] = [c, D.ty n]) ∧ dIsi f [a, .ty n] S R := ⟨⟨a, rfl⟩, h, k⟩
theorem r_for {wi : WI'} (k : wi env S (fun src S1 => loop src.ck g u E src.xs env S1) E.ex) : sFor wi g u env S E := k
theorem r_wiT {R : Src → Sto → Prop} (k : wa env S (fun d S1 => ∃ xs, d = .tup xs ∧ R ⟨xs, fun _ => True⟩ S1) Rx) : wiT wa env S R Rx := k
theorem r_wiL {R : Src → Sto → Prop} (k : wa env S (fun d S1 => ∃ xs, itemsL d S1 = some xs ∧ R ⟨xs, fun S => itemsL d S = some xs⟩ S1) Rx) : wiL wa env S R Rx := k
theorem r_wiR1 {R : Src → Sto → Prop} (k : as env S (fun ds S1 => ∃ j : Int, ds = [.int j] ∧ -(2 ^ 62) ≤ j ∧ j < 2 ^ 62 ∧ R ⟨intsD 0 j.toNat, fun _ => True⟩ S1) Rx) : wiR1 as env S R Rx := k
theorem r_lc {wi : WI'} {b : Bd} {tt : WT'} {te : WE'} {own : List Nat} (k : wi env S (fun src S1 => comp src.ck b tt te own env (fun acc S2 => R (.lst acc) S2) src.xs [] S1) Rx) : wLc wi b tt te own env S R Rx := k
theorem r_app (k : wa env S (fun o S1 => ∃ i, o = .mu i ∧ wb env S1 (fun d S2 => ∃ ds, S2[i]? = some ds ∧ ds.length < sizeLine ∧ E.nx env (S2.set i (ds ++ [d]))) E.ex) E.ex) : sApp wa wb env S E := k
theorem r_setIx {we : WE'} (k : we env S (fun d S1 => wa env S1 (fun o S2 => wb env S2 (fun k S3 => ∃ i z ds j, o = .mu i ∧ k = .int z ∧ S3[i]? = some ds ∧ ixN ds.length z = some j ∧ E.nx env (S3.set i (ds.set j d))) E.ex) E.ex) E.ex) : sSetIx wa wb we env S E := k
end
/-! a loop, a comprehension by what holds -/
theorem loop_by {ck : Sto → Prop} {g : WG'} {u : WS'} {E : Ds} (I : Nat → Vars → Sto → Prop) {xs : List D} {env : Vars} {S : Sto} (h0 : I 0 env S)
    (hs : ∀ (i : Nat) (d : D) (env : Vars) (S : Sto) (N : Vars → Sto → Prop), xs[i]? = some d → I i env S → (∀ e s, I (i + 1) e s → N e s) → ck S ∧ g d env S fun env1 S1 => u env1 S1 { E with nx := N, ct := N, bk := E.nx })
    (hd : ∀ env S, I xs.length env S → ck S ∧ E.nx env S) : loop ck g u E xs env S := by
  have key : ∀ n i env S, n = xs.length - i → i ≤ xs.length → I i env S → loop ck g u E (xs.drop i) env S := by
    intro n
    induction n with
    | zero =>
      intro i env S hn hi h
      have e : i = xs.length := by omega
      subst e
      rw [List.drop_length]
      exact hd env S h
    | succ n ih =>
      intro i env S hn hi h
      have hlt : i < xs.length := by omega
      rw [List.drop_eq_getElem_cons hlt]
      exact hs i xs[i] env S _ (List.getElem?_eq_getElem hlt) h fun e s q => ih (i + 1) e s (by omega) hlt q
  simpa using key xs.length 0 env S rfl (Nat.zero_le _) h0
theorem comp_by {ck : Sto → Prop} {b : Bd} {tt : WT'} {te : WE'} {own : List Nat} {env : Vars} {Rf : List D → Sto → Prop} (I : Nat → List D → Sto → Prop) {xs : List D} {S : Sto} (h0 : I 0 [] S)
    (hs : ∀ (i : Nat) (d : D) (acc : List D) (S : Sto) (N : List D → Sto → Prop), xs[i]? = some d → I i acc S → (∀ a s, I (i + 1) a s → N a s) →
      ck S ∧ bindE b d (wipeE env own) fun env1 => tt env1 S (fun ok S2 => if ok = true then te env1 S2 (fun y S3 => acc.length < sizeLine ∧ N (acc ++ [y]) S3) noX else N acc S2) noX)
    (hd : ∀ acc S, I xs.length acc S → ck S ∧ Rf acc S) : comp ck b tt te own env Rf xs [] S := by
  have key : ∀ n i acc S, n = xs.length - i → i ≤ xs.length → I i acc S → comp ck b tt te own env Rf (xs.drop i) acc S := by
    intro n
    induction n with
    | zero =>
      intro i acc S hn hi h
      have e : i = xs.length := by omega
      subst e
      rw [List.drop_length]
      exact hd acc S h
    | succ n ih =>
      intro i acc S hn hi h
      have hlt : i < xs.length := by omega
      rw [List.drop_eq_getElem_cons hlt]
      exact hs i xs[i] acc S _ (List.getElem?_eq_getElem hlt) h fun a s q => ih (i + 1) a s (by omega) hlt q
  simpa using key xs.length 0 [] S rfl (Nat.zero_le _) h0
end DL
namespace DL
open PySem PySem.Spec PyProof.Rows L2
section
variable {S : Sto} {R : KR} {a b : D} {xs : List D}
theorem atI_0 : atI (a :: xs) 0 = some a := by
  unfold atI ixN
  rw [if_pos (Int.le_refl 0), if_pos (by simp only [List.length_cons]; omega)]
  rfl
theorem atI_1 : atI (a :: b :: xs) 1 = some b := by
  unfold atI ixN
  rw [if_pos (by decide), if_pos (by simp only [List.length_cons]; omega)]
  rfl
theorem r_ix0T (k : R a S) : dIx (.tup (a :: xs)) (.int 0) S R := ⟨a, atI_0, k⟩
theorem r_ix1T (k : R b S) : dIx (.tup (a :: b :: xs)) (.int 1) S R := ⟨b, atI_1, k⟩
theorem size100 {n : Nat} (h : n ≤ 100) : n ≤ sizeLine := Nat.le_trans h (by decide)
theorem r_sizeT {A : Prop} (k : A) : [a, b].length ≤ sizeLine ∧ A := ⟨size100 (by simp), k⟩
theorem r_sizeL {A : Prop} (k : A) : [a].length ≤ sizeLine ∧ A := ⟨size100 (by simp), k⟩
end
/-! ### parts as ratios -/
def pt (q : Rat) : D := .tup [.int q.num, .int q.den]
def Sz (n : Nat) (q : Rat) : Prop := q.num.natAbs < 2 ^ n ∧ q.den < 2 ^ n
theorem Sz.mono {n m : Nat} {q : Rat} (h : Sz n q) (l : n ≤ m) : Sz m q := ⟨Nat.lt_of_lt_of_le h.1 (Nat.pow_le_pow_right (by decide) l), Nat.lt_of_lt_of_le h.2 (Nat.pow_le_pow_right (by decide) l)⟩
theorem norm_num {a : Int} {b : Nat} (h : b ≠ 0) : (Rat.normalize a b h).num = a / ((a.natAbs.gcd b : Nat) : Int) := by rw [Rat.normalize_eq]
theorem norm_den {a : Int} {b : Nat} (h : b ≠ 0) : (Rat.normalize a b h).den = b / a.natAbs.gcd b := by rw [Rat.normalize_eq]
theorem norm_sz {a : Int} {b n : Nat} (h : b ≠ 0) (ha : a.natAbs < 2 ^ n) (hb : b < 2 ^ n) : Sz n (Rat.normalize a b h) := by
  refine ⟨?_, ?_⟩
  · rw [norm_num]
    have e : (a / ((a.natAbs.gcd b : Nat) : Int)).natAbs ≤ a.natAbs := Int.natAbs_ediv_le_natAbs _ _
    omega
  · rw [norm_den]
    exact Nat.lt_of_le_of_lt (Nat.div_le_self _ _) hb
end DL

set_option maxHeartbeats 4000000
namespace DL
open PySem PySem.Spec PyProof.Rows L2
/-! ### a comprehension whose list grows later -/
def wLcM (wi : WI') (b : Bd) (tt : WT') (te : WE') (own : List Nat) : WE' := fun env S R Rx => wi env S (fun src S1 => comp src.ck b tt te own env (fun acc S2 => R (.mu S2.length) (S2 ++ [acc])) src.xs [] S1) Rx
section
variable {X : Cx} {T : List (Addr × Str)} {W : WX}
theorem comp_turnsM {K : PySem.W.Frag} {Wn Wm : WX} {wi : WI'} {b : Bd} {tt : WT'} {te : WE'} {own : List Nat} {σ : L2.St} {H : Hp} {Q : VK} (ho : ∀ i ∈ b.all, i ∈ own) (h : lE K T W (wLcM wi b tt te own) σ H Q) :
    tLc (lI K T W wi) (bdG K b) (lT K T Wn tt) (lE K T Wm te) own σ H Q := by
  obtain ⟨G, env, S, m, R, Rx, he, hp, h, hk, hx⟩ := h
  refine ⟨G, env, S, m, _, Rx, he, hp, h, fun src S1 m1 G1 H1 J h1 s1 p1 hw => fun Da nD => ?_, hx⟩
  have he1 := he.mono hp s1
  have gD : G1 Da = none := none_of (fun a o q => ⟨o, p1.sub a o q⟩) nD
  have neD : ∀ {a o}, H1 a = some o → a ≠ Da := fun q => ne_of_none q nD
  have lists : ∀ {vs : List V} {m2 G2 H2 S2}, Rp K T m2 S2 G2 H2 → H2 Da = some (.lst vs) → G2 Da = none → ∀ ws, Rp K T m2 S2 G2 (upd H2 Da (.lst ws)) := fun {vs m2 G2 H2 S2} p2 hD gD ws => by
    refine ⟨fun a o q => ?_, p2.nd, p2.len, p2.sto, tabs_keep p2.tabs (fun a o q n => ?_), p2.nt⟩
    · rw [upd_ne (fun z => by rw [z, gD] at q; cases q)]
      exact p2.sub a o q
    · rw [upd_ne (fun z => by rw [z, hD] at q; cases q; exact n _ rfl)]
      exact q
  refine ⟨fun i n H' => n = src.xs.length - i ∧ i ≤ src.xs.length ∧ ∃ m2 G2 S2 acc vs, Rp K T m2 S2 G2 H' ∧ Stp m1 G1 H1 m2 G2 H' ∧ H' Da = some (.lst vs) ∧ G2 Da = none ∧ DRs K m2 G2 acc vs ∧ comp src.ck b tt te own env (fun acc S2 => R (.mu S2.length) (S2 ++ [acc])) (src.xs.drop i) acc S2,
    ⟨src.xs.length, by simp, Nat.zero_le _, m1, G1, S1, [], [], ?_, ?_, upd_same, gD, .nil, by simpa using h1⟩, ?_⟩
  · refine ⟨fun a o q => ?_, p1.nd, p1.len, p1.sto, tabs_keep p1.tabs (fun a o q n => ?_), p1.nt⟩
    · rw [upd_ne (neD (p1.sub a o q))]
      exact p1.sub a o q
    · rw [upd_ne (neD q)]
      exact q
  · exact ⟨⟨[], by simp, by simp⟩, fun _ _ q _ => q, fun _ o q => ⟨o, q⟩, fun a o q g _ => ⟨by rw [upd_ne (neD q)]; exact q, g⟩⟩
  · rintro i n H' ⟨rfl, hi, m2, G2, S2, acc, vs, p2, s2, hD, gD2, da, hc⟩
    by_cases hlt : i < src.xs.length
    · have e : src.xs.drop i = src.xs[i] :: src.xs.drop (i + 1) := List.drop_eq_getElem_cons hlt
      rw [e] at hc
      obtain ⟨hck, hc⟩ := hc
      obtain ⟨g1, g2⟩ := hw.1 i src.xs[i] S2 m2 G2 H' (List.getElem?_eq_getElem hlt) hck p2 s2
      refine .inr ⟨g1, fun H3 => ∃ m2 G2 S2 acc vs, Rp K T m2 S2 G2 H3 ∧ Stp m1 G1 H1 m2 G2 H3 ∧ H3 Da = some (.lst vs) ∧ G2 Da = none ∧ DRs K m2 G2 acc vs ∧ comp src.ck b tt te own env (fun acc S2 => R (.mu S2.length) (S2 ++ [acc])) (src.xs.drop (i + 1)) acc S2, fun H3 q => ⟨src.xs.length - (i + 1), by omega, rfl, hlt, q⟩, fun x H3 y => ?_⟩
      obtain ⟨m3, G3, s3, p3, d3⟩ := g2 x H3 y
      obtain ⟨hD3, gD3⟩ := s3.frame Da _ hD gD2 (by intro ps z; cases z)
      have s13 := s2.trans s3
      refine bind_rel p3 ho d3 (wipe_rel (he1.mono p1 s13) own) hc fun env3 σ3 h3 e3 w3 => ⟨w3.trans (wipe_wipe fun _ q => q), G3, env3, S2, m3, _, _, e3, p3, h3, fun ok S4 m4 G4 H4 h4 s4 p4 => ?_, exl_no⟩
      obtain ⟨hD4, gD4⟩ := s4.frame Da _ hD3 gD3 (by intro ps z; cases z)
      cases ok with
      | true =>
        refine ⟨G4, env3, S4, m4, _, _, e3.mono p3 s4, p4, h4, fun yd S5 yv m5 G5 H5 ⟨hl5, h5⟩ s5 p5 d5 => ?_, exl_no⟩
        obtain ⟨hD5, gD5⟩ := s5.frame Da _ hD4 gD4 (by intro ps z; cases z)
        have da5 := ((da.mono p2 s3).mono p3 s4).mono p4 s5
        have s15 := (s13.trans s4).trans s5
        refine ⟨vs, hD5, by rw [← da5.length]; exact hl5, m5, G5, S5, _, _, lists p5 hD5 gD5 _, ⟨s15.grow, s15.keep, s15.dom, fun a o q g n => ?_⟩, upd_same, gD5, da5.append (DRs.one d5), h5⟩
        rw [upd_ne (neD q)]
        exact s15.frame a o q g n
      | false => exact ⟨m4, G4, S4, acc, vs, p4, s13.trans s4, hD4, gD4, (da.mono p2 s3).mono p3 s4, h4⟩
    · have e : i = src.xs.length := by omega
      subst e
      rw [List.drop_length] at hc
      refine .inl ⟨hw.2 S2 m2 G2 H' hc.1 p2 s2, ?_⟩
      have gne : ∀ {a o}, G2 a = some o → a ≠ Da := fun q => ne_of_none q gD2
      have g1 : ∀ {a o}, G1 a = some o → a ≠ Da := fun q => ne_of_none q gD
      have dm : Da ∉ m2 := fun z => by
        obtain ⟨ws, e⟩ := p2.lists z
        rw [gD2] at e
        cases e
      have up : Stp m2 G2 G2 (m2 ++ [Da]) (upd G2 Da (.lst vs)) (upd G2 Da (.lst vs)) :=
        ⟨⟨[Da], rfl, fun a ha => by rw [List.mem_singleton.mp ha]; exact gD2⟩, fun a o q _ => by rw [upd_ne (gne q)]; exact q, fun a o q => ⟨o, by rw [upd_ne (gne q)]; exact q⟩, fun a o q g _ => by rw [g] at q; cases q⟩
      have s3 : Stp m1 G1 H1 (m2 ++ [Da]) (upd G2 Da (.lst vs)) H' := by
        obtain ⟨l, e1, e2⟩ := s2.grow
        refine ⟨⟨l ++ [Da], by rw [e1, List.append_assoc], fun a ha => ?_⟩, fun a o q n => ?_, fun a o q => ?_, fun a o q g n => ?_⟩
        · rcases List.mem_append.mp ha with ha | ha
          · exact e2 a ha
          · rw [List.mem_singleton.mp ha]
            exact gD
        · rw [upd_ne (g1 q)]
          exact s2.keep a o q n
        · rw [upd_ne (g1 q)]
          exact s2.dom a o q
        · rw [upd_ne (neD q)]
          exact s2.frame a o q g n
      have r3 : Rp K T (m2 ++ [Da]) (S2 ++ [acc]) (upd G2 Da (.lst vs)) H' := by
        refine ⟨fun a o q => ?_, ?_, ?_, fun i a xs q1 q2 => ?_, p2.tabs, nt_upd p2.nt (by intro ps z; cases z)⟩
        · by_cases z : a = Da
          · subst z
            rw [upd_same] at q
            cases q
            exact hD
          · rw [upd_ne z] at q
            exact p2.sub a o q
        · rw [List.nodup_append]
          refine ⟨p2.nd, by simp, fun a ha b hb => ?_⟩
          rw [List.mem_singleton.mp hb]
          intro z
          rw [z] at ha
          exact dm ha
        · rw [List.length_append, List.length_append, p2.len]
          rfl
        · by_cases z : i < m2.length
          · rw [List.getElem?_append_left z] at q1
            rw [List.getElem?_append_left (by rw [← p2.len]; exact z)] at q2
            obtain ⟨ws, q3, q4⟩ := p2.sto i a xs q1 q2
            exact ⟨ws, by rw [upd_ne (gne q3)]; exact q3, q4.mono p2 up⟩
          · have hi2 : i = m2.length := by
              have := (List.getElem?_eq_some_iff.mp q1).1
              rw [List.length_append] at this
              have : [Da].length = 1 := rfl
              omega
            rw [hi2, List.getElem?_append_right (Nat.le_refl _), Nat.sub_self] at q1
            rw [hi2, p2.len, List.getElem?_append_right (Nat.le_refl _), Nat.sub_self] at q2
            have q1 : Da = a := Option.some.inj q1
            have q2 : acc = xs := Option.some.inj q2
            subst q1
            subst q2
            exact ⟨vs, upd_same, da.mono p2 up⟩
      refine hk _ _ _ (m2 ++ [Da]) _ H' hc.2 (s1.trans s3) r3 (.mu ?_)
      rw [← p2.len, List.getElem?_append_right (Nat.le_refl _), Nat.sub_self]
      rfl
theorem pd_lcM {elt tg iter : Expr} {ifs : List Expr} {scope : Scope} {own : List (Str × Nat)} {pos : Pos} {wi : WI'} {b : Bd} {tt : WT'} {te : WE'} (hc : X.calm = true) (hN : X.N.Nodup) (hi : PID X T W tg iter wi) (ok : BlkOk X.N X.env.scope scope own) (ho : ∀ i ∈ b.all, i ∈ own.map (·.2))
    (hg : ∀ (s : Shared) (H : Hp) (C : Addr) (cl : List (Str × Addr)) (fp : List Addr), PG (X.blk s H scope (compEnvC scope cl C X.env) fp) tg (bdG X.K b))
    (ht : ∀ (s : Shared) (H : Hp) (C : Addr) (cl : List (Str × Addr)) (fp : List Addr), PTsD (X.blk s H scope (compEnvC scope cl C X.env) fp) T (fun _ _ _ _ => False) ifs tt)
    (he : ∀ (s : Shared) (H : Hp) (C : Addr) (cl : List (Str × Addr)) (fp : List Addr), PD (X.blk s H scope (compEnvC scope cl C X.env) fp) T (fun _ _ _ _ => False) elt te) (hs : ∀ x, foldedSetIterable iter X.env x = pure x := by intro _; rfl) :
    PD X T W (.ListComp elt [⟨tg, iter, ifs, 0⟩] scope pos) (wLcM wi b tt te (own.map (·.2))) :=
  pe_imp (pe_lc (tt := lT X.K T (fun _ _ _ _ => False) tt) (te := lE X.K T (fun _ _ _ _ => False) te) hc hN hi ok hg ht he hs) fun σ H Q h => comp_turnsM ho h
theorem psd_setLcM (i : Nat) {y : Str} {py : Pos} {elt tg iter : Expr} {ifs : List Expr} {scope : Scope} {own : List (Str × Nat)} {pos spos : Pos} {wi : WI'} {b : Bd} {tt : WT'} {te : WE'} (hc : X.calm = true) (hN : X.N.Nodup) (hy : X.N[i]? = some y) (hyl : X.env.scope.names.lookup y = some .local)
    (hsw : swapsWith (.ListComp elt [⟨tg, iter, ifs, 0⟩] scope pos) (some (.Name y py)) spos.line X.env = pure true) (hi : PID X T W tg iter wi) (ok : BlkOk X.N X.env.scope scope own) (ho : ∀ i ∈ b.all, i ∈ own.map (·.2))
    (hg : ∀ (s : Shared) (H : Hp) (C : Addr) (cl : List (Str × Addr)) (fp : List Addr), PG (X.blk s H scope (compEnvC scope cl C X.env) fp) tg (bdG X.K b))
    (ht : ∀ (s : Shared) (H : Hp) (C : Addr) (cl : List (Str × Addr)) (fp : List Addr), PTsD (X.blk s H scope (compEnvC scope cl C X.env) fp) T (fun _ _ _ _ => False) ifs tt)
    (he : ∀ (s : Shared) (H : Hp) (C : Addr) (cl : List (Str × Addr)) (fp : List Addr), PD (X.blk s H scope (compEnvC scope cl C X.env) fp) T (fun _ _ _ _ => False) elt te) (hs : ∀ x, foldedSetIterable iter X.env x = pure x := by intro _; rfl) :
    PSD X T W (.Assign [.Name y py] (.ListComp elt [⟨tg, iter, ifs, 0⟩] scope pos) spos) (sAsg (wLcM wi b tt te (own.map (·.2))) (gN i)) := by
  refine ps_imp (ps_setLc (tt := lT X.K T (fun _ _ _ _ => False) tt) (te := lE X.K T (fun _ _ _ _ => False) te) hc hN hy hyl hsw hi ok hg ht he hs) fun D σ H ⟨G, env, S, m, E, he, hp, h, l⟩ => ?_
  have key := comp_turnsM (Q := fun x H1 => D.nx (σ.set i (some x)) H1) (Wn := fun _ _ _ _ => False) (Wm := fun _ _ _ _ => False) ho (⟨G, env, S, m, _, _, he, hp, h, fun d S1 v m1 G1 H1 h1 s1 p1 d1 => l.nx _ S1 _ m1 G1 H1 h1 s1 p1 ((he.mono hp s1).set d1), l.ex⟩ : lE X.K T W (wLcM wi b tt te (own.map (·.2))) σ H _)
  exact key
end
end DL

set_option maxHeartbeats 4000000
namespace DL
open PySem PySem.Spec PyProof.Rows L2
/-! ### enumerate of a tuple -/
abbrev enO (j : Addr) : Obj := { cls := .type "enumerate", data := .fields #[.none, .bool false, .ref j, rawInt 0, .none, .none] }
theorem enum_meets {v : Value} {ob : Obj} {Hs : Heap → Prop} (B : Begins v ob Hs) :
    Meets (Builtin.«enumerate.__new__» ⟨[.type "enumerate", v], []⟩) (fun _ R t => Hs t.heap ∧ R (.ok (.ret (.ref (t.heap.push ob).objs.size))) { t with heap := (t.heap.push ob).push (enO t.heap.objs.size) }) :=
  .of_wp fun prog w A R t h => by
    obtain ⟨hp, gn, dr, tok, sys⟩ := t
    obtain ⟨ha, hb⟩ := h
    have sub := sub_enumerate
    have iter : ∀ {A2 : Around} {E2 : Value → Shared → Prop} {Q2 : Value → Shared → Prop}, Q2 (.ref hp.objs.size) ⟨hp.push ob, gn, dr, tok, sys⟩ → wpAny (model prog w) A2 (pyIter v) Q2 E2 ⟨hp, gn, dr, tok, sys⟩ :=
      fun z => B.iter prog w _ _ ⟨hp, gn, dr, tok, sys⟩ _ ha z
    wp_walk using iter
    refine wpAny_stack_any fun stk => wpAny_pure ?_
    split
    · rename_i c _ _ _ _ _
      cases (c == Value.type "enumerate")
      · wp_walk using iter; exact ⟨_, rfl, hb⟩
      · wp_walk using iter; exact ⟨_, rfl, hb⟩
    · wp_walk using iter; exact ⟨_, rfl, hb⟩
/-- the tuple at a, each item with its place in a new pair -/
def ItT (K : PySem.W.Frag) (a : Addr) : It where
  go := fun n H => ∃ (ws : List V) (y : V), SqT K H a ws ∧ ws[n]? = some y
  yld := fun n H v H' => ∃ Tp y, v = .ref Tp ∧ H Tp = none ∧ H' = upd H Tp (.tup [.int (n : Nat), y]) ∧ ∀ ws, SqT K H a ws → ws[n]? = some y
  stop := fun n H => ∃ ws : List V, SqT K H a ws ∧ ws.length = n
structure EnT (a en ti : Addr) (n : Nat) (h : Heap) : Prop where
  enm : ∃ w, IsEnum h en ti ((n : Nat) : Int) w
  itr : h.IsTupleIter ti a n
  et : en ≠ ti
  at_ : a ≠ ti
  ae : a ≠ en
theorem turn_enT {P : Program} {w : World} {K : PySem.W.Frag} {es : List Expr} {kk : Nat} {tpos : Pos} {a en ti : Addr} : Turn P w K (.Tuple es kk tpos) (ItT K a) [en, ti] en (EnT a en ti) where
  mem := List.mem_cons_self
  obj := fun n h z c hc => by
    obtain ⟨w0, hw⟩ := z.enm
    obtain ⟨ob, h1, _, h3⟩ := z.itr
    rcases List.mem_cons.mp hc with rfl | hc
    · exact ⟨_, hw, fun v q => nomatch q⟩
    · rw [List.mem_singleton.mp hc]
      exact ⟨ob, h1, fun v q => by rw [h3] at q; exact nomatch q⟩
  keep := fun n h h2 z k => by
    obtain ⟨w0, hw⟩ := z.enm
    exact ⟨⟨w0, k en List.mem_cons_self _ hw⟩, z.itr.at fun ob q => k ti (List.mem_cons_of_mem _ List.mem_cons_self) ob q, z.et, z.at_, z.ae⟩
  item := by
    intro X e1 e2 e3 cal n pins s σ H E I fp z go
    subst e1 e2 e3
    obtain ⟨w0, hw⟩ := z.enm
    obtain ⟨ws, y, hq, hy⟩ := go
    obtain ⟨its, vals, tp, _⟩ := I.tuple hq
    obtain ⟨u, hu, ru⟩ := vals.get hy
    have nu : its.toArray[n]? = some u := by simpa using hu
    have lt : n < its.toArray.size := (Array.getElem?_eq_some_iff.mp nu).1
    have hd : X.A.in1.handled = none := I.ok.hd cal
    have len : en < s.heap.objs.size := Heap.lt_size hw
    have lti : ti < s.heap.objs.size := by
      obtain ⟨_, q, _⟩ := z.itr
      exact Heap.lt_size q
    refine wpAny_pyNext_enum_itemD (Draws.tuple hd ti a z.at_ its.toArray) hw ⟨z.itr, tp⟩ lt z.et (fun q => ?_) fun v h1 tk hv out st1 pair _ kept => ?_
    · rcases List.mem_cons.mp q with q | q
      · exact z.et q
      · exact z.ae (List.mem_singleton.mp q).symm
    obtain rfl : u = v := Option.some.inj (nu.symm.trans hv)
    refine ⟨_, rfl, wpAny_letOwnedTupleGo_enum (s := { s with heap := h1, toks := tk + 1 }) out fun h2 en2 same => ?_⟩
    have pair2 : h2.get? s.heap.objs.size = some { cls := .type "tuple", data := .seq #[.int n tk, u] } := (same.2 _ (Nat.ne_of_gt len)).trans pair
    have ok : ObjOk X.prog X.w (upd H s.heap.objs.size (.tup [.int (n : Nat), y])) h2 s.heap.objs.size (.tup [.int (n : Nat), y]) :=
      ⟨size100 (Nat.le_of_ble_eq_true rfl), [.int n tk, u], .cons ⟨tk, rfl⟩ (.cons ru .nil), _, pair2, rfl, _, rfl⟩
    have J : Inv X pins σ (upd H s.heap.objs.size (.tup [.int (n : Nat), y])) { s with heap := h2, toks := tk + 1 } :=
      I.turnedNew (ch := [en, ti]) (fun c o hc q => (same.2 c (fun x => hc (by rw [x]; exact List.mem_cons_self))).trans
        (kept c o (fun x => hc (by rw [x]; exact List.mem_cons_self)) (fun x => hc (by rw [x]; exact List.mem_cons_of_mem _ List.mem_cons_self)) q)) fp (Nat.le_refl _) ok
    refine ⟨.ref s.heap.objs.size, _, J, rfl, ⟨_, y, rfl, I.hok.fresh (Nat.le_refl _), rfl, fun vs hvs => by rw [I.tuple_inj hvs hq]; exact hy⟩, ⟨⟨u, ?_⟩, st1.1.at fun o q => (same.2 ti (Ne.symm z.et)).trans q, z.et, z.at_, z.ae⟩, fun c hc => ?_⟩
    · rw [show ((n + 1 : Nat) : Int) = (n : Int) + 1 from by omega]
      exact en2
    · have lt2 : c < s.heap.objs.size := by
        rcases List.mem_cons.mp hc with x | x
        · rw [x]; exact len
        · rw [List.mem_singleton.mp x]; exact lti
      rw [upd_ne (Nat.ne_of_lt lt2)]
      exact (fp c hc).1
  done := by
    intro X e1 e2 e3 cal n pins s σ H E I fp z stop
    subst e1 e2 e3
    obtain ⟨w0, hw⟩ := z.enm
    obtain ⟨ws, hq, hl⟩ := stop
    obtain ⟨its, vals, tp, _⟩ := I.tuple hq
    have hd : X.A.in1.handled = none := I.ok.hd cal
    obtain ⟨f0, f1, f2, f3, f4, f5⟩ := fp ti (List.mem_cons_of_mem _ List.mem_cons_self)
    have hn : n = its.toArray.size := by
      rw [List.size_toArray, ← vals.length]
      exact hl.symm
    exact wpAny_pyNext_enum_endD (Draws.tuple hd ti a z.at_ its.toArray) hw ⟨hn ▸ z.itr, tp⟩ fun h1 ext => ⟨rfl, I.turned (t' := s.toks) (fun b o hb q => ext b o hb q) f0 f1 f3 f4 f5⟩
  self := fun A n s Q E z h => by
    obtain ⟨w0, hw⟩ := z.enm
    exact wpAny_pyIter_enum hw h
def iEnT (K : PySem.W.Frag) (ta : TA) : TI := fun σ H R => ta σ H fun vs H1 => ∃ a ws, vs = [.ref a] ∧ SqT K H1 a ws ∧ R (ItT K a) H1
theorem pi_enT {X : Cx} {e : Expr} {ta : TA} {p pos tpos : Pos} {es : List Expr} {kk : Nat} (hg : Gl X "enumerate") (hm : X.mg "enumerate" = none) (ha : PA X [e] ta) (hs : starEach [e] X.env = [(false, eval e X.env)] := by rfl) :
    PI X (.Tuple es kk tpos) (.Call (.Name "enumerate" p) [e] [] pos) (iEnT X.K ta) := by
  refine ⟨fun pins s σ H R I h => ?_⟩
  refine Call_ (ld_blt I hg hm boot_enumerate (PyProof.Rows.callWith_type1 (thn (ha.run pos pins s σ H _ I h) fun us t ⟨vs, H1, J, rel, a, ws, hv, hq, go⟩ => ?_) hs rfl))
  subst hv
  obtain ⟨u, rfl, ru⟩ := vals1 rel
  cases ru
  obtain ⟨its, vals, tp, _⟩ := J.tuple hq
  have la : a < t.heap.objs.size := by
    obtain ⟨o, ho, _⟩ := id tp
    exact Heap.lt_size ho
  have B := begins_tuple a its.toArray
  refine callType_new F.called_enumerate (by decide) (F.typeCall_enumerate_1 _) (F.newCall_enumerate_1 _) (fun ob => F.args_object_init_2 ob _) F.entry_enumerate_new (enum_meets B) ⟨tp, ?_⟩
  generalize ho : ({ cls := .type "tuple_iterator", data := .fields #[.ref a, .int 0 0] } : Obj) = oi
  have z1 : (t.heap.push oi).objs.size = t.heap.objs.size + 1 := Heap.size_push ..
  have z2 : ((t.heap.push oi).push (enO t.heap.objs.size)).get? (t.heap.objs.size + 1) = some (enO t.heap.objs.size) := by
    have := Heap.get?_push_size (t.heap.push oi) (o := enO t.heap.objs.size) rfl
    rwa [z1] at this
  have z3 : ((t.heap.push oi).push (enO t.heap.objs.size)).get? t.heap.objs.size = some oi := Heap.get?_push_of_some _ (Heap.get?_push_size _ (by rw [← ho]; rfl))
  show _ ∧ _
  rw [z1]
  refine ⟨⟨_, z2, rfl⟩, wpAny_pyIter_enum z2 ?_⟩
  have J2 : Inv X pins σ H1 { t with heap := (t.heap.push oi).push (enO t.heap.objs.size) } := J.kept (t' := t.toks) fun b o q => Heap.get?_push_of_some _ (Heap.get?_push_of_some _ q)
  refine ⟨t.heap.objs.size + 1, [t.heap.objs.size + 1, t.heap.objs.size], EnT a (t.heap.objs.size + 1) t.heap.objs.size, ItT X.K a, H1, rfl, J2, turn_enT, ⟨⟨.none, z2⟩, ⟨oi, z3, ?_, ?_⟩, Nat.succ_ne_self _, Nat.ne_of_lt la, Nat.ne_of_lt (Nat.lt_succ_of_lt la)⟩, fun b hb => ?_, go⟩
  · rw [← ho]
  · rw [← ho]
    rfl
  · have le : t.heap.objs.size ≤ b := by
      rcases List.mem_cons.mp hb with x | x
      · rw [x]
        exact Nat.le_succ _
      · rw [List.mem_singleton.mp x]
        exact Nat.le_refl _
    exact J.fpOk le (J.hok.fresh le)
end DL

set_option maxHeartbeats 4000000
namespace DL
open PySem PySem.Spec PyProof.Rows L2
def wiET (as : WA') : WI' := fun env S R Rx => as env S (fun ds S1 => ∃ xs, ds = [.tup xs] ∧ R ⟨xs.zipIdx.map fun q => D.tup [.int (q.2 : Nat), q.1], fun _ => True⟩ S1) Rx
section
variable {X : Cx} {T : List (Addr × Str)} {W : WX} {pos : Pos} {wo : WE'} {o : Expr}
theorem pid_enumT {es : List Expr} {kk : Nat} {tpos p : Pos} {e : Expr} {as : WA'} (hg : Gl X "enumerate") (hm : X.mg "enumerate" = none) (ha : PAD X T W [e] as)
    (hs : starEach [e] X.env = [(false, eval e X.env)] := by rfl) : PID X T W (.Tuple es kk tpos) (.Call (.Name "enumerate" p) [e] [] pos) (wiET as) := by
  refine pi_imp (pi_enT hg hm ha hs) fun σ H R ⟨G, env, S, m, R', Rx, he, hp, h, hk, hx⟩ => ?_
  refine ⟨G, env, S, m, _, _, he, hp, h, fun ds S1 vs m1 G1 H1 ⟨xs, hd, h1⟩ s1 p1 d1 => ?_, hx⟩
  subst hd
  obtain ⟨x, rfl, da⟩ := one_of d1
  obtain ⟨a, us, rfl, sa, ra0⟩ := tup_at p1 da
  refine ⟨a, us, rfl, sa, hk _ S1 m1 G1 H1 _ h1 s1 p1 ⟨fun i d S2 m2 G2 H2 hd _ p2 s2 => ?_, fun S2 m2 G2 H2 _ p2 s2 => ?_⟩⟩
  · obtain ⟨a', us', ea, sa', ra⟩ := tup_at p2 (da.mono p1 s2)
    cases ea
    rw [List.getElem?_map, List.getElem?_zipIdx] at hd
    cases q1 : xs[i]? with
    | none =>
      rw [q1] at hd
      cases hd
    | some c1 =>
      rw [q1] at hd
      have hd : d = D.tup [.int ((0 + i : Nat) : Int), c1] := (Option.some.inj hd).symm
      subst hd
      obtain ⟨v1, hv1, dv1⟩ := ra.get q1
      refine ⟨⟨us', v1, sa', hv1⟩, fun z H' ⟨Tn, x1, e0, e1, e2, e3⟩ => ?_⟩
      subst e0 e2
      have f1 := e3 us' sa'
      rw [hv1] at f1
      cases f1
      have e : ((0 + i : Nat) : Int) = (i : Int) := by rw [Nat.zero_add]
      rw [e]
      exact pair_new p2 e1 (.int _) dv1
  · obtain ⟨a', us', ea, sa', ra⟩ := tup_at p2 (da.mono p1 s2)
    cases ea
    refine ⟨us', sa', ?_⟩
    rw [← ra.length, List.length_map, List.length_zipIdx]
/-! ### repr of a list of growing lists -/
def toQs (S : Sto) : List D → Option (List PyData)
  | [] => some []
  | x :: xs => match toQ S x, toQs S xs with
    | some p, some ps => some (p :: ps)
    | _, _ => none
def toN (S : Sto) : D → Option PyData
  | .lst xs => (toQs S xs).map .list
  | .mu i => (S[i]?).bind fun xs => (toQs S xs).map .list
  | d => toP S d
theorem toQs_dp {K : PySem.W.Frag} {m : List Addr} {S : Sto} {G H : Hp} (hp : Rp K T m S G H) : ∀ {ds : List D} {vs : List V} {ps : List PyData}, DRs K m G ds vs → toQs S ds = some ps → DpAll K H vs ps
  | _, _, _, .nil, e => by cases (Option.some.inj (by simpa [toQs] using e)); exact .nil
  | _, _, _, .cons (d := d) (ds := ds) h hs, e => by
    unfold toQs at e
    cases q1 : toQ S d with
    | none =>
      rw [q1] at e
      cases e
    | some p =>
      cases q2 : toQs S ds with
      | none =>
        rw [q1, q2] at e
        cases e
      | some ps =>
        rw [q1, q2] at e
        cases e
        exact .cons (toQ_dp hp h q1) (toQs_dp hp hs q2)
theorem toN_dp {K : PySem.W.Frag} {m : List Addr} {S : Sto} {G H : Hp} (hp : Rp K T m S G H) {d : D} {v : V} {p : PyData} (h : DR K m G d v) (e : toN S d = some p) : Dp K H v p := by
  cases d with
  | mu i =>
    have e : ((S[i]?).bind fun xs => (toQs S xs).map PyData.list) = some p := e
    cases q : S[i]? with
    | none =>
      rw [q] at e
      cases e
    | some xs =>
      rw [q] at e
      obtain ⟨ps, e1, rfl⟩ := Option.map_eq_some_iff.mp (show (toQs S xs).map PyData.list = some p from e)
      obtain ⟨a, vs, rfl, _, _, hh, dr⟩ := mu_at hp h q
      exact .lst (.inl (.inl hh)) (toQs_dp hp dr e1)
  | lst xs =>
    obtain ⟨ps, e1, rfl⟩ := Option.map_eq_some_iff.mp (show (toQs S xs).map PyData.list = some p from e)
    cases h with
    | lst hg hm dr => exact .lst (.inl (.inl (hp.sub _ _ hg))) (toQs_dp hp dr e1)
  | _ => exact toP_dp hp h e
def dReprN : FL := fun ds S R => match ds with
  | [a] => ∃ p, toN S a = some p ∧ p.showable = true ∧ p.shown.length ≤ sizeLine ∧ p.depth ≤ 60 ∧ R (.str p.shown) S
  | _ => False
theorem cD_reprN (hg : X.A.guards = some []) (hu : X.A.units + 64 < cLine) : CallR X (.builtin "repr") (lC X.K T dReprN) := by
  intro pins s σ H vs us Q I r ⟨G, ds, S, m, R, dr, hp, h, hk⟩
  obtain ⟨a, p, rfl, h1, h2, h3, h4, h5⟩ : ∃ a p, ds = [a] ∧ toN S a = some p ∧ p.showable = true ∧ p.shown.length ≤ sizeLine ∧ p.depth ≤ 60 ∧ R (.str p.shown) S := by
    unfold dReprN at h
    split at h
    · obtain ⟨p, h⟩ := h
      exact ⟨_, p, rfl, h⟩
    · exact h.elim
  obtain ⟨x, rfl, d1⟩ := one_of dr
  obtain ⟨u, rfl, rx⟩ := vals1 r
  have dp := toN_dp hp d1 h1
  have qv : ∀ t : Tok, ∀ s', Inv X pins σ H s' → EP X pins σ Q (.str p.shown t) s' := fun t s' I' => ⟨.str p.shown, H, I', ⟨t, rfl⟩, hk.at h5 hp (.str _)⟩
  cases dp with
  | non =>
    cases (show u = Value.none from rx)
    exact P.repr_of_none (qv _ _ (I.tok _))
  | bl b =>
    cases (show u = Value.bool b from rx)
    exact P.repr_of_bool (qv _ _ (I.tok _))
  | int i =>
    obtain ⟨t, e⟩ := (show ∃ t, u = Value.int i t from rx)
    subst e
    exact P.repr_of_int (of_decide_eq_true h2) (qv _ _ (I.tok _))
  | str z =>
    obtain ⟨t, e⟩ := (show ∃ t, u = Value.str z t from rx)
    subst e
    exact P.repr_of_str (qv _ _ (I.tok _)) h3
  | lst hs ha =>
    cases (show u = Value.ref _ from rx)
    have nd := hasDict_no (.lst hs ha)
    obtain ⟨as, rd⟩ := Dp.reads I _ _ _ (.lst hs ha) rx
    refine repr_of_reads' rd h2 (fun z => absurd (nd.symm.trans z) Bool.false_ne_true) hg (by omega) (fun _ _ e => e) (fun h' t tk hk' => qv t _ (I.kept hk')) h3
  | tup hs ha =>
    cases (show u = Value.ref _ from rx)
    have nd := hasDict_no (.tup hs ha)
    obtain ⟨as, rd⟩ := Dp.reads I _ _ _ (.tup hs ha) rx
    refine repr_of_reads' rd h2 (fun z => absurd (nd.symm.trans z) Bool.false_ne_true) hg (by omega) (fun _ _ e => e) (fun h' t tk hk' => qv t _ (I.kept hk')) h3
/-! ### xs.clear() -/
def sClear (wo : WE') : WS' := fun env S E => wo env S (fun o S1 => ∃ i xs, o = .mu i ∧ S1[i]? = some xs ∧ E.nx env (S1.set i [])) E.ex
theorem psd_clear {apos cpos : Pos} (ho : PD X T W o wo) (hs : swapsWith (.Call (.Attribute o "clear" apos) [] [] cpos) none pos.line X.env = pure false := by rfl)
    (hbase : attributeBase o "clear" X.env (eval o X.env) = eval o X.env := by rfl) (hline : (apos.endLine == cpos.line) = true := by rfl) :
    PSD X T W (.Expr (.Call (.Attribute o "clear" apos) [] [] cpos) pos) (sClear wo) := by
  refine ps_imp (ps_expr (pe_bm0 PySem.F.plainAttrs_list PySem.F.slot_list_clear PySem.F.type_list_clear mt_clear ho hbase hline) hs) fun D σ H ⟨G, env, S, m, E, he, hp, h, l⟩ => ?_
  refine ⟨G, env, S, m, _, _, he, hp, h, fun x S1 v m1 G1 H1 ⟨i, xs, hi, hS, hn⟩ s1 p1 d1 => ?_, l.ex⟩
  subst hi
  obtain ⟨a, vs, rfl, hm, hg, hh, dr⟩ := mu_at p1 d1 hS
  obtain ⟨q1, q2⟩ := p1.put hm (ds := []) (vs := []) .nil
  exact ⟨.inl ⟨rfl, vs, .inl (.inl hh)⟩, a, vs, rfl, rfl, hh, l.nx _ _ _ _ _ _ hn (s1.trans q2) q1 ((he.mono hp s1).mono p1 q2)⟩
end
end DL

set_option maxHeartbeats 4000000
namespace DL
open PySem PySem.Spec PyProof.Rows L2
/-! ### own errors: raise X('..') -/
/-- the class x of the module, an error over ValueError without own __init__ -/
structure Xc (K : PySem.W.Frag) (mg : Str → Option Value) (x : Str) : Prop where
  at_ : mg x = some (.ref (He.ga K x))
  new_ : PySem.W.excIn K (He.ga K x) He.veBase "ValueError.__new__" = true
  kp : PySem.W.keepIn K (.ref (He.ga K x)) = true
  sub : PySem.W.subIn K (.ref (He.ga K x)) (.type "BaseException") = some true
  ty : PySem.W.typeIn K (.ref (He.ga K x)) = some (.type "type")
/-- the error of a class -/
abbrev erO (K : PySem.W.Frag) (x : Str) : Er := (He.ga K x, none)
def sRaise (e : Er) : WS' := fun env S E => E.ex e env S
section
variable {X : Cx} {T : List (Addr × Str)} {W : WX}
theorem psd_raise {x msg : Str} {j : Nat} {p p2 pos pos' : Pos} (C : Xc X.K X.mg x) (hc : X.calm = true) (hg : Gl X x) (tk : Takes X W) (hdb : (x == ("__debug__" : Str)) = false := by decide) :
    PSD X T W (.Raise (some (.Call (.Name x p) [.Constant (.str msg) j p2] [] pos)) none pos') (sRaise (erO X.K x)) := by
  refine ps_imp (ps_raise hc tk (pmk_own PySem.F.excBase_ValueError C.new_ C.at_ C.kp (raises_own C.sub C.ty) hg hdb)) fun D σ H ⟨G, env, S, m, E, he, hp, h, l⟩ => ?_
  exact l.ex _ env S _ none σ m G H h Stp.refl hp he ⟨rfl, rfl⟩
end
theorem r_raise {e : Er} {env : Vars} {S : Sto} {E : Ds} (k : E.ex e env S) : sRaise e env S E := k
end DL

set_option maxHeartbeats 4000000
namespace DL
open PySem PySem.Spec PyProof.Rows L2
/-! ### isinstance of an error object -/
/-- the error object as it stands -/
theorem er_at {X : Cx} {T : List (Addr × Str)} {pins : List (Addr × Obj)} {σ : L2.St} {H G : Hp} {s : Shared} {m : List Addr} {S : Sto} {C : Addr} {x : V} (I : Inv X pins σ H s) (hp : Rp X.K T m S G H) (d : DR X.K m G (.er C) x) :
    ∃ a oe, x = .ref a ∧ PySem.W.InstAt s.heap a oe C none := by
  cases d with
  | er hg z f =>
    rename_i a oe
    obtain ⟨h1, _⟩ := I.hok a _ (hp.sub _ _ hg)
    obtain ⟨c0, d0, t0, s0⟩ := oe
    obtain ⟨z1, z2⟩ := z
    obtain ⟨vs, f⟩ := f
    dsimp only at z1 z2 f
    subst z1 z2 f
    exact ⟨a, _, rfl, h1, rfl, rfl, trivial⟩
def dIsE (K : PySem.W.Frag) : FL := fun ds S R => match ds with
  | [.er C, .ob c] => ExcC K C ∧ ∃ b, PySem.W.kitOne K (.ref C) (.ref c) = some b ∧ R (.bl b) S
  | [.er C, .ty n] => ExcC K C ∧ ∃ b, PySem.W.kitOne K (.ref C) (.type n) = some b ∧ R (.bl b) S
  | _ => False
section
variable {X : Cx} {T : List (Addr × Str)}
theorem isE_run {pins : List (Addr × Obj)} {σ : L2.St} {H G : Hp} {s : Shared} {m : List Addr} {S : Sto} {C : Addr} {x : V} {u cv : Value} {b : Bool} {Q : VK} (I : Inv X pins σ H s) (hp : Rp X.K T m S G H) (d : DR X.K m G (.er C) x) (rx : RelV x u) (E : ExcC X.K C) (k : PySem.W.kitOne X.K (.ref C) cv = some b) (q : Q (.bl b) H) :
    wpAny (model X.prog X.w) X.A (call (.builtin "isinstance") [u, cv]) (EP X pins σ Q) X.xe s := by
  obtain ⟨a, oe, rfl, J⟩ := er_at I hp d
  cases rx
  exact PySem.W.kia_one (PySem.W.handS_kitx_exc E.hg E.hk E.hs E.hd E.ha E.hn E.ht E.hm) I.kIn J k (fun z => nomatch z) fun tk => ⟨.bl b, H, I.kept (t' := tk) fun _ _ z => z, rfl, q⟩
theorem cD_isE : CallR X (.builtin "isinstance") (lC X.K T (dIsE X.K)) := by
  intro pins s σ H vs us Q I r ⟨G, ds, S, m, R, dr, hp, h, hk⟩
  cases dr with
  | nil => exact h.elim
  | cons d1 dr =>
    rename_i a x _ _
    cases dr with
    | nil => cases a <;> exact h.elim
    | cons d2 dr =>
      rename_i c y _ _
      cases dr with
      | cons d3 dr => cases a <;> first | exact h.elim | (cases c <;> exact h.elim)
      | nil =>
        cases r with
        | cons r1 r =>
          cases r with
          | cons r2 r =>
            cases r
            cases a with
            | er C =>
              cases c with
              | ob c =>
                obtain ⟨E, b, k, q⟩ := h
                cases d2
                cases r2
                exact isE_run I hp d1 r1 E k (hk.at q hp (.bl _))
              | ty n =>
                obtain ⟨E, b, k, q⟩ := h
                cases d2
                cases r2
                exact isE_run I hp d1 r1 E k (hk.at q hp (.bl _))
              | _ => exact h.elim
            | _ => exact h.elim
/-- a tuple of built-in classes -/
def dIsET (K : PySem.W.Frag) : FL := fun ds S R => match ds with
  | [.er C, .tup cs] => ∃ ns : List String, cs = ns.map D.ty ∧ ExcC K C ∧ ∃ b, PySem.W.kitAny K (.ref C) (ns.map Value.type) = some b ∧ R (.bl b) S
  | _ => False
theorem tys_val {K : PySem.W.Frag} {m : List Addr} {G : Hp} : ∀ {ns : List String} {vs : List V} {us : List Value}, DRs K m G (ns.map D.ty) vs → Vals vs us → us = ns.map Value.type
  | [], _, _, .nil, .nil => rfl
  | n :: ns, _, _, .cons d ds, .cons r rs => by
    cases d
    rw [tys_val ds rs]
    exact congrArg (· :: _) (show _ = Value.type n from r)
theorem cD_isET : CallR X (.builtin "isinstance") (lC X.K T (dIsET X.K)) := by
  intro pins s σ H vs us Q I r ⟨G, ds, S, m, R, dr, hp, h, hk⟩
  obtain ⟨C, cs, rfl, ns, rfl, E, b, k, q⟩ : ∃ C cs, ds = [D.er C, .tup cs] ∧ ∃ ns : List String, cs = ns.map D.ty ∧ ExcC X.K C ∧ ∃ b, PySem.W.kitAny X.K (.ref C) (ns.map Value.type) = some b ∧ R (.bl b) S := by
    unfold dIsET at h
    split at h
    · exact ⟨_, _, rfl, h⟩
    · exact h.elim
  cases dr with
  | cons d1 dr =>
    cases dr with
    | cons d2 dr =>
      cases dr
      obtain ⟨u1, u2, rfl, r1, r2⟩ := vals2 r
      obtain ⟨a, oe, rfl, J⟩ := er_at I hp d1
      cases r1
      obtain ⟨t, ws, rfl, sq, dw⟩ := tup_at hp d2
      cases r2
      obtain ⟨its, rv, ⟨o, h1, h2, n, h3⟩, _⟩ := I.tuple sq
      rw [tys_val dw rv] at h3
      obtain ⟨oc, od, dt, sl⟩ := o
      dsimp only at h2 h3
      subst h2 h3
      exact PySem.W.kia_tup (PySem.W.handS_kitx_exc E.hg E.hk E.hs E.hd E.ha E.hn E.ht E.hm) I.kIn J h1 k (fun z => nomatch z) fun tk => ⟨.bl b, H, I.kept (t' := tk) fun _ _ z => z, rfl, hk.at q hp (.bl _)⟩
end
end DL

set_option maxHeartbeats 4000000
namespace DL
open PySem PySem.Spec PyProof.Rows L2
/-! ### a def called from an except suite: its argument is the error that is held -/
/-- the body runs with q's object pinned -/
theorem held_run {P : Program} {w : World} {K : PySem.W.Frag} {mg : Str → Option Value} {base : Heap} {k : Nat} {f : Addr} {nm qn : Str} {pa : Arguments} {bo : List Stmt} {sc : Scope} {v1 v2 v3 v4 v5 v6 oc : Value} {o1 o2 : Option Addr} {sl : Array (Option Value)} {N ps : List Str}
    (at_ : K.lookup f = some ⟨oc, o2, .func (PySem.W.fnOf nm qn pa bo sc v1 v2 v3 v4 o1 v5 v6), sl⟩) (cd : PySem.W.codeIn K v5 qn = true) (fs : FnScope N ps sc)
    {A : Around} {outer : List Env} {s : Shared} {H : Hp} {as : Args} {us : List Value} {vs : List V} {Q : VK} {E : XK} {q : Addr × Obj} (room : L2H.RoomH (k + 1) A) (pk : L2H.PinOk outer H s q) (e0 : Env0 P w K mg base A outer s H)
    (bt : BindsTo s (PySem.W.fnOf nm qn pa bo sc v1 v2 v3 v4 o1 v5 v6) as (ps.zip us)) (rel : Vals vs us) (len : vs.length = ps.length)
    (go : L2H.RoomH k (A.deeper (envOfC qn sc s.heap.objs.size f v5)) → ∃ t, PSs (L2H.cxH (L2.CX P w) P w K mg base N qn sc f v5 A outer s H E q) bo t ∧ t { nx := fun _ H' => Q .non H', rt := Q } (L2.start N vs) H) :
    codeAny (model P w) A (.call (.ref f) as) (CR (L2.CX P w) outer P w H s Q E) s := by
  have kin : K.In s.heap := e0.mod.kin.keeps fun c o z => (e0.bs c o z).1
  have nolim : s.heap.NoLimit := e0.mod.nolimit.keeps fun c o z => (e0.bs c o z).1
  have kinds : ∀ y ∈ ps.zip us, sc.names.lookup y.1 = some .local ∨ (sc.names.lookup y.1 = some .cell ∧ ((cellsFrom (s.heap.objs.size + 1) sc.names []).lookup y.1).isSome = true) := by
    rintro ⟨y, u⟩ hy
    exact (fs.par y (List.of_mem_zip hy).1).elim Or.inl fun z => Or.inr ⟨z, PySem.W.cellsFrom_some _ _ _ (.inl z)⟩
  apply codeAny_call_function room.depth (kin _ _ at_) rfl fs.co fs.gen rfl (PySem.W.codeRec_of kin cd)
  apply bt
  apply wpAny_newFunctionEnv_cells fs.kind kinds
  rintro _ rfl s1 x
  refine ⟨nolim.keeps x.toInCall.keep, codeAny_func ?_⟩
  obtain ⟨t, ht, hq⟩ := go (room.deeper _)
  have J := L2H.inv_startH (CX := L2.CX P w) (E := E) (cd := v5) (f := f) (mg := mg) (K := K) fs pk e0 len rel x
  refine wpAny_mono (ht.run [] s1 (L2.start N vs) H _ J hq) (fun fl s' z => ?_) fun _ _ z => z
  match fl, z with
  | .ret u, ⟨v, σ', H', J', rv, z⟩ => exact ⟨v, H', J'.os, J'.bare, J'.base, J'.hok, rv, z⟩
  | .next, ⟨σ', H', J', z⟩ => exact ⟨V.non, H', J'.os, J'.bare, J'.base, J'.hok, rfl, z⟩
  | .brk, ⟨_, _, _, z⟩ => exact z.elim
  | .cont, ⟨_, _, _, z⟩ => exact z.elim
/-- what a def promises of the held error of the class C, at a -/
structure FnS (P : Program) (w : World) (K : PySem.W.Frag) (mg : Str → Option Value) (base : Heap) (T : List (Addr × Str)) (k : Nat) (f : Addr) (fd : FuncData) (ps : List Str) (p : Addr → Addr → Option Addr → SpD) : Prop where
  run : ∀ (A : Around) (outer : List Env) (s : Shared) (as : Args) (us : List Value) (vs : List V) (ds : List D) (S : Sto) (m : List Addr) (G H : Hp) (R : KR) (Q : VK) (a : Addr) (oe : Obj) (C : Addr) (dd : Option Addr),
    L2H.RoomH k A → L2H.PinOk outer H s (a, oe) → Zc (.ref C) dd oe → (∃ vs, oe.data = .fields vs) → Env0 P w K mg base A outer s H → BindsTo s fd as (ps.zip us) → Vals vs us → DRs K m G ds vs → Rp K T m S G H → ds.length = ps.length → p C a dd ds S R (fun _ _ => False) →
    Okl K T m G H R Q → codeAny (model P w) A (.call (.ref f) as) (CR (L2.CX P w) outer P w H s Q (fun _ _ _ => False)) s
section
variable {P : Program} {w : World} {K : PySem.W.Frag} {mg : Str → Option Value} {base : Heap} {T : List (Addr × Str)} {x qual : Str} {params : Arguments} {body : List Stmt} {scope : Scope} {dvs : List V} {kws : List (Str × V)} {f : Addr} {fd : FuncData}
theorem fn_okS {N ps : List Str} {k : Nat} {p : Addr → Addr → Option Addr → SpD} (F : FunD K x qual params body scope dvs kws f fd) (Sc : FnScope N ps scope)
    (hbody : ∀ (cdv : Value) (A : Around) (outer : List Env) (s : Shared) (H : Hp) (a : Addr) (oe : Obj) (C : Addr) (dd : Option Addr), L2H.RoomH k (A.deeper (envOfC qual scope s.heap.objs.size f cdv)) → Zc (.ref C) dd oe → (∃ vs, oe.data = .fields vs) →
      ∃ u : WS', PSsD (L2H.cxH (L2.CX P w) P w K mg base N qual scope f cdv A outer s H (fun _ _ _ => False) (a, oe)) T (fun _ _ _ _ => False) body u ∧
        ∀ ds S R, ds.length = ps.length → p C a dd ds S R (fun _ _ => False) → u (startE N ds) S { nx := fun _ S' => R .non S', rt := R, bk := fun _ _ => False, ct := fun _ _ => False, ex := fun _ _ _ => False }) :
    FnS P w K mg base T (k + 1) f fd ps p := by
  obtain ⟨oc, od, dV, kV, doc, pm, an, cdv, ct, osl, rfl, lk, hcd, _, _⟩ := F.ex
  refine ⟨fun A outer s as us vs ds S m G H R Q a oe C dd room pk hz hv e0 bt rel dr rp hl hsp hk => ?_⟩
  refine held_run (q := (a, oe)) lk hcd Sc room pk e0 bt rel (by rw [← dr.length]; exact hl) fun room' => ?_
  obtain ⟨u, hu, hq⟩ := hbody cdv A outer s H a oe C dd room' hz hv
  exact ⟨_, hu, G, startE N ds, S, m, _, start_rel dr, rp, hq ds S R hl hsp, fun env S' σ m' G' H' h1 h2 h3 h4 => hk .non S' .non m' G' H' h1 h2 h3 .non, fun _ _ _ _ _ _ z => z.elim, fun _ _ _ _ _ _ z => z.elim, hk, fun _ _ _ _ _ _ _ _ _ z => z.elim⟩
end
/-! ### isinstance of the held error -/
section
variable {X : Cx} {T : List (Addr × Str)} {W : WX}
theorem inst_pin {pins : List (Addr × Obj)} {σ : L2.St} {H : Hp} {s : Shared} {a C : Addr} {oe : Obj} (I : Inv X pins σ H s) (hp : (a, oe) ∈ X.pn) (hz : Zc (.ref C) none oe) (hv : ∃ vs, oe.data = .fields vs) : PySem.W.InstAt s.heap a oe C none := by
  have g := (I.pin (a, oe) (List.mem_append_left _ hp)).1
  obtain ⟨c0, d0, t0, s0⟩ := oe
  obtain ⟨z1, z2⟩ := hz
  obtain ⟨vs, z3⟩ := hv
  dsimp only at z1 z2 z3
  subst z1 z2 z3
  exact ⟨g, rfl, rfl, trivial⟩
def dIsP (K : PySem.W.Frag) (C a : Addr) : FL := fun ds S R => match ds with
  | [.ob b, .ob c] => b = a ∧ ∃ v, PySem.W.kitOne K (.ref C) (.ref c) = some v ∧ R (.bl v) S
  | [.ob b, .ty n] => b = a ∧ ∃ v, PySem.W.kitOne K (.ref C) (.type n) = some v ∧ R (.bl v) S
  | [.ob b, .tup cs] => b = a ∧ ∃ ns : List String, cs = ns.map D.ty ∧ ∃ v, PySem.W.kitAny K (.ref C) (ns.map Value.type) = some v ∧ R (.bl v) S
  | _ => False
theorem cD_isP {a C : Addr} {oe : Obj} (hp : (a, oe) ∈ X.pn) (hz : Zc (.ref C) none oe) (hv : ∃ vs, oe.data = .fields vs) (E : ExcC X.K C) : CallR X (.builtin "isinstance") (lC X.K T (dIsP X.K C a)) := by
  intro pins s σ H vs us Q I r ⟨G, ds, S, m, R, dr, rp, h, hk⟩
  have J := inst_pin I hp hz hv
  match ds, h with
  | [.ob b, .ob c], ⟨e, v, k, q⟩ =>
    subst e
    obtain ⟨y, z, rfl, d1, d2⟩ := two_of dr
    obtain ⟨u1, u2, rfl, r1, r2⟩ := vals2 r
    cases d1
    cases d2
    cases r1
    cases r2
    exact PySem.W.kia_one (PySem.W.handS_kitx_exc E.hg E.hk E.hs E.hd E.ha E.hn E.ht E.hm) I.kIn J k (fun z => nomatch z) fun tk => ⟨.bl v, H, I.kept (t' := tk) fun _ _ z => z, rfl, hk.at q rp (.bl _)⟩
  | [.ob b, .ty n], ⟨e, v, k, q⟩ =>
    subst e
    obtain ⟨y, z, rfl, d1, d2⟩ := two_of dr
    obtain ⟨u1, u2, rfl, r1, r2⟩ := vals2 r
    cases d1
    cases d2
    cases r1
    cases r2
    exact PySem.W.kia_one (PySem.W.handS_kitx_exc E.hg E.hk E.hs E.hd E.ha E.hn E.ht E.hm) I.kIn J k (fun z => nomatch z) fun tk => ⟨.bl v, H, I.kept (t' := tk) fun _ _ z => z, rfl, hk.at q rp (.bl _)⟩
  | [.ob b, .tup cs], ⟨e, ns, e2, v, k, q⟩ =>
    subst e e2
    obtain ⟨y, z, rfl, d1, d2⟩ := two_of dr
    obtain ⟨u1, u2, rfl, r1, r2⟩ := vals2 r
    cases d1
    cases r1
    obtain ⟨t, ws, rfl, sq, dw⟩ := tup_at rp d2
    cases r2
    obtain ⟨its, rv, ⟨o, h1, h2, n, h3⟩, _⟩ := I.tuple sq
    rw [tys_val dw rv] at h3
    obtain ⟨oc, od, dt, sl⟩ := o
    dsimp only at h2 h3
    subst h2 h3
    exact PySem.W.kia_tup (PySem.W.handS_kitx_exc E.hg E.hk E.hs E.hd E.ha E.hn E.ht E.hm) I.kIn J h1 k (fun z => nomatch z) fun tk => ⟨.bl v, H, I.kept (t' := tk) fun _ _ z => z, rfl, hk.at q rp (.bl _)⟩
end
end DL

set_option maxHeartbeats 4000000
namespace DL
open PySem PySem.Spec PyProof.Rows L2
/-! ### return flags(e), in an except suite -/
section
variable {X : Cx} {T : List (Addr × Str)}
theorem pe_held {x n y : Str} {i k : Nat} {a C f : Addr} {oe : Obj} {dd : Option Addr} {pn : List (Addr × Obj)} {fd : FuncData} {p : Addr → Addr → Option Addr → SpD} {p1 p2 pos : Pos} (hz : Zc (.ref C) dd oe) (hv : ∃ vs, oe.data = .fields vs)
    (F : FnS X.prog X.w X.K X.mg X.base T k f fd [y] p) (hr : Room k X.A) (hg : Gl X x) (hm : X.mg x = some (.ref f)) (hk : PySem.W.keepIn X.K (.ref f) = true) (hb : L2.Binds X.K fd [y] [])
    (hN : X.N[i]? = some n) (hvis : Vis X.env.scope n) (hdb : (x == ("__debug__" : Str)) = false := by decide) (hd : (n == ("__debug__" : Str)) = false := by decide) (hcd : (n == ("__classdict__" : Str)) = false := by decide) :
    PE (X.suite a ((a, oe) :: pn)) (.Call (.Name x p1) [.Name n p2] [] pos) (fun σ H Q => σ[i]? = some (some (.ref a)) ∧ ∃ G S m R, Rp X.K T m S G H ∧ p C a dd [.ob a] S R (fun _ _ => False) ∧ Okl X.K T m G H R Q) := by
  refine ⟨fun pins s σ H Q I ⟨hs, G, S, m, R, rp, hp, hok⟩ => ?_⟩
  have hg' : Gl (X.suite a ((a, oe) :: pn)) x := hg
  refine wpAny_Call_Name_kw (ld_glob I hg' hm ?_ hdb)
  have pv : PE (X.suite a ((a, oe) :: pn)) (.Name n p2) (tVar i) := pe_var (X := X.suite a ((a, oe) :: pn)) hN hvis hd hcd
  have ag : PA (X.suite a ((a, oe) :: pn)) [.Name n p2] (tCons (tVar i) tNil) := pa_cons pv pa_nil
  refine PySem.W.callWith_K (h₀ := X.base) I.ok.mod.kin hk (thn (ag.run pos pins s σ H (fun vs H1 => vs = [V.ref a] ∧ H1 = H) I ⟨.ref a, hs, rfl, rfl⟩) fun us s1 ⟨vs, H1, I1, r1, ev, eH⟩ => ⟨I1.kIn, ?_⟩) (by rfl) (by rfl)
  subst ev eH
  obtain ⟨u, rfl, ru⟩ := vals1 r1
  cases ru
  have P1 := I1.pin (a, oe) List.mem_cons_self
  have pk : L2H.PinOk X.stack H1 s1 (a, oe) := ⟨P1.1, P1.2.1, fun z => (List.mem_cons.mp (I1.stkSub a z)).elim P1.2.2.1 P1.2.2.2.1, P1.2.2.2.2⟩
  have room : L2H.RoomH k (X.suite a ((a, oe) :: pn)).A := ⟨hr.dp, hr.un⟩
  have bt := hb s1 [.ref a] I1.kIn rfl
  refine wpAny_call (codeAny_mono (F.run (X.suite a ((a, oe) :: pn)).A X.stack s1 ⟨[.ref a], []⟩ [.ref a] [.ref a] [.ob a] S m G H1 R Q a oe C dd room pk hz hv I1.env0 bt r1 (.cons (.ob a) .nil) rp rfl hp hok) fun rr s2 hq => ?_)
  cases rr with
  | error e =>
    obtain ⟨_, _, _, _, _, _, _, _, _, _, _, _, z⟩ := (show L2.CX X.prog X.w X.stack H1 s1 (fun _ _ _ => False) e s2 from hq)
    exact z.elim
  | ok fl =>
    match fl, hq with
    | .ret u, hq => exact I1.after hq
    | .next, hq => exact hq.elim
    | .brk, hq => exact hq.elim
    | .cont, hq => exact hq.elim
end
/-! ### try: return ("told", call()) / except X as e: return flags(e) -/
/-- what is made of the answer v -/
abbrev Tell := V → Hp → VK → Prop
def tellT : Tell := fun v H Q => [V.str "told", v].length ≤ sizeLine ∧ ∀ p, H p = none → Q (.ref p) (upd H p (.tup [.str "told", v]))
def tellV : Tell := fun v H Q => Q v H
def TTry (K : PySem.W.Frag) (T : List (Addr × Str)) (CS : Addr) (p : Addr → Addr → Option Addr → SpD) (tell : Tell) : (XK → Hp → VK → Prop) → Hp → VK → Prop := fun tl H Q =>
  tl (fun cls dd H' => ∃ C, cls = .ref C ∧ PySem.W.exmOne K cls (.ref CS) = some true ∧ ∀ a, H' a = none → ∃ G S m R, Rp K T m S G H' ∧ p C a dd [.ob a] S R (fun _ _ => False) ∧ Okl K T m G H' R Q) H (fun v H' => tell v H' Q)
section
variable {X : Cx} {T : List (Addr × Str)}
theorem zn_start {f : Addr} {N : List Str} {a : Str} {r : List Str} (h : N = a :: r) : (L2.start N [V.ref f])[0]? = some (some (V.ref f)) := by
  subst h
  rfl
/-- the def as the context of its body, a lambda at f handed to it -/
abbrev zTry (X : Cx) (Ng : List Str) (x : Str) (sg : Scope) (g : Addr) (cdg : Value) (s : Shared) (H : Hp) : Cx := (cxOf C8.CX0 X.prog X.w X.K X.mg X.base Ng x sg g cdg X.A X.stack s H C8.E0).nox
theorem try_gives {xw a n xe xf y q : Str} {sg : Scope} {g CS f : Addr} {cdg : Value} {k : Nat} {fd : FuncData} {p : Addr → Addr → Option Addr → SpD} {tell : Tell} {wrap : Expr → Expr} {p1 p2 p3 p4 p5 p6 p7 p8 p9 pa : Pos}
    (F : FnS X.prog X.w X.K X.mg X.base T k f fd [y] p) (hr : Room (k + 1) X.A) (hgf : sg.names.lookup xf = some .globalImplicit) (hmf : X.mg xf = some (.ref f)) (hkf : PySem.W.keepIn X.K (.ref f) = true) (hbf : L2.Binds X.K fd [y] [])
    (hgc : sg.names.lookup xe = some .globalImplicit) (hmc : X.mg xe = some (.ref CS)) (hdc : (xe == ("__debug__" : Str)) = false) (hdf : (xf == ("__debug__" : Str)) = false) (hln : sg.names.lookup n = some .local) (hdn : (n == ("__debug__" : Str)) = false) (hcn : (n == ("__classdict__" : Str)) = false) (hnd : [a, n].Nodup)
    (hw : ∀ (Y : Cx) (t : TE), PE Y (.Call (.Name a p1) [] [] p2) t → PE Y (wrap (.Call (.Name a p1) [] [] p2)) (fun σ H Q => t σ H fun v H' => tell v H' Q)) :
    LamX.GivesTo X [a, n] xw sg g cdg [.Try [.Return (some (wrap (.Call (.Name a p1) [] [] p2))) p3] [.ExceptHandler (some (.Name xe p4)) (some n) [.Return (some (.Call (.Name xf p5) [.Name n p6] [] p7)) p8] p9] [] [] pa] a q (TTry X.K T CS p tell) := by
  intro fl c' s H Q tl act hc h
  have hgl : Gl (zTry X [a, n] xw sg g cdg s H) xe := hgc
  have hglf : Gl (zTry X [a, n] xw sg g cdg s H) xf := hgf
  have hr2 : Room k (zTry X [a, n] xw sg g cdg s H).A := hr.deeper _
  refine ⟨_, pss_one (ps_try_as (X := zTry X [a, n] xw sg g cdg s H) (c := .ref CS) (i := 1)
      (tb := fun W D σ H => ∃ Ech : XK, (∀ cls d σ' H', Ech cls d H' → W cls d σ' H') ∧ σ[0]? = some (some (.ref fl)) ∧ H c' = some (LamX.CodeO c' q) ∧ tl Ech H fun v H' => tell v H' D.rt)
      (ts := fun e cls dd D σ H => ∃ C, cls = .ref C ∧ (σ.length = 2 → σ[1]? = some (some (.ref e))) ∧ ∃ G S m R, Rp X.K T m S G H ∧ p C e dd [.ob e] S R (fun _ _ => False) ∧ Okl X.K T m G H R D.rt)
      rfl rfl hnd rfl hln ⟨hgl, hdc, .inl hmc⟩ L2.takes0 (fun W pn xe' tk _ => ?_) (fun e oe cls dd pn hz hv => ?_)), ?_⟩
  · refine ⟨fun pins s' σ H' D I ⟨Ech, hW, h1, h2, h3⟩ => ?_⟩
    exact (pss_one (ps_ret (pos := p3) (hw _ _ (act W pn xe' Ech p1 p2 tk hW)))).run pins s' σ H' D I ⟨h1, h2, h3⟩
  · refine ⟨fun pins s' σ H' D I ⟨C, ec, hl, h3⟩ => ?_⟩
    subst ec
    exact (pss_one (ps_ret (pos := p8) (pe_held (X := zTry X [a, n] xw sg g cdg s H) (i := 1) (p1 := p5) (p2 := p6) (pos := p7) (pn := pn) hz hv F hr2 hglf hmf hkf hbf rfl (.inl hln) hdf hdn hcn))).run pins s' σ H' D I ⟨hl I.len, h3⟩
  · refine ⟨_, fun cls d σ' H' z => ?_, zn_start rfl, hc, h⟩
    obtain ⟨C, ec, ex, z⟩ := z
    refine ⟨true, ex, fun _ e ne => ⟨C, ec, fun l => ?_, z e ne⟩, fun b => nomatch b⟩
    rw [List.getElem?_set_self]
    rw [List.length_set] at l
    omega
end
end DL

set_option maxHeartbeats 4000000
namespace DL
open PySem PySem.Spec PyProof.Rows L2
/-! ### l.count(x), l.index(x) of data -/
/-- how many are equal -/
def rCountD (K : PySem.W.Frag) : V → List V → Hp → VK → Prop := fun x xs H Q => ∃ (y : V) (d : PyData) (ds : List PyData), xs = [y] ∧ Dp K H x (.list ds) ∧ Dp K H y d ∧ SeqAt.shaped (.list ds) = true ∧ SeqAt.shaped d = true ∧ Q (.int (ds.countP (fun z => PyData.eqv z d) : Nat)) H
section
variable {X : Cx} {T : List (Addr × Str)} {W : WX}
theorem mt_countD (hu : X.A.units + 65 < cLine) : MtR X "list.count" (rCountD X.K) := by
  intro pins s σ H x xs v us Q I rx rxs ⟨y, d, ds, ex, hl, hy, sl, sd, q⟩
  subst ex
  obtain ⟨uy, rfl, ry⟩ := vals1 rxs
  obtain ⟨bs, rdy⟩ := Dp.reads I d y uy hy ry
  have lay := SeqAt.canLay_of_shaped sl
  cases hl with
  | lst hs ha =>
    cases rx
    obtain ⟨its, rv, ⟨⟨cls, dd, dt, sls⟩, n, ho, hc, hdn, hdt⟩, _⟩ := I.list hs
    dsimp only at hc hdt
    subst hc hdt
    obtain ⟨as, rds⟩ := Dp.readsAll I ds _ its ha rv
    have hm : its.map (SeqAt.readOf s.heap) = ds := SeqAt.readsAll_map ds its as lay rds
    have eqs := SeqAt.items_eqAt (A := X.A) (vs := its.toArray) (show ReadsAll s.heap its.toArray.toList ds as from rds) rdy lay (SeqAt.canLay_of_shaped sd) (room_in_shaped sd hu)
    refine call_meets PySem.F.slot_list_count ⟨_, ho, rfl⟩ PySem.F.entry_list_count (PySem.F.args_list_count_2 _ _) (SeqAt.list_countAt _ its.toArray n dd sls uy fun u => PyData.eqv (SeqAt.readOf s.heap u) d) ⟨ho, eqs, ?_⟩
    have ec : its.toArray.toList.countP (fun u => PyData.eqv (SeqAt.readOf s.heap u) d) = ds.countP fun z => PyData.eqv z d := by
      rw [← hm, List.countP_map]
      rfl
    refine ⟨.int (ds.countP (fun z => PyData.eqv z d) : Nat), H, I.tok _, ⟨s.toks, ?_⟩, q⟩
    rw [ec]
/-- a method of a list, by values -/
abbrev FM := D → List D → Sto → KR → Prop
def lM (K : PySem.W.Frag) (T : List (Addr × Str)) (f : FM) : V → List V → Hp → VK → Prop := fun x xs H Q => ∃ G a ds S m R, DR K m G a x ∧ DRs K m G ds xs ∧ Rp K T m S G H ∧ f a ds S R ∧ Okl K T m G H R Q
def wBmL (f : FM) (wo : WE') (as : WA') : WE' := fun env S R Rx => wo env S (fun o S1 => (∃ xs, itemsL o S1 = some xs) ∧ as env S1 (fun ds S2 => f o ds S2 R) Rx) Rx
theorem pd_bmL {o e : Expr} {es : List Expr} {name : Str} {id : String} {apos cpos : Pos} {f : FM} {wo : WE'} {as : WA'} (slot : Slot "list" name id) (hty : typeOf (.builtin id) = pure (.type "method_descriptor")) (hm : MtR X id (lM X.K T f)) (ho : PD X T W o wo) (ha : PAD X T W (e :: es) as)
    (hbase : attributeBase o name X.env (eval o X.env) = eval o X.env := by rfl)
    (hfew : ((backTo cpos (starEach (e :: es) X.env)).all (fun x => !x.1) && (backToKw cpos (keywordEach [] X.env)).all (fun x => x.1.isSome)
      && decide ((e :: es).length + ([] : List Keyword).length + (if ([] : List Keyword).isEmpty then 0 else 1) < 30)) = true := by rfl)
    (hline : (apos.endLine == cpos.line) = true := by rfl) (hs : starEach (e :: es) X.env = (false, eval e X.env) :: starEach es X.env := by rfl) (hplain : (backTo cpos (starEach es X.env)).any (·.1) = false := by rfl) :
    PD X T W (.Call (.Attribute o name apos) (e :: es) [] cpos) (wBmL f wo as) := by
  refine pe_imp (pe_bm PySem.F.plainAttrs_list slot hty hm ho ha hbase hfew hline hs hplain) fun σ H Q ⟨G, env, S, m, R, Rx, he, hp, h, hk, hx⟩ => ?_
  refine ⟨G, env, S, m, _, _, he, hp, h, fun x S1 v m1 G1 H1 ⟨⟨xs, hxs⟩, h1⟩ s1 p1 d1 => ?_, hx⟩
  obtain ⟨a, vs, rfl, sq, dr⟩ := items_at p1 d1 hxs
  refine ⟨.inl ⟨rfl, vs, sq⟩, G1, env, S1, m1, _, _, he.mono hp s1, p1, h1, fun ds S2 us m2 G2 H2 h2 s2 p2 d2 => ?_, hx.on s1⟩
  exact ⟨G2, x, ds, S2, m2, R, d1.mono p1 s2, d2, p2, h2, hk.on (s1.trans s2)⟩
def dCount : FM := fun a ds S R => ∃ d qs p, ds = [d] ∧ toQ S a = some (.list qs) ∧ toQ S d = some p ∧ SeqAt.shaped (.list qs) = true ∧ SeqAt.shaped p = true ∧ R (.int (qs.countP (fun z => PyData.eqv z p) : Nat)) S
def dIndex : FM := fun a ds S R => ∃ d qs p j z, ds = [d] ∧ toQ S a = some (.list qs) ∧ toQ S d = some p ∧ SeqAt.shaped (.list qs) = true ∧ SeqAt.shaped p = true ∧ qs[j]? = some z ∧ PyData.eqv z p = true ∧
  (∀ (m : Nat) (z' : PyData), m < j → qs[m]? = some z' → PyData.eqv z' p = false) ∧ R (.int (j : Nat)) S
theorem mtD_count (hu : X.A.units + 65 < cLine) : MtR X "list.count" (lM X.K T dCount) := by
  intro pins s σ H x xs v us Q I rx rxs ⟨G, a, ds, S, m, R, da, dr, rp, ⟨d, qs, p, e, h1, h2, h3, h4, h5⟩, hk⟩
  subst e
  obtain ⟨y, rfl, dy⟩ := one_of dr
  exact mt_countD hu pins s σ H x _ v us Q I rx rxs ⟨y, p, qs, rfl, toQ_dp rp da h1, toQ_dp rp dy h2, h3, h4, hk.at h5 rp (.int _)⟩
theorem mtD_index (hu : X.A.units + 65 < cLine) : MtR X "list.index" (lM X.K T dIndex) := by
  intro pins s σ H x xs v us Q I rx rxs ⟨G, a, ds, S, m, R, da, dr, rp, ⟨d, qs, p, j, z, e, h1, h2, h3, h4, h5, h6, h7, h8⟩, hk⟩
  subst e
  obtain ⟨y, rfl, dy⟩ := one_of dr
  have dp := toQ_dp rp da h1
  obtain ⟨b, rfl⟩ : ∃ b, x = .ref b := by
    cases dp
    exact ⟨_, rfl⟩
  exact mt_indexD hu pins s σ H _ _ v us Q I rx rxs ⟨b, y, p, qs, j, z, rfl, rfl, dp, toQ_dp rp dy h2, h3, h4, h5, h6, h7, hk.at h8 rp (.int _)⟩
end
/-! ### the tables of lambdas -/
/-- the def whose code is cdv: its table, lambdas' name in it -/
structure LamD (K : PySem.W.Frag) (base : Heap) (mg : Str → Option Value) (T : List (Addr × Str)) (cdv : Value) (q : Str) : Prop where
  ex : ∃ c P, cdv = .ref c ∧ LamX.TabB base mg c P ∧ (P, q) ∈ T ∧ ∀ p ∈ T, p.1 = P → p.2 = q
def lamQ (x : Str) : Str := x ++ ".<locals>." ++ "<lambda>"
/-- .. of the def x of the module -/
def LamF (K : PySem.W.Frag) (base : Heap) (mg : Str → Option Value) (T : List (Addr × Str)) (x : Str) : Prop := ∀ cdv, CodeAt K (He.ga K x) cdv → LamD K base mg T cdv (lamQ x)
theorem ext_rp {K : PySem.W.Frag} {T : List (Addr × Str)} {m : List Addr} {S : Sto} {G H H1 : Hp} (rp : Rp K T m S G H) (e : LamX.ExtN H H1) (tb : LamX.Tabs T H1) : Rp K T m S G H1 ∧ Stp m G H m G H1 :=
  ⟨⟨fun a o z => e a o (rp.sub a o z) fun ps y => rp.nt a ps (by rw [← y]; exact z), rp.nd, rp.len, rp.sto, tb, rp.nt⟩, ⟨⟨[], by simp, by simp⟩, fun _ _ z _ => z, fun _ o z => ⟨o, z⟩, fun a o z n t => ⟨e a o z t, n⟩⟩⟩
/-! ### word(lambda: body) -/
/-- the def that tries what it is handed -/
structure TryD (P : Program) (w : World) (K : PySem.W.Frag) (mg : Str → Option Value) (base : Heap) (x : Str) (k : Nat) (tt : (XK → Hp → VK → Prop) → Hp → VK → Prop) : Prop where
  ex : ∃ (g : Addr) (a : Str) (Ng : List Str) (pg : Arguments) (bg : List Stmt) (sg : Scope) (dV kV doc pm cdv ct oc : Value) (an od : Option Addr) (osl : Array (Option Value)),
    mg x = some (.ref g) ∧ PySem.W.keepIn K (.ref g) = true ∧ K.lookup g = some ⟨oc, od, .func (PySem.W.fnOf x x pg bg sg dV kV doc pm an cdv ct), osl⟩ ∧ PySem.W.codeIn K cdv x = true ∧ L2.Binds K (PySem.W.fnOf x x pg bg sg dV kV doc pm an cdv ct) [a] [] ∧
    FnScope Ng [a] sg ∧ Ng[0]? = some a ∧ Vis sg a ∧ (a == ("__debug__" : Str)) = false ∧ (a == ("__classdict__" : Str)) = false ∧
    ∀ (X : Cx) (q : Str), X.prog = P → X.w = w → X.K = K → X.mg = mg → X.base = base → Room (k + 1) X.A → LamX.GivesTo X Ng x sg g cdv bg a q tt
/-- what the answer is wrapped in -/
def Wraps (tell : Tell) (tr : D → D) : Prop := ∀ (K : PySem.W.Frag) (T : List (Addr × Str)) (m : List Addr) (G H : Hp) (R : KR) (Q : VK), Okl K T m G H R Q → Okl K T m G H (fun d S => R (tr d) S) (fun v H' => tell v H' Q)
theorem wraps_V : Wraps tellV id := fun _ _ _ _ _ _ _ h => h
theorem wraps_T : Wraps tellT fun d => .tup [.str "told", d] := fun K T m G H R Q hk d S v m' G' H' hr s p dv => ⟨size100 (by simp), fun t nt => by
  obtain ⟨r1, r2⟩ := p.new (o := .tup [.str "told", v]) nt
  exact hk _ S _ m' _ _ hr (s.trans r2) r1 (.tup (SqT.of upd_same) (.cons (.str "told") (.cons (dv.mono p r2) .nil)))⟩
def wTry (K : PySem.W.Frag) (CS : Addr) (fl : Er → Sto → KR → Prop) (tr : D → D) (w : WE') : WE' := fun env S R _ => w env S (fun d S1 => R (tr d) S1) (fun e _ S1 => PySem.W.exmOne K (.ref e.1) (.ref CS) = some true ∧ fl e S1 R)
section
variable {X : Cx} {T : List (Addr × Str)} {W : WX}
theorem pd_try {x q : Str} {k : Nat} {CS : Addr} {pf : Addr → Addr → Option Addr → SpD} {tell : Tell} {tr : D → D} {fl : Er → Sto → KR → Prop} {params : Arguments} {body : Expr} {scope : Scope} {w : WE'} {p1 lpos pos : Pos} (Y : TryD X.prog X.w X.K X.mg X.base x k (TTry X.K T CS pf tell)) (wr : Wraps tell tr)
    (hfl : ∀ (e : Er) (S : Sto) (R : KR) (a : Addr) (dd : Option Addr) (m : List Addr) (G : Hp), DE X.K m G e (.ref e.1) dd → fl e S R → pf e.1 a dd [.ob a] S R (fun _ _ => False)) (hg : Gl X x) (L : LamD X.K X.base X.mg T X.env.code q) (eq : X.env.qual ++ "<lambda>" = q) (hr : Room (k + 2) X.A) (hr1 : Room (k + 1) X.A)
    (Ls : LamX.LamS X.env.scope scope) (hbody : ∀ (A : Around) (outer : List Env) (s : Shared) (H : Hp) (E : XK) (f c' : Addr), Room k (A.deeper (LamX.lamEnv X scope s.heap.objs.size f c')) → PD (LamX.lamCx X A outer s H E scope f c') T (fun cls d _ H' => E cls d H') body w)
    (hdef : defaultsOf params X.env = ([], []) := by rfl) (hbind : ∀ (q : Str) (cl : List (Str × Addr)) (pm cv ctv : Value), bindArgs (PySem.W.kla_fn "<lambda>" q params body scope cl pm cv ctv) ⟨[], []⟩ = pure [] := by intros; rfl) (hdb : (x == ("__debug__" : Str)) = false := by decide) :
    PD X T W (.Call (.Name x p1) [.Lambda params body scope lpos] [] pos) (wTry X.K CS fl tr w) := by
  subst eq
  obtain ⟨g, a, Ng, pg, bg, sg, dV, kV, doc, pm, cdv, ct, oc, an, od, osl, hm, hk, lk, hcg, hb, Sg, hN, hva, hda, hca, gives⟩ := Y.ex
  obtain ⟨c, P, hcode, TB, hmT, hu⟩ := L.ex
  refine pe_imp (LamX.pe_lamcall (t := fun E => lE X.K T (fun cls d _ H' => E cls d H') w) hg hm hk lk hcg hb Sg hN hva (gives X _ rfl rfl rfl rfl rfl hr1) TB hcode hmT hu hr Ls hdef hbind (fun A outer s H E f c' hr' => hbody A outer s H E f c' hr') hdb hda hca) fun σ H Q ⟨G, env, S, m, R, Rx, he, rp, h, hok, hx⟩ => ?_
  refine ⟨rp.tabs, fun H1 ex tb => ?_⟩
  obtain ⟨rp1, st1⟩ := ext_rp rp ex tb
  refine ⟨G, env, S, m, _, _, he, rp1, h, wr _ _ _ _ _ _ _ (hok.on st1), fun e env2 S2 cls dd σ2 m2 G2 H2 ⟨h1, h2⟩ s2 p2 e2 d2 => ?_⟩
  have ec : cls = .ref e.1 := d2.1
  subst ec
  exact ⟨e.1, rfl, h1, fun b nb => ⟨G2, S2, m2, R, p2, hfl e S2 R b dd m2 G2 d2 h2, hok.on (st1.trans s2)⟩⟩
/-! ### a call of what a variable holds -/
/-- the defs at f -/
structure CalV (P : Program) (w : World) (K : PySem.W.Frag) (mg : Str → Option Value) (base : Heap) (T : List (Addr × Str)) (f : Addr) (gd : Bool) (k n : Nat) (p : SpD) : Prop where
  ex : ∃ (fd : FuncData) (ps : List Str), FnD gd P w K mg base T k f fd ps p ∧ ps.length = n ∧ PySem.W.keepIn K (.ref f) = true ∧ Binds K fd ps []
def wCallV (i n : Nat) (fs : List (Addr × SpD)) (as : WA') : WE' := fun env S R Rx => ∃ f p, (f, p) ∈ fs ∧ env[i]? = some (some (.ob f)) ∧ as env S (fun ds S1 => ds.length = n ∧ p ds S1 R (fun e S2 => Rx e env S2)) Rx
theorem pd_callV {x : Str} {i k n : Nat} {gd : Bool} {fs : List (Addr × SpD)} {pp pos : Pos} {e : Expr} {es : List Expr} {as : WA'} (C : ∀ q ∈ fs, CalV X.prog X.w X.K X.mg X.base T q.1 gd k n q.2) (hr : Room k X.A) (hgd : GdOk gd X.A) (tk : Takes X W) (hN : X.N[i]? = some x) (hv : Vis X.env.scope x)
    (ha : PAD X T W (e :: es) as) (hdb : (x == ("__debug__" : Str)) = false := by decide) (hcd : (x == ("__classdict__" : Str)) = false := by decide) (he : starEach (e :: es) X.env = (false, eval e X.env) :: starEach es X.env := by rfl) (hpl : (backTo pos (starEach es X.env)).any (·.1) = false := by rfl) :
    PD X T W (.Call (.Name x pp) (e :: es) [] pos) (wCallV i n fs as) := by
  refine ⟨fun pins s σ H Q I ⟨G, env, S, m, R, Rx, hre, hp, ⟨f, p, hf, hi, h⟩, hok, hx⟩ => ?_⟩
  obtain ⟨fd, ps, F, hl, hk, hb⟩ := (C _ hf).ex
  subst hl
  obtain ⟨v, hs, dv⟩ := hre.at_ i _ hi
  cases dv
  refine wpAny_Call_Name_kw (thn ((pe_var (pos := pp) (i := i) hN hv hdb hcd).run pins s σ H (fun v H1 => v = .ref f ∧ H1 = H) I ⟨.ref f, hs, rfl, rfl⟩) fun u s0 ⟨v, H0, I0, r0, ev, eH⟩ => ?_)
  subst ev eH
  cases r0
  refine PySem.W.callWith_K (h₀ := X.base) I0.ok.mod.kin hk (thn (ha.run pos pins s0 σ H0 (fun vs H1 => ∃ m1 G1 S1 xs, DRs X.K m1 G1 xs vs ∧ Rp X.K T m1 S1 G1 H1 ∧ RE X.K m1 G1 env σ ∧ (xs.length = ps.length ∧ p xs S1 R (fun e S2 => Rx e env S2)) ∧ Okl X.K T m1 G1 H1 R Q ∧ Exl X.K T W m1 G1 H1 Rx) I0
    ⟨G, env, S, m, _, Rx, hre, hp, h, fun xs S1 vs m1 G1 H1 h1 s1 p1 d1 => ⟨m1, G1, S1, xs, d1, p1, hre.mono hp s1, h1, hok.on s1, hx.on s1⟩, hx⟩) fun us s1 ⟨vs, H1, I1, r1, m1, G1, S1, xs, d1, p1, e1, ⟨hl, h1⟩, k1, x1⟩ => ⟨I1.kIn, ?_⟩) he hpl
  exact run_fnD (more := []) (mv := []) (ds := []) F hr hgd hb .nil (fun _ _ => .nil) tk I1 r1 d1 p1 (by rw [List.append_nil]; exact hl) e1 (by rw [List.append_nil]; exact h1) k1 x1
/-! ### {} -/
def wEmp : WE' := fun _ S R _ => R .emp S
end
end DL

set_option maxHeartbeats 4000000
namespace DL
open PySem PySem.Spec PyProof.Rows L2
theorem pd_emp {X : Cx} {T : List (Addr × Str)} {W : WX} {pos : Pos} : PD X T W (.Dict [] [] pos) wEmp := by
  refine pe_imp pe_dnewK fun σ H Q ⟨G, env, S, m, R, Rx, he, hp, h, hk, hx⟩ p np => ?_
  obtain ⟨r1, r2⟩ := hp.new (o := .dK []) np
  exact hk _ S _ m _ _ h r2 r1 (.emp upd_same)
/-! ### the law's call, with tables of lambdas -/
section
variable {gd : Bool} {P : Program} {w : World} {K : PySem.W.Frag} {mg mb : Str → Option Value} {k : Nat} {fa a : Addr} {fd : FuncData} {x : Str} {p : SpD} {s1 : Shared} {us : List Value} {ns : List Int} {cs : List (Addr × Addr)} {T : List (Addr × Str)}
theorem codeHd_down {g h : Heap} {c t : Addr} (d : ∀ (b : Addr) (o : Obj) (vs : Array Value), h.get? b = some o → o.data = .fields vs → 0 < vs.size → g.get? b = some o) (C : PySem.W.CodeHd h c t) : PySem.W.CodeHd g c t := by
  obtain ⟨o, us, file, tf, fl, tg, i1, tx, tt, e1, r1, r2, r⟩ := C
  refine ⟨o, us, file, tf, fl, tg, i1, tx, tt, d c o _ e1 r2 ?_, r1, r2, r⟩
  have r3 := r.1
  cases h0 : us.size with
  | zero =>
    have : us = #[] := Array.size_eq_zero_iff.mp h0
    subst this
    simp at r3
  | succ n => omega
abbrev tabO : Obj := { cls := .none, data := .fields #[] }
/-- what is tracked at first: the script, where it is not known anyway, and the tables -/
def firstH (K : PySem.W.Frag) (a : Addr) (ob : Obj) (vs : List V) (tb : List Addr) : Hp := fun b => if b = a then (if (K.lookup a).isNone then some (.frz ob (.lst vs)) else none) else if b ∈ tb then some (.tbl #[]) else none
def firstG (K : PySem.W.Frag) (a : Addr) (ob : Obj) (vs : List V) : Hp := fun b => if b = a then (if (K.lookup a).isNone then some (.frz ob (.lst vs)) else none) else none
theorem law_tabs (KX : K.In s1.heap) (hns : s1.heap.Ns mainGlobals mg) (hb : s1.heap.Ns builtinsNs mb) (hbb : ∀ x : Str, x ≠ "__name__" → mb x = bootBuiltins x) (hlim : s1.heap.NoLimit) (hg : s1.gens = #[])
    (hT : ∀ q ∈ cs, s1.heap.get? q.2 = some tabO) (nT : ∀ q ∈ cs, K.lookup q.2 = none) (C : ∀ q ∈ cs, PySem.W.CodeHd s1.heap q.1 q.2)
    (hbm : ∃ (bm : Addr) (ob : Obj), mg "__builtins__" = some (.ref bm) ∧ bm ≠ builtinsNs ∧ s1.heap.get? bm = some ob ∧ ob.cls = .type "module" ∧ ob.dict = some builtinsNs ∧ ob.data = .plain)
    (ha : s1.heap.get? a = some { cls := .type "list", data := .seq us.toArray }) (hi : IntsAre us ns) (hl : ns.length ≤ sizeLine) (hr : Room k callerA) (hTc : ∀ q ∈ T, ∃ r ∈ cs, r.2 = q.1)
    (F : ∀ base : Heap, K.In base → base.Ns mainGlobals mg → (∀ q ∈ cs, LamX.TabB base mg q.1 q.2) → FnD gd P w K mg base T k fa fd [x] p) (hbind : ∀ (s : Shared) (u : Value), BindsTo s fd ⟨[u], []⟩ [(x, u)])
    (hp : p [.scr (ns.map D.int)] [] (fun d _ => d = .bl true) fun _ _ => False) :
    codeAny (model P w) callerA (.call (.ref fa) ⟨[.ref a], []⟩) (fun r s' => r = .ok (.ret (.bool true)) ∧ OldK s1.heap s'.heap ∧ s'.os = s1.os ∧ AllBare s'.gens) s1 := by
  have rv : Vals (ns.map V.int) us := vals_ints hi
  have lv : us.length = ns.length := by rw [← rv.length, List.length_map]
  generalize hob : ({ cls := .type "list", data := .seq us.toArray } : Obj) = ob at ha
  generalize htb : cs.map (·.2) = tb
  have tabAt : ∀ b ∈ tb, s1.heap.get? b = some tabO := fun b z => by
    subst htb
    obtain ⟨q, hq, e⟩ := List.mem_map.mp z
    rw [← e]
    exact hT q hq
  have tabK : ∀ b ∈ tb, K.lookup b = none := fun b z => by
    subst htb
    obtain ⟨q, hq, e⟩ := List.mem_map.mp z
    rw [← e]
    exact nT q hq
  have aT : a ∉ tb := fun z => by
    have e := tabAt a z
    rw [ha, ← hob] at e
    exact nomatch congrArg Obj.data (Option.some.inj e)
  generalize hH : firstH K a ob (ns.map V.int) tb = H
  generalize hG : firstG K a ob (ns.map V.int) = G
  have Hb : ∀ b, H b = if b = a then (if (K.lookup a).isNone then some (.frz ob (.lst (ns.map V.int))) else none) else if b ∈ tb then some (.tbl #[]) else none := fun b => by rw [← hH]; rfl
  have Gb : ∀ b, G b = if b = a then (if (K.lookup a).isNone then some (.frz ob (.lst (ns.map V.int))) else none) else none := fun b => by rw [← hG]; rfl
  have Htab : ∀ b ∈ tb, H b = some (.tbl #[]) := fun b z => by
    rw [Hb, if_neg (fun e => aT (by rw [← e]; exact z)), if_pos z]
  have Hno : ∀ b, b ≠ a → b ∉ tb → H b = none := fun b n z => by rw [Hb, if_neg n, if_neg z]
  have Ha : (K.lookup a = none ∧ H a = some (.frz ob (.lst (ns.map V.int)))) ∨ ((∃ o, K.lookup a = some o) ∧ H a = none) := by
    rw [Hb, if_pos rfl]
    cases q : K.lookup a with
    | none => exact .inl ⟨rfl, rfl⟩
    | some o => exact .inr ⟨⟨o, rfl⟩, rfl⟩
  -- an object that is neither a list nor an empty record is not tracked
  have away : ∀ {b : Addr} {o : Obj}, s1.heap.get? b = some o → (∀ z n, o.data ≠ .seq z n) → o.data ≠ .fields #[] → H b = none := fun {b o} e n1 n2 => by
    refine Hno b (fun z => ?_) fun z => ?_
    · rw [z, ha, ← hob] at e
      cases e
      exact n1 _ _ rfl
    · rw [tabAt b z] at e
      cases e
      exact n2 rfl
  have down : ∀ {b : Addr} {o : Obj}, s1.heap.get? b = some o → (∀ z n, o.data ≠ .seq z n) → o.data ≠ .fields #[] → (hidT s1.heap H).get? b = some o := fun e n1 n2 => hidT_get e (away e n1 n2)
  have nsD : ∀ {b : Addr} {mm : Str → Option Value}, s1.heap.Ns b mm → (hidT s1.heap H).Ns b mm := fun ⟨o, es, ep, e, d, r⟩ =>
    ⟨o, es, ep, down e (fun z n y => by rw [d] at y; cases y) (fun y => by rw [d] at y; cases y), d, r⟩
  have kin : K.In (hidT s1.heap H) := fun b o e => by
    refine hidT_get (KX b o e) ?_
    by_cases z : b = a
    · rcases Ha with ⟨q, _⟩ | ⟨_, q⟩
      · rw [z, q] at e
        cases e
      · rw [z]
        exact q
    · exact Hno b z fun y => by
        rw [tabK b y] at e
        cases e
  have md : L2.Mod K mg (hidT s1.heap H) := ⟨kin, nsD hns, ⟨mb, nsD hb, hbb⟩, (let ⟨mc, l1, l2⟩ := hlim; ⟨mc, nsD l1, l2⟩)⟩
  have hok : HOk P w H s1.heap := fun b u e => by
    by_cases z : b = a
    · subst z
      rcases Ha with ⟨_, q⟩ | ⟨_, q⟩
      · rw [q] at e
        cases e
        exact ⟨ha, by rw [List.length_map]; exact hl, us, 0, rv, by rw [ha, ← hob]⟩
      · rw [q] at e
        cases e
    · by_cases y : b ∈ tb
      · rw [Htab b y] at e
        cases e
        exact tabAt b y
      · rw [Hno b z y] at e
        cases e
  have TB : ∀ q ∈ cs, LamX.TabB (hidT s1.heap H) mg q.1 q.2 := fun q hq => by
    refine ⟨codeHd_down (fun b o vs e d l => down e (fun z n y => by rw [d] at y; cases y) fun y => ?_) (C q hq), ?_, fun z => ?_⟩
    · rw [d] at y
      cases y
      simp at l
    · obtain ⟨bm, o, b1, b2, b3, b4, b5, b6⟩ := hbm
      refine ⟨bm, o, b1, b2, fun z => ?_, fun z => ?_, down b3 (fun z n y => by rw [b6] at y; cases y) (fun y => by rw [b6] at y; cases y), b4, b5, b6⟩
      · obtain ⟨o2, es, ep, e, d, _⟩ := hns
        rw [← z, b3] at e
        cases e
        rw [b6] at d
        cases d
      · rw [z, hT q hq] at b3
        cases b3
        cases b6
    · obtain ⟨o2, es, ep, e, d, _⟩ := hns
      rw [z, hT q hq] at e
      cases e
      cases d
  have e0 : Env0 P w K mg (hidT s1.heap H) callerA [] s1 H := ⟨rfl, md, fun b o e => of_hidT e, Nat.le_of_eq (hidT_size _ _), trivial, fun b hb => absurd (show b ∈ ([] : List Addr) from hb) (by simp), hok, .of_eq hg⟩
  have rp : Rp K T [] [] G H := by
    refine ⟨fun b o e => ?_, List.nodup_nil, rfl, fun i b xs h => by simp at h, fun q hq => ?_, fun b ps e => ?_⟩
    · rw [Gb] at e
      by_cases z : b = a
      · rw [if_pos z] at e
        rw [Hb, if_pos z]
        exact e
      · rw [if_neg z] at e
        cases e
    · obtain ⟨r, hr, er⟩ := hTc q hq
      exact LamX.TabS.nil (Htab q.1 (by rw [← htb, ← er]; exact List.mem_map.mpr ⟨r, hr, rfl⟩))
    · rw [Gb] at e
      split at e
      · split at e <;> cases e
      · cases e
  have sf : SqF K G a (ns.map V.int) := by
    rcases Ha with ⟨q, z⟩ | ⟨⟨o, q⟩, _⟩
    · exact .inl ⟨ob, by rw [Gb, if_pos rfl, q] <;> rfl⟩
    · have e := KX a o q
      rw [ha] at e
      cases e
      exact .inr ⟨ob, us.toArray, 0, q, by rw [← hob], by rw [← hob], by rw [← hob], by rw [List.size_toArray, lv]; exact hl, by simpa using rv⟩
  refine codeAny_mono ((F _ kin (nsD hns) TB).run callerA [] s1 ⟨[.ref a], []⟩ [.ref a] [.ref a] [.scr (ns.map D.int)] [] [] G H _ _ (fun v _ => v = .bl true) (fun _ _ _ => False) hr (fun _ => rfl) e0 (hbind s1 (.ref a)) (.cons rfl .nil) (.cons (.scr sf (dInts ns)) .nil) rp rfl hp
    (fun d S v m' G' H' h1 s p' d' => by
      subst h1
      cases d'
      rfl) fun _ _ _ _ _ _ _ h => h.elim) fun r s' h => ?_
  match r, h with
  | .error e, h =>
    obtain ⟨_, _, _, _, _, _, _, _, _, _, _, _, z⟩ := (h : L2.CX P w [] H s1 (fun _ _ _ => False) e s')
    exact z.elim
  | .ok .next, h => exact False.elim h
  | .ok .brk, h => exact False.elim h
  | .ok .cont, h => exact False.elim h
  | .ok (.ret u), h =>
    obtain ⟨v, H', os, bare, un, hok', rr, q1⟩ := (h : CE [] P w H s1 _ u s')
    subst q1
    obtain rfl : u = Value.bool true := rr
    have same : ∀ b o, b ∉ tb → s1.heap.get? b = some o → s'.heap.get? b = some o := fun b o nb e => by
      have free : H b = none → s'.heap.get? b = some o := fun n => un.keep b o e n (fun y => absurd (show b ∈ ([] : List Addr) from y) (by simp)) (by simp)
      by_cases z : b = a
      · subst z
        rcases Ha with ⟨_, q⟩ | ⟨_, q⟩
        · have e2 := (hok' b _ (un.frzs b _ _ q)).1
          rw [ha] at e
          cases e
          exact e2
        · exact free q
      · exact free (Hno b z nb)
    have grown : ∀ b ∈ tb, ∃ more : Array Value, s'.heap.get? b = some { cls := .none, data := .fields more } := fun b z => by
      obtain ⟨more, y⟩ := un.tbls b #[] (Htab b z)
      exact ⟨_, hok' b _ y⟩
    refine ⟨rfl, ⟨fun b o e => ?_, fun b o e => ?_⟩, os, bare⟩
    · by_cases z : b ∈ tb
      · obtain ⟨more, y⟩ := grown b z
        rw [tabAt b z] at e
        cases e
        rw [← htb] at z
        obtain ⟨q, hq, eq⟩ := List.mem_map.mp z
        subst eq
        exact .inr (.inl ⟨((C q hq).tab (hT q hq)).isCodeTable, rfl, #[], more, rfl, by rw [Array.empty_append]; exact y⟩)
      · exact .inl (same b o z e)
    · by_cases z : b ∈ tb
      · obtain ⟨more, y⟩ := grown b z
        exact ⟨_, y⟩
      · exact ⟨o, same b o z e⟩
/-- the goal behind the head, from the law's promise -/
theorem walkT {l : PySem.W.OpenLaw} {n k : Nat} {q : Program} {loose : List Str} {XP : (Str → Option Value) → Heap → Prop} {YP : World → Heap → Prop} {d : DefRec} {x : Str}
    (hn : l.most = some n) (hn2 : n ≤ sizeLine) (hdf : d.params.defaults = []) (hr : Room k callerA)
    (F : ∀ (w : World) (mg : Str → Option Value) (fa : Addr) (h : Heap), YP w h → h.Ns mainGlobals mg → mg d.name = some (.ref fa) →
      ∃ (K : PySem.W.Frag) (fd : FuncData) (p : SpD) (gd : Bool) (cs : List (Addr × Addr)) (T : List (Addr × Str)), K.In h ∧ (∀ (s : Shared) (u : Value), BindsTo s fd ⟨[u], []⟩ [(x, u)]) ∧
        (∀ q ∈ cs, h.get? q.2 = some tabO) ∧ (∀ q ∈ cs, K.lookup q.2 = none) ∧ (∀ q ∈ cs, PySem.W.CodeHd h q.1 q.2) ∧ (∀ q ∈ T, ∃ r ∈ cs, r.2 = q.1) ∧
        (∀ ns : List Int, ns.length ≤ n → (∀ z ∈ ns, Builtin.Int.intBits z ≤ 1048576) → p [.scr (ns.map D.int)] [] (fun d _ => d = .bl true) fun _ _ => False) ∧
        ∀ base : Heap, K.In base → base.Ns mainGlobals mg → (∀ q ∈ cs, LamX.TabB base mg q.1 q.2) → FnD gd l.prog w K mg base T k fa fd [x] p) :
    PySem.W.WalkO q loose XP YP l.row.toRowW d [] (fun f vs => PySem.call f vs) := by
  refine Att.attach_callB hn hdf fun w s₀ s₁ mg mb fa o pm cd doc a vs ns G Y ho hd hcd hmg hobj hints hlen hbits hg => ?_
  obtain ⟨K, fd, p, gd, cs, T, KX, hb, hT, nT, C, hTc, hp, hF⟩ := F w mg fa _ Y G.T.g hmg
  exact law_tabs KX G.T.g G.T.b G.T.builtins G.T.nolimit hg hT nT C G.T.bmain hobj hints (Nat.le_trans hlen hn2) hr hTc hF hb (hp ns hlen hbits)
end
end DL

set_option maxHeartbeats 4000000
namespace DL
open PySem PySem.Spec PyProof.Rows L2
/-! ### the errors of the module -/
def errNames : List Str := ["NoPart", "NoNumber", "NoMoment", "NoClock", "NoHour", "NoTelling", "NoTellings", "NoRow", "Apart", "Twice", "Missing", "NoDeed", "NoAir", "NoSignal", "NoQuarrel", "NoCarriage", "NoLine", "TooMany", "NoText"]
def errWords : List Str := ["part", "number", "moment", "clock", "hour", "telling", "tellings", "row", "apart", "twice", "missing", "deed", "air", "signal", "quarrel", "carriage", "line", "many", "text"]
/-- what isinstance says of the error x -/
structure ErI (K : PySem.W.Frag) (x : Str) : Prop where
  c : ExcC K (He.ga K x)
  one : ∀ y ∈ errNames, PySem.W.kitOne K (.ref (He.ga K x)) (.ref (He.ga K y)) = some (decide (x = y))
  ve : PySem.W.kitOne K (.ref (He.ga K x)) (.type "ValueError") = some true
  no : PySem.W.kitAny K (.ref (He.ga K x)) (["LookupError", "TypeError", "ArithmeticError", "RuntimeError"].map Value.type) = some false
  ex : PySem.W.exmOne K (.ref (He.ga K x)) (.ref (He.ga K "ClockError")) = some true
def excB (K : PySem.W.Frag) (D : Addr) : Bool :=
  decide (PySem.W.findIn K (.ref D) "__getattribute__" = some (some (.builtin "BaseException.__getattribute__"))) && (decide (PySem.W.findIn K (.ref D) "__getattr__" = some none) && (decide (PySem.W.subIn K (.ref D) (.type "BaseException") = some true) && (PySem.W.hasDictIn K D &&
  (decide (PySem.W.findIn K (.ref D) "__class__" = some (some (.builtin "object.__class__"))) && (decide (PySem.W.specialIn K (.builtin "object.__class__") "__get__" = some (some (.builtin "getset_descriptor.__get__"))) && (decide (PySem.W.takesIn K (.builtin "object.__class__") = some true) && decide (PySem.W.mroIn K D (.type "object") = some true)))))))
def errB (K : PySem.W.Frag) (x : Str) : Bool :=
  excB K (He.ga K x) && ((errNames.all fun y => decide (PySem.W.kitOne K (.ref (He.ga K x)) (.ref (He.ga K y)) = some (decide (x = y)))) && (decide (PySem.W.kitOne K (.ref (He.ga K x)) (.type "ValueError") = some true) &&
  (decide (PySem.W.kitAny K (.ref (He.ga K x)) (["LookupError", "TypeError", "ArithmeticError", "RuntimeError"].map Value.type) = some false) && decide (PySem.W.exmOne K (.ref (He.ga K x)) (.ref (He.ga K "ClockError")) = some true))))
theorem excB_ok {K : PySem.W.Frag} {D : Addr} (h : excB K D = true) : ExcC K D := by
  obtain ⟨h1, h⟩ := He.ba h
  obtain ⟨h2, h⟩ := He.ba h
  obtain ⟨h3, h⟩ := He.ba h
  obtain ⟨h4, h⟩ := He.ba h
  obtain ⟨h5, h⟩ := He.ba h
  obtain ⟨h6, h⟩ := He.ba h
  obtain ⟨h7, h8⟩ := He.ba h
  exact ⟨of_decide_eq_true h1, of_decide_eq_true h2, of_decide_eq_true h3, h4, of_decide_eq_true h5, of_decide_eq_true h6, of_decide_eq_true h7, of_decide_eq_true h8⟩
theorem errB_ok {K : PySem.W.Frag} {x : Str} (h : errB K x = true) : ErI K x := by
  obtain ⟨h1, h⟩ := He.ba h
  obtain ⟨h2, h⟩ := He.ba h
  obtain ⟨h3, h⟩ := He.ba h
  obtain ⟨h4, h5⟩ := He.ba h
  exact ⟨excB_ok h1, fun y hy => of_decide_eq_true (List.all_eq_true.mp h2 y hy), of_decide_eq_true h3, of_decide_eq_true h4, of_decide_eq_true h5⟩
/-- what an error without fields is told as -/
def wordOf (x : Str) : Str := (((errNames.zip errWords).find? fun p => p.1 == x).map (·.2)).getD "other"
def flE (K : PySem.W.Frag) (known : List Str) : Er → Sto → KR → Prop := fun e S R => ∃ x ∈ known, e = erO K x ∧ R (.tup [.str (wordOf x)]) S
def pfE (K : PySem.W.Frag) (known : List Str) : Addr → Addr → Option Addr → SpD := fun C a dd ds S R _ => ∃ x ∈ known, C = He.ga K x ∧ dd = none ∧ ds = [.ob a] ∧ R (.tup [.str (wordOf x)]) S
theorem flE_ok {K : PySem.W.Frag} {known : List Str} (e : Er) (S : Sto) (R : KR) (a : Addr) (dd : Option Addr) (m : List Addr) (G : Hp) (d : DE K m G e (.ref e.1) dd) (h : flE K known e S R) : pfE K known e.1 a dd [.ob a] S R (fun _ _ => False) := by
  obtain ⟨x, hx, rfl, h⟩ := h
  exact ⟨x, hx, rfl, d.2, rfl, h⟩
theorem flE_at {K : PySem.W.Frag} {known : List Str} {x : Str} {S : Sto} {R : KR} (E : ErI K x) (hx : x ∈ known) (k : R (.tup [.str (wordOf x)]) S) : PySem.W.exmOne K (.ref (erO K x).1) (.ref (He.ga K "ClockError")) = some true ∧ flE K known (erO K x) S R := ⟨E.ex, x, hx, rfl, k⟩
/-- nothing is promised: any text will do -/
theorem pss_none {X : Cx} {T : List (Addr × Str)} {W : WX} {ss : List Stmt} : PSsD X T W ss (fun _ _ _ => False) := ⟨fun pins s σ H D I ⟨_, _, _, _, _, _, _, h, _⟩ => h.elim⟩
section
variable {X : Cx} {T : List (Addr × Str)}
theorem try_givesT {xw a n xe xf y q : Str} {sg : Scope} {g CS f : Addr} {cdg : Value} {k j kk : Nat} {fd : FuncData} {p : Addr → Addr → Option Addr → SpD} {p1 p2 p3 p4 p5 p6 p7 p8 p9 pa pb pc : Pos}
    (F : FnS X.prog X.w X.K X.mg X.base T k f fd [y] p) (hr : Room (k + 1) X.A) (hgf : sg.names.lookup xf = some .globalImplicit) (hmf : X.mg xf = some (.ref f)) (hkf : PySem.W.keepIn X.K (.ref f) = true) (hbf : L2.Binds X.K fd [y] [])
    (hgc : sg.names.lookup xe = some .globalImplicit) (hmc : X.mg xe = some (.ref CS)) (hdc : (xe == ("__debug__" : Str)) = false) (hdf : (xf == ("__debug__" : Str)) = false) (hln : sg.names.lookup n = some .local) (hdn : (n == ("__debug__" : Str)) = false) (hcn : (n == ("__classdict__" : Str)) = false) (hnd : [a, n].Nodup) :
    LamX.GivesTo X [a, n] xw sg g cdg [.Try [.Return (some (.Tuple [.Constant (.str "told") j pb, .Call (.Name a p1) [] [] p2] kk pc)) p3] [.ExceptHandler (some (.Name xe p4)) (some n) [.Return (some (.Call (.Name xf p5) [.Name n p6] [] p7)) p8] p9] [] [] pa] a q (TTry X.K T CS p tellT) := by
  refine try_gives (wrap := fun e => .Tuple [.Constant (.str "told") j pb, e] kk pc) F hr hgf hmf hkf hbf hgc hmc hdc hdf hln hdn hcn hnd fun Y t h => ?_
  exact pe_imp (pe_tup (pa_cons pe_str (pa_cons h pa_nil))) fun σ H Q z => z
theorem try_givesV {xw a n xe xf y q : Str} {sg : Scope} {g CS f : Addr} {cdg : Value} {k : Nat} {fd : FuncData} {p : Addr → Addr → Option Addr → SpD} {p1 p2 p3 p4 p5 p6 p7 p8 p9 pa : Pos}
    (F : FnS X.prog X.w X.K X.mg X.base T k f fd [y] p) (hr : Room (k + 1) X.A) (hgf : sg.names.lookup xf = some .globalImplicit) (hmf : X.mg xf = some (.ref f)) (hkf : PySem.W.keepIn X.K (.ref f) = true) (hbf : L2.Binds X.K fd [y] [])
    (hgc : sg.names.lookup xe = some .globalImplicit) (hmc : X.mg xe = some (.ref CS)) (hdc : (xe == ("__debug__" : Str)) = false) (hdf : (xf == ("__debug__" : Str)) = false) (hln : sg.names.lookup n = some .local) (hdn : (n == ("__debug__" : Str)) = false) (hcn : (n == ("__classdict__" : Str)) = false) (hnd : [a, n].Nodup) :
    LamX.GivesTo X [a, n] xw sg g cdg [.Try [.Return (some (.Call (.Name a p1) [] [] p2)) p3] [.ExceptHandler (some (.Name xe p4)) (some n) [.Return (some (.Call (.Name xf p5) [.Name n p6] [] p7)) p8] p9] [] [] pa] a q (TTry X.K T CS p tellV) :=
  try_gives (wrap := fun e => e) F hr hgf hmf hkf hbf hgc hmc hdc hdf hln hdn hcn hnd fun Y t h => h
end
/-! ### steps -/
section
variable {env : Vars} {S : Sto} {R : KR} {Rx : KX} {E : Ds} {d a b : D} {wa wb : WE'} {as : WA'} {xs ys : List D}
theorem r_sizeG {A : Prop} (h : xs.length.ble 100 = true) (k : A) : xs.length ≤ sizeLine ∧ A := ⟨size100 (Nat.le_of_ble_eq_true h), k⟩
theorem r_addG (h : (xs.length + ys.length).ble 100 = true) (k : R (.lst (xs ++ ys)) S) : dAdd (.lst xs) (.lst ys) S R := ⟨xs, ys, rfl, rfl, size100 (Nat.le_of_ble_eq_true h), k⟩
theorem r_addTG (h : (xs.length + ys.length).ble 100 = true) (k : R (.tup (xs ++ ys)) S) : dAdd (.tup xs) (.tup ys) S R := ⟨size100 (Nat.le_of_ble_eq_true h), k⟩
theorem r_bmL {f : FM} (k : wa env S (fun o S1 => (∃ xs, itemsL o S1 = some xs) ∧ as env S1 (fun ds S2 => f o ds S2 R) Rx) Rx) : wBmL f wa as env S R Rx := k
theorem r_isL {A : Prop} (k : A) : (∃ ys, itemsL (.lst xs) S = some ys) ∧ A := ⟨⟨xs, rfl⟩, k⟩
theorem r_try {K : PySem.W.Frag} {CS : Addr} {fl : Er → Sto → KR → Prop} {tr : D → D} (k : wa env S (fun d S1 => R (tr d) S1) (fun e _ S1 => PySem.W.exmOne K (.ref e.1) (.ref CS) = some true ∧ fl e S1 R)) : wTry K CS fl tr wa env S R Rx := k
theorem r_emp (k : R .emp S) : wEmp env S R Rx := k
end
theorem r_isP {K : PySem.W.Frag} {x y : Str} {a : Addr} {b : Bool} {S : Sto} {R : KR} (E : ErI K x) (hy : y ∈ errNames) (h : decide (x = y) = b) (k : R (.bl b) S) : dIsP K (He.ga K x) a [.ob a, .ob (He.ga K y)] S R := ⟨rfl, b, by rw [← h]; exact E.one y hy, k⟩
theorem r_isV {K : PySem.W.Frag} {x : Str} {a : Addr} {S : Sto} {R : KR} (E : ErI K x) (k : R (.bl true) S) : dIsP K (He.ga K x) a [.ob a, .ty "ValueError"] S R := ⟨rfl, true, E.ve, k⟩
theorem r_isN {K : PySem.W.Frag} {x : Str} {a : Addr} {S : Sto} {R : KR} (E : ErI K x) (k : R (.bl false) S) : dIsP K (He.ga K x) a [.ob a, .tup [.ty "LookupError", .ty "TypeError", .ty "ArithmeticError", .ty "RuntimeError"]] S R := ⟨rfl, ["LookupError", "TypeError", "ArithmeticError", "RuntimeError"], rfl, false, E.no, k⟩
theorem toPs_bls {S : Sto} : ∀ bs : List Bool, toPs S (bs.map D.bl) = some (bs.map PyData.bool)
  | [] => rfl
  | b :: bs => by
    have ih := toPs_bls (S := S) bs
    simp only [List.map_cons, toPs, toP, ih]
theorem eqv_bb (a b : Bool) : PyData.eqv (.bool a) (.bool b) = decide (a = b) := by cases a <;> cases b <;> rfl
theorem cnt_bls : ∀ bs : List Bool, (bs.map PyData.bool).countP (fun z => PyData.eqv z (.bool true)) = bs.count true
  | [] => rfl
  | b :: bs => by
    rw [List.map_cons, List.countP_cons, List.count_cons, cnt_bls bs, eqv_bb]
    cases b <;> rfl
theorem r_cntB {bs : List Bool} {S : Sto} {R : KR} (h : SeqAt.shaped (.list (bs.map PyData.bool)) = true) (k : R (.int (bs.count true : Nat)) S) : dCount (.lst (bs.map D.bl)) [.bl true] S R := by
  refine ⟨.bl true, bs.map PyData.bool, .bool true, rfl, ?_, rfl, h, rfl, ?_⟩
  · show (toPs S (bs.map D.bl)).map PyData.list = _
    rw [toPs_bls]
    rfl
  · rw [cnt_bls]
    exact k
theorem r_idxB {bs : List Bool} {j : Nat} {S : Sto} {R : KR} (h : SeqAt.shaped (.list (bs.map PyData.bool)) = true) (hj : bs[j]? = some true) (hb : (bs.take j).all (fun b => !b) = true) (k : R (.int (j : Nat)) S) : dIndex (.lst (bs.map D.bl)) [.bl true] S R := by
  refine ⟨.bl true, bs.map PyData.bool, .bool true, j, .bool true, rfl, ?_, rfl, h, rfl, ?_, rfl, fun m z hm hz => ?_, k⟩
  · show (toPs S (bs.map D.bl)).map PyData.list = _
    rw [toPs_bls]
    rfl
  · rw [List.getElem?_map, hj]
    rfl
  · rw [List.getElem?_map] at hz
    cases q : bs[m]? with
    | none =>
      rw [q] at hz
      cases hz
    | some b =>
      rw [q] at hz
      cases hz
      have hm2 : (bs.take j)[m]? = some b := by
        rw [List.getElem?_take_of_lt hm]
        exact q
      have := List.all_eq_true.mp hb b (List.mem_of_getElem? hm2)
      cases b with
      | true => cases this
      | false => rfl
def wNever : WE' := fun _ _ _ _ => False
theorem pd_never {X : Cx} {T : List (Addr × Str)} {W : WX} {e : Expr} : PD X T W e wNever := ⟨fun pins s σ H Q I ⟨_, _, _, _, _, _, _, _, h, _⟩ => h.elim⟩
theorem room65 {k : Nat} {A : Around} (r : Room k A) : A.units + 65 < cLine := by
  have := r.un
  omega
theorem roomH64 {k : Nat} {A : Around} (r : L2H.RoomH k A) : A.units + 64 < cLine := by
  have := r.un
  omega
theorem roomH65 {k : Nat} {A : Around} (r : L2H.RoomH k A) : A.units + 65 < cLine := by
  have := r.un
  omega
theorem ty_list_count : typeOf (.builtin "list.count") = pure (.type "method_descriptor") := PySem.F.type_list_count
theorem ty_list_index : typeOf (.builtin "list.index") = pure (.type "method_descriptor") := PySem.F.type_list_index
/-! ### what is shown -/
structure Shw (w n : Nat) (p : PyData) : Prop where
  sh : p.showable = true
  ls : PyData.leavesShort 341 p = true
  wt : p.weight ≤ w
  dp : p.depth ≤ n
structure ShwA (w n : Nat) (ps : List PyData) : Prop where
  sh : PyData.showableAll ps = true
  ls : PyData.leavesShortAll 341 ps = true
  wt : PyData.weightAll ps ≤ w
  dp : PyData.depthAll ps ≤ n
theorem shown_i' {i : Int} (h : i.natAbs < 2 ^ 1100) : (PyData.shown (.int i)).length ≤ 341 := by
  have e := int_text_length_le10 (k := 340) (by decide) (Nat.lt_of_lt_of_le h (show (2 : Nat) ^ 1100 ≤ 10 ^ 340 by decide))
  show (Str.ofString (toString i)).length ≤ 341
  rw [PySem.ofString_length]
  exact e
theorem Shw.non : Shw 0 0 .none := ⟨rfl, rfl, Nat.le_refl _, by simp [PyData.depth]⟩
theorem Shw.bl {b : Bool} : Shw 0 0 (.bool b) := ⟨rfl, rfl, Nat.le_refl _, by simp [PyData.depth]⟩
theorem Shw.int {i : Int} {b : Nat} (h : i.natAbs < 2 ^ b) (hb : b.ble 1100 = true) : Shw b 0 (.int i) := by
  have hb := Nat.le_of_ble_eq_true hb
  have h2 : i.natAbs < 2 ^ 1100 := Nat.lt_of_lt_of_le h (Nat.pow_le_pow_right (by decide) hb)
  have hl : i.natAbs.log2 < 1100 := PySem.Flt.log2_lt_of (by decide) h2
  refine ⟨?_, ?_, ?_, by simp [PyData.depth]⟩
  · simp only [PyData.showable, decide_eq_true_eq]
    omega
  · simp only [PyData.leavesShort, decide_eq_true_eq]
    exact shown_i' h2
  · simp only [PyData.weight]
    by_cases z : i = 0
    · subst z
      exact Nat.zero_le _
    · have n0 : i.natAbs ≠ 0 := by omega
      rw [if_neg (by simpa using z)]
      have hp : 0 < b := by
        rcases Nat.eq_zero_or_pos b with y | y
        · subst y
          omega
        · exact y
      have := PySem.Flt.log2_lt_of hp h
      omega
theorem Shw.mono {w w' n n' : Nat} {p : PyData} (h : Shw w n p) (l : w ≤ w') (m : n ≤ n') : Shw w' n' p := ⟨h.sh, h.ls, Nat.le_trans h.wt l, Nat.le_trans h.dp m⟩
theorem ShwA.nil : ShwA 0 0 [] := ⟨rfl, rfl, Nat.le_refl _, by simp [PyData.depthAll]⟩
theorem ShwA.cons {w w' n n' : Nat} {p : PyData} {ps : List PyData} (h : Shw w n p) (hs : ShwA w' n' ps) : ShwA (w + 1 + w') (max n n') (p :: ps) := by
  refine ⟨?_, ?_, ?_, ?_⟩
  · simp only [PyData.showableAll, h.sh, hs.sh]
    rfl
  · simp only [PyData.leavesShortAll, h.ls, hs.ls]
    rfl
  · simp only [PyData.weightAll]
    have := h.wt
    have := hs.wt
    omega
  · simp only [PyData.depthAll]
    have := h.dp
    have := hs.dp
    omega
theorem Shw.tup {w n : Nat} {ps : List PyData} (h : ShwA w n ps) : Shw w (n + 1) (.tuple ps) := by
  refine ⟨?_, ?_, ?_, ?_⟩
  · simp only [PyData.showable]
    exact h.sh
  · simp only [PyData.leavesShort]
    exact h.ls
  · simp only [PyData.weight]
    exact h.wt
  · simp only [PyData.depth]
    have := h.dp
    omega
theorem Shw.lst {w n : Nat} {ps : List PyData} (h : ShwA w n ps) : Shw w (n + 1) (.list ps) := by
  refine ⟨?_, ?_, ?_, ?_⟩
  · simp only [PyData.showable]
    exact h.sh
  · simp only [PyData.leavesShort]
    exact h.ls
  · simp only [PyData.weight]
    exact h.wt
  · simp only [PyData.depth]
    have := h.dp
    omega
theorem Shw.txt {x : Str} {w : Nat} (h : (x.cps.toList.all fun c => decide (c < 16 ^ 8)) = true) (hw : x.cps.size.ble w = true) : Shw w 0 (.str x) :=
  ⟨by simp [PyData.showable], by simpa only [PyData.leavesShort] using h, by simp only [PyData.weight]; exact Nat.le_of_ble_eq_true hw, by simp [PyData.depth]⟩
theorem Shw.short {w n : Nat} {p : PyData} (h : Shw w n p) (hw : w.ble 40000 = true) : p.shown.length ≤ sizeLine := by
  have hw := Nat.le_of_ble_eq_true hw
  have h1 := PyData.shown_le 341 (by decide) p h.ls
  have h2 := h.wt
  rw [sizeLine_eq]
  omega
/-- repr of plain data -/
theorem r_reprS {w n : Nat} {a : D} {p : PyData} {S : Sto} {R : KR} (e : toQ S a = some p) (h : Shw w n p) (hw : w.ble 40000 = true) (hn : n.ble 60 = true) (k : R (.str p.shown) S) : dRepr [a] S R :=
  ⟨p, e, h.sh, h.short hw, Nat.le_trans h.dp (Nat.le_of_ble_eq_true hn), k⟩
end DL

set_option maxHeartbeats 4000000
namespace DL
open PySem PySem.Spec PyProof.Rows L2
section
variable {env : Vars} {S : Sto} {R : KR} {Rx : KX} {xs ys : List D} {a b d : D}
theorem r_wiZ {as : WA'} {R : Src → Sto → Prop} (k : as env S (fun ds S1 => ∃ xs ys, ds = [.tup xs, .tup ys] ∧ R ⟨List.zipWith (fun x y => D.tup [x, y]) xs ys, fun _ => True⟩ S1) Rx) : wiZT as env S R Rx := k
theorem r_yes {R : Bool → Sto → Prop} (k : R true S) : wYes env S R Rx := k
theorem b_nm {i : Nat} {Q : Vars → Prop} (k : Q (env.set i (some d))) : bindE (.nm i) d env Q := k
theorem b_tp2 {i j : Nat} {Q : Vars → Prop} (k : Q ((env.set i (some a)).set j (some b))) : bindE (.tp [i, j]) (.tup [a, b]) env Q := ⟨[a, b], rfl, rfl, k⟩
theorem r_trueL {A B : Prop} (k : A) : if true = true then A else B := k
theorem r_falseL {A B : Prop} (k : B) : if false = true then A else B := k
end
theorem map_at {α : Type} {f : α → D} {l : List α} {i : Nat} {d : D} (h : (l.map f)[i]? = some d) : ∃ e, l[i]? = some e ∧ d = f e := by
  rw [List.getElem?_map] at h
  cases q : l[i]? with
  | none => rw [q] at h; cases h
  | some e => rw [q] at h; exact ⟨e, rfl, (Option.some.inj h).symm⟩
theorem rep_succ {i : Nat} : (List.replicate i true).map D.bl ++ [.bl true] = (List.replicate (i + 1) true).map D.bl := by
  rw [List.replicate_succ', List.map_append]
  rfl
theorem all_rep {i : Nat} : (List.replicate i true).all id = true := by
  rw [List.all_eq_true]
  intro x hx
  rw [List.eq_of_mem_replicate hx]
  rfl
theorem zip_cut {xs : List D} : List.zipWith (fun x y => D.tup [x, y]) xs (cutD xs (some 1) none) = List.zipWith (fun x y => D.tup [x, y]) xs (xs.drop 1) := by
  have e : cutD xs (some 1) none = xs.drop 1 := by
    unfold cutD
    rw [show HT.sIx xs.length 0 (some 1) = min 1 xs.length from HT.sIx_nat xs.length 0 1, HT.sIx_none]
    cases xs with
    | nil => rfl
    | cons x xs =>
      rw [show min 1 (x :: xs).length = 1 from by simp only [List.length_cons]; omega]
      apply List.take_of_length_le
      rw [List.length_drop]
      exact Nat.le_refl _
  rw [e]
theorem Sz.mul {p q : Rat} {n m : Nat} (hp : Sz n p) (hq : Sz m q) : Sz (n + m) (p * q) := by
  rw [Rat.mul_def]
  refine norm_sz _ ?_ ?_
  · rw [Int.natAbs_mul, Nat.pow_add]
    exact Nat.mul_lt_mul'' hp.1 hq.1
  · rw [Nat.pow_add]
    exact Nat.mul_lt_mul'' hp.2 hq.2
theorem Sz.add {p q : Rat} {n m : Nat} (hp : Sz n p) (hq : Sz m q) : Sz (n + m + 1) (p + q) := by
  rw [Rat.add_def]
  have h1 : p.num.natAbs * q.den < 2 ^ (n + m) := by rw [Nat.pow_add]; exact Nat.mul_lt_mul'' hp.1 hq.2
  have h2 : q.num.natAbs * p.den < 2 ^ (n + m) := by rw [Nat.add_comm, Nat.pow_add]; exact Nat.mul_lt_mul'' hq.1 hp.2
  have h3 : p.den * q.den < 2 ^ (n + m) := by rw [Nat.pow_add]; exact Nat.mul_lt_mul'' hp.2 hq.2
  have e : 2 ^ (n + m + 1) = 2 ^ (n + m) + 2 ^ (n + m) := by rw [Nat.pow_succ]; omega
  refine norm_sz _ ?_ ?_
  · have : (p.num * (q.den : Int) + q.num * (p.den : Int)).natAbs ≤ (p.num * (q.den : Int)).natAbs + (q.num * (p.den : Int)).natAbs := Int.natAbs_add_le _ _
    rw [Int.natAbs_mul, Int.natAbs_mul, Int.natAbs_natCast, Int.natAbs_natCast] at this
    omega
  · omega
theorem sz24 : Sz 5 (24 : Rat) := ⟨by decide, by decide⟩
theorem norm_sz4 {a : Int} {b n : Nat} (h : b ≠ 0) (ha : a.natAbs < 2 ^ n) (hb : b < 2 ^ n) : Sz n (Rat.normalize a b h) := norm_sz h ha hb
theorem norm_nonneg {a : Int} {b : Nat} (h : b ≠ 0) (ha : 0 ≤ a) : 0 ≤ (Rat.normalize a b h).num := by
  rw [norm_num]
  exact Int.ediv_nonneg ha (by omega)
theorem norm_ne {a : Int} {b : Nat} (h : b ≠ 0) (ha : a ≠ 0) : (Rat.normalize a b h).num ≠ 0 := by
  intro e
  have : Rat.normalize a b h = 0 := Rat.num_eq_zero.mp e
  rw [Rat.normalize_eq_zero] at this
  exact ha this
theorem norm_le12 {a : Int} {b : Nat} (h : b ≠ 0) (ha : a.natAbs ≤ 12) : (Rat.normalize a b h).num.natAbs ≤ 12 * (Rat.normalize a b h).den := by
  have h1 : (Rat.normalize a b h).num.natAbs ≤ 12 := by
    rw [norm_num]
    have := Int.natAbs_ediv_le_natAbs a ((a.natAbs.gcd b : Nat) : Int)
    omega
  have h2 := (Rat.normalize a b h).den_pos
  omega
theorem ints_at {k n : Nat} {d : D} (h : (intsD 0 n)[k]? = some d) : d = .int k ∧ k < n := by
  unfold intsD at h
  rw [List.getElem?_map] at h
  cases q : (List.range n)[k]? with
  | none => rw [q] at h; cases h
  | some j =>
    rw [q] at h
    obtain ⟨h1, h2⟩ := List.getElem?_eq_some_iff.mp q
    rw [List.getElem_range] at h2
    subst h2
    rw [List.length_range] at h1
    exact ⟨by rw [← Option.some.inj h]; show D.int (0 + (k : Int)) = _; rw [Int.zero_add], h1⟩
theorem ints_len {n : Nat} : (intsD 0 n).length = n := by
  unfold intsD
  rw [List.length_map, List.length_range]
theorem of_pair {a b d : D} (h : d ∈ [a, b]) : d = a ∨ d = b := by simpa using h
theorem Sz.neg {n : Nat} {q : Rat} (h : Sz n q) : Sz n (-q) := ⟨by rw [Rat.neg_num, Int.natAbs_neg]; exact h.1, by rw [Rat.neg_den]; exact h.2⟩
theorem Sz.sub {p q : Rat} {n m : Nat} (hp : Sz n p) (hq : Sz m q) : Sz (n + m + 1) (p - q) := by
  rw [Rat.sub_eq_add_neg]
  exact hp.add hq.neg
/-- what the growing sets are -/
theorem pos_of {q : Rat} (h : 0 < q.num) : 0 < q := by
  have h1 : 0 ≤ q := Rat.num_nonneg.mp (by omega)
  have h2 : q ≠ 0 := fun e => by rw [e] at h; exact absurd h (by decide)
  grind
theorem norm_pos {a : Int} {b : Nat} (h : b ≠ 0) (ha : 0 < a) : 0 < Rat.normalize a b h := by
  have h1 := norm_nonneg h (Int.le_of_lt ha)
  have h2 := norm_ne h (show a ≠ 0 by omega)
  exact pos_of (by omega)
theorem num_of {q : Rat} (h : 0 ≤ q) : 0 ≤ q.num := Rat.num_nonneg.mpr h
theorem of_num {q : Rat} (h : 0 ≤ q.num) : 0 ≤ q := Rat.num_nonneg.mp h
/-! repr -/
theorem abs_nat {a : Int} : (if a < 0 then -a else a) = (a.natAbs : Int) := by split <;> omega
theorem lt9000 {n : Nat} (h : n < 2 ^ 12) : n < 2 ^ 9000 := Nat.lt_of_lt_of_le h (Nat.pow_le_pow_right (by decide) (by decide))
theorem of_three {d : D} (h : d ∈ [D.int 1, .int 4, .int 12]) : ∃ k : Int, d = .int k ∧ 0 < k ∧ k ≤ 12 := by
  rcases List.mem_cons.mp h with rfl | h
  · exact ⟨1, rfl, by decide, by decide⟩
  rcases List.mem_cons.mp h with rfl | h
  · exact ⟨4, rfl, by decide, by decide⟩
  rcases List.mem_cons.mp h with rfl | h
  · exact ⟨12, rfl, by decide, by decide⟩
  cases h
theorem of_pm {x : Int} {d : D} (h : d ∈ [D.int x, .int (0 - x)]) : ∃ k : Int, d = .int k ∧ (k = x ∨ k = -x) := by
  rcases List.mem_cons.mp h with rfl | h
  · exact ⟨x, rfl, .inl rfl⟩
  rcases List.mem_cons.mp h with rfl | h
  · exact ⟨_, rfl, .inr (by omega)⟩
  cases h
theorem of_up {x : Int} {d : D} (x0 : 0 ≤ x) (x1 : x < 30) (h : d ∈ [D.int 0, .int x, .int 1]) : ∃ k : Int, d = .int k ∧ 0 ≤ k ∧ k < 30 := by
  rcases List.mem_cons.mp h with rfl | h
  · exact ⟨0, rfl, by decide, by decide⟩
  rcases List.mem_cons.mp h with rfl | h
  · exact ⟨x, rfl, x0, x1⟩
  rcases List.mem_cons.mp h with rfl | h
  · exact ⟨1, rfl, by decide, by decide⟩
  cases h
theorem of_five {a b c d e x : D} (h : x ∈ [a, b, c, d, e]) : x = a ∨ x = b ∨ x = c ∨ x = d ∨ x = e := by
  simpa using h

theorem len_repG {m i : Nat} (h : i ≤ m) (hm : m.ble 1000 = true) : ((List.replicate i true).map D.bl).length < sizeLine := by
  rw [List.length_map, List.length_replicate]
  have := Nat.le_of_ble_eq_true hm
  have : (1001 : Nat) < sizeLine := by decide
  omega
end DL

set_option maxHeartbeats 4000000
namespace DL
open PySem PySem.Spec PyProof.Rows L2
/-! ### facts at the head -/
theorem xc_of {K : PySem.W.Frag} {h : Heap} {mg : Str → Option Value} {x : Str} (X : K.In h) (G : h.Ns mainGlobals mg) (g : (He.Fa.glo x).ok K = true) (c : (He.Fa.exc x).ok K = true) : Xc K mg x := by
  obtain ⟨h1, h2, h3, h4⟩ := He.exc_ok c
  exact ⟨He.glo_ok X G g, h1, h2, h3, h4⟩
abbrev tabT (K : PySem.W.Frag) (tf : List He.Defn) : List (Addr × Str) := tf.map fun p => ((He.cT K p).2, lamQ p.1)
def apartB (K : PySem.W.Frag) (tf : List He.Defn) : Bool := decide ((tf.map fun p => (He.cT K p).2).Nodup) && tf.all fun p => p.2.isNone
theorem nodup_inj {α β : Type} {f : α → β} : ∀ {l : List α}, (l.map f).Nodup → ∀ {a b : α}, a ∈ l → b ∈ l → f a = f b → a = b
  | [], _, _, _, h, _, _ => by cases h
  | x :: l, nd, a, b, ha, hb, e => by
    rw [List.map_cons, List.nodup_cons] at nd
    rcases List.mem_cons.mp ha with rfl | ha2
    · rcases List.mem_cons.mp hb with rfl | hb2
      · rfl
      · exact (nd.1 (by rw [e]; exact List.mem_map.mpr ⟨b, hb2, rfl⟩)).elim
    · rcases List.mem_cons.mp hb with rfl | hb2
      · exact (nd.1 (by rw [← e]; exact List.mem_map.mpr ⟨a, ha2, rfl⟩)).elim
      · exact nodup_inj nd.2 ha2 hb2 e
theorem lamF_of {K : PySem.W.Frag} {base : Heap} {mg : Str → Option Value} {tf : List He.Defn} {x : Str} (ap : apartB K tf = true) (hx : (x, none) ∈ tf) (TB : ∀ q ∈ tf.map (He.cT K), LamX.TabB base mg q.1 q.2) : LamF K base mg (tabT K tf) x := by
  intro cdv ⟨oc, od, fd, osl, lk, e, c, ec⟩
  have hc : He.codeOf K (x, none) = c := He.codeOf_eq (p := (x, none)) lk (e.trans ec)
  obtain ⟨nd, nn⟩ := He.ba ap
  have nd := of_decide_eq_true nd
  have t := TB _ (List.mem_map.mpr ⟨_, hx, rfl⟩)
  refine ⟨(He.cT K (x, none)).1, (He.cT K (x, none)).2, ?_, t, List.mem_map.mpr ⟨_, hx, rfl⟩, fun p hp e1 => ?_⟩
  · rw [ec, ← hc] <;> rfl
  · obtain ⟨q, hq, rfl⟩ := List.mem_map.mp hp
    have := nodup_inj (f := fun p => (He.cT K p).2) nd hq hx e1
    rw [this]
theorem tab_mem {K : PySem.W.Frag} {tf : List He.Defn} : ∀ q ∈ tabT K tf, ∃ r ∈ tf.map (He.cT K), r.2 = q.1 := fun q hq => by
  obtain ⟨p, hp, rfl⟩ := List.mem_map.mp hq
  exact ⟨_, List.mem_map.mpr ⟨p, hp, rfl⟩, rfl⟩
theorem tab_emp {K : PySem.W.Frag} {h : Heap} {tf : List He.Defn} (e : ∀ p ∈ tf, h.get? (He.cT K p).2 = some { cls := .none, data := .fields #[] }) : ∀ q ∈ tf.map (He.cT K), h.get? q.2 = some tabO := fun q hq => by
  obtain ⟨p, hp, rfl⟩ := List.mem_map.mp hq
  exact e p hp
theorem tab_out {K : PySem.W.Frag} {tf : List He.Defn} (e : ∀ p ∈ tf, K.lookup (He.cT K p).2 = none) : ∀ q ∈ tf.map (He.cT K), K.lookup q.2 = none := fun q hq => by
  obtain ⟨p, hp, rfl⟩ := List.mem_map.mp hq
  exact e p hp
theorem tab_hd {K : PySem.W.Frag} {h : Heap} {tf : List He.Defn} (X : K.In h) (e : ∀ p ∈ tf, PySem.W.codeHdIn K (He.cT K p).1 (He.cT K p).2 = true) : ∀ q ∈ tf.map (He.cT K), PySem.W.CodeHd h q.1 q.2 := fun q hq => by
  obtain ⟨p, hp, rfl⟩ := List.mem_map.mp hq
  exact PySem.W.codeHd_of_K X (e p hp)
end DL

set_option maxHeartbeats 4000000
namespace DL
open PySem PySem.Spec PyProof.Rows L2
/-! ### tuples and lists times an int; in -/
def dMulG : F2 := fun a b S R => match a, b with
  | .int i, .int j => CMulW i j ∧ R (.int (i * j)) S
  | .tup xs, .int k => xs ≠ [] ∧ 2 ≤ k ∧ k ≤ 1000 ∧ xs.length ≤ 1000 ∧ R (.tup (List.replicate k.toNat xs).flatten) S
  | .lst xs, .int k => 0 ≤ k ∧ k ≤ 1000 ∧ xs.length * k.toNat ≤ sizeLine ∧ R (.lst (List.replicate k.toNat xs).flatten) S
  | _, _ => False
section
variable {X : Cx} {T : List (Addr × Str)} {W : WX}
theorem DRs.rep {K : PySem.W.Frag} {m : List Addr} {G : Hp} {ds : List D} {vs : List V} (h : DRs K m G ds vs) : ∀ n : Nat, DRs K m G (List.replicate n ds).flatten (List.replicate n vs).flatten
  | 0 => .nil
  | n + 1 => by
    rw [List.replicate_succ, List.replicate_succ, List.flatten_cons, List.flatten_cons]
    exact h.append (DRs.rep h n)
theorem opD_mulG : OpR X (binaryOp .Mult) (lO X.K T dMulG) := by
  intro pins s σ H x y v u Q I rx ry ⟨G, a, b, S, m, R, d1, d2, hp, h, hk⟩
  match a, b, h with
  | .int i, .int j, h =>
    cases d1
    cases d2
    exact op_mulW pins s σ H _ _ v u Q I rx ry ⟨i, j, rfl, rfl, h.1, hk.at h.2 hp (.int _)⟩
  | .tup xs, .int k, h =>
    obtain ⟨h1, h2, h3, h4, h5⟩ := h
    cases d2
    obtain ⟨p, vs, rfl, sq, dr⟩ := tup_at hp d1
    refine op_repT pins s σ H _ _ v u Q I rx ry ⟨p, k, vs, rfl, rfl, sq, fun z => ?_, h2, h3, by rw [← dr.length]; exact h4, tell_tup hp hk (dr.rep _) h5⟩
    have := dr.length
    rw [z] at this
    exact h1 (List.length_eq_zero_iff.mp this)
  | .lst xs, .int k, h =>
    obtain ⟨h1, h2, h3, h4⟩ := h
    cases d2
    obtain ⟨p, vs, rfl, e, dr⟩ := items_atM hp d1 (xs := xs) rfl
    refine op_rep pins s σ H _ _ v u Q I rx ry ⟨p, k, vs, rfl, rfl, e, by omega, by omega, by rw [← dr.length]; exact h3, tell_lst hp hk (dr.rep _) h4⟩
def flatD : D → Bool
  | .non | .bl _ | .int _ | .str _ => true
  | _ => false
def eqD : D → D → Bool
  | .non, .non => true
  | .bl a, .bl b => a == b
  | .bl a, .int b => (if a then (1 : Int) else 0) == b
  | .int a, .bl b => a == (if b then (1 : Int) else 0)
  | .int a, .int b => a == b
  | .str a, .str b => decide (a = b)
  | _, _ => false
def inD (x : D) (xs : List D) : Bool := xs.any fun y => eqD y x
def dIn : F2 := fun a b S R => match b with
  | .tup xs => flatD a = true ∧ xs.all flatD = true ∧ R (.bl (inD a xs)) S
  | b => ∃ xs, itemsL b S = some xs ∧ flatD a = true ∧ xs.all flatD = true ∧ R (.bl (inD a xs)) S
def dNotIn : F2 := fun a b S R => match b with
  | .tup xs => flatD a = true ∧ xs.all flatD = true ∧ R (.bl (!inD a xs)) S
  | b => ∃ xs, itemsL b S = some xs ∧ flatD a = true ∧ xs.all flatD = true ∧ R (.bl (!inD a xs)) S
theorem flat_rel {K : PySem.W.Frag} {m : List Addr} {G : Hp} {d : D} {v : V} (h : DR K m G d v) (f : flatD d = true) : flatV v = true := by
  cases h <;> first | rfl | cases f
theorem flats_rel {K : PySem.W.Frag} {m : List Addr} {G : Hp} : ∀ {ds : List D} {vs : List V}, DRs K m G ds vs → ds.all flatD = true → vs.all flatV = true
  | _, _, .nil, _ => rfl
  | _, _, .cons h hs, f => by
    rw [List.all_cons, Bool.and_eq_true] at f ⊢
    exact ⟨flat_rel h f.1, flats_rel hs f.2⟩
theorem eq_rel {K : PySem.W.Frag} {m : List Addr} {G : Hp} {a b : D} {x y : V} (h1 : DR K m G a x) (h2 : DR K m G b y) (f1 : flatD a = true) (f2 : flatD b = true) : eqV x y = eqD a b := by
  cases h1 <;> first | (cases f1; done) | (cases h2 <;> first | (cases f2; done) | (simp [eqV, eqD]; done) | (simp [eqV, eqD]; rfl) | rfl)
theorem in_rel {K : PySem.W.Frag} {m : List Addr} {G : Hp} {a : D} {x : V} (h : DR K m G a x) (f : flatD a = true) : ∀ {ds : List D} {vs : List V}, DRs K m G ds vs → ds.all flatD = true → inV x vs = inD a ds
  | _, _, .nil, _ => rfl
  | _, _, .cons h1 hs, g => by
    rw [List.all_cons, Bool.and_eq_true] at g
    have ih := in_rel h f hs g.2
    unfold inV inD at ih ⊢
    rw [List.any_cons, List.any_cons, ih, eq_rel h1 h g.1 f]
theorem in_gen {a b : D} {S : Sto} {P : Bool → Prop} (h : (∃ xs, b = .tup xs ∧ flatD a = true ∧ xs.all flatD = true ∧ P (inD a xs)) ∨ ∃ xs, itemsL b S = some xs ∧ flatD a = true ∧ xs.all flatD = true ∧ P (inD a xs))
    {K : PySem.W.Frag} {T : List (Addr × Str)} {m : List Addr} {G H : Hp} {x y : V} (hp : Rp K T m S G H) (d1 : DR K m G a x) (d2 : DR K m G b y) : ∃ p vs, y = .ref p ∧ (SqL K H p vs ∨ SqT K H p vs) ∧ flatV x = true ∧ vs.all flatV = true ∧ P (inV x vs) := by
  rcases h with ⟨xs, rfl, f1, f2, h⟩ | ⟨xs, hi, f1, f2, h⟩
  · obtain ⟨p, vs, rfl, sq, dr⟩ := tup_at hp d2
    exact ⟨p, vs, rfl, .inr sq, flat_rel d1 f1, flats_rel dr f2, by rw [in_rel d1 f1 dr f2]; exact h⟩
  · obtain ⟨p, vs, rfl, sq, dr⟩ := items_at hp d2 hi
    exact ⟨p, vs, rfl, .inl sq, flat_rel d1 f1, flats_rel dr f2, by rw [in_rel d1 f1 dr f2]; exact h⟩
theorem opD_in : OpR X (compareOp .In) (lO X.K T dIn) := by
  intro pins s σ H x y v u Q I rx ry ⟨G, a, b, S, m, R, d1, d2, hp, h, hk⟩
  have h2 : (∃ xs, b = .tup xs ∧ flatD a = true ∧ xs.all flatD = true ∧ R (.bl (inD a xs)) S) ∨ ∃ xs, itemsL b S = some xs ∧ flatD a = true ∧ xs.all flatD = true ∧ R (.bl (inD a xs)) S := by
    unfold dIn at h
    split at h
    · exact .inl ⟨_, rfl, h⟩
    · exact .inr h
  obtain ⟨p, vs, e, sq, f1, f2, q⟩ := in_gen (P := fun z => R (.bl z) S) h2 hp d1 d2
  exact op_in_seq pins s σ H _ _ v u Q I rx ry ⟨p, vs, e, sq, f1, f2, hk.at q hp (.bl _)⟩
theorem opD_notIn : OpR X (compareOp .NotIn) (lO X.K T dNotIn) := by
  intro pins s σ H x y v u Q I rx ry ⟨G, a, b, S, m, R, d1, d2, hp, h, hk⟩
  have h2 : (∃ xs, b = .tup xs ∧ flatD a = true ∧ xs.all flatD = true ∧ R (.bl (!inD a xs)) S) ∨ ∃ xs, itemsL b S = some xs ∧ flatD a = true ∧ xs.all flatD = true ∧ R (.bl (!inD a xs)) S := by
    unfold dNotIn at h
    split at h
    · exact .inl ⟨_, rfl, h⟩
    · exact .inr h
  obtain ⟨p, vs, e, sq, f1, f2, q⟩ := in_gen (P := fun z => R (.bl (!z)) S) h2 hp d1 d2
  exact op_notIn_seq pins s σ H _ _ v u Q I rx ry ⟨p, vs, e, sq, f1, f2, hk.at q hp (.bl _)⟩
def wChain (f f' : F2) (a b c : WE') : WE' := fun env S R Rx => a env S (fun x S1 => b env S1 (fun y S2 => f x y S2 fun z S3 => ∃ k, z = .bl k ∧ if k = true then c env S3 (fun w S4 => f' y w S4 R) Rx else R (.bl false) S3) Rx) Rx
theorem pd_chain {op op' : CmpOp} {f f' : F2} {a b c : Expr} {wa wb wc : WE'} {pos : Pos} (ho : OpR X (compareOp op) (lO X.K T f)) (ho' : OpR X (compareOp op') (lO X.K T f')) (ha : PD X T W a wa) (hb : PD X T W b wb) (hc : PD X T W c wc)
    (hm : lastMarks [op, op'] [b, c] = false := by with_unfolding_all rfl) : PD X T W (.Compare a [op, op'] [b, c] pos) (wChain f f' wa wb wc) := by
  refine pe_imp (pe_chain ho ho' ha hb hc hm) fun σ H Q ⟨G, env, S, m, R, Rx, he, hp, h, hk, hx⟩ => ?_
  refine lE_of he hp h (fun x S1 v m1 G1 H1 h1 s1 p1 d1 => ?_) hx
  refine lE_of (he.mono hp s1) p1 h1 (fun y S2 u m2 G2 H2 h2 s2 p2 d2 => ?_) (hx.on s1)
  refine ⟨G2, x, y, S2, m2, _, d1.mono p1 s2, d2, p2, h2, fun z S3 zv m3 G3 H3 ⟨k, ek, h3⟩ s3 p3 d3 => ?_⟩
  subst ek
  cases d3
  refine ⟨k, rfl, ?_⟩
  have s13 := (s1.trans s2).trans s3
  cases k with
  | true =>
    refine lE_of (he.mono hp s13) p3 h3 (fun w S4 wv m4 G4 H4 h4 s4 p4 d4 => ?_) (hx.on s13)
    exact ⟨G4, y, w, S4, m4, R, (d2.mono p2 s3).mono p3 s4, d4, p4, h4, hk.on (s13.trans s4)⟩
  | false => exact hk.on s13 |>.at h3 p3 (.bl false)
theorem ptd_chain {op op' : CmpOp} {f f' : F2} {a b c : Expr} {wa wb wc : WE'} {pos : Pos} (ho : OpR X (compareOp op) (lO X.K T f)) (ho' : OpR X (compareOp op') (lO X.K T f')) (ha : PD X T W a wa) (hb : PD X T W b wb) (hc : PD X T W c wc)
    (hm : lastMarks [op, op'] [b, c] = false := by with_unfolding_all rfl) : PTD X T W (.Compare a [op, op'] [b, c] pos) (wB (wChain f f' wa wb wc)) := by
  refine pt_imp (pt_chain ho ho' ha hb hc hm) fun σ H Q ⟨G, env, S, m, R, Rx, he, hp, h, hk, hx⟩ => ?_
  refine lE_of he hp h (fun x S1 v m1 G1 H1 h1 s1 p1 d1 => ?_) hx
  refine lE_of (he.mono hp s1) p1 h1 (fun y S2 u m2 G2 H2 h2 s2 p2 d2 => ?_) (hx.on s1)
  refine ⟨G2, x, y, S2, m2, _, d1.mono p1 s2, d2, p2, h2, fun z S3 zv m3 G3 H3 ⟨k, ek, h3⟩ s3 p3 d3 => ?_⟩
  subst ek
  cases d3
  refine ⟨k, rfl, ?_⟩
  have s13 := (s1.trans s2).trans s3
  cases k with
  | true =>
    refine lE_of (he.mono hp s13) p3 h3 (fun w S4 wv m4 G4 H4 h4 s4 p4 d4 => ?_) (hx.on s13)
    refine ⟨G4, y, w, S4, m4, _, (d2.mono p2 s3).mono p3 s4, d4, p4, h4, fun z S5 v5 m5 G5 H5 ⟨k2, e2, h5⟩ s5 p5 d5 => ?_⟩
    subst e2
    cases d5
    exact ⟨k2, rfl, hk k2 S5 m5 G5 H5 h5 ((s13.trans s4).trans s5) p5⟩
  | false =>
    obtain ⟨k2, e2, h4⟩ := h3
    cases e2
    exact ⟨false, rfl, hk false S3 m3 G3 H3 h4 s13 p3⟩
end
section
variable {env : Vars} {S : Sto} {R : KR} {Rx : KX} {wa wb wc : WE'} {a b : D} {xs ys : List D} {i j : Int}
theorem r_chain {f f' : F2} (k : wa env S (fun x S1 => wb env S1 (fun y S2 => f x y S2 fun z S3 => ∃ k, z = .bl k ∧ if k = true then wc env S3 (fun w S4 => f' y w S4 R) Rx else R (.bl false) S3) Rx) Rx) : wChain f f' wa wb wc env S R Rx := k
theorem r_mulGI (h : CMulW i j) (k : R (.int (i * j)) S) : dMulG (.int i) (.int j) S R := ⟨h, k⟩
theorem r_mulGT (h0 : xs ≠ []) (h1 : 2 ≤ i) (h2 : i ≤ 1000) (h3 : xs.length ≤ 1000) (k : R (.tup (List.replicate i.toNat xs).flatten) S) : dMulG (.tup xs) (.int i) S R := ⟨h0, h1, h2, h3, k⟩
theorem r_mulGL (h0 : 0 ≤ i) (h1 : i ≤ 1000) (h2 : xs.length * i.toNat ≤ sizeLine) (k : R (.lst (List.replicate i.toNat xs).flatten) S) : dMulG (.lst xs) (.int i) S R := ⟨h0, h1, h2, k⟩
theorem r_inT (h : flatD a = true) (hs : xs.all flatD = true) (k : R (.bl (inD a xs)) S) : dIn a (.tup xs) S R := ⟨h, hs, k⟩
theorem r_notInT (h : flatD a = true) (hs : xs.all flatD = true) (k : R (.bl (!inD a xs)) S) : dNotIn a (.tup xs) S R := ⟨h, hs, k⟩
end
end DL

set_option maxHeartbeats 4000000
namespace DL
open PySem PySem.Spec PyProof.Rows L2
/-! ### slices -/
theorem cut_to {xs : List D} {k : Nat} : cutD xs none (some (k : Int)) = xs.take k := by
  unfold cutD
  rw [HT.sIx_nat, HT.sIx_none, List.drop_zero, Nat.sub_zero]
  by_cases h : k ≤ xs.length
  · rw [Nat.min_eq_left h]
  · rw [Nat.min_eq_right (by omega), List.take_of_length_le (Nat.le_refl _), List.take_of_length_le (by omega)]
theorem cut_from {xs : List D} {k : Nat} : cutD xs (some (k : Int)) none = xs.drop k := by
  unfold cutD
  rw [HT.sIx_nat, HT.sIx_none]
  by_cases h : k ≤ xs.length
  · rw [Nat.min_eq_left h, List.take_of_length_le (by rw [List.length_drop]; exact Nat.le_refl _)]
  · rw [Nat.min_eq_right (by omega), List.drop_of_length_le (Nat.le_refl _), List.drop_of_length_le (show xs.length ≤ k by omega), List.take_nil]
theorem cut_init {xs : List D} {d : D} : cutD (xs ++ [d]) none (some (-1)) = xs := by
  have hl : (xs ++ [d]).length = xs.length + 1 := by rw [List.length_append, List.length_singleton]
  have e : HT.sIx (xs ++ [d]).length (xs ++ [d]).length (some (-1)) = xs.length := by
    show (if (-1 : Int) < 0 then ((-1 : Int) + ((xs ++ [d]).length : Nat)).toNat else min (-1 : Int).toNat (xs ++ [d]).length) = xs.length
    rw [if_pos (by decide), hl]
    omega
  unfold cutD
  rw [e, HT.sIx_none, List.drop_zero, Nat.sub_zero]
  exact List.take_left
theorem at_last {xs : List D} {d : D} : atI (xs ++ [d]) (-1) = some d := by
  have e : ixN (xs ++ [d]).length (-1) = some xs.length := by
    unfold ixN
    rw [if_neg (by decide), List.length_append, List.length_singleton, if_pos (by omega)]
    congr 1
    omega
  unfold atI
  rw [e]
  show (xs ++ [d])[xs.length]? = some d
  rw [List.getElem?_append_right (Nat.le_refl _), Nat.sub_self]
  rfl
theorem r_cutT {S : Sto} {R : KR} {xs : List D} {lo hi : Option Int} (k : R (.tup (cutD xs lo hi)) S) : dCut (.tup xs) lo hi S R := k
theorem r_cutL {S : Sto} {R : KR} {xs : List D} {lo hi : Option Int} (k : R (.lst (cutD xs lo hi)) S) : dCut (.lst xs) lo hi S R := ⟨xs, rfl, k⟩
theorem r_lstT {S : Sto} {R : KR} {xs : List D} (k : R (.lst xs) S) : dLstOf [.tup xs] S R := k
theorem r_blT {S : Sto} {R : KR} {b : Bool} (hb : b = true) (k : R (.bl true) S) : R (.bl b) S := by
  rw [hb]
  exact k
end DL

set_option maxHeartbeats 4000000
namespace DL
open PySem PySem.Spec PyProof.Rows L2
/-! a tuple turned about: t[::-1] -/
theorem turned_places (many : Nat) : Builtin.Slice.slicePlaces ((many : Int) - 1) (-1) (-1) = many := by
  have no : ¬ ((-1 : Int) > 0) := by decide
  unfold Builtin.Slice.slicePlaces
  rw [if_neg no]
  by_cases z : many = 0
  · subst z
    rfl
  · rw [if_pos (by omega)]
    have e : ((many : Int) - 1 - -1 - 1) / (- -1) + 1 = (many : Int) := by
      rw [show (- -1 : Int) = 1 by decide, Int.ediv_one]
      omega
    rw [e]
    rfl
theorem turned_adjust (many : Nat) : Builtin.Slice.sliceAdjust none none (-1) (many : Int) = ((many : Int) - 1, -1) := rfl
theorem turned_pick {α : Type} (l : List α) : (List.range l.length).filterMap (fun (k : Nat) => l.toArray[(((l.length : Nat) : Int) - 1 + (k : Int) * -1).toNat]?) = l.reverse := by
  have key := pick_run l.reverse.toArray 0 l.length
  have e1 : (List.range l.length).map (fun x => 0 + x) = List.range l.length := by simp
  rw [e1] at key
  have e2 : (l.reverse.toArray.toList.drop 0).take l.length = l.reverse := by
    rw [List.drop_zero, List.take_of_length_le (by rw [List.length_reverse]; exact Nat.le_refl _)]
  rw [e2] at key
  rw [← key]
  have same : ∀ is : List Nat, (∀ k ∈ is, k < l.length) → is.filterMap (fun (k : Nat) => l.toArray[(((l.length : Nat) : Int) - 1 + (k : Int) * -1).toNat]?) = is.filterMap (fun x => l.reverse.toArray[x]?) := fun is => by
    induction is with
    | nil => exact fun _ => rfl
    | cons k is ih =>
      intro hk
      have h1 := hk k List.mem_cons_self
      have e : l.toArray[(((l.length : Nat) : Int) - 1 + (k : Int) * -1).toNat]? = l.reverse.toArray[k]? := by
        have e3 : (((l.length : Nat) : Int) - 1 + (k : Int) * -1).toNat = l.length - 1 - k := by omega
        rw [e3, List.getElem?_toArray, List.getElem?_toArray, List.getElem?_reverse h1]
      rw [List.filterMap_cons, List.filterMap_cons, e, ih fun j hj => hk j (List.mem_cons_of_mem _ hj)]
  exact same _ fun k hk => List.mem_range.mp hk
theorem turned_item {P : Program} {w : World} {A : Around} {Ex : Value → Shared → Prop} {s : Shared} {a sl : Addr} {its : List Value} {tk : Tok} {Q : Value → Shared → Prop} (hz : its.length ≤ sizeLine) (hi : IsTup s.heap a its.toArray) (hs : s.heap.IsSliceOf sl .none .none (.int (-1) tk))
    (k : Q (.ref s.heap.objs.size) { s with heap := s.heap.push { cls := .type "tuple", data := .seq its.reverse.toArray } }) : wpAny (model P w) A (getItem (.ref a) (.ref sl)) Q Ex s := by
  obtain ⟨o1, q1, q2, q3⟩ := id hs
  have isS : s.TypeIs (.ref sl) "slice" := ⟨o1, q1, q2⟩
  unfold getItem
  first | with_reducible refine wpAny_holding ?_ | skip
  first | skip; refine wpAny_bind (wpAny_pure ?_) | skip
  refine wpAny_bind (wpAny_sequenceKey hi.typeIs (by decide) ?_)
  refine wpAny_bind (wpAny_callSpecial?_slot (name := Str.ofString "__getitem__") hi.typeIs PyProof.Rows.slot_tuple_getitem (wpAny_call_entry PyProof.Rows.slot_tuple_getitem hi.typeIs entry_tuple_getitem ?_ (args_tuple_getitem _ _)))
  show wpAny (model P w) _ (Builtin.Tuple.tupleItemsOf (.ref a) >>= fun xs => _) _ _ s
  refine wpAny_bind (tupleItemsOf_ hi (wpAny_bind (wpAny_typeOf isS ?_)))
  rw [if_pos (by decide)]
  have sz : its.toArray.size = its.length := List.size_toArray
  have app : ∀ {Q2 : Int × Int × Nat → Shared → Prop} {B : Around} {Ex2 : Value → Shared → Prop}, Q2 ((its.length : Int) - 1, -1, its.length) s → wpAny (model P w) B (Builtin.Slice.sliceApplied (.ref sl) (pure ((its.toArray.size : Nat) : Int))) Q2 Ex2 s := fun {Q2 B Ex2} q => by
    rw [sz]
    unfold Builtin.Slice.sliceApplied Builtin.Slice.sliceFields
    refine wpAny_bind (wpAny_bind (wpAny_field q1 q3 (x := .none) rfl (wpAny_bind (wpAny_field q1 q3 (x := .none) rfl (wpAny_bind (wpAny_field q1 q3 (x := .int (-1) tk) rfl (wpAny_pure ?_)))))))
    refine wpAny_bind (slicePart_int ?_)
    show wpAny (model P w) _ (if ((-1 : Int) == 0) = true then _ else _) _ _ s
    rw [if_neg (by decide)]
    refine wpAny_bind (slicePart_none (wpAny_bind (slicePart_none (wpAny_bind (wpAny_pure ?_)))))
    show wpAny (model P w) _ (match Builtin.Slice.sliceAdjust none none (-1) (its.length : Int) with | (x, y) => pure (x, (-1 : Int), Builtin.Slice.slicePlaces x y (-1))) _ _ s
    rw [turned_adjust]
    show wpAny (model P w) _ (pure ((its.length : Int) - 1, (-1 : Int), Builtin.Slice.slicePlaces ((its.length : Int) - 1) (-1) (-1))) _ _ s
    rw [turned_places]
    exact wpAny_pure q
  refine wpAny_bind (app ?_)
  have no : ¬ ((((its.length : Int) - 1 == 0) && ((-1 : Int) == 1) && (its.length == its.toArray.size)) = true) := by
    rw [show ((-1 : Int) == 1) = false by decide, Bool.and_false, Bool.false_and]
    decide
  show wpAny (model P w) _ (if (((its.length : Int) - 1 == 0) && ((-1 : Int) == 1) && (its.length == its.toArray.size)) = true then _ else _) _ _ s
  rw [if_neg no, turned_pick]
  have fits : sizeOk (.seq its.reverse.toArray) := by
    show its.reverse.toArray.size ≤ sizeLine
    rw [List.size_toArray, List.length_reverse]
    exact hz
  first
    | exact wpAny_bind (m := Builtin.Tuple.tupleExact its.reverse.toArray) (wpAny_newObj_type (wpAny_pure ⟨_, rfl, wpAny_pure k⟩) fits)
    | exact wpAny_bind (m := Builtin.Tuple.tupleExact its.reverse.toArray) (wpAny_newObj_type (wpAny_bind (wpAny_pure (wpAny_pure ⟨_, rfl, wpAny_pure k⟩))) fits)
    | exact wpAny_bind (wpAny_bind (m := Builtin.Tuple.tupleExact its.reverse.toArray) (wpAny_newObj_type (wpAny_pure (wpAny_pure ⟨_, rfl, wpAny_pure k⟩)) fits))
    | exact wpAny_bind (wpAny_bind (m := Builtin.Tuple.tupleExact its.reverse.toArray) (wpAny_newObj_type (wpAny_pure ⟨_, rfl, wpAny_pure k⟩) fits))
def tTurn (K : PySem.W.Frag) (te : TE) : TE := fun σ H Q => te σ H fun x H1 => ∃ a xs, x = .ref a ∧ SqT K H1 a xs ∧ ∀ p, H1 p = none → Q (.ref p) (upd H1 p (.tup xs.reverse))
def wTurn (wa : WE') : WE' := fun env S R Rx => wa env S (fun d S1 => ∃ xs, d = .tup xs ∧ R (.tup xs.reverse) S1) Rx
section
variable {X : Cx} {T : List (Addr × Str)} {W : WX} {e : Expr} {wa : WE'} {k : Nat} {p1 p2 p3 pos : Pos}
theorem pe_turn {te : TE} (he : PE X e te) : PE X (.Subscript e (.Slice none none (some (.UnaryOp .USub (.Constant (.int 1) k p1) p2)) p3) pos) (tTurn X.K te) := by
  refine ⟨fun pins s σ H Q I h => Subscript_ (thn (he.run pins s σ H _ I h) fun v s1 ⟨x, H1, I1, r1, a, xs, ex, hx, q⟩ => ?_)⟩
  subst ex
  cases r1
  have st : PO X (some (.UnaryOp .USub (.Constant (.int 1) k p1) p2)) (tPart (tUn (rU fun i => .int (-i)) (tC (.int 1)))) := po_some (pe_un un_neg pe_int)
  refine wpAny_Slice (thn (po_none.run pins s1 σ H1 (fun o H2 => o = none ∧ H2 = H1) I1 ⟨rfl, rfl⟩) fun v1 s2 ⟨o1, H2, I2, n1, eo, eH⟩ => ?_)
  subst eo eH
  refine thn (po_none.run pins s2 σ H2 (fun o H3 => o = none ∧ H3 = H2) I2 ⟨rfl, rfl⟩) fun v2 s3 ⟨o2, H3, I3, n2, eo, eH⟩ => ?_
  subst eo eH
  refine thn (st.run pins s3 σ H3 (fun o H4 => o = some (-1) ∧ H4 = H3) I3 ⟨1, rfl, -1, rfl, rfl, rfl⟩) fun v3 s4 ⟨o3, H4, I4, n3, eo, eH⟩ => ?_
  subst eo eH
  cases n1
  cases n2
  cases n3 with
  | int _ tk =>
    have I5 : Inv X pins σ H4 { s4 with heap := s4.heap.push { cls := .type "slice", data := .fields #[.none, .none, .int (-1) tk] } } := I4.kept (t' := s4.toks) fun b ob q => Heap.get?_push_of_some _ q
    obtain ⟨its, r, ht, hz⟩ := I5.tuple hx
    have hl := r.length
    show wpAny (model X.prog X.w) X.A (subscriptTail e (.Slice none none (some (.UnaryOp .USub (.Constant (.int 1) k p1) p2)) p3) (.ref a) (.ref s4.heap.objs.size)) (EP X pins σ Q) X.xe { s4 with heap := s4.heap.push { cls := .type "slice", data := .fields #[.none, .none, .int (-1) tk] } }
    refine tail_any (ops := [.ref a, .ref s4.heap.objs.size]) ht.typeIs PyProof.Rows.slot_tuple_getitem.lookup ?_ (by with_unfolding_all rfl)
    refine turned_item (by omega) ht (Heap.IsSliceOf.new _ _ _ _) ?_
    refine ⟨.ref _, _, I5.laid (t' := s4.toks) (o := .tup xs.reverse) (fun b ob q => Heap.get?_push_of_some _ q) (Nat.le_refl _) ?_, rfl, q _ (I5.hok.fresh (Nat.le_refl _))⟩
    exact ⟨Nat.le_trans (Nat.le_of_eq List.length_reverse) hz, _, r.reverse, IsTup.new _ _⟩
theorem drs_rev {K : PySem.W.Frag} {m : List Addr} {G : Hp} : ∀ {ds : List D} {vs : List V}, DRs K m G ds vs → DRs K m G ds.reverse vs.reverse
  | [], _, .nil => .nil
  | _ :: _, _, .cons h1 h2 => by
    rw [List.reverse_cons, List.reverse_cons]
    exact (drs_rev h2).append (DRs.one h1)
theorem pd_turn (he : PD X T W e wa) : PD X T W (.Subscript e (.Slice none none (some (.UnaryOp .USub (.Constant (.int 1) k p1) p2)) p3) pos) (wTurn wa) := by
  refine pe_imp (pe_turn he) fun σ H Q ⟨G, env, S, m, R, Rx, he, hp, h, hk, hx⟩ => ?_
  refine lE_of he hp h (fun d S1 v m1 G1 H1 ⟨xs, ed, h1⟩ s1 p1 d1 => ?_) hx
  subst ed
  obtain ⟨a, vs, rfl, sq, dr⟩ := tup_at p1 d1
  refine ⟨a, vs, rfl, sq, fun p np => ?_⟩
  obtain ⟨r1, r2⟩ := p1.new (o := .tup vs.reverse) np
  exact hk _ S1 _ m1 _ _ h1 (s1.trans r2) r1 (.tup (SqT.of upd_same) ((drs_rev dr).mono p1 r2))
end
theorem r_turn {env : Vars} {S : Sto} {R : KR} {Rx : KX} {wa : WE'} (k : wa env S (fun d S1 => ∃ xs, d = .tup xs ∧ R (.tup xs.reverse) S1) Rx) : wTurn wa env S R Rx := k

/-! a call by names alone -/
def pickI {α : Type} (is : List Nat) (l : List α) : List α := is.filterMap fun i => l[i]?
theorem pick_vals : ∀ {is : List Nat} {vs : List V} {us : List Value}, Vals vs us → Vals (pickI is vs) (pickI is us)
  | [], _, _, _ => .nil
  | i :: is, vs, us, h => by
    have ih := pick_vals (is := is) h
    have at_ : ∀ {vs : List V} {us : List Value}, Vals vs us → ∀ i : Nat, (vs[i]? = none ∧ us[i]? = none) ∨ ∃ v u, vs[i]? = some v ∧ us[i]? = some u ∧ RelV v u := fun {vs us} h => by
      induction h with
      | nil => exact fun i => .inl ⟨rfl, rfl⟩
      | cons h1 h2 ih =>
        intro i
        cases i with
        | zero => exact .inr ⟨_, _, rfl, rfl, h1⟩
        | succ i => exact ih i
    unfold pickI at ih ⊢
    rcases at_ h i with ⟨e1, e2⟩ | ⟨v, u, e1, e2, r⟩
    · rw [List.filterMap_cons, List.filterMap_cons, e1, e2]
      exact ih
    · rw [List.filterMap_cons, List.filterMap_cons, e1, e2]
      exact .cons r ih
theorem drs_at {K : PySem.W.Frag} {m : List Addr} {G : Hp} : ∀ {ds : List D} {vs : List V}, DRs K m G ds vs → ∀ i : Nat, (ds[i]? = none ∧ vs[i]? = none) ∨ ∃ d v, ds[i]? = some d ∧ vs[i]? = some v ∧ DR K m G d v
  | [], _, .nil, _ => .inl ⟨rfl, rfl⟩
  | _ :: _, _, .cons h1 _, 0 => .inr ⟨_, _, rfl, rfl, h1⟩
  | _ :: _, _, .cons _ h2, i + 1 => drs_at h2 i
theorem pick_drs {K : PySem.W.Frag} {m : List Addr} {G : Hp} : ∀ {is : List Nat} {ds : List D} {vs : List V}, DRs K m G ds vs → DRs K m G (pickI is ds) (pickI is vs)
  | [], _, _, _ => .nil
  | i :: is, ds, vs, h => by
    have ih := pick_drs (is := is) h
    unfold pickI at ih ⊢
    rcases drs_at h i with ⟨e1, e2⟩ | ⟨v, u, e1, e2, r⟩
    · rw [List.filterMap_cons, List.filterMap_cons, e1, e2]
      exact ih
    · rw [List.filterMap_cons, List.filterMap_cons, e1, e2]
      exact .cons r ih
def KwB (fd : FuncData) (ps ks : List Str) (is : List Nat) : Prop := ∀ (s : Shared) (us : List Value), (pickI is us).length = ps.length → BindsTo s fd ⟨[], ks.zip us⟩ (ps.zip (pickI is us))
theorem kwB_of {K : PySem.W.Frag} {x qual : Str} {params : Arguments} {body : List Stmt} {scope : Scope} {kws : List (Str × V)} {f : Addr} {fd : FuncData} {ps ks : List Str} {is : List Nat} (F : FunD K x qual params body scope [] kws f fd)
    (h : ∀ (kV doc pm : Value) (an : Option Addr) (cdv ct : Value) (us : List Value), (pickI is us).length = ps.length → bindArgs (PySem.W.fnOf x qual params body scope .none kV doc pm an cdv ct) ⟨[], ks.zip us⟩ = pure (ps.zip (pickI is us))) : KwB fd ps ks is := by
  intro s us hl
  obtain ⟨oc, od, dV, kV, doc, pm, an, cdv, ct, osl, rfl, _, _, hD, _⟩ := F.ex
  rcases hD with ⟨_, rfl⟩ | ⟨e, _⟩
  · exact .of_eq (h kV doc pm an cdv ct us hl)
  · exact absurd rfl e
def wCallK (p : SpD) (n : Nat) (is : List Nat) (as : WA') : WE' := fun env S R Rx => as env S (fun ds S1 => (pickI is ds).length = n ∧ p (pickI is ds) S1 R (fun e S2 => Rx e env S2)) Rx
theorem r_callK {env : Vars} {S : Sto} {R : KR} {Rx : KX} {p : SpD} {n : Nat} {is : List Nat} {as : WA'} (k : as env S (fun ds S1 => (pickI is ds).length = n ∧ p (pickI is ds) S1 R (fun e S2 => Rx e env S2)) Rx) : wCallK p n is as env S R Rx := k
def PKD (X : Cx) (T : List (Addr × Str)) (W : WX) (kws : List Keyword) (w : WA') : Prop := PK X kws (lA X.K T W w)
theorem pk_imp {X : Cx} {kws : List Keyword} {t t' : TA} (h : PK X kws t) (i : ∀ σ H Q, t' σ H Q → t σ H Q) : PK X kws t' := ⟨fun pos pins s σ H Q I q => h.run pos pins s σ H Q I (i σ H Q q)⟩
section
variable {X : Cx} {T : List (Addr × Str)} {W : WX} {k : Nat} {f : Addr} {fd : FuncData} {ps ks : List Str} {is : List Nat} {p : SpD} {x : Str} {nm : Option Str} {pp pos kpos : Pos} {e : Expr} {kws : List Keyword} {wa : WE'} {as : WA'}
theorem pkd_nil : PKD X T W [] wAs0 := pk_imp pk_nil fun σ H Q ⟨G, env, S, m, R, Rx, he, hp, h, hk, hx⟩ => hk [] S [] m G H h Stp.refl hp .nil
theorem pkd_cons (ha : PD X T W e wa) (hr : PKD X T W kws as) : PKD X T W (⟨nm, e, kpos⟩ :: kws) (wAs1 wa as) := by
  refine pk_imp (pk_cons ha hr) fun σ H Q ⟨G, env, S, m, R, Rx, he, hp, h, hk, hx⟩ => ?_
  refine lE_of he hp h (fun x S1 v m1 G1 H1 h1 s1 p1 d1 => ?_) hx
  exact ⟨G1, env, S1, m1, _, Rx, he.mono hp s1, p1, h1, fun xs S2 vs m2 G2 H2 h2 s2 p2 d2 => hk _ S2 _ m2 G2 H2 h2 (s1.trans s2) p2 (.cons (d1.mono p1 s2) d2), hx.on s1⟩
theorem pd_callK {gd : Bool} (F : FnD gd X.prog X.w X.K X.mg X.base T k f fd ps p) (kb : KwB fd ps ks is) (hr : Room k X.A) (hgd : GdOk gd X.A) (hg : Gl X x) (hm : X.mg x = some (.ref f)) (hk : PySem.W.keepIn X.K (.ref f) = true) (tk : Takes X W) (ha : PKD X T W kws as)
    (hdb : (x == ("__debug__" : Str)) = false := by decide) (hall : (backToKw pos (keywordEach kws X.env)).all (·.1.isSome) = true := by rfl) (hks : (backToKw pos (keywordEach kws X.env)).filterMap (·.1) = ks := by rfl)
    (hpl : ((backTo pos (starEach [] X.env)).any (·.1) || (backToKw pos (keywordEach kws X.env)).any (·.1.isNone)) = false := by rfl) : PD X T W (.Call (.Name x pp) [] kws pos) (wCallK p ps.length is as) := by
  refine ⟨fun pins s σ H Q I ⟨G, env, S, m, R, Rx, hre, hp, h, hok, hx⟩ => ?_⟩
  refine wpAny_Call_Name_kw (ld_glob I hg hm ?_ hdb)
  refine PySem.W.callWith_KW0 (h₀ := X.base) I.ok.mod.kin hk hall (thn (ha.run pos pins s σ H (fun vs H1 => ∃ m1 G1 S1 xs, DRs X.K m1 G1 xs vs ∧ Rp X.K T m1 S1 G1 H1 ∧ RE X.K m1 G1 env σ ∧ ((pickI is xs).length = ps.length ∧ p (pickI is xs) S1 R (fun e S2 => Rx e env S2)) ∧ Okl X.K T m1 G1 H1 R Q ∧ Exl X.K T W m1 G1 H1 Rx) I
    ⟨G, env, S, m, _, Rx, hre, hp, h, fun xs S1 vs m1 G1 H1 h1 s1 p1 d1 => ⟨m1, G1, S1, xs, d1, p1, hre.mono hp s1, h1, hok.on s1, hx.on s1⟩, hx⟩) fun us s1 ⟨vs, H1, I1, r1, m1, G1, S1, xs, d1, p1, e1, ⟨hl1, h1⟩, k1, x1⟩ => ⟨I1.kIn, ?_⟩) hpl
  rw [hks]
  have d2 := pick_drs (is := is) d1
  have r2 := pick_vals (is := is) r1
  have l2 : (pickI is us).length = ps.length := by rw [← r2.length, ← d2.length]; exact hl1
  refine wpAny_call (codeAny_mono (F.run X.A X.stack s1 ⟨[], ks.zip us⟩ (pickI is us) (pickI is vs) (pickI is xs) S1 m1 G1 H1 R _ Q (WE W σ) hr hgd I1.env0 (kb s1 us l2) r2 d2 p1 hl1 h1 k1
    (fun e S' cls dd m' G' H' q1 q2 q3 q4 => x1 e env S' cls dd σ m' G' H' q1 q2 q3 (e1.mono p1 q2) q4)) fun rr s' hq => ?_)
  cases rr with
  | error er => exact passAt tk σ pins H1 s1 er s' I1 hq
  | ok fl =>
    cases fl with
    | ret u => exact I1.after hq
    | _ => exact False.elim hq
end
/-- what a call by names wants of a def -/
structure CalK (gd : Bool) (P : Program) (w : World) (K : PySem.W.Frag) (mg : Str → Option Value) (base : Heap) (T : List (Addr × Str)) (x : Str) (k n : Nat) (ks : List Str) (is : List Nat) (p : SpD) : Prop where
  ex : ∃ (f : Addr) (fd : FuncData) (ps : List Str), FnD gd P w K mg base T k f fd ps p ∧ KwB fd ps ks is ∧ ps.length = n ∧ mg x = some (.ref f) ∧ PySem.W.keepIn K (.ref f) = true
theorem CalK.up {gd : Bool} {P : Program} {w : World} {K : PySem.W.Frag} {mg : Str → Option Value} {base : Heap} {T : List (Addr × Str)} {x : Str} {j k n : Nat} {ks : List Str} {is : List Nat} {p : SpD} (C : CalK gd P w K mg base T x j n ks is p) (h : j ≤ k) : CalK gd P w K mg base T x k n ks is p := by
  obtain ⟨f, fd, ps, F, r⟩ := C.ex
  exact ⟨f, fd, ps, F.mono h, r⟩
section
variable {X : Cx} {T : List (Addr × Str)} {W : WX} {k n : Nat} {ks : List Str} {is : List Nat} {p : SpD} {x : Str} {pp pos : Pos} {kws : List Keyword} {as : WA'}
theorem pd_ownK {gd : Bool} (C : CalK gd X.prog X.w X.K X.mg X.base T x k n ks is p) (hr : Room k X.A) (hgd : GdOk gd X.A) (hg : Gl X x) (tk : Takes X W) (ha : PKD X T W kws as) (hdb : (x == ("__debug__" : Str)) = false := by decide)
    (hall : (backToKw pos (keywordEach kws X.env)).all (·.1.isSome) = true := by rfl) (hks : (backToKw pos (keywordEach kws X.env)).filterMap (·.1) = ks := by rfl)
    (hpl : ((backTo pos (starEach [] X.env)).any (·.1) || (backToKw pos (keywordEach kws X.env)).any (·.1.isNone)) = false := by rfl) : PD X T W (.Call (.Name x pp) [] kws pos) (wCallK p n is as) := by
  obtain ⟨f, fd, ps, F, kb, hl, hm, hk⟩ := C.ex
  rw [← hl]
  exact pd_callK F kb hr hgd hg hm hk tk ha hdb hall hks hpl
/-! list(t), a list that will grow -/
def dLstM : FL := fun ds S R => ∃ a xs, ds = [a] ∧ (a = .tup xs ∨ itemsL a S = some xs) ∧ R (.mu S.length) (S ++ [xs])
theorem cD_lstM : CallR X (.type "list") (lC X.K T dLstM) := by
  intro pins s σ H vs us Q I r ⟨G, ds, S, m, R, dr, hp, ⟨a, xs, e, h, hR⟩, hk⟩
  subst e
  obtain ⟨x, rfl, d1⟩ := one_of dr
  rcases h with rfl | h
  · obtain ⟨p, ws, rfl, sq, dw⟩ := tup_at hp d1
    refine call_list_of pins s σ H _ us Q I r ⟨p, ws, rfl, .inr sq, fun q np => ?_⟩
    obtain ⟨r1, r2, r3⟩ := hp.newMu np dw
    exact hk _ _ _ _ _ _ hR r2 r1 (.mu r3)
  · obtain ⟨p, ws, rfl, sq, dw⟩ := items_at hp d1 h
    refine call_list_of pins s σ H _ us Q I r ⟨p, ws, rfl, .inl sq, fun q np => ?_⟩
    obtain ⟨r1, r2, r3⟩ := hp.newMu np dw
    exact hk _ _ _ _ _ _ hR r2 r1 (.mu r3)
theorem r_lstM {S : Sto} {R : KR} {xs : List D} (k : R (.mu S.length) (S ++ [xs])) : dLstM [.tup xs] S R := ⟨_, xs, rfl, .inl rfl, k⟩
end
end DL

set_option maxHeartbeats 4000000
namespace DL
open PySem PySem.Spec PyProof.Rows L2

/-! x, y, z = a, b, c -/
def sPar3 (i j l : Nat) (as : WA') : WS' := fun env S E => as env S (fun ds S1 => ∃ x y z, ds = [x, y, z] ∧ E.nx (((env.set i (some x)).set j (some y)).set l (some z)) S1) E.ex
section
variable {X : Cx} {T : List (Addr × Str)} {W : WX} {as : WA'} {pos : Pos}
theorem psd_par3 (i j l : Nat) {x y z : Str} {a b c : Expr} {px py pz pt : Pos} {kt k2 pt2} (hc : X.calm = true) (hN : X.N.Nodup) (hi : X.N[i]? = some x) (hj : X.N[j]? = some y) (hl : X.N[l]? = some z) (hij : i ≠ j) (hil : i ≠ l) (hjl : j ≠ l)
    (hx : X.env.scope.names.lookup x = some .local) (hy : X.env.scope.names.lookup y = some .local) (hz : X.env.scope.names.lookup z = some .local) (h : PAD X T W [a, b, c] as)
    (hw : swappedStores [.Tuple [.Name x px, .Name y py, .Name z pz] kt pt] (.Tuple [a, b, c] k2 pt2) X.env = pure (some [x, y, z]))
    (hs : swapsWithSole [.Tuple [.Name x px, .Name y py, .Name z pz] kt pt] (.Tuple [a, b, c] k2 pt2) pos.line X.env = pure false := by rfl) :
    PSD X T W (.Assign [.Tuple [.Name x px, .Name y py, .Name z pz] kt pt] (.Tuple [a, b, c] k2 pt2) pos) (sPar3 i j l as) := by
  refine ps_imp (ps_par3 hc hN hi hj hl hij hil hjl hx hy hz h hw hs) fun D σ H ⟨G, env, S, m, E, he, hp, h, lk⟩ => ?_
  refine ⟨G, env, S, m, _, _, he, hp, h, fun ds S1 vs m1 G1 H1 ⟨d1, d2, d3, hd, h1⟩ s1 p1 dr => ?_, lk.ex⟩
  subst hd
  cases dr with
  | cons r1 r2 =>
    cases r2 with
    | cons r2 r3 =>
      cases r3 with
      | cons r3 r4 =>
        cases r4
        exact ⟨_, _, _, rfl, lk.nx _ S1 _ m1 G1 H1 h1 s1 p1 ((((he.mono hp s1).set r1).set r2).set r3)⟩
end
section
variable {env : Vars} {S : Sto} {E : Ds} {as : WA'} {a b c : D}
theorem r_par3 {i j l : Nat} (k : as env S (fun ds S1 => ∃ x y z, ds = [x, y, z] ∧ E.nx (((env.set i (some x)).set j (some y)).set l (some z)) S1) E.ex) : sPar3 i j l as env S E := k
theorem r_three {Q : D → D → D → Prop} (k : Q a b c) : ∃ x y z, [a, b, c] = [x, y, z] ∧ Q x y z := ⟨a, b, c, rfl, k⟩
end
end DL

set_option maxHeartbeats 4000000
namespace DL
open PySem PySem.Spec PyProof.Rows L2
/-- o[k] = .., as one of several targets -/
def gSubD (wo wk : WE') : WG' := fun d env S R => wo env S (fun o S2 => wk env S2 (fun k S3 => ∃ i z ds j, o = .mu i ∧ k = .int z ∧ S3[i]? = some ds ∧ ixN ds.length z = some j ∧ R env (S3.set i (ds.set j d))) noX) noX
theorem pgd_sub {X : Cx} {T : List (Addr × Str)} {W : WX} {o k : Expr} {p : Pos} {wo wk : WE'} (ho : PD X T W o wo) (hk : PD X T W k wk) (ha : PG X (.Subscript o k p) (gSub (lE X.K T W wo) (lE X.K T W wk) rSetL)) : PGD X T (.Subscript o k p) (gSubD wo wk) := by
  refine pg_imp ha fun v σ H Q ⟨G, d, env, S, m, R, d1, he, hp, h, hq⟩ => ?_
  refine ⟨G, env, S, m, _, _, he, hp, h, fun x S2 u m2 G2 H2 h2 s2 p2 d2 => ?_, exl_no⟩
  have he2 := he.mono hp s2
  refine ⟨G2, env, S2, m2, _, _, he2, p2, h2, fun y S3 z m3 G3 H3 h3 s3 p3 d3 => ?_, exl_no⟩
  obtain ⟨i, n, ds, j, rfl, rfl, hS, hj, hn⟩ := h3
  cases d3
  obtain ⟨a, vs, rfl, hm, hg, hh, dr⟩ := mu_at p3 (d2.mono p2 s3) hS
  obtain ⟨q1, q2⟩ := p3.put (vs := vs.set j v) hm (dr.set j ((d1.mono hp s2).mono p2 s3))
  exact ⟨a, vs, n, j, rfl, rfl, hh, by rw [← dr.length]; exact hj, hq _ _ _ _ _ _ hn ((s2.trans s3).trans q2) q1 ((he2.mono p2 s3).mono p3 q2)⟩
theorem r_gSub {wo wk : WE'} {d : D} {env : Vars} {S : Sto} {R : Vars → Sto → Prop} (k : wo env S (fun o S2 => wk env S2 (fun k S3 => ∃ i z ds j, o = .mu i ∧ k = .int z ∧ S3[i]? = some ds ∧ ixN ds.length z = some j ∧ R env (S3.set i (ds.set j d))) noX) noX) : gSubD wo wk d env S R := k
end DL

set_option maxHeartbeats 4000000
namespace DL
open PySem PySem.Spec PyProof.Rows L2
section
variable {X : Cx} {T : List (Addr × Str)} {W : WX}
/-- [x] * n, a list that will grow -/
def dMulM : F2 := fun a b S R => ∃ xs k, a = .lst xs ∧ b = .int k ∧ 0 ≤ k ∧ k ≤ 1000 ∧ xs.length * k.toNat ≤ sizeLine ∧ R (.mu S.length) (S ++ [(List.replicate k.toNat xs).flatten])
theorem opD_mulM : OpR X (binaryOp .Mult) (lO X.K T dMulM) := by
  intro pins s σ H x y v u Q I rx ry ⟨G, a, b, S, m, R, d1, d2, hp, ⟨xs, k, ea, eb, h1, h2, h3, h4⟩, hk⟩
  subst ea eb
  cases d2
  obtain ⟨p, vs, rfl, e, dr⟩ := items_atM hp d1 (xs := xs) rfl
  refine op_rep pins s σ H _ _ v u Q I rx ry ⟨p, k, vs, rfl, rfl, e, by omega, by omega, by rw [← dr.length]; exact h3, tell_mu hp hk (dr.rep _) h4⟩
theorem r_mulM {xs : List D} {k : Int} {S : Sto} {R : KR} (h0 : 0 ≤ k) (h1 : k ≤ 1000) (h2 : (xs.length * k.toNat).ble 1000 = true) (c : R (.mu S.length) (S ++ [(List.replicate k.toNat xs).flatten])) : dMulM (.lst xs) (.int k) S R :=
  ⟨xs, k, rfl, rfl, h0, h1, Nat.le_trans (Nat.le_of_ble_eq_true h2) (by decide), c⟩
/-- math.lcm -/
def dLcm : FL := fun ds S R => ∃ i j : Int, ds = [.int i, .int j] ∧ i.natAbs < 2 ^ 60 ∧ j.natAbs < 2 ^ 60 ∧ i.natAbs.lcm j.natAbs < 2 ^ 60 ∧ R (.int ((i.natAbs.lcm j.natAbs : Nat) : Int)) S
theorem cD_lcm : CallR X (.builtin "math.lcm") (lC X.K T dLcm) := by
  intro pins s σ H vs us Q I r ⟨G, ds, S, m, R, dr, hp, ⟨i, j, e, hi, hj, hl, h⟩, hk⟩
  subst e
  obtain ⟨x, y, rfl, d1, d2⟩ := two_of dr
  cases d1
  cases d2
  obtain ⟨t, u, rfl⟩ := Vals.int2 r
  refine PySem.W.mg_lcm_v (c := ((i.natAbs.lcm j.natAbs : Nat) : Int)) (Nat.lt_of_lt_of_le hi (by decide)) (Nat.lt_of_lt_of_le hj (by decide)) ?_ ?_ ?_
  · rw [Nat.lcm_one_left]
  · rw [Int.natAbs_natCast]
    exact Nat.lt_of_lt_of_le (PySem.Flt.log2_lt_of (by decide) hl) (by decide)
  · exact ⟨.int _, H, I.tok _, ⟨_, rfl⟩, hk.at h hp (.int _)⟩
theorem r_lcm {i j : Nat} {S : Sto} {R : KR} (hi : i < 2 ^ 60) (hj : j < 2 ^ 60) (hl : i.lcm j < 2 ^ 60) (k : R (.int ((i.lcm j : Nat) : Int)) S) : dLcm [.int (i : Int), .int (j : Int)] S R := by
  refine ⟨i, j, rfl, ?_, ?_, ?_, ?_⟩ <;> simp only [Int.natAbs_natCast] <;> assumption
/-- xs[::-1] of a list -/
def wRevL (w : WE') : WE' := fun env S R Rx => w env S (fun d S1 => ∃ xs, itemsL d S1 = some xs ∧ R (.lst xs.reverse) S1) Rx
theorem pd_revL2 {e : Expr} {w : WE'} {k : Nat} {p1 p2 p3 pos : Pos} (h : PD X T W e w) : PD X T W (.Subscript e (.Slice none none (some (.UnaryOp .USub (.Constant (.int 1) k p1) p2)) p3) pos) (wRevL w) := by
  refine pe_imp (pe_revL h) fun σ H Q ⟨G, env, S, m, R, Rx, he, hp, h, hk, hx⟩ => ?_
  refine lE_of he hp h (fun d S1 v m1 G1 H1 ⟨xs, h1, h2⟩ s1 p1 d1 => ?_) hx
  obtain ⟨a, vs, rfl, h3, h4⟩ := items_at p1 d1 h1
  refine ⟨a, vs, rfl, h3, ?_⟩
  exact tell_lst p1 (hk.on s1) (drs_rev h4) h2
theorem r_revL {w : WE'} {env : Vars} {S : Sto} {R : KR} {Rx : KX} (k : w env S (fun d S1 => ∃ xs, itemsL d S1 = some xs ∧ R (.lst xs.reverse) S1) Rx) : wRevL w env S R Rx := k
/-- sum(xs), max(xs) of a list of ints -/
def dSumL : FL := fun ds S R => ∃ (a : D) (ns : List Int), ds = [a] ∧ itemsL a S = some (ns.map D.int) ∧ R (.int ns.sum) S
theorem ints_vs {K : PySem.W.Frag} {m : List Addr} {G : Hp} : ∀ {ns : List Int} {vs : List V}, DRs K m G (ns.map D.int) vs → vs = ns.map V.int
  | [], _, .nil => rfl
  | n :: ns, _, .cons h t => by
    cases h
    rw [ints_vs t]
    rfl
theorem cD_sumL (hc : X.calm = true) : CallR X (.builtin "sum") (lC X.K T dSumL) := by
  intro pins s σ H vs us Q I r ⟨G, ds, S, m, R, dr, hp, ⟨a, ns, e, h1, h⟩, hk⟩
  subst e
  obtain ⟨x, rfl, d1⟩ := one_of dr
  obtain ⟨p, ws, rfl, h3, h4⟩ := items_at hp d1 h1
  have := ints_vs h4
  subst this
  exact cr_sum hc pins s σ H _ us Q I r ⟨p, ns, rfl, h3, hk.at h hp (.int _)⟩
theorem r_sumL {ns : List Int} {S : Sto} {R : KR} (k : R (.int ns.sum) S) : dSumL [.lst (ns.map D.int)] S R := ⟨_, ns, rfl, rfl, k⟩
end
/-! a comprehension within one -/
theorem relabel_at {env : Env} {x : Str} : ∀ {names : List (Str × NameKind)}, (match names.lookup x with | some .cell => true | some .free => true | _ => false) = true →
    (match (names.map fun (n, k) => if (k == NameKind.free && env.scope.kind == .function && env.kindOf n == some .cell) then (n, NameKind.cell) else (n, k)).lookup x with | some .cell => true | some .free => true | _ => false) = true
  | [], h => by simp at h
  | (n, k) :: r, h => by
    have ih := relabel_at (env := env) (x := x) (names := r)
    show (match ((if (k == NameKind.free && env.scope.kind == .function && env.kindOf n == some .cell) = true then (n, NameKind.cell) else (n, k)) :: (r.map fun (n, k) => if (k == NameKind.free && env.scope.kind == .function && env.kindOf n == some .cell) then (n, NameKind.cell) else (n, k))).lookup x with | some .cell => true | some .free => true | _ => false) = true
    have e2 : ∀ q : NameKind, (match ((n, q) :: r).lookup x with | some .cell => true | some .free => true | _ => false) = true → (match ((n, q) :: (r.map fun (n, k) => if (k == NameKind.free && env.scope.kind == .function && env.kindOf n == some .cell) then (n, NameKind.cell) else (n, k))).lookup x with | some .cell => true | some .free => true | _ => false) = true := fun q h => by
      simp only [List.lookup_cons] at h ⊢
      cases e : x == n with
      | true =>
        rw [e] at h
        exact h
      | false =>
        rw [e] at h
        exact ih h
    by_cases c : (k == NameKind.free && env.scope.kind == .function && env.kindOf n == some .cell) = true
    · rw [if_pos c]
      refine e2 .cell ?_
      simp only [List.lookup_cons] at h ⊢
      cases e : x == n with
      | true => rfl
      | false =>
        rw [e] at h
        exact h
    · rw [if_neg c]
      exact e2 k h
theorem blkOk_rel {N : List Str} {sc scope : Scope} {own : List (Str × Nat)} {env : Env} (h : blkC N sc scope own = true) : BlkOk N (relabel sc env) scope own := by
  refine blkOk_by ?_
  unfold blkC at h ⊢
  simp only [Bool.and_eq_true] at h ⊢
  obtain ⟨h1, h4⟩ := h
  refine ⟨h1, ?_⟩
  rw [List.all_eq_true] at h4 ⊢
  intro y hy
  have := h4 y hy
  cases e : y.2 <;> rw [e] at this <;> first | exact relabel_at this | exact this | rfl
end DL

set_option maxHeartbeats 4000000
namespace DL
open PySem PySem.Spec PyProof.Rows L2
/-! `str` of a number -/
variable {X : Cx} {T : List (Addr × Str)}
def dStrI : FL := fun ds S R => match ds with
  | [.int i] => i.natAbs.log2 < 1920 ∧ R (.str (toString i)) S
  | _ => False
theorem cD_strI : CallR X (.type "str") (lC X.K T dStrI) := by
  intro pins s σ H vs us Q I r ⟨G, ds, S, m, R, dr, hp, h, hk⟩
  match ds, h with
  | [.int i], h =>
    obtain ⟨x, rfl, d1⟩ := one_of dr
    cases d1
    exact call_str_int pins s σ H _ us Q I r ⟨i, rfl, h.1, hk.at h.2 hp (.str _)⟩
end DL

set_option maxHeartbeats 4000000
namespace DL
open PySem PySem.Spec PyProof.Rows L2
section
variable {K : PySem.W.Frag} {T : List (Addr × Str)} {m : List Addr} {G H : Hp} {S : Sto}
theorem drs_ints : ∀ {ns : List Int}, DRs K m G (ns.map D.int) (ns.map V.int)
  | [] => .nil
  | n :: ns => .cons (.int n) drs_ints
/-- a new thing that is not ours -/
theorem Rp.aside (r : Rp K T m S G H) {p : Addr} {o : HO} (hp : H p = none) : Rp K T m S G (upd H p o) ∧ Stp m G H m G (upd H p o) := by
  refine ⟨⟨fun a u h => ?_, r.nd, r.len, r.sto, tabs_keep r.tabs (fun b u h _ => ?_), r.nt⟩, ⟨[], by simp, by simp⟩, fun a u h _ => h, fun a u h => ⟨u, h⟩, fun a u h g _ => ?_⟩
  · have := r.sub a u h
    rw [upd_ne (ne_of_none this hp)]
    exact this
  · rw [upd_ne (ne_of_none h hp)]
    exact h
  · rw [upd_ne (ne_of_none h hp)]
    exact ⟨h, g⟩
theorem SqT.up (r : Rp K T m S G H) {a : Addr} {vs : List V} (h : SqT K G a vs) : SqT K H a vs := by
  rcases h with (h | ⟨o, h⟩) | h
  · exact .inl (.inl (r.sub _ _ h))
  · exact .inl (.inr ⟨o, r.sub _ _ h⟩)
  · exact .inr h
end
section
variable {X : Cx} {T : List (Addr × Str)} {W : WX}
/-- set(a tuple of ints) -/
theorem cr_setT (hc : X.calm = true) : CallR X (.type "set") (fun vs H Q => ∃ (p : Addr) (ns : List Int), vs = [V.ref p] ∧ SqT X.K H p (ns.map V.int) ∧ ns.length ≤ 60 ∧
    ∀ (a : Addr) (n : Nat), n ≤ ns.length → H a = none → Q (.ref a) (upd H a (SetO X.w a (fun j => decide (j ∈ ns)) n))) := by
  intro pins s σ H xs us Q I r ⟨p0, ns, e1, hq, hl, q⟩
  subst e1
  cases r with
  | cons r rr =>
    cases rr
    cases r
    obtain ⟨its, rv, pt, hz⟩ := I.tuple hq
    have hi : IntsAre its.toArray.toList ns := ints_of_vals rv
    have hd := I.ok.hd hc
    refine call_set_tupI ns hd (show s.heap.IsTuple p0 its.toArray from pt) hi (by unfold scanBound; omega) fun h' tk c R1 hcn k => ?_
    refine ⟨.ref s.heap.objs.size, upd H s.heap.objs.size (SetO X.w s.heap.objs.size (fun j => decide (j ∈ ns)) c), ?_, rfl, q _ _ hcn (I.hok.fresh (Nat.le_refl _))⟩
    exact I.laid (t' := tk) k (Nat.le_refl _) (setO_new R1)
/-- sorted(set(x)) of a tuple of ints -/
def wSS (w : WE') : WE' := fun env S R Rx => w env S (fun d S1 => ∃ ns : List Int, d = .tup (ns.map D.int) ∧ ns.length ≤ 60 ∧ ∀ out : List Int, out.Pairwise (· < ·) → (∀ k, k ∈ out ↔ k ∈ ns) → R (.lst (out.map D.int)) S1) Rx
theorem pd_sortSet {e : Expr} {w : WE'} {p1 p2 p3 p4 : Pos} (hc : X.calm = true) (hg : Gl X "sorted") (hm : X.mg "sorted" = none) (hg2 : Gl X "set") (hm2 : X.mg "set" = none) (h : PD X T W e w)
    (he : starEach [e] X.env = (false, eval e X.env) :: starEach [] X.env := by rfl)
    (he2 : starEach [.Call (.Name "set" p2) [e] [] p3] X.env = (false, eval (.Call (.Name "set" p2) [e] [] p3) X.env) :: starEach [] X.env := by rfl) :
    PD X T W (.Call (.Name "sorted" p1) [.Call (.Name "set" p2) [e] [] p3] [] p4) (wSS w) := by
  have a1 : PAD X T W [e] (wAs1 w wAs0) := pad_cons h pad_nil he
  have c1 := pe_callTy (pos := p3) (p := p2) (cr_setT (X := X) hc) hg2 hm2 (by rfl) a1 (by decide) (by decide) he (by rfl)
  have a2 := pa_cons c1 (pa_nil (X := X)) he2
  have c2 := pe_callB (pos := p4) (p := p1) (cr_sortedSet (X := X) hc) hg hm (by rfl) a2 (by decide) (by decide) he2 (by rfl)
  refine pe_imp c2 fun σ H Q ⟨G, env, S, m, R, Rx, hen, hp, h, hk, hx⟩ => ?_
  refine ⟨G, env, S, m, (fun ds S1 => match ds with
    | [d] => ∃ ns : List Int, d = .tup (ns.map D.int) ∧ ns.length ≤ 60 ∧ ∀ out : List Int, out.Pairwise (· < ·) → (∀ k, k ∈ out ↔ k ∈ ns) → R (.lst (out.map D.int)) S1
    | _ => False), Rx, hen, hp, h, fun ds S1 vs m1 G1 H1 hr s1 p1 dr => ?_, hx⟩
  cases dr with
  | nil => exact hr.elim
  | cons d1 dr =>
    cases dr with
    | cons _ _ => exact hr.elim
    | nil =>
      obtain ⟨ns, rfl, hl, k⟩ := hr
      cases d1 with
      | tup hs hd =>
        have := ints_vs hd
        subst this
        refine ⟨_, ns, rfl, SqT.up p1 hs, hl, fun a n hn ha => ?_⟩
        obtain ⟨p2', s2'⟩ := p1.aside (o := SetO X.w a (fun j => decide (j ∈ ns)) n) ha
        refine ⟨a, _, n, rfl, upd_same, by omega, fun out p hp1 hp2 hp3 hpn => ?_⟩
        exact tell_lst p2' (hk.on (s1.trans s2')) drs_ints (k out hp1 fun z => (hp2 z).trans decide_eq_true_iff) p hpn
theorem drs_rg {K : PySem.W.Frag} {m : List Addr} {G : Hp} {n : Nat} : DRs K m G (intsD 0 n) ((List.range n).map fun i => V.int (0 + (i : Nat))) := by
  unfold intsD
  generalize List.range n = l
  induction l with
  | nil => exact .nil
  | cons a l ih => exact .cons (.int _) ih
theorem rg_ok {j : Int} (h0 : 0 ≤ j) (h1 : j ≤ 1000) : RgOk 0 j := RgOk.of_le (by omega) (by omega) (by omega) h0
/-- tuple(range(n)), list(range(n)) -/
def wTupRg (w : WE') : WE' := fun env S R Rx => w env S (fun d S1 => ∃ j : Int, d = .int j ∧ 0 ≤ j ∧ j ≤ 1000 ∧ R (.tup (intsD 0 j.toNat)) S1) Rx
def wLstRg (w : WE') : WE' := fun env S R Rx => w env S (fun d S1 => ∃ j : Int, d = .int j ∧ 0 ≤ j ∧ j ≤ 1000 ∧ R (.lst (intsD 0 j.toNat)) S1) Rx
theorem pd_tupRg {e : Expr} {w : WE'} {p1 p2 p3 p4 : Pos} (hc : X.calm = true) (hg : Gl X "tuple") (hm : X.mg "tuple" = none) (hg2 : Gl X "range") (hm2 : X.mg "range" = none) (h : PD X T W e w)
    (he : starEach [e] X.env = (false, eval e X.env) :: starEach [] X.env := by rfl)
    (he2 : starEach [.Call (.Name "range" p2) [e] [] p3] X.env = (false, eval (.Call (.Name "range" p2) [e] [] p3) X.env) :: starEach [] X.env := by rfl) :
    PD X T W (.Call (.Name "tuple" p1) [.Call (.Name "range" p2) [e] [] p3] [] p4) (wTupRg w) := by
  refine pe_imp (pe_tupRg hc hg hm (prg_1 hg2 hm2 h he) he2) fun σ H Q ⟨G, env, S, m, R, Rx, hen, hp, h, hk, hx⟩ => ?_
  refine lE_of hen hp h (fun d S1 v m1 G1 H1 ⟨j, e1, h0, h1, hr⟩ s1 p1 d1 => ?_) hx
  subst e1
  cases d1
  refine ⟨j, rfl, rg_ok h0 h1, ?_⟩
  have z : rgV 0 j = (List.range j.toNat).map fun i => V.int (0 + (i : Nat)) := by
    unfold rgV
    rw [Int.sub_zero]
  rw [z]
  exact tell_tup p1 (hk.on s1) drs_rg hr
theorem pd_lstRg {e : Expr} {w : WE'} {p1 p2 p3 p4 : Pos} (hc : X.calm = true) (hg : Gl X "list") (hm : X.mg "list" = none) (hg2 : Gl X "range") (hm2 : X.mg "range" = none) (h : PD X T W e w)
    (he : starEach [e] X.env = (false, eval e X.env) :: starEach [] X.env := by rfl)
    (he2 : starEach [.Call (.Name "range" p2) [e] [] p3] X.env = (false, eval (.Call (.Name "range" p2) [e] [] p3) X.env) :: starEach [] X.env := by rfl) :
    PD X T W (.Call (.Name "list" p1) [.Call (.Name "range" p2) [e] [] p3] [] p4) (wLstRg w) := by
  refine pe_imp (pe_listRg hc hg hm (prg_1 hg2 hm2 h he) he2) fun σ H Q ⟨G, env, S, m, R, Rx, hen, hp, h, hk, hx⟩ => ?_
  refine lE_of hen hp h (fun d S1 v m1 G1 H1 ⟨j, e1, h0, h1, hr⟩ s1 p1 d1 => ?_) hx
  subst e1
  cases d1
  refine ⟨j, rfl, rg_ok h0 h1, ?_⟩
  have z : rgV 0 j = (List.range j.toNat).map fun i => V.int (0 + (i : Nat)) := by
    unfold rgV
    rw [Int.sub_zero]
  rw [z]
  exact tell_lst p1 (hk.on s1) drs_rg hr
theorem r_tupRg {w : WE'} {env : Vars} {S : Sto} {R : KR} {Rx : KX} (k : w env S (fun d S1 => ∃ j : Int, d = .int j ∧ 0 ≤ j ∧ j ≤ 1000 ∧ R (.tup (intsD 0 j.toNat)) S1) Rx) : wTupRg w env S R Rx := k
theorem r_lstRg {w : WE'} {env : Vars} {S : Sto} {R : KR} {Rx : KX} (k : w env S (fun d S1 => ∃ j : Int, d = .int j ∧ 0 ≤ j ∧ j ≤ 1000 ∧ R (.lst (intsD 0 j.toNat)) S1) Rx) : wLstRg w env S R Rx := k
theorem r_ss {w : WE'} {env : Vars} {S : Sto} {R : KR} {Rx : KX} (k : w env S (fun d S1 => ∃ ns : List Int, d = .tup (ns.map D.int) ∧ ns.length ≤ 60 ∧ ∀ out : List Int, out.Pairwise (· < ·) → (∀ k, k ∈ out ↔ k ∈ ns) → R (.lst (out.map D.int)) S1) Rx) : wSS w env S R Rx := k
end
end DL

set_option maxHeartbeats 4000000
namespace DL
open PySem PySem.Spec PyProof.Rows L2
/-! «is True», «is not True» and their like -/
def isBlV (c : Bool) : V → Bool
  | .bl b => b == c
  | _ => false
theorem op_isBl {X : Cx} : OpR X (compareOp .Is) (fun x y H Q => ∃ c, y = .bl c ∧ Q (.bl (isBlV c x)) H) := by
  intro pins s σ H x y v u Q I rx ry h
  obtain ⟨c, rfl, q⟩ := h
  cases ry
  cases x with
  | bl b =>
    cases rx
    refine wpAny_is_plain rfl (fin_bl I q ?_)
    cases b <;> cases c <;> rfl
  | non => cases rx; exact wpAny_is_plain rfl (fin_bl I q rfl)
  | ref a => cases rx; exact wpAny_is_plain rfl (fin_bl I q rfl)
  | ty n => cases rx; exact wpAny_is_plain rfl (fin_bl I q rfl)
  | _ =>
    obtain ⟨t, rfl⟩ := rx
    exact wpAny_is_plain rfl (fin_bl I q rfl)
theorem op_isNotBl {X : Cx} : OpR X (compareOp .IsNot) (fun x y H Q => ∃ c, y = .bl c ∧ Q (.bl (!isBlV c x)) H) := by
  intro pins s σ H x y v u Q I rx ry h
  obtain ⟨c, rfl, q⟩ := h
  cases ry
  cases x with
  | bl b =>
    cases rx
    refine wpAny_isNot_plain rfl (fin_bl I q ?_)
    cases b <;> cases c <;> rfl
  | non => cases rx; exact wpAny_isNot_plain rfl (fin_bl I q rfl)
  | ref a => cases rx; exact wpAny_isNot_plain rfl (fin_bl I q rfl)
  | ty n => cases rx; exact wpAny_isNot_plain rfl (fin_bl I q rfl)
  | _ =>
    obtain ⟨t, rfl⟩ := rx
    exact wpAny_isNot_plain rfl (fin_bl I q rfl)
def isBl (c : Bool) : D → Bool
  | .bl b => b == c
  | _ => false
theorem isBl_ok {K : PySem.W.Frag} {m : List Addr} {G : Hp} {a : D} {x : V} {c : Bool} (d : DR K m G a x) : isBlV c x = isBl c a := by
  cases d <;> rfl
def dIsB : F2 := fun a b S R => match b with
  | .bl c => R (.bl (isBl c a)) S
  | _ => False
def dIsNotB : F2 := fun a b S R => match b with
  | .bl c => R (.bl (!isBl c a)) S
  | _ => False
section
variable {X : Cx} {T : List (Addr × Str)}
theorem opD_isB : OpR X (compareOp .Is) (lO X.K T dIsB) := by
  intro pins s σ H x y v u Q I rx ry ⟨G, a, b, S, m, R, d1, d2, hp, h, hk⟩
  cases b with
  | bl c =>
    cases d2
    exact op_isBl pins s σ H _ _ v u Q I rx ry ⟨c, rfl, by rw [isBl_ok d1]; exact hk.at h hp (.bl _)⟩
  | _ => exact h.elim
theorem opD_isNotB : OpR X (compareOp .IsNot) (lO X.K T dIsNotB) := by
  intro pins s σ H x y v u Q I rx ry ⟨G, a, b, S, m, R, d1, d2, hp, h, hk⟩
  cases b with
  | bl c =>
    cases d2
    exact op_isNotBl pins s σ H _ _ v u Q I rx ry ⟨c, rfl, by rw [isBl_ok d1]; exact hk.at h hp (.bl _)⟩
  | _ => exact h.elim
end
section
variable {S : Sto} {R : KR} {a : D} {c : Bool}
theorem r_isB (k : R (.bl (isBl c a)) S) : dIsB a (.bl c) S R := k
theorem r_isNotB (k : R (.bl (!isBl c a)) S) : dIsNotB a (.bl c) S R := k
end
end DL

set_option maxHeartbeats 4000000
namespace DL
open PySem PySem.Spec PyProof.Rows L2
section
variable {X : Cx} {T : List (Addr × Str)} {W : WX}
theorem drs_rg2 {K : PySem.W.Frag} {m : List Addr} {G : Hp} {a : Int} {n : Nat} : DRs K m G (intsD a n) ((List.range n).map fun i => V.int (a + (i : Nat))) := by
  unfold intsD
  generalize List.range n = l
  induction l with
  | nil => exact .nil
  | cons b l ih => exact .cons (.int _) ih
/-- tuple(range(i, j)) -/
def wTupRg2 (wa wb : WE') : WE' := fun env S R Rx => wa env S (fun d S1 => wb env S1 (fun d2 S2 => ∃ i j : Int, d = .int i ∧ d2 = .int j ∧ 0 ≤ i ∧ i ≤ 1000 ∧ 0 ≤ j ∧ j ≤ 1000 ∧ R (.tup (intsD i (j - i).toNat)) S2) Rx) Rx
theorem pd_tupRg2 {a b : Expr} {wa wb : WE'} {p1 p2 p3 p4 : Pos} (hc : X.calm = true) (hg : Gl X "tuple") (hm : X.mg "tuple" = none) (hg2 : Gl X "range") (hm2 : X.mg "range" = none) (ha : PD X T W a wa) (hb : PD X T W b wb)
    (na : starEach [a, b] X.env = (false, eval a X.env) :: starEach [b] X.env := by rfl) (nb : starEach [b] X.env = (false, eval b X.env) :: starEach [] X.env := by rfl) (hpp : (backTo p3 (starEach [b] X.env)).any (·.1) = false := by rfl)
    (he2 : starEach [.Call (.Name "range" p2) [a, b] [] p3] X.env = (false, eval (.Call (.Name "range" p2) [a, b] [] p3) X.env) :: starEach [] X.env := by rfl) :
    PD X T W (.Call (.Name "tuple" p1) [.Call (.Name "range" p2) [a, b] [] p3] [] p4) (wTupRg2 wa wb) := by
  refine pe_imp (pe_tupRg hc hg hm (prg_2 hg2 hm2 ha hb na nb hpp) he2) fun σ H Q ⟨G, env, S, m, R, Rx, hen, hp, h, hk, hx⟩ => ?_
  refine lE_of hen hp h (fun d S1 v m1 G1 H1 h1 s1 p1 d1 => ?_) hx
  refine lE_of (hen.mono hp s1) p1 h1 (fun d2 S2 u m2 G2 H2 ⟨i, j, e1, e2, i0, i1, j0, j1, hr⟩ s2 p2 d2' => ?_) (hx.on s1)
  subst e1
  subst e2
  cases d1
  cases d2'
  refine ⟨i, j, rfl, rfl, RgOk.of_le (by omega) (by omega) (by omega) (by omega), ?_⟩
  exact tell_tup p2 (hk.on (s1.trans s2)) drs_rg2 hr
theorem r_tupRg2 {wa wb : WE'} {env : Vars} {S : Sto} {R : KR} {Rx : KX} (k : wa env S (fun d S1 => wb env S1 (fun d2 S2 => ∃ i j : Int, d = .int i ∧ d2 = .int j ∧ 0 ≤ i ∧ i ≤ 1000 ∧ 0 ≤ j ∧ j ≤ 1000 ∧ R (.tup (intsD i (j - i).toNat)) S2) Rx) Rx) : wTupRg2 wa wb env S R Rx := k
end
end DL

set_option maxHeartbeats 4000000
namespace DL
open PySem PySem.Spec PyProof.Rows L2
/-! «None in t», «None not in t» of a tuple of flat things and tuples -/
def noneD : D → Bool
  | .tup _ => true
  | d => flatD d
def isNonU : Value → Bool
  | .none => true
  | _ => false
section
variable {X : Cx} {T : List (Addr × Str)} {pins : List (Addr × Obj)} {s : Shared} {σ : L2.St} {H : Hp} {m : List Addr} {G : Hp} {S : Sto}
theorem noneEq (hu : X.A.units + 64 < cLine) (I : Inv X pins σ H s) (hp : Rp X.K T m S G H) {d : D} {x : V} {v : Value} (h : DR X.K m G d x) (f : noneD d = true) (r : RelV x v) : SeqAt.EqAt X.A.in1 s v .none (isNon d) ∧ isNonU v = isNon d := by
  cases h with
  | non => cases r; exact ⟨SeqAt.EqAt.same _, rfl⟩
  | bl b => cases r; exact ⟨SeqAt.EqAt.bool_none b, rfl⟩
  | int i => obtain ⟨t, rfl⟩ := r; exact ⟨SeqAt.EqAt.int_none i t, rfl⟩
  | str i => obtain ⟨t, rfl⟩ := r; exact ⟨SeqAt.EqAt.str_none i t, rfl⟩
  | tup h1 h2 =>
    cases r
    obtain ⟨its, r, pl, _⟩ := I.tuple (sqT_sub hp h1)
    exact ⟨SeqAt.EqAt.tuple_none pl (show X.A.units + 1 < cLine by omega), rfl⟩
  | _ => cases f
theorem noneAll (hu : X.A.units + 64 < cLine) (I : Inv X pins σ H s) (hp : Rp X.K T m S G H) : ∀ {ds : List D} {vs : List V} {us : List Value}, DRs X.K m G ds vs → ds.all noneD = true → Vals vs us → (∀ u ∈ us, SeqAt.EqAt X.A.in1 s u .none (isNonU u)) ∧ us.any isNonU = ds.any isNon
  | _, _, _, .nil, _, .nil => ⟨fun u hu => (by cases hu), rfl⟩
  | _, _, _, .cons h hs, f, .cons r t => by
    rw [List.all_cons, Bool.and_eq_true] at f
    obtain ⟨e1, e2⟩ := noneEq hu I hp h f.1 r
    obtain ⟨i1, i2⟩ := noneAll hu I hp hs f.2 t
    refine ⟨fun u hu => ?_, by rw [List.any_cons, List.any_cons, e2, i2]⟩
    rcases List.mem_cons.mp hu with rfl | hu
    · rw [e2]; exact e1
    · exact i1 u hu
end
def dInN : F2 := fun a b S R => match a, b with
  | .non, .tup xs => xs.all noneD = true ∧ R (.bl (xs.any isNon)) S
  | _, _ => False
def dNotInN : F2 := fun a b S R => match a, b with
  | .non, .tup xs => xs.all noneD = true ∧ R (.bl (!xs.any isNon)) S
  | _, _ => False
section
variable {X : Cx} {T : List (Addr × Str)}
theorem opD_inN (hu : X.A.units + 64 < cLine) : OpR X (compareOp .In) (lO X.K T dInN) := by
  intro pins s σ H x y v u Q I rx ry ⟨G, a, b, S, m, R, d1, d2, hp, h, hk⟩
  unfold dInN at h
  split at h
  · obtain ⟨f, h⟩ := h
    cases d1
    cases rx
    obtain ⟨p, vs, rfl, sq, dr⟩ := tup_at hp d2
    cases ry
    obtain ⟨its, r, pl, _⟩ := I.tuple sq
    obtain ⟨i1, i2⟩ := noneAll hu I hp dr f r
    refine SeqAt.in_tupleAt isNonU pl (fun w hw => i1 w (by simpa using hw)) (fin_bl I (hk.at h hp (.bl _)) ?_)
    rw [show its.toArray.any isNonU = its.any isNonU by simp, i2]
  · exact h.elim
theorem opD_notInN (hu : X.A.units + 64 < cLine) : OpR X (compareOp .NotIn) (lO X.K T dNotInN) := by
  intro pins s σ H x y v u Q I rx ry ⟨G, a, b, S, m, R, d1, d2, hp, h, hk⟩
  unfold dNotInN at h
  split at h
  · obtain ⟨f, h⟩ := h
    cases d1
    cases rx
    obtain ⟨p, vs, rfl, sq, dr⟩ := tup_at hp d2
    cases ry
    obtain ⟨its, r, pl, _⟩ := I.tuple sq
    obtain ⟨i1, i2⟩ := noneAll hu I hp dr f r
    refine SeqAt.notIn_tupleAt isNonU pl (fun w hw => i1 w (by simpa using hw)) (fin_bl I (hk.at h hp (.bl _)) ?_)
    rw [show its.toArray.any isNonU = its.any isNonU by simp, i2]
  · exact h.elim
end
section
variable {S : Sto} {R : KR} {xs : List D}
theorem r_inNone (h : xs.all noneD = true) (k : R (.bl (xs.any isNon)) S) : dInN .non (.tup xs) S R := ⟨h, k⟩
theorem r_notInNone (h : xs.all noneD = true) (k : R (.bl (!xs.any isNon)) S) : dNotInN .non (.tup xs) S R := ⟨h, k⟩
end
end DL

set_option maxHeartbeats 4000000
/-! list(zip(x, y)) of two lists of one length -/
namespace DL
open PySem PySem.Spec PyProof.Rows L2
theorem zip_nolen : typeLookup (.type "zip") "__len__" = pure none := by
  rw [typeLookup_type, builtinLookup_eq_fast]
  kernel_rfl
theorem zip_nohint : typeLookup (.type "zip") "__length_hint__" = pure none := by
  rw [typeLookup_type, builtinLookup_eq_fast]
  kernel_rfl
/-- where a zip of two lists stands, the list S aside -/
structure ZAt (h : Heap) (S z TI TO i1 i2 l1 l2 : Addr) (xs ys : Array Value) (k : Nat) : Prop where
  me : IsZip h z TI TO .none ∨ ∃ T f o, IsZipHeld h z TI TO T f ∧ h.get? T = some o ∧ T ≠ S ∧ T ≠ z ∧ T ≠ i1 ∧ T ≠ i2
  ins : IsPair h TI (.ref i1) (.ref i2)
  outs : ∃ a b, IsPair h TO a b
  it1 : h.IsListIter i1 l1 k
  it2 : h.IsListIter i2 l2 k
  la : h.IsList l1 xs
  lb : h.IsList l2 ys
structure ZOff (S z TI TO i1 i2 l1 l2 : Addr) : Prop where
  z : z ≠ S
  ti : TI ≠ S
  tO : TO ≠ S
  i1 : i1 ≠ S
  i2 : i2 ≠ S
  l1 : l1 ≠ S
  l2 : l2 ≠ S
theorem ZAt.keep {h h' : Heap} {S z TI TO i1 i2 l1 l2 : Addr} {xs ys : Array Value} {k : Nat} (Z : ZAt h S z TI TO i1 i2 l1 l2 xs ys k) (D : ZOff S z TI TO i1 i2 l1 l2) (hk : ∀ c o, c ≠ S → h.get? c = some o → h'.get? c = some o) : ZAt h' S z TI TO i1 i2 l1 l2 xs ys k := by
  obtain ⟨a, b, ho⟩ := Z.outs
  refine ⟨?_, hk _ _ D.ti Z.ins, ⟨a, b, hk _ _ D.tO ho⟩, Z.it1.at fun o e => hk _ o D.i1 e, Z.it2.at fun o e => hk _ o D.i2 e, Z.la.at fun o e => hk _ o D.l1 e, Z.lb.at fun o e => hk _ o D.l2 e⟩
  rcases Z.me with hz | ⟨T, f, o, hz, hT, n1, n2⟩
  · exact .inl (hk _ _ D.z hz)
  · exact .inr ⟨T, f, o, hk _ _ D.z hz, hk _ _ n1 hT, n1, n2⟩
section
variable {prog : Program} {w : World} {A : Around} {E : Value → Shared → Prop} {s : Shared} {S z TI TO i1 i2 l1 l2 : Addr} {xs ys : Array Value} {k : Nat}
theorem z_item {x y : Value} {Q : Option Value → Shared → Prop} (D : ZipApart z TI TO i1 i2 l1 l2) (hS : S < s.heap.objs.size) (Z : ZAt s.heap S z TI TO i1 i2 l1 l2 xs ys k) (hx : xs[k]? = some x) (hy : ys[k]? = some y)
    (hQ : ∀ h', ZAt h' S z TI TO i1 i2 l1 l2 xs ys (k + 1) → IsPair h' s.heap.objs.size x y → (∀ c o, c ≠ z → c ≠ TO → c ≠ i1 → c ≠ i2 → s.heap.get? c = some o → h'.get? c = some o) → Q (some (.ref s.heap.objs.size)) { s with heap := h' }) :
    wpAny (model prog w) A (pyNext (.ref z)) Q E s := by
  obtain ⟨a, b, ho⟩ := Z.outs
  have lt : ∀ {c o}, s.heap.get? c = some o → s.heap.objs.size ≠ c := fun e => Nat.ne_of_gt (Heap.lt_size e)
  have lz : s.heap.objs.size ≠ z := by
    rcases Z.me with h | ⟨_, _, _, h, _⟩
    · exact lt h
    · exact lt h
  have li1 : s.heap.objs.size ≠ i1 := by
    obtain ⟨_, e, _⟩ := Z.it1
    exact lt e
  have li2 : s.heap.objs.size ≠ i2 := by
    obtain ⟨_, e, _⟩ := Z.it2
    exact lt e
  have lS : s.heap.objs.size ≠ S := Nat.ne_of_gt hS
  rcases Z.me with hz | ⟨T, f, o, hz, hT, n1, n2, n3, n4⟩
  · refine wpAny_pyNext_zip_item D hz Z.ins ho Z.it1 Z.it2 Z.la Z.lb hx hy fun h' a1 a2 a3 a4 a5 a6 a7 => hQ h' ⟨.inr ⟨_, false, _, a1, a5, lS, lz, li1, li2⟩, a7 _ _ D.TIz D.TITO D.TIi1 D.TIi2 Z.ins, ⟨_, _, a2⟩, a3, a4, ?_, ?_⟩ a5 a7
    · exact Z.la.at fun o e => a7 _ o D.l1z D.l1TO D.l1i1 D.l1i2 e
    · exact Z.lb.at fun o e => a7 _ o D.l2z D.l2TO D.l2i1 D.l2i2 e
  · refine wpAny_pyNext_zip_item_held D hz hT Z.ins Z.it1 Z.it2 Z.la Z.lb hx hy fun h' a1 a3 a4 a5 a6 a7 => hQ h' ⟨.inr ⟨T, true, o, a1, a7 _ _ n2 n3 n4 hT, n1, n2, n3, n4⟩, a7 _ _ D.TIz D.TIi1 D.TIi2 Z.ins, ⟨_, _, a7 _ _ D.TOz D.TOi1 D.TOi2 ho⟩, a3, a4, ?_, ?_⟩ a5 (fun c o c1 _ c3 c4 e => a7 c o c1 c3 c4 e)
    · exact Z.la.at fun o e => a7 _ o D.l1z D.l1i1 D.l1i2 e
    · exact Z.lb.at fun o e => a7 _ o D.l2z D.l2i1 D.l2i2 e
theorem z_end {Q : Option Value → Shared → Prop} (hh : A.handled = none) (D : ZipApart z TI TO i1 i2 l1 l2) (Z : ZAt s.heap S z TI TO i1 i2 l1 l2 xs ys k) (hx : xs[k]? = none)
    (hQ : ∀ h', (∀ c o, c ≠ z → c ≠ TO → c ≠ i1 → c ≠ i2 → s.heap.get? c = some o → h'.get? c = some o) → Q none { s with heap := h' }) :
    wpAny (model prog w) A (pyNext (.ref z)) Q E s := by
  obtain ⟨a, b, ho⟩ := Z.outs
  rcases Z.me with hz | ⟨T, f, o, hz, hT, _⟩
  · exact wpAny_pyNext_zip_end hh D hz Z.ins ho Z.it1 Z.it2 Z.la Z.lb (.inl hx) hQ
  · exact wpAny_pyNext_zip_end_held hh D hz hT Z.ins Z.it1 Z.it2 Z.la Z.lb (.inl hx) fun h' g => hQ h' fun c o c1 _ c3 c4 e => g c o c1 c3 c4 e
/-- what the list holds so far: new tuples -/
structure ZAcc (h : Heap) (lo : Addr) (xs ys : Array Value) (as : List Addr) : Prop where
  rise : as.Pairwise (· < ·)
  low : ∀ a ∈ as, lo ≤ a
  pr : ∀ (j : Nat) (a : Addr), as[j]? = some a → ∃ x y, xs[j]? = some x ∧ ys[j]? = some y ∧ IsPair h a x y
theorem ZAcc.keep {h h' : Heap} {lo : Addr} {as : List Addr} (C : ZAcc h lo xs ys as) (hk : ∀ c o, lo ≤ c → h.get? c = some o → h'.get? c = some o) : ZAcc h' lo xs ys as := ⟨C.rise, C.low, fun j a e => by
  obtain ⟨x, y, e1, e2, e3⟩ := C.pr j a e
  exact ⟨x, y, e1, e2, hk _ _ (C.low a (List.mem_of_getElem? e)) e3⟩⟩
theorem ZAcc.push {h : Heap} {lo a : Addr} {as : List Addr} {x y : Value} (C : ZAcc h lo xs ys as) (hl : lo ≤ a) (hn : ∀ b ∈ as, b < a) (hx : xs[as.length]? = some x) (hy : ys[as.length]? = some y) (hp : IsPair h a x y) : ZAcc h lo xs ys (as ++ [a]) := by
  refine ⟨List.pairwise_append.mpr ⟨C.rise, List.pairwise_singleton _ _, fun b hb c hc => by rw [List.mem_singleton.mp hc]; exact hn b hb⟩, fun b hb => ?_, fun j b e => ?_⟩
  · rcases List.mem_append.mp hb with hb | hb
    · exact C.low b hb
    · rw [List.mem_singleton.mp hb]; exact hl
  · by_cases hj : j < as.length
    · rw [List.getElem?_append_left hj] at e
      exact C.pr j b e
    · rw [List.getElem?_append_right (by omega)] at e
      have : j = as.length := by
        have := (List.getElem?_eq_some_iff.mp e).1
        simp at this
        omega
      subst this
      rw [Nat.sub_self] at e
      cases e
      exact ⟨x, y, hx, hy, hp⟩
abbrev lstAt (h : Heap) (S : Addr) (as : List Addr) (c : Nat) : Prop := h.get? S = some { cls := .type "list", dict := none, data := .seq (as.map Value.ref).toArray c, slots := #[] }
theorem z_loop {R : Result → Shared → Prop} {lo : Addr} (res : Value) (hh : A.handled = none) (D : ZipApart z TI TO i1 i2 l1 l2) (O : ZOff S z TI TO i1 i2 l1 l2) (hlo : S < lo ∧ z < lo ∧ TO < lo ∧ i1 < lo ∧ i2 < lo) (hs : xs.size = ys.size) (hn : xs.size ≤ sizeLine) :
    ∀ (m : Nat) (as : List Addr) (s : Shared) (c : Nat), xs.size - as.length = m → as.length ≤ xs.size → lo ≤ s.heap.objs.size → ZAt s.heap S z TI TO i1 i2 l1 l2 xs ys as.length → lstAt s.heap S as c → ZAcc s.heap lo xs ys as →
      (∀ h' as' c', (∀ b o, b ≠ S → b ≠ z → b ≠ TO → b ≠ i1 → b ≠ i2 → s.heap.get? b = some o → h'.get? b = some o) → lstAt h' S as' c' → as'.length = xs.size → ZAcc h' lo xs ys as' → R (.ok (.ret res)) { s with heap := h' }) →
      codeAny (model prog w) A (.builtin "list.extend.loop" ⟨[.ref S, .ref z, res], []⟩) R s := by
  obtain ⟨o1, o2, o3, o4, o5⟩ := hlo
  intro m
  induction m with
  | zero =>
    intro as s c hm hle hlow Z hS C hR
    have hl : as.length = xs.size := by omega
    refine codeAny_builtin F.entry_extend_loop ?_
    rw [Around.under_plainId F.plain_extend_loop _]
    show wpAny _ A.in1 (pyNext (.ref z) >>= _) _ _ s
    refine wpAny_bind (z_end hh D Z (by rw [hl]; simp) fun h' hk => wpAny_pure (hR h' as c (fun b o _ b2 b3 b4 b5 e => hk b o b2 b3 b4 b5 e) (hk _ _ O.z.symm O.tO.symm O.i1.symm O.i2.symm hS) hl (C.keep fun b o hb e => hk b o ?_ ?_ ?_ ?_ e)))
    · exact Nat.ne_of_gt (Nat.lt_of_lt_of_le o2 hb)
    · exact Nat.ne_of_gt (Nat.lt_of_lt_of_le o3 hb)
    · exact Nat.ne_of_gt (Nat.lt_of_lt_of_le o4 hb)
    · exact Nat.ne_of_gt (Nat.lt_of_lt_of_le o5 hb)
  | succ m ih =>
    intro as s c hm hle hlow Z hS C hR
    have hlt : as.length < xs.size := by omega
    have hlt2 : as.length < ys.size := by omega
    refine codeAny_builtin F.entry_extend_loop ?_
    rw [Around.under_plainId F.plain_extend_loop _]
    show wpAny _ A.in1 (pyNext (.ref z) >>= _) _ _ s
    have hx : xs[as.length]? = some xs[as.length] := Array.getElem?_eq_getElem hlt
    have hy : ys[as.length]? = some ys[as.length] := Array.getElem?_eq_getElem hlt2
    refine wpAny_bind (z_item D (Nat.lt_of_lt_of_le o1 hlow) Z hx hy fun h1 Z1 hp hk => ?_)
    have hS1 : lstAt h1 S as c := hk _ _ O.z.symm O.tO.symm O.i1.symm O.i2.symm hS
    have C1 : ZAcc h1 lo xs ys as := C.keep fun b o hb e => hk b o (Nat.ne_of_gt (Nat.lt_of_lt_of_le o2 hb)) (Nat.ne_of_gt (Nat.lt_of_lt_of_le o3 hb)) (Nat.ne_of_gt (Nat.lt_of_lt_of_le o4 hb)) (Nat.ne_of_gt (Nat.lt_of_lt_of_le o5 hb)) e
    have below : ∀ b ∈ as, b < s.heap.objs.size := fun b hb => by
      obtain ⟨j, hj⟩ := List.getElem?_of_mem hb
      obtain ⟨_, _, _, _, e⟩ := C.pr j b hj
      exact Heap.lt_size e
    have C2 : ZAcc h1 lo xs ys (as ++ [s.heap.objs.size]) := C1.push hlow below hx hy hp
    show wpAny _ A.in1 (updateSeq S (·.push (Value.ref s.heap.objs.size)) >>= _) _ _ _
    refine wpAny_bind ?_
    have big : lo ≤ h1.objs.size := Nat.le_trans hlow (Nat.le_of_lt (Heap.lt_size hp))
    have oth : ∀ b o, b ≠ S → h1.get? b = some o → (h1.update S (Obj.mapSeq (·.push (Value.ref s.heap.objs.size)))).get? b = some o := fun b o hb e => (Heap.get?_update_other _ _ (Ne.symm hb)).trans e
    have el : (as ++ [s.heap.objs.size]).length = as.length + 1 := by rw [List.length_append]; rfl
    have key : ∀ c2, lstAt (h1.update S (Obj.mapSeq (·.push (Value.ref s.heap.objs.size)))) S (as ++ [s.heap.objs.size]) c2 → codeAny (model prog w) A (.builtin "list.extend.loop" ⟨[.ref S, .ref z, res], []⟩) R { s with heap := h1.update S (Obj.mapSeq (·.push (Value.ref s.heap.objs.size))) } := fun c2 hS2 => by
      refine ih (as ++ [s.heap.objs.size]) _ c2 (by rw [el]; omega) (by rw [el]; omega) ?_ (by rw [el]; exact Z1.keep O oth) hS2 (C2.keep fun b o hb e => oth b o (Nat.ne_of_gt (Nat.lt_of_lt_of_le o1 hb)) e) fun h' as' c' hk' hl' hn' C' => ?_
      · show lo ≤ (h1.update S _).objs.size
        exact Nat.le_trans hlow (Nat.le_of_lt (Heap.lt_size (oth _ _ (Nat.ne_of_gt (Nat.lt_of_lt_of_le o1 hlow)) hp)))
      · exact hR h' as' c' (fun b o b1 b2 b3 b4 b5 e => hk' b o b1 b2 b3 b4 b5 (oth b o b1 (hk b o b2 b3 b4 b5 e))) hl' hn' C'
    obtain ⟨c2, hS2⟩ : ∃ c2, lstAt (h1.update S (Obj.mapSeq (·.push (Value.ref s.heap.objs.size)))) S (as ++ [s.heap.objs.size]) c2 := by
      have e := Heap.get?_update_self (Obj.mapSeq (·.push (Value.ref s.heap.objs.size))) hS1 rfl
      simp only [Obj.mapSeq] at e
      have ea : ((as ++ [s.heap.objs.size]).map Value.ref).toArray = (as.map Value.ref).toArray.push (Value.ref s.heap.objs.size) := by simp
      refine ⟨if (((as.map Value.ref).toArray.push (Value.ref s.heap.objs.size)).size == (as.map Value.ref).toArray.size) = true then c else c + 1, ?_⟩
      unfold lstAt
      rw [ea]
      exact e
    refine wpAny_updateSeq hS1 rfl (wpAny_pure ⟨plainId_quiet F.plain_extend_loop _, key _ hS2⟩) ?_ ?_
    · simp
      omega
    · show ((as.map Value.ref).toArray.push _).size ≤ sizeLine + 1
      simp
      omega
theorem z_extend {R : Result → Shared → Prop} {lo c0 : Nat} (res : Value) (hh : A.handled = none) (D : ZipApart z TI TO i1 i2 l1 l2) (O : ZOff S z TI TO i1 i2 l1 l2) (hlo : S < lo ∧ z < lo ∧ TO < lo ∧ i1 < lo ∧ i2 < lo) (hs : xs.size = ys.size) (hn : xs.size ≤ sizeLine)
    (hlow : lo ≤ s.heap.objs.size) (hz : IsZip s.heap z TI TO .none) (Z : ZAt s.heap S z TI TO i1 i2 l1 l2 xs ys 0) (hS : lstAt s.heap S [] c0)
    (hR : ∀ h' as' c', (∀ b o, b ≠ S → b ≠ z → b ≠ TO → b ≠ i1 → b ≠ i2 → s.heap.get? b = some o → h'.get? b = some o) → lstAt h' S as' c' → as'.length = xs.size → ZAcc h' lo xs ys as' → R (.ok (.ret res)) { s with heap := h' }) :
    wpAny (model prog w) A.in1 (Builtin.List.listExtendWith (.ref S) (.ref z) res)
      (fun fin s' => match fin with | .done f => R (.ok f) s' | .again c' => c'.quiet = true ∧ codeAny (model prog w) A c' R s') (fun e s' => R (.error e) s') s := by
  have t1 : Builtin.List.listSameRef (.ref S) (.ref z) = false := by
    have := O.z.symm
    simp [Builtin.List.listSameRef, this]
  have t2 : (Value.type "zip" == Value.type "list") = false := by decide
  have t3 : (Value.type "zip" == Value.type "tuple") = false := by decide
  have hTz : s.TypeIs (.ref z) "zip" := ⟨_, hz, rfl⟩
  unfold Builtin.List.listExtendWith; refine wpAny_bind (wpAny_typeOf hTz ?_)
  simp only [t1, t2, t3, Bool.or_false, Bool.false_eq_true, if_false]
  refine wpAny_bind (wpAny_pyIter_zip hz (wpAny_bind (wpAny_holding ?_)))
  unfold Builtin.List.listLengthHint; refine wpAny_bind (wpAny_specialOf hTz zip_nolen ?_)
  show wpAny _ A.in1 (specialOf (Value.ref z) (Str.ofString "__length_hint__") >>= _) _ _ _
  refine wpAny_bind (wpAny_specialOf hTz zip_nohint (wpAny_pure ?_))
  show wpAny _ A.in1 (rule "list.extend.makes-room" >>= fun _ => Builtin.List.listTouch (.ref S) >>= fun _ => again (.builtin "list.extend.loop" ⟨[.ref S, .ref z, res], []⟩)) _ _ _
  refine wpAny_bind (wpAny_rule (wpAny_bind ?_))
  show wpAny _ A.in1 (updateSeq S (·.push .none) >>= fun _ => updateSeq S (·.pop)) _ _ _
  refine wpAny_bind (wpAny_updateSeq hS rfl ?_ (by decide) (by simp))
  have g2 := Heap.get?_update_self (Obj.mapSeq (·.push Value.none)) hS rfl
  refine wpAny_updateSeq g2 rfl ?_ (by simp [Obj.mapSeq]; decide) (by simp)
  have g3 := Heap.get?_update_self (Obj.mapSeq (·.pop)) g2 rfl
  have oth : ∀ b o, b ≠ S → s.heap.get? b = some o → ((s.heap.update S (Obj.mapSeq (·.push Value.none))).update S (Obj.mapSeq (·.pop))).get? b = some o :=
    fun b o hb e => (Heap.get?_update_other _ _ (Ne.symm hb)).trans ((Heap.get?_update_other _ _ (Ne.symm hb)).trans e)
  have big : lo ≤ ((s.heap.update S (Obj.mapSeq (·.push Value.none))).update S (Obj.mapSeq (·.pop))).objs.size := by
    simp only [Heap.size_update]
    exact hlow
  obtain ⟨c2, g4⟩ : ∃ c2, lstAt ((s.heap.update S (Obj.mapSeq (·.push Value.none))).update S (Obj.mapSeq (·.pop))) S [] c2 := by
    simp only [Obj.mapSeq] at g3
    exact ⟨_, g3⟩
  refine wpAny_pure ⟨plainId_quiet F.plain_extend_loop _, z_loop res hh D O hlo hs hn xs.size [] _ c2 rfl (Nat.zero_le _) big (Z.keep O oth) g4 ⟨.nil, fun a h => (by cases h), fun j a h => (by simp at h)⟩ fun h' as' c' hk hl' hn' C' => ?_⟩
  exact hR h' as' c' (fun b o b1 b2 b3 b4 b5 e => hk b o b1 b2 b3 b4 b5 (oth b o b1 e)) hl' hn' C'
theorem z_init {R : Result → Shared → Prop} {lo : Nat} (hh : A.handled = none) (D : ZipApart z TI TO i1 i2 l1 l2) (O : ZOff S z TI TO i1 i2 l1 l2) (hlo : S < lo ∧ z < lo ∧ TO < lo ∧ i1 < lo ∧ i2 < lo) (hs : xs.size = ys.size) (hn : xs.size ≤ sizeLine)
    (hlow : lo ≤ s.heap.objs.size) (hz : IsZip s.heap z TI TO .none) (Z : ZAt s.heap S z TI TO i1 i2 l1 l2 xs ys 0) (hS : lstAt s.heap S [] 0)
    (hR : ∀ h' as' c', (∀ b o, b ≠ S → b ≠ z → b ≠ TO → b ≠ i1 → b ≠ i2 → s.heap.get? b = some o → h'.get? b = some o) → lstAt h' S as' c' → as'.length = xs.size → ZAcc h' lo xs ys as' → R (.ok (.ret .none)) { s with heap := h' }) :
    wpAny (model prog w) A.in1 (Builtin.«list.__init__» ⟨[.ref S, .ref z], []⟩)
      (fun fin s' => match fin with | .done f => R (.ok f) s' | .again c' => c'.quiet = true ∧ codeAny (model prog w) A c' R s') (fun e s' => R (.error e) s') s := by
  show wpAny _ A.in1 (do let old ← Builtin.List.listItems (.ref S); Builtin.List.listUpdate (.ref S) (fun _ => #[]); letGo old.toList.reverse; Builtin.List.listExtendWith (.ref S) (.ref z) .none) _ _ s
  refine wpAny_bind ?_
  unfold Builtin.List.listItems; refine wpAny_bind (wpAny_seqItems hS rfl (wpAny_pure ?_))
  show wpAny _ A.in1 (updateSeq S (fun _ => #[]) >>= fun _ => letGo (#[] : Array Value).toList.reverse >>= fun _ => Builtin.List.listExtendWith (.ref S) (.ref z) .none) _ _ s
  refine wpAny_bind (wpAny_updateSeq hS rfl ?_ (by decide) (by simp))
  have g2 := Heap.get?_update_self (Obj.mapSeq (fun _ => (#[] : Array Value))) hS rfl
  have oth : ∀ b o, b ≠ S → s.heap.get? b = some o → (s.heap.update S (Obj.mapSeq (fun _ => (#[] : Array Value)))).get? b = some o := fun b o hb e => (Heap.get?_update_other _ _ (Ne.symm hb)).trans e
  refine wpAny_bind (wpAny_letGo ?_)
  obtain ⟨c2, g4⟩ : ∃ c2, lstAt (s.heap.update S (Obj.mapSeq (fun _ => (#[] : Array Value)))) S [] c2 := by
    simp only [Obj.mapSeq] at g2
    exact ⟨_, g2⟩
  refine z_extend .none hh D O hlo hs hn (by simp only [Heap.size_update]; exact hlow) (oth _ _ O.z hz) (Z.keep O oth) g4 fun h' as' c' hk hl' hn' C' => ?_
  exact hR h' as' c' (fun b o b1 b2 b3 b4 b5 e => hk b o b1 b2 b3 b4 b5 (oth b o b1 e)) hl' hn' C'
/-- list(a zip that stands new) -/
theorem z_list {Q : Value → Shared → Prop} (hh : A.handled = none) (D : ZipApart z TI TO i1 i2 l1 l2) (hs : xs.size = ys.size) (hn : xs.size ≤ sizeLine) (hz : IsZip s.heap z TI TO .none) (hTI : IsPair s.heap TI (.ref i1) (.ref i2)) (hTO : ∃ a b, IsPair s.heap TO a b)
    (h1 : s.heap.IsListIter i1 l1 0) (h2 : s.heap.IsListIter i2 l2 0) (hl1 : s.heap.IsList l1 xs) (hl2 : s.heap.IsList l2 ys)
    (hQ : ∀ h' as' c', (∀ b o, b ≠ z → b ≠ TO → b ≠ i1 → b ≠ i2 → s.heap.get? b = some o → h'.get? b = some o) → lstAt h' s.heap.objs.size as' c' → as'.length = xs.size → ZAcc h' (s.heap.objs.size + 1) xs ys as' → Q (.ref s.heap.objs.size) { s with heap := h' }) :
    wpAny (model prog w) A (call (.type "list") [.ref z]) Q E s := by
  have ltz := Heap.lt_size hz
  have ltT := Heap.lt_size hTI
  have ltO : TO < s.heap.objs.size := by
    obtain ⟨_, _, e⟩ := hTO
    exact Heap.lt_size e
  have lt1 : i1 < s.heap.objs.size := by
    obtain ⟨_, e, _⟩ := h1
    exact Heap.lt_size e
  have lt2 : i2 < s.heap.objs.size := by
    obtain ⟨_, e, _⟩ := h2
    exact Heap.lt_size e
  have ll1 : l1 < s.heap.objs.size := by
    obtain ⟨_, e, _⟩ := hl1
    exact Heap.lt_size e
  have ll2 : l2 < s.heap.objs.size := by
    obtain ⟨_, e, _⟩ := hl2
    exact Heap.lt_size e
  have O : ZOff s.heap.objs.size z TI TO i1 i2 l1 l2 := ⟨Nat.ne_of_lt ltz, Nat.ne_of_lt ltT, Nat.ne_of_lt ltO, Nat.ne_of_lt lt1, Nat.ne_of_lt lt2, Nat.ne_of_lt ll1, Nat.ne_of_lt ll2⟩
  refine callType_codes (Q₁ := fun obj s₁ => obj = .ref s.heap.objs.size ∧ s₁ = { s with heap := s.heap.push { cls := .type "list", data := .seq #[] } }) F.called_list (F.typeCall_list_1 _) F.entry_list_init (code_list_new _ ⟨rfl, rfl⟩) fun obj s₁ g1 => ?_
  obtain ⟨rfl, rfl⟩ := g1
  have hS : (s.heap.push { cls := .type "list", data := .seq #[] }).get? s.heap.objs.size = some { cls := .type "list", data := .seq #[] } := Heap.get?_push_size _ rfl
  have up : ∀ b o, s.heap.get? b = some o → (s.heap.push { cls := .type "list", data := .seq #[] }).get? b = some o := fun b o e => Heap.get?_push_of_some _ e
  obtain ⟨a, b, ho⟩ := hTO
  have Z : ZAt (s.heap.push { cls := .type "list", data := .seq #[] }) s.heap.objs.size z TI TO i1 i2 l1 l2 xs ys 0 := ⟨.inl (up _ _ hz), up _ _ hTI, ⟨a, b, up _ _ ho⟩, h1.at fun o e => up _ o e, h2.at fun o e => up _ o e, hl1.at fun o e => up _ o e, hl2.at fun o e => up _ o e⟩
  refine ⟨⟨_, hS, rfl⟩, F.args_list_init_2 _ _, z_init (lo := s.heap.objs.size + 1) hh D O ⟨Nat.lt_succ_self _, Nat.lt_succ_of_lt ltz, Nat.lt_succ_of_lt ltO, Nat.lt_succ_of_lt lt1, Nat.lt_succ_of_lt lt2⟩ hs hn (by rw [Heap.size_push]; exact Nat.le_refl _) (up _ _ hz) Z hS fun h' as' c' hk hl' hn' C' => ?_⟩
  exact ⟨rfl, hQ h' as' c' (fun b o b2 b3 b4 b5 e => hk b o (Nat.ne_of_lt (Heap.lt_size e)) b2 b3 b4 b5 (up b o e)) hl' hn' C'⟩
end
end DL

set_option maxHeartbeats 4000000
/-! list(zip(x, y)): the new list of new pairs -/
namespace DL
open PySem PySem.Spec PyProof.Rows L2
def layP (H : Hp) : List Addr → List V → List V → Hp
  | a :: as, x :: xs, y :: ys => layP (upd H a (.tup [x, y])) as xs ys
  | _, _, _ => H
section
variable {X : Cx} {pins : List (Addr × Obj)} {σ : L2.St} {s : Shared}
theorem lay_pairs {h' : Heap} : ∀ (as : List Addr) (xs ys : List V) (us ws : List Value) (H : Hp) (g : Heap), Inv X pins σ H { s with heap := g } → (∀ b o, g.get? b = some o → h'.get? b = some o) → Vals xs us → Vals ys ws → as.length = xs.length → as.length = ys.length → as.Nodup →
    (∀ a ∈ as, g.get? a = none ∧ H a = none) → (∀ (j : Nat) (a : Addr), as[j]? = some a → ∃ u w, us[j]? = some u ∧ ws[j]? = some w ∧ IsPair h' a u w) →
    ∃ g', (∀ b o, g'.get? b = some o → h'.get? b = some o) ∧ (∀ b, b ∉ as → g'.get? b = g.get? b) ∧ Inv X pins σ (layP H as xs ys) { s with heap := g' } ∧ ∀ p, p ∉ as → layP H as xs ys p = H p
  | [], xs, ys, us, ws, H, g, I, hk, _, _, _, _, _, _, _ => ⟨g, hk, fun _ _ => rfl, I, fun _ _ => rfl⟩
  | a :: as, [], ys, us, ws, H, g, I, hk, _, _, e, _, _, _, _ => by cases e
  | a :: as, x :: xs, [], us, ws, H, g, I, hk, _, _, _, e, _, _, _ => by cases e
  | a :: as, x :: xs, y :: ys, us, ws, H, g, I, hk, vx, vy, e1, e2, nd, fr, pr => by
    cases vx with
    | @cons _ u _ us rx vx =>
      cases vy with
      | @cons _ v _ ws ry vy =>
        obtain ⟨nin, nd⟩ := List.nodup_cons.mp nd
        obtain ⟨ga, ha⟩ := fr a List.mem_cons_self
        obtain ⟨u', w', eu, ew, pa⟩ := pr 0 a rfl
        cases eu
        cases ew
        obtain ⟨G, k1, k2⟩ := restrict h' fun b => (g.get? b).isSome || decide (b = a)
        have gk : ∀ b o, g.get? b = some o → G.get? b = some o := fun b o e => by
          rw [k1 b (by rw [e]; rfl)]
          exact hk b o e
        have Ga : G.get? a = some { cls := .type "tuple", data := .seq #[u, v] } := by
          rw [k1 a (by rw [decide_eq_true rfl, Bool.or_true])]
          exact pa
        have Gs : ∀ b o, G.get? b = some o → h'.get? b = some o := fun b o e => by
          cases q : ((g.get? b).isSome || decide (b = a)) with
          | true => rw [k1 b q] at e; exact e
          | false => rw [k2 b q] at e; cases e
        have Gn : ∀ b, b ≠ a → G.get? b = g.get? b := fun b hb => by
          cases q : g.get? b with
          | some o => exact gk b o q
          | none => exact k2 b (by rw [q, decide_eq_false hb]; rfl)
        have I2 : Inv X pins σ (upd H a (.tup [x, y])) { s with heap := G } := Inv.laidN (s := { s with heap := g }) (h' := G) (t' := s.toks) I gk ga ha ⟨show 2 ≤ sizeLine by decide, [u, v], .cons rx (.cons ry .nil), ⟨_, Ga, rfl, _, rfl⟩⟩
        obtain ⟨g', f1, f2, f3, f4⟩ := lay_pairs as xs ys us ws (upd H a (.tup [x, y])) G I2 Gs vx vy (Nat.succ.inj e1) (Nat.succ.inj e2) nd (fun b hb => by
          have hne : b ≠ a := fun z => nin (z ▸ hb)
          obtain ⟨q1, q2⟩ := fr b (List.mem_cons_of_mem _ hb)
          exact ⟨by rw [Gn b hne]; exact q1, by rw [upd_ne hne]; exact q2⟩) fun j b hb => pr (j + 1) b hb
        refine ⟨g', f1, fun b hb => ?_, f3, fun p hp => ?_⟩
        · rw [f2 b fun z => hb (List.mem_cons_of_mem _ z)]
          exact Gn b fun z => hb (z ▸ List.mem_cons_self)
        · show layP (upd H a (.tup [x, y])) as xs ys p = _
          rw [f4 p fun z => hp (List.mem_cons_of_mem _ z), upd_ne (show p ≠ a from fun z => hp (by rw [z]; exact List.mem_cons_self))]
end
/-- the new list of pairs -/
def tLstZip (K : PySem.W.Frag) (ta : TA) : TE := fun σ H Q => ta σ H fun vs H1 => ∃ a b xs ys, vs = [.ref a, .ref b] ∧ SqL K H1 a xs ∧ SqL K H1 b ys ∧ xs.length = ys.length ∧
  ∀ (as : List Addr) (p : Addr), as.length = xs.length → as.Nodup → (∀ c ∈ as, H1 c = none) → H1 p = none → p ∉ as → Q (.ref p) (upd (layP H1 as xs ys) p (.lst (as.map V.ref)))
theorem valsOfRefs : ∀ (as : List Addr), Vals (as.map V.ref)  (as.map Value.ref)
  | [] => .nil
  | a :: as => .cons rfl (valsOfRefs as)
theorem vals_len : ∀ {xs : List V} {us : List Value}, Vals xs us → xs.length = us.length
  | _, _, .nil => rfl
  | _, _, .cons _ r => by rw [List.length_cons, List.length_cons, vals_len r]
section
variable {X : Cx}
theorem pe_lstZip {e e2 : Expr} {ta : TA} {p1 p2 p3 p4 : Pos} (hc : X.calm = true) (hg : Gl X "list") (hm : X.mg "list" = none) (hg2 : Gl X "zip") (hm2 : X.mg "zip" = none) (ha : PA X [e, e2] ta)
    (hs : starEach [e, e2] X.env = (false, eval e X.env) :: starEach [e2] X.env) (hpl : (backTo p3 (starEach [e2] X.env)).any (·.1) = false)
    (na : starEach [.Call (.Name "zip" p2) [e, e2] [] p3] X.env = (false, eval (.Call (.Name "zip" p2) [e, e2] [] p3) X.env) :: starEach [] X.env) :
    PE X (.Call (.Name "list" p1) [.Call (.Name "zip" p2) [e, e2] [] p3] [] p4) (tLstZip X.K ta) := by
  refine ⟨fun pins s σ H Q I h => ?_⟩
  have inner : wpAny (model X.prog X.w) X.A (eval (.Call (.Name "zip" p2) [e, e2] [] p3) X.env) (fun x s1 => ∃ (s0 : Shared) (H1 : Hp) (z TI TO i1 i2 a b : Addr) (xs ys : List V) (us ws : List Value) (h1 : Heap), x = .ref z ∧ s1 = { s0 with heap := h1 } ∧ Inv X pins σ H1 s0 ∧ (∀ c o, s0.heap.get? c = some o → h1.get? c = some o) ∧ s0.heap.objs.size ≤ z ∧ s0.heap.objs.size ≤ TO ∧ s0.heap.objs.size ≤ i1 ∧ s0.heap.objs.size ≤ i2 ∧
      ZipApart z TI TO i1 i2 a b ∧ IsZip h1 z TI TO .none ∧ IsPair h1 TI (.ref i1) (.ref i2) ∧ (∃ a b, IsPair h1 TO a b) ∧ h1.IsListIter i1 a 0 ∧ h1.IsListIter i2 b 0 ∧ h1.IsList a us.toArray ∧ h1.IsList b ws.toArray ∧ Vals xs us ∧ Vals ys ws ∧ xs.length ≤ sizeLine ∧ xs.length = ys.length ∧
      ∀ (as : List Addr) (p : Addr), as.length = xs.length → as.Nodup → (∀ c ∈ as, H1 c = none) → H1 p = none → p ∉ as → Q (.ref p) (upd (layP H1 as xs ys) p (.lst (as.map V.ref)))) X.xe s := by
    refine Call_ (ld_blt I hg2 hm2 PyProof.Rows.boot_zip (PyProof.Rows.callWith_type1 (thn (ha.run p3 pins s σ H _ I h) fun us s1 ⟨vs, H1, I1, r1, q1⟩ => ?_) hs hpl))
    obtain ⟨a, b, xs, ys, ex, qx, qy, hl, q⟩ := q1
    subst ex
    cases r1 with
    | cons r rr =>
      cases rr with
      | cons r' rr =>
        cases rr
        cases r
        cases r'
        obtain ⟨its, rv, pl1, z1⟩ := I1.list qx
        obtain ⟨its2, rv2, pl2, _⟩ := I1.list qy
        refine call_zip_2 pl1.isList pl2.isList fun h' hz hTI hTO h1 h2 hsz hk => ?_
        exact ⟨s1, H1, _, _, _, _, _, a, b, xs, ys, its, its2, h', rfl, rfl, I1, hk, Nat.le_add_right _ _, Nat.le_add_right _ _, Nat.le_refl _, Nat.le_add_right _ _, PySem.W.ktu_apart s1.heap.objs.size a b pl1.lt pl2.lt, hz, hTI, ⟨_, _, hTO⟩, h1, h2, pl1.isList.at fun o e => hk _ o e, pl2.isList.at fun o e => hk _ o e, rv, rv2, z1, hl, q⟩
  refine Call_ (ld_blt I hg hm PyProof.Rows.boot_list (PyProof.Rows.callWith_type1 (args_cons (thn inner fun x s1 ⟨s0, H1, z, TI, TO, i1, i2, a, b, xs, ys, us, ws, h1, ex, es, I1, hk, bz, bO, b1, b2, D, hz, hTI, hTO, g1, g2, la, lb, vx, vy, hsz, hl, q⟩ => args_nil ?_) na) na))
  subst ex
  subst es
  have lu := vals_len vx
  have lw := vals_len vy
  refine z_list (I1.ok.hd hc) D (by simp; omega) (by simp; omega) hz hTI hTO g1 g2 la lb fun h' as c' hk' hS hn C => ?_
  have hn : as.length = xs.length := by rw [hn, lu]; simp
  have new : ∀ c, s0.heap.objs.size ≤ c → s0.heap.get? c = none := fun c hc => by
    cases q : s0.heap.get? c with
    | none => rfl
    | some o => exact absurd (Nat.lt_of_lt_of_le (Heap.lt_size q) hc) (Nat.lt_irrefl _)
  have sz01 : s0.heap.objs.size ≤ h1.objs.size := Nat.le_trans bz (Nat.le_of_lt (Heap.lt_size hz))
  have old : ∀ c o, s0.heap.get? c = some o → h'.get? c = some o := fun c o e => by
    have lt := Heap.lt_size e
    exact hk' c o (Nat.ne_of_lt (Nat.lt_of_lt_of_le lt bz)) (Nat.ne_of_lt (Nat.lt_of_lt_of_le lt bO)) (Nat.ne_of_lt (Nat.lt_of_lt_of_le lt b1)) (Nat.ne_of_lt (Nat.lt_of_lt_of_le lt b2)) (hk c o e)
  have nd : as.Nodup := C.rise.imp fun h => Nat.ne_of_lt h
  have hi : ∀ c ∈ as, s0.heap.objs.size ≤ c := fun c hc => Nat.le_trans sz01 (Nat.le_trans (Nat.le_succ _) (C.low c hc))
  have pn : h1.objs.size ∉ as := fun hc => absurd (C.low _ hc) (Nat.not_succ_le_self _)
  obtain ⟨g', f1, f2, f3, f4⟩ := lay_pairs (X := X) (pins := pins) (σ := σ) (s := s0) (h' := h') as xs ys us ws H1 s0.heap I1 old vx vy hn (by rw [hn, hl]) nd (fun c hc => ⟨new c (hi c hc), I1.hok.fresh (hi c hc)⟩) fun j c hj => by
    obtain ⟨u, w, e1, e2, e3⟩ := C.pr j c hj
    exact ⟨u, w, by simpa using e1, by simpa using e2, e3⟩
  have Hp0 : H1 h1.objs.size = none := I1.hok.fresh sz01
  have I3 := Inv.laidN (t' := s0.toks) f3 (a := h1.objs.size) (o := .lst (as.map V.ref)) f1 (by rw [f2 _ pn]; exact new _ sz01) (by rw [f4 _ pn]; exact Hp0) ⟨by rw [List.length_map, hn]; exact hsz, as.map Value.ref, c', valsOfRefs as, hS⟩
  exact ⟨.ref h1.objs.size, _, I3, rfl, q as h1.objs.size hn nd (fun c hc => I1.hok.fresh (hi c hc)) Hp0 pn⟩
end
section
variable {K : PySem.W.Frag} {T : List (Addr × Str)} {m : List Addr} {S : Sto}
abbrev pairsD (xs ys : List D) : List D := List.zipWith (fun x y => D.tup [x, y]) xs ys
theorem lay_tell : ∀ (as : List Addr) (xs ys : List D) (vx vy : List V) (G H : Hp), Rp K T m S G H → DRs K m G xs vx → DRs K m G ys vy → as.length = vx.length → as.length = vy.length → as.Nodup → (∀ c ∈ as, H c = none) →
    ∃ G', Rp K T m S G' (layP H as vx vy) ∧ Stp m G H m G' (layP H as vx vy) ∧ DRs K m G' (pairsD xs ys) (as.map V.ref) ∧ ∀ p, p ∉ as → layP H as vx vy p = H p
  | [], xs, ys, vx, vy, G, H, hp, dx, dy, e1, e2, _, _ => by
    cases dx with
    | nil => exact ⟨G, hp, .refl, .nil, fun _ _ => rfl⟩
    | cons _ _ => cases e1
  | a :: as, xs, ys, vx, vy, G, H, hp, dx, dy, e1, e2, nd, fr => by
    cases dx with
    | nil => cases e1
    | @cons x u xs us rx dx =>
      cases dy with
      | nil => cases e2
      | @cons y v ys ws ry dy =>
        obtain ⟨nin, nd⟩ := List.nodup_cons.mp nd
        obtain ⟨r1, r2⟩ := hp.new (o := .tup [u, v]) (fr a List.mem_cons_self)
        obtain ⟨G', f1, f2, f3, f4⟩ := lay_tell as xs ys us ws _ _ r1 (dx.mono hp r2) (dy.mono hp r2) (Nat.succ.inj e1) (Nat.succ.inj e2) nd fun c hc => by
          rw [upd_ne (show c ≠ a from fun z => nin (by rw [← z]; exact hc))]
          exact fr c (List.mem_cons_of_mem _ hc)
        have da : DR K m (upd G a (.tup [u, v])) (.tup [x, y]) (.ref a) := .tup (SqT.of upd_same) (.cons (rx.mono hp r2) (.cons (ry.mono hp r2) .nil))
        refine ⟨G', f1, r2.trans f2, .cons (da.mono r1 f2) f3, fun p hp => ?_⟩
        show layP (upd H a (.tup [u, v])) as us ws p = _
        rw [f4 p fun z => hp (List.mem_cons_of_mem _ z), upd_ne (show p ≠ a from fun z => hp (by rw [z]; exact List.mem_cons_self))]
theorem drs_len {G : Hp} : ∀ {ds : List D} {vs : List V}, DRs K m G ds vs → ds.length = vs.length
  | _, _, .nil => rfl
  | _, _, .cons _ r => by rw [List.length_cons, List.length_cons, drs_len r]
end
def wLstZip (wa : WA') : WE' := fun env S R Rx => wa env S (fun ds S1 => ∃ (d e : D) (xs ys : List D), ds = [d, e] ∧ itemsL d S1 = some xs ∧ itemsL e S1 = some ys ∧ xs.length = ys.length ∧ R (.lst (pairsD xs ys)) S1) Rx
section
variable {X : Cx} {T : List (Addr × Str)} {W : WX}
theorem pd_lstZip {e e2 : Expr} {wa : WA'} {p1 p2 p3 p4 : Pos} (hc : X.calm = true) (hg : Gl X "list") (hm : X.mg "list" = none) (hg2 : Gl X "zip") (hm2 : X.mg "zip" = none) (ha : PAD X T W [e, e2] wa)
    (hs : starEach [e, e2] X.env = (false, eval e X.env) :: starEach [e2] X.env := by rfl) (hpl : (backTo p3 (starEach [e2] X.env)).any (·.1) = false := by rfl)
    (na : starEach [.Call (.Name "zip" p2) [e, e2] [] p3] X.env = (false, eval (.Call (.Name "zip" p2) [e, e2] [] p3) X.env) :: starEach [] X.env := by rfl) :
    PD X T W (.Call (.Name "list" p1) [.Call (.Name "zip" p2) [e, e2] [] p3] [] p4) (wLstZip wa) := by
  refine pe_imp (pe_lstZip hc hg hm hg2 hm2 ha hs hpl na) fun σ H Q ⟨G, env, S, m, R, Rx, hen, hp, h, hk, hx⟩ => ?_
  refine ⟨G, env, S, m, (fun ds S1 => ∃ (d e : D) (xs ys : List D), ds = [d, e] ∧ itemsL d S1 = some xs ∧ itemsL e S1 = some ys ∧ xs.length = ys.length ∧ R (.lst (pairsD xs ys)) S1), Rx, hen, hp, h, fun ds S1 vs m1 G1 H1 hr s1 p1 dr => ?_, hx⟩
  obtain ⟨d, e, xs, ys, rfl, hx1, hy1, hl, hR⟩ := hr
  cases dr with
  | cons d1 dr =>
    cases dr with
    | cons d2 dr =>
      cases dr
      obtain ⟨a, vx, rfl, qx, dx⟩ := items_at p1 d1 hx1
      obtain ⟨b, vy, rfl, qy, dy⟩ := items_at p1 d2 hy1
      have lx := drs_len dx
      have ly := drs_len dy
      refine ⟨a, b, vx, vy, rfl, qx, qy, by omega, fun as p h1 h2 h3 h4 h5 => ?_⟩
      obtain ⟨G2, f1, f2, f3, f4⟩ := lay_tell as xs ys vx vy _ _ p1 dx dy h1 (by omega) h2 h3
      exact tell_lst f1 (hk.on (s1.trans f2)) f3 hR p (by rw [f4 p h5]; exact h4)
theorem r_lstZip {wa : WA'} {env : Vars} {S : Sto} {R : KR} {Rx : KX} (k : wa env S (fun ds S1 => ∃ (d e : D) (xs ys : List D), ds = [d, e] ∧ itemsL d S1 = some xs ∧ itemsL e S1 = some ys ∧ xs.length = ys.length ∧ R (.lst (pairsD xs ys)) S1) Rx) : wLstZip wa env S R Rx := k
end
end DL

set_option maxHeartbeats 4000000
/-! sum((a, b)), max(xs) -/
namespace DL
open PySem PySem.Spec PyProof.Rows L2
section
variable {prog : Program} {w : World} {A : Around} {E : Value → Shared → Prop} {s : Shared}
theorem sum_pair {p : Addr} {a b : Int} {t u : Tok} {Q : Value → Shared → Prop} (hh : A.handled = none) (hp : s.heap.IsTuple p #[.int a t, .int b u])
    (h : ∀ h' tk t', (∀ b o, s.heap.get? b = some o → h'.get? b = some o) → Q (.int (a + b) t') { s with heap := h', toks := tk }) :
    wpAny (model prog w) A (call (.builtin "sum") [.ref p]) Q E s := by
  have hlt : p < s.heap.objs.size := by
    obtain ⟨_, e, _⟩ := hp
    exact Heap.lt_size e
  have up : ∀ c o, s.heap.get? c = some o → (s.heap.push { cls := .type "tuple_iterator", data := .fields #[.ref p, .int 0 0] }).get? c = some o := fun c o e => Heap.get?_push_of_some _ e
  refine call_sum_walkG (wpAny_pyIter_tuple hp ⟨s.heap.objs.size, _, _, _, _, _, fun i => if i = 0 then a else b, rfl, Walks.tuple (A := A.in1) hh _ p (Nat.ne_of_lt hlt) #[.int a t, .int b u], ⟨⟨_, Heap.get?_push_size _ rfl, rfl, rfl⟩, ?_⟩, fun c hc => ?_, fun i v hv => ?_, fun h' tk t' hk => ?_⟩)
  · obtain ⟨o, e, r⟩ := hp
    exact ⟨o, up _ _ e, r⟩
  · show c < (s.heap.push _).objs.size
    rw [Heap.size_push]
    simp only [List.mem_cons, List.not_mem_nil, or_false] at hc
    rcases hc with rfl | rfl
    · exact Nat.lt_succ_self _
    · exact Nat.lt_succ_of_lt hlt
  · match i, hv with
    | 0, hv =>
      cases hv
      exact ⟨t, rfl⟩
    | 1, hv =>
      cases hv
      exact ⟨u, rfl⟩
  · have := h h' tk t' fun c o e => hk c o (fun hc => by
      rw [List.mem_singleton.mp hc] at e
      exact absurd (Heap.lt_size e) (Nat.lt_irrefl _)) (up c o e)
    have e : preSum (fun i => if i = 0 then a else b) 2 = a + b := by
      simp [preSum]
    show Q (.int (preSum _ 2) t') _
    rw [e]
    exact this
end
section
variable {X : Cx} {T : List (Addr × Str)}
theorem cr_sumP (hc : X.calm = true) : CallR X (.builtin "sum") (fun vs H Q => ∃ (p : Addr) (a b : Int), vs = [V.ref p] ∧ SqT X.K H p [.int a, .int b] ∧ Q (.int (a + b)) H) := by
  intro pins s σ H vs us Q I r ⟨p, a, b, e, hs, q⟩
  subst e
  cases r with
  | cons r rr =>
    cases rr
    cases r
    obtain ⟨its, rv, pt, _⟩ := I.tuple hs
    cases rv with
    | cons r1 rv =>
      cases rv with
      | cons r2 rv =>
        cases rv
        obtain ⟨t, rfl⟩ := r1
        obtain ⟨u, rfl⟩ := r2
        exact sum_pair (I.ok.hd hc) (show s.heap.IsTuple p _ from pt) fun h' tk t' hk => ⟨.int _, H, I.kept hk, ⟨_, rfl⟩, q⟩
def dSumP : FL := fun ds S R => ∃ a b : Int, ds = [.tup [.int a, .int b]] ∧ R (.int (a + b)) S
theorem cD_sumP (hc : X.calm = true) : CallR X (.builtin "sum") (lC X.K T dSumP) := by
  intro pins s σ H vs us Q I r ⟨G, ds, S, m, R, dr, hp, ⟨a, b, e, h⟩, hk⟩
  subst e
  obtain ⟨x, rfl, d1⟩ := one_of dr
  obtain ⟨p, ws, rfl, h3, h4⟩ := tup_at hp d1
  have := ints_vs (ns := [a, b]) h4
  subst this
  exact cr_sumP hc pins s σ H _ us Q I r ⟨p, a, b, rfl, h3, hk.at h hp (.int _)⟩
theorem r_sumP {a b : Int} {S : Sto} {R : KR} (k : R (.int (a + b)) S) : dSumP [.tup [.int a, .int b]] S R := ⟨a, b, rfl, k⟩
def dMaxL : FL := fun ds S R => ∃ (a : D) (ns : List Int), ds = [a] ∧ itemsL a S = some (ns.map D.int) ∧ 0 < ns.length ∧ ∀ m, m ∈ ns → (∀ y, y ∈ ns → y ≤ m) → R (.int m) S
theorem cD_maxL (hc : X.calm = true) : CallR X (.builtin "max") (lC X.K T dMaxL) := by
  intro pins s σ H vs us Q I r ⟨G, ds, S, m, R, dr, hp, ⟨a, ns, e, h1, h2, h⟩, hk⟩
  subst e
  obtain ⟨x, rfl, d1⟩ := one_of dr
  obtain ⟨p, ws, rfl, h3, h4⟩ := items_at hp d1 h1
  have := ints_vs h4
  subst this
  exact cr_max hc pins s σ H _ us Q I r ⟨p, ns, rfl, h3, h2, fun i hi hm => hk.at (h i hi hm) hp (.int _)⟩
theorem r_maxL {ns : List Int} {S : Sto} {R : KR} (h0 : 0 < ns.length) (k : ∀ m, m ∈ ns → (∀ y, y ∈ ns → y ≤ m) → R (.int m) S) : dMaxL [.lst (ns.map D.int)] S R := ⟨_, ns, rfl, rfl, h0, k⟩
end
end DL

set_option maxHeartbeats 4000000
/-! «None in xs» of a list -/
namespace DL
open PySem PySem.Spec PyProof.Rows L2
def dInNL : F2 := fun a b S R => match a, b with
  | .non, .lst xs => xs.all noneD = true ∧ R (.bl (xs.any isNon)) S
  | _, _ => False
section
variable {X : Cx} {T : List (Addr × Str)}
theorem opD_inNL (hu : X.A.units + 64 < cLine) : OpR X (compareOp .In) (lO X.K T dInNL) := by
  intro pins s σ H x y v u Q I rx ry ⟨G, a, b, S, m, R, d1, d2, hp, h, hk⟩
  unfold dInNL at h
  split at h
  · obtain ⟨f, h⟩ := h
    cases d1
    cases rx
    obtain ⟨p, vs, rfl, sq, dr⟩ := items_at hp d2 rfl
    cases ry
    obtain ⟨its, r, pl, _⟩ := I.list sq
    obtain ⟨i1, i2⟩ := noneAll hu I hp dr f r
    refine SeqAt.in_listAt isNonU pl.isList (fun w hw => i1 w (by simpa using hw)) (fin_bl I (hk.at h hp (.bl _)) ?_)
    rw [show its.toArray.any isNonU = its.any isNonU by simp, i2]
  · exact h.elim
end
theorem r_inNoneL {S : Sto} {R : KR} {xs : List D} (h : xs.all noneD = true) (k : R (.bl (xs.any isNon)) S) : dInNL .non (.lst xs) S R := ⟨h, k⟩
end DL

set_option maxHeartbeats 4000000
/-! «a or b» of tuples and None -/
namespace DL
open PySem PySem.Spec PyProof.Rows L2
def truD : D → Option Bool
  | .non => some false
  | .bl b => some b
  | .tup xs => some (!xs.isEmpty)
  | _ => none
def wOrG (wa wb : WE') : WE' := fun env S R Rx => wa env S (fun x S1 => ∃ k, truD x = some k ∧ if k = true then R x S1 else wb env S1 R Rx) Rx
section
variable {X : Cx} {T : List (Addr × Str)} {W : WX} {a b : Expr} {es : List Expr} {pos : Pos} {wa wb : WE'}
theorem pd_orG (ha : PD X T W a wa) (hb : PD X T W (.BoolOp .Or (b :: es) pos) wb) : PD X T W (.BoolOp .Or (a :: b :: es) pos) (wOrG wa wb) := by
  refine pe_imp (pe_orT ha hb) fun σ H Q ⟨G, env, S, m, R, Rx, he, hp, h, hk, hx⟩ => ?_
  refine lE_of he hp h (fun x S1 v m1 G1 H1 ⟨k, hc, h1⟩ s1 p1 d1 => ?_) hx
  have goal : TruV X.K v H1 k := by
    cases x with
    | non =>
      cases d1
      cases hc
      rfl
    | bl b =>
      cases d1
      cases hc
      rfl
    | tup xs =>
      obtain ⟨p, vs, rfl, sq, dr⟩ := tup_at p1 d1
      cases hc
      refine .inr (.inl ⟨vs, sq, ?_⟩)
      cases dr <;> rfl
    | _ => cases hc
  refine ⟨k, goal, ?_⟩
  cases k with
  | true => exact hk x S1 v m1 G1 H1 h1 s1 p1 d1
  | false => exact lE_of (he.mono hp s1) p1 h1 (hk.on s1) (hx.on s1)
theorem r_orG {env : Vars} {S : Sto} {R : KR} {Rx : KX} (k : wa env S (fun x S1 => ∃ k, truD x = some k ∧ if k = true then R x S1 else wb env S1 R Rx) Rx) : wOrG wa wb env S R Rx := k
end
end DL

set_option maxHeartbeats 4000000
namespace DL
open PySem PySem.Spec PyProof.Rows L2
/-! ### lambdas that are kept in a list -/
structure Lm where
  pa : Arguments
  bo : Expr
  sc : Scope
  ps : Pos
abbrev Lm.ex (l : Lm) : Expr := .Lambda l.pa l.bo l.sc l.ps
/-- at f stands the lambda l of a frame with the cells ce, its code object at c -/
def LamO (q : Str) (ce : List (Str × Addr)) (l : Lm) (c f : Addr) : HO := .ext fun h => ∃ pm ctv, h.get? f = some (PySem.W.kla_obj "<lambda>" q l.pa l.bo l.sc (cloFrom ce l.sc.names []) pm c ctv)
theorem lamO_ok {P : Program} {w : World} {H : Hp} {h : Heap} {q : Str} {ce : List (Str × Addr)} {l : Lm} {c f : Addr} {pm ctv : Value} (e : h.get? f = some (PySem.W.kla_obj "<lambda>" q l.pa l.bo l.sc (cloFrom ce l.sc.names []) pm c ctv)) : ObjOk P w H h f (LamO q ce l c f) :=
  ⟨⟨pm, ctv, e⟩, ⟨_, e⟩, fun _ _ ⟨p, v, z⟩ k => ⟨p, v, k _ z⟩⟩
theorem lamO_ne {q : Str} {ce : List (Str × Addr)} {l : Lm} {c f : Addr} : (∀ ps, LamO q ce l c f ≠ .tbl ps) ∧ (∀ vs, LamO q ce l c f ≠ .lst vs) :=
  ⟨(fun _ z => HO.noConfusion (show HO.ext _ = HO.tbl _ from z)), (fun _ z => HO.noConfusion (show HO.ext _ = HO.lst _ from z))⟩
section
variable {X : Cx} {pins : List (Addr × Obj)} {σ : L2.St} {H : Hp} {s : Shared} {T : List (Addr × Str)}
/-- what is known of a lambda of the frame X that stands at f, its code object at c -/
structure LamAt (X : Cx) (H : Hp) (l : Lm) (f c : Addr) : Prop where
  at_ : H f = some (LamO (X.env.qual ++ "<lambda>") X.env.cells l c f)
  code : H c = some (LamX.CodeO c (X.env.qual ++ "<lambda>"))
  fr : f ∉ frs X.stack ∧ f ∉ X.fs
theorem LamAt.ext {l : Lm} {f c : Addr} {H1 : Hp} (h : LamAt X H l f c) (e : LamX.ExtN H H1) : LamAt X H1 l f c :=
  ⟨e _ _ h.at_ lamO_ne.1, e _ _ h.code LamX.codeO_ne, h.fr⟩
theorem lam_new {c P : Addr} {l : Lm} {E Q : Value → Shared → Prop} (I : Inv X pins σ H s) (TB : LamX.TabB X.base X.mg c P) (code : X.env.code = .ref c) (tm : (P, X.env.qual ++ "<lambda>") ∈ T) (tu : ∀ p ∈ T, p.1 = P → p.2 = X.env.qual ++ "<lambda>")
    (tabs : LamX.Tabs T H) (nod : defaultsOf l.pa X.env = ([], [])) (fr : ∀ y ∈ l.sc.names, y.2 = .free → ∃ c, X.env.cells.lookup y.1 = some c)
    (go : ∀ (f c2 : Addr) (H1 : Hp) (s1 : Shared), Inv X pins σ H1 s1 → LamX.ExtN H H1 → LamX.Tabs T H1 → H f = none → LamAt X H1 l f c2 → Q (.ref f) s1) : wpAny (model X.prog X.w) X.A (eval l.ex X.env) Q E s := by
  obtain ⟨ps, tP, tr, known⟩ := tabs _ tm
  dsimp only at tP known
  have hP : s.heap.get? P = some { cls := .none, data := .fields ps } := I.hok P _ tP
  -- the object is laid, and told of
  have lay : ∀ {c2 : Addr} {H1 : Hp} {h1 : Heap} {t1 t2 : Nat} {pm ctv : Value}, s.heap.objs.size ≤ h1.objs.size → Inv X pins σ H1 { s with heap := h1, toks := t1 } → LamX.ExtN H H1 → LamX.Tabs T H1 → H1 c2 = some (LamX.CodeO c2 (X.env.qual ++ "<lambda>")) →
      Q (.ref h1.objs.size) { s with heap := h1.push (PySem.W.kla_obj "<lambda>" (X.env.qual ++ "<lambda>") l.pa l.bo l.sc (cloFrom X.env.cells l.sc.names []) pm c2 ctv), toks := t2 } := by
    intro c2 H1 h1 t1 t2 pm ctv big J x tb hc
    have no : H1 h1.objs.size = none := J.hok.fresh (Nat.le_refl _)
    have J2 := J.laid (a := h1.objs.size) (o := LamO (X.env.qual ++ "<lambda>") X.env.cells l c2 h1.objs.size) (t' := t2) (h' := h1.push (PySem.W.kla_obj "<lambda>" (X.env.qual ++ "<lambda>") l.pa l.bo l.sc (cloFrom X.env.cells l.sc.names []) pm c2 ctv)) (fun b o e => Heap.get?_push_of_some _ e) (Nat.le_refl _) (lamO_ok (Heap.get?_push_size _ rfl))
    have x2 : ∀ b o, H1 b = some o → upd H1 h1.objs.size (LamO (X.env.qual ++ "<lambda>") X.env.cells l c2 h1.objs.size) b = some o := fun b o e => by
      rw [upd_ne (ne_of_none e no)]
      exact e
    refine go _ c2 _ _ J2 (x.trans (.of x2)) (tb.ext x2) (I.hok.fresh big) ⟨upd_same, x2 _ _ hc, fun z => ?_, J.nofs (Nat.le_refl _)⟩
    rcases List.mem_cons.mp (J.stkSub _ z) with e | e
    · have l := J.lt
      rw [← e] at l
      exact absurd l (Nat.lt_irrefl _)
    · exact J.nofs (Nat.le_refl _) e
  refine PySem.W.kla_eval nod ?_
  cases hc : codeAmong l.ps ps.toList with
  | some cv =>
    obtain ⟨c2, rfl, hco⟩ := known l.ps cv hc
    exact PySem.W.kla_makeFunctionHit (closure_ok fr) I.ok.glob (I.mod.glob.keeps I.bk) code (TB.code.keeps I.bk) hP tr hc (TB.bm.keeps I.bk) fun ctv h1 tk k big => lay (t1 := s.toks) big (I.kept k) (.refl H) tabs hco
  | none =>
    refine PySem.W.kla_makeFunction (closure_ok fr) I.ok.glob (I.mod.glob.keeps I.bk) code (TB.code.keeps I.bk) hP tr hc TB.gP (TB.bm.keeps I.bk) fun c2 ctv h1 tk k le lt rec htb => ?_
    obtain ⟨_, oc, vs, t, e2, hoc, hd, hv⟩ := rec
    cases e2
    have nc : H c2 = none := I.hok.fresh le
    have cP : P ≠ c2 := ne_of_none tP nc
    have x : LamX.ExtN H (upd (upd H P (.tbl (ps ++ #[rawInt l.ps.line, rawInt l.ps.col, .ref c2]))) c2 (LamX.CodeO c2 (X.env.qual ++ "<lambda>"))) := fun b o e n => by
      rw [upd_ne (ne_of_none e nc), upd_ne fun z => by rw [z, tP] at e; exact n ps (Option.some.inj e).symm]
      exact e
    refine lay (t1 := s.toks) (Nat.le_trans le (Nat.le_of_lt lt)) (LamX.inv_table (t' := s.toks) I tP k htb le ⟨oc, vs, t, hoc, hd, hv⟩) x (fun p hp => ?_) upd_same
    have tl : (ps ++ #[rawInt l.ps.line, rawInt l.ps.col, .ref c2]).toList = ps.toList ++ [rawInt l.ps.line, rawInt l.ps.col, .ref c2] := by simp
    by_cases hb : p.1 = P
    · rw [tu p hp hb, hb]
      refine ⟨_, by rw [upd_ne cP, upd_same], by rw [tl]; exact PySem.TriplesOk_snoc _ _ _ _ tr, fun at_ cv hcv => ?_⟩
      rw [tl] at hcv
      rcases LamX.among_app _ tr hcv with z | z
      · obtain ⟨c0, e1, e2⟩ := known at_ cv z
        exact ⟨c0, e1, x _ _ e2 LamX.codeO_ne⟩
      · exact ⟨c2, z, upd_same⟩
    · obtain ⟨ps2, a1, a2, a3⟩ := tabs p hp
      refine ⟨ps2, by rw [upd_ne (ne_of_none a1 nc), upd_ne hb]; exact a1, a2, fun at_ cv hcv => ?_⟩
      obtain ⟨c0, e1, e2⟩ := a3 at_ cv hcv
      exact ⟨c0, e1, x _ _ e2 LamX.codeO_ne⟩
/-- lambda: .. as a value -/
def tLamN (X : Cx) (T : List (Addr × Str)) (l : Lm) : TE := fun σ H Q => LamX.Tabs T H ∧ ∀ (f c : Addr) (H1 : Hp), LamX.ExtN H H1 → LamX.Tabs T H1 → H f = none → LamAt X H1 l f c → Q (.ref f) H1
theorem pe_lamN {c P : Addr} {l : Lm} (TB : LamX.TabB X.base X.mg c P) (code : X.env.code = .ref c) (tm : (P, X.env.qual ++ "<lambda>") ∈ T) (tu : ∀ p ∈ T, p.1 = P → p.2 = X.env.qual ++ "<lambda>") (L : LamX.LamS X.env.scope l.sc) (nod : defaultsOf l.pa X.env = ([], [])) :
    PE X l.ex (tLamN X T l) :=
  ⟨fun pins s σ H Q I h => lam_new I TB code tm tu h.1 nod (L.has I.ok) fun f c2 H1 s1 J x tb n a => ⟨.ref f, H1, J, rfl, h.2 f c2 H1 x tb n a⟩⟩
theorem lamO_get {l : Lm} {f c : Addr} {q : Str} {ce : List (Str × Addr)} (I : Inv X pins σ H s) (e : H f = some (LamO q ce l c f)) : ∃ pm ctv, s.heap.get? f = some (PySem.W.kla_obj "<lambda>" q l.pa l.bo l.sc (cloFrom ce l.sc.names []) pm c ctv) := by
  have z : ObjOk X.prog X.w H s.heap f (.ext _) := I.hok f _ e
  exact z.1
/-- no code object is a lambda -/
def Apt (H : Hp) : Prop := ∀ (c f c2 : Addr) (q q2 : Str) (ce : List (Str × Addr)) (l : Lm), H c = some (LamX.CodeO c q) → H f = some (LamO q2 ce l c2 f) → c ≠ f
theorem apt_of (I : Inv X pins σ H s) : Apt H := fun c f c2 q q2 ce l h1 h2 z => by
  obtain ⟨pm, ctv, e⟩ := lamO_get I h2
  have y : ObjOk X.prog X.w H s.heap c (.ext _) := I.hok c _ h1
  obtain ⟨oc, vs, t, e1, e2, _⟩ := y.1
  rw [z, e] at e1
  cases e1
  cases e2
/-- without what stands at these -/
def delL (H : Hp) (fs : List Addr) : Hp := fun b => if b ∈ fs then none else H b
theorem delL_in {fs : List Addr} {b : Addr} (h : b ∈ fs) : delL H fs b = none := if_pos h
theorem delL_out {fs : List Addr} {b : Addr} (h : b ∉ fs) : delL H fs b = H b := if_neg h
/-- the lambdas are no longer told of, but pinned -/
theorem inv_lams {L : List (Lm × Addr × Addr)} (I : Inv X pins σ H s) (hL : ∀ z ∈ L, LamAt X H z.1 z.2.1 z.2.2) :
    ∃ more, Inv X (pins ++ more) σ (delL H (L.map (·.2.1))) s ∧ ∀ z ∈ L, ∃ pm ctv, (z.2.1, PySem.W.kla_obj "<lambda>" (X.env.qual ++ "<lambda>") z.1.pa z.1.bo z.1.sc (cloFrom X.env.cells z.1.sc.names []) pm z.2.2 ctv) ∈ more := by
  have at_ : ∀ f ∈ L.map (·.2.1), ∃ l c, LamAt X H l f c := fun f hf => by
    obtain ⟨z, hz, e⟩ := List.mem_map.mp hf
    exact ⟨z.1, z.2.2, e ▸ hL z hz⟩
  have st : ∀ {b u}, H b = some u → (∀ φ, u ≠ .ext φ) → delL H (L.map (·.2.1)) b = some u := fun {b u} q d => by
    rw [delL_out fun hb => ?_]
    · exact q
    · obtain ⟨l, c, z⟩ := at_ b hb
      rw [z.at_] at q
      exact d _ (Option.some.inj q).symm
  have no : ∀ {b}, H b = none → delL H (L.map (·.2.1)) b = none := fun {b} q => by
    by_cases z : b ∈ L.map (·.2.1)
    · exact delL_in z
    · rw [delL_out z]
      exact q
  have J : Inv X pins σ (delL H (L.map (·.2.1))) s := by
    refine I.un (h' := s.heap) (t' := s.toks) ⟨fun b u q _ _ _ => q, fun b u q _ _ _ => ⟨u.slots, q⟩, fun b u _ q _ => no q, fun b u q _ => ⟨u, q⟩, fun b xs q => st q (fun _ z => by cases z), fun b u v q => st q (fun _ z => by cases z), fun b ps q => ⟨#[], by rw [Array.append_empty]; exact st q (fun _ z => by cases z)⟩⟩ fun b u q => ?_
    have hb : b ∉ L.map (·.2.1) := fun z => by
      rw [delL_in z] at q
      cases q
    rw [delL_out hb] at q
    exact (I.hok b u q).stay (fun _ _ _ z => z) (fun c z => st z (fun _ z => by cases z)) fun c xs z => st z (fun _ z => by cases z)
  refine ⟨pinsAt (L.map (·.2.1)) s.heap, J.pins_of fun p hp => ?_, fun z hz => ?_⟩
  · rcases List.mem_append.mp hp with hp | hp
    · exact J.pin p (List.mem_append_right _ hp)
    · obtain ⟨hb, e⟩ := of_pinsAt hp
      obtain ⟨l, c, a⟩ := at_ _ hb
      obtain ⟨pm, ctv, g⟩ := lamO_get I a.at_
      refine ⟨e, delL_in hb, fun z => ?_, a.fr.2, fun v z => ?_⟩
      · have y := a.at_
        rw [z, I.free] at y
        cases y
      · rw [e] at g
        rw [Option.some.inj g] at z
        cases z
  · obtain ⟨pm, ctv, g⟩ := lamO_get I (hL z hz).at_
    exact ⟨pm, ctv, mem_pinsAt (List.mem_map.mpr ⟨z, hz, rfl⟩) g⟩
/-! ### word(f), f one of them -/
/-- what tries its argument: word -/
structure WordD (X : Cx) (x : Str) (tt : (XK → Hp → VK → Prop) → Hp → VK → Prop) : Prop where
  ex : ∃ (g : Addr) (a : Str) (Ng : List Str) (pg : Arguments) (bg : List Stmt) (sg : Scope) (dV kV doc pm cdv ct oc : Value) (an od : Option Addr) (osl : Array (Option Value)),
    X.mg x = some (.ref g) ∧ PySem.W.keepIn X.K (.ref g) = true ∧ X.K.lookup g = some ⟨oc, od, .func (PySem.W.fnOf x x pg bg sg dV kV doc pm an cdv ct), osl⟩ ∧ PySem.W.codeIn X.K cdv x = true ∧ L2.Binds X.K (PySem.W.fnOf x x pg bg sg dV kV doc pm an cdv ct) [a] [] ∧
    FnScope Ng [a] sg ∧ Ng[0]? = some a ∧ Vis sg a ∧ (a == ("__debug__" : Str)) = false ∧ (a == ("__classdict__" : Str)) = false ∧ LamX.GivesTo X Ng x sg g cdv bg a (X.env.qual ++ "<lambda>") tt
theorem run_word {x : Str} {tt : (XK → Hp → VK → Prop) → Hp → VK → Prop} {k : Nat} {l : Lm} {f c : Addr} {pm2 ctv : Value} {t : XK → TE} {Q : VK} {E : Value → Shared → Prop} (D : WordD X x tt) (I : Inv X pins σ H s)
    (hg : s.heap.get? f = some (PySem.W.kla_obj "<lambda>" (X.env.qual ++ "<lambda>") l.pa l.bo l.sc (cloFrom X.env.cells l.sc.names []) pm2 c ctv)) (fn : H f = none) (afr : f ∉ frs X.stack) (ac : H c = some (LamX.CodeO c (X.env.qual ++ "<lambda>"))) (L : LamX.LamS X.env.scope l.sc) (hr : Room (k + 2) X.A)
    (nob : ∀ (q : Str) (cl : List (Str × Addr)) (pm cv ctv : Value), bindArgs (PySem.W.kla_fn "<lambda>" q l.pa l.bo l.sc cl pm cv ctv) ⟨[], []⟩ = pure [])
    (body : ∀ (A : Around) (outer : List Env) (s : Shared) (H : Hp) (E : XK) (f c' : Addr), Room k (A.deeper (LamX.lamEnv X l.sc s.heap.objs.size f c')) → PE (LamX.lamCx X A outer s H E l.sc f c') l.bo (t E)) (h : tt (fun E H' Q' => t E σ H' Q') H Q) :
    ∃ g, X.mg x = some (.ref g) ∧ PySem.W.keepIn X.K (.ref g) = true ∧ wpAny (model X.prog X.w) X.A (call (.ref g) [.ref f]) (EP X pins σ Q) E s := by
  obtain ⟨g, a0, Ng, pg, bg, sg, dV, kV, doc, pm, cdv, ct, oc, an, od, osl, hm, hk, lk, hcg, hb, Sg, hN, hva, hda, hca, gives⟩ := D.ex
  refine ⟨g, hm, hk, ?_⟩
  refine wpAny_call (codeAny_mono (LamX.run_ofS (CX := C8.CX0) (N := Ng) (ps := [a0]) (us := [.ref f]) (vs := [.ref f]) (Q := Q) (E := C8.E0) lk hcg Sg hr I.env0 (hb s [.ref f] I.kIn rfl) (.cons rfl .nil) rfl fun hr2 => ?_) fun r s2 z => ?_)
  · obtain ⟨u, h1, h2⟩ := gives f c s H Q (fun E H' Q' => t E σ H' Q') (fun W pn xe E p1 p2 tk hW => LamX.pe_act (i := 0) I L hg fn afr (nob _ _ _ _ _) tk hW hr2 (fun A o s H r => body A o s H E f c r) hN hva hda hca) ac h
    exact ⟨u, h1.nox, h2⟩
  · cases r with
    | error e => exact (show False from z).elim
    | ok fl =>
      cases fl with
      | ret u => exact I.after z
      | next => exact False.elim z
      | brk => exact False.elim z
      | cont => exact False.elim z
end
end DL

set_option maxHeartbeats 4000000
namespace DL
open PySem PySem.Spec PyProof.Rows L2
/-! ### [word(f) for f in calls] -/
/-- a lambda, where it and its code stand, what it says -/
abbrev LamsL := List ((Lm × Addr × Addr) × (XK → TE))
/-- one after another -/
def tCh (X : Cx) (tt : (XK → Hp → VK → Prop) → Hp → VK → Prop) (σ : L2.St) (p : Addr) (all : List Addr) : LamsL → List V → Hp → VK → Prop
  | [], acc, H, Q => H p = some (.lst (all.map V.ref)) ∧ acc.length ≤ sizeLine ∧ ∀ D, H D = none → Q (.ref D) (upd H D (.lst acc))
  | z :: r, acc, H, Q => H p = some (.lst (all.map V.ref)) ∧ H z.1.2.2 = some (LamX.CodeO z.1.2.2 (X.env.qual ++ "<lambda>")) ∧ tt (fun E H' Q' => z.2 E σ H' Q') H (fun v H1 => tCh X tt σ p all r (acc ++ [v]) H1 Q)
theorem tCh_p {X : Cx} {tt : (XK → Hp → VK → Prop) → Hp → VK → Prop} {σ : L2.St} {p : Addr} {all : List Addr} {L : LamsL} {acc : List V} {H : Hp} {Q : VK} (h : tCh X tt σ p all L acc H Q) : H p = some (.lst (all.map V.ref)) := by
  cases L with
  | nil => exact h.1
  | cons z r => exact h.1
def tLL (X : Cx) (tt : (XK → Hp → VK → Prop) → Hp → VK → Prop) (i : Nat) (fam : List (Lm × (XK → TE))) : TE := fun σ H Q => ∃ (p : Addr) (L : LamsL), σ[i]? = some (some (.ref p)) ∧ L.map (fun z => (z.1.1, z.2)) = fam ∧ (∀ z ∈ L, LamAt X H z.1.1 z.1.2.1 z.1.2.2) ∧
  (Apt H → tCh X tt σ p (L.map (·.1.2.1)) L [] (delL H (L.map (·.1.2.1))) Q)
structure FamOk (X : Cx) (k : Nat) (l : Lm) (t : XK → TE) : Prop where
  S : LamX.LamS X.env.scope l.sc
  nob : ∀ (q : Str) (cl : List (Str × Addr)) (pm cv ctv : Value), bindArgs (PySem.W.kla_fn "<lambda>" q l.pa l.bo l.sc cl pm cv ctv) ⟨[], []⟩ = pure []
  body : ∀ (A : Around) (outer : List Env) (s : Shared) (H : Hp) (E : XK) (f c' : Addr), Room k (A.deeper (LamX.lamEnv X l.sc s.heap.objs.size f c')) → PE (LamX.lamCx X A outer s H E l.sc f c') l.bo (t E)
theorem vals_refs : ∀ {as : List Addr} {us : List Value}, Vals (as.map V.ref) us → us = as.map Value.ref
  | [], _, .nil => rfl
  | a :: as, _, .cons r rs => by
    have e := vals_refs rs
    cases r
    rw [e]
    rfl
theorem pe_lamLc {X : Cx} {x c cs : Str} {tt : (XK → Hp → VK → Prop) → Hp → VK → Prop} {k i : Nat} {fam : List (Lm × (XK → TE))} {scope : Scope} {p1 p2 p3 p4 p5 pos : Pos} (D : WordD X x tt) (hr : Room (k + 2) X.A) (hcm : X.calm = true) (fo : ∀ z ∈ fam, FamOk X k z.1 z.2)
    (hN : X.N[i]? = some cs) (hv : Vis X.env.scope cs) (hclos : closureFor scope X.env = pure []) (hcell : ∀ y ∈ scope.names, y.2 ≠ .cell) (hkind : scope.kind = .function) (hnames : ∀ y ∈ scope.names, y.2 = .local → scope.names.lookup y.1 = some .local)
    (hcl : scope.names.lookup c = some .local) (hgx : ∀ C, (compEnvC scope [] C X.env).kindOf x = some .globalImplicit) (hdx : (x == ("__debug__" : Str)) = false := by decide) (hdc : (c == ("__debug__" : Str)) = false := by decide) (hdb : (cs == ("__debug__" : Str)) = false := by decide) (hcd : (cs == ("__classdict__" : Str)) = false := by decide)
    (hfs : ∀ x, foldedSetIterable (.Name cs p5) X.env x = pure x := by intro _; rfl) :
    PE X (.ListComp (.Call (.Name x p1) [.Name c p2] [] p3) [⟨.Name c p4, .Name cs p5, [], 0⟩] scope pos) (tLL X tt i fam) := by
  refine ⟨fun pins s σ H Q I ⟨p, L, hi, eL, hL, h⟩ => ?_⟩
  have h := h (apt_of I)
  have eM : (L.map (·.1)).map (·.2.1) = L.map (·.1.2.1) := by rw [List.map_map]; rfl
  obtain ⟨more, IL, inm⟩ := inv_lams (L := L.map (·.1)) I (fun z hz => by obtain ⟨y, hy, e⟩ := List.mem_map.mp hz; exact e ▸ hL y hy)
  rw [eM] at IL
  generalize hHL : delL H (L.map (·.1.2.1)) = HL at h IL
  refine wpAny_mono (Q := EP X (pins ++ more) σ Q) ?_ (fun u s1 ⟨v, H1, J, r, q⟩ => ⟨v, H1, J.unpinned, r, q⟩) fun _ _ e => e
  generalize hpm : pins ++ more = pm at IL
  have hpin : ∀ z ∈ L, ∃ pn ctv, (z.1.2.1, PySem.W.kla_obj "<lambda>" (X.env.qual ++ "<lambda>") z.1.1.pa z.1.1.bo z.1.1.sc (cloFrom X.env.cells z.1.1.sc.names []) pn z.1.2.2 ctv) ∈ pm := fun z hz => by
    obtain ⟨a, b, e⟩ := inm z.1 (List.mem_map.mpr ⟨z, hz, rfl⟩)
    exact ⟨a, b, by rw [← hpm]; exact List.mem_append_right _ e⟩
  refine ListComp_goes (cl := []) hclos hcell hkind hnames ?_ hfs
  refine thn ((pe_var (pos := p5) hN hv hdb hcd).run pm s σ HL (fun v H1 => v = .ref p ∧ H1 = HL) IL ⟨.ref p, hi, rfl, rfl⟩) fun u s0 ⟨v, H0, I0, r0, ev, eH⟩ => ?_
  subst ev eH
  obtain rfl : u = Value.ref p := r0
  obtain ⟨hz, its, n0, rp, ep⟩ : ObjOk X.prog X.w H0 s0.heap p (.lst _) := I0.hok p _ (tCh_p h)
  have eits := vals_refs rp
  have hlen : its.length = L.length := by rw [eits]; simp
  have plt : p < s0.heap.objs.size := Heap.lt_size ep
  refine wpAny_pyIter_list (items := its.toArray) ⟨_, ep, rfl, n0, rfl⟩ ?_
  generalize hN0 : s0.heap.objs.size = N at plt
  have kp1 : ∀ b o, s0.heap.get? b = some o → (s0.heap.push { cls := .type "list_iterator", data := .fields #[.ref p, .int 0 0] }).get? b = some o := fun b o e => Heap.get?_push_of_some _ e
  have I1 : Inv X pm σ H0 { s0 with heap := s0.heap.push { cls := .type "list_iterator", data := .fields #[.ref p, .int 0 0] } } := I0.kept (t' := s0.toks) kp1
  have hgN : (s0.heap.push { cls := .type "list_iterator", data := .fields #[.ref p, .int 0 0] }).get? N = some { cls := .type "list_iterator", data := .fields #[.ref p, .int 0 0] } := by
    rw [← hN0]
    exact Heap.get?_push_size _ rfl
  have sz1 : (s0.heap.push { cls := .type "list_iterator", data := .fields #[.ref p, .int 0 0] }).objs.size = N + 1 := by rw [Heap.size_push, hN0]
  refine ⟨N, [N, p], [N], its.toArray.size, _, _, rfl, Goes.list (I0.ok.hd hcm) N p (Nat.ne_of_lt plt) its.toArray, by rw [List.size_toArray, hlen]; simpa using hz, ⟨⟨_, hgN, rfl, rfl⟩, ⟨_, kp1 _ _ ep, rfl, n0, rfl⟩⟩, ?_, fun Dn C s3 hB => ?_⟩
  · intro b hb
    show b < (s0.heap.push _).objs.size
    rw [sz1]
    rcases List.mem_cons.mp hb with z | z
    · rw [z]
      exact Nat.lt_succ_self _
    · rw [List.mem_singleton.mp z]
      exact Nat.lt_succ_of_lt plt
  obtain ⟨⟨h3, tk3, rfl⟩, old, nD, nC, hDC, hnm⟩ := hB
  have nD : N + 1 ≤ Dn := by rw [← sz1]; exact nD
  have nC : N + 1 ≤ C := by rw [← sz1]; exact nC
  have I3 : Inv X pm σ H0 { s0 with heap := h3, toks := tk3 } := I1.kept (t' := tk3) old
  have f0 : ∀ b ∈ [N, Dn, C], FpOk X pm H0 b := by
    intro b hb
    have le : N ≤ b := by
      simp only [List.mem_cons, List.not_mem_nil, or_false] at hb
      rcases hb with rfl | rfl | rfl
      · exact Nat.le_refl _
      · exact Nat.le_of_succ_le nD
      · exact Nat.le_of_succ_le nC
    rw [← hN0] at le
    exact I0.fpOk le (I0.hok.fresh le)
  have fp : ∀ {H1 : Hp}, (∀ b ∈ [N, Dn, C], H1 b = none) → ∀ b ∈ [N, Dn, C], FpOk X pm H1 b := fun no b hb => ⟨no b hb, (f0 b hb).2⟩
  have kx : ∀ C, (compEnvC scope [] C X.env).kindOf c = some .local := fun C => lookup_relabel_local hcl
  have hp : ((compEnvC scope [] C X.env).scope.kind == .class || ((compEnvC scope [] C X.env).scope.kind == .module && (compEnvC scope [] C X.env).locals != (compEnvC scope [] C X.env).globals)) = false := by
    show (scope.kind == .class || (scope.kind == .module && _)) = false
    rw [hkind] <;> rfl
  have neC : C ∉ [Dn, N] := by
    intro z
    rcases List.mem_cons.mp z with z | z
    · exact hDC z.symm
    · rw [List.mem_singleton.mp z] at nC
      exact Nat.not_succ_le_self _ nC
  have iC : C ∈ [N, Dn, C] := by simp
  have iN : N ∈ [N, Dn, C] := by simp
  have iD : Dn ∈ [N, Dn, C] := by simp
  refine ⟨fun i ys s1 => ∃ H1 acc m, Inv X pm σ H1 s1 ∧ Vals acc ys ∧ tCh X tt σ p (L.map (·.1.2.1)) (L.drop i) acc H1 Q ∧ s1.heap.Ns C m ∧ ∀ b ∈ [N, Dn, C], H1 b = none, ⟨H0, [], _, I3, .nil, h, hnm, fun b hb => (f0 b hb).1⟩, ?_, ?_, ?_⟩
  · rintro i ys s1 h' tk ⟨H1, acc, m, J, r, ch, hn, no⟩ hk _
    exact ⟨H1, acc, m, J.turnedL (ch := [Dn, N]) hk (fun b hb => fp no b ((List.mem_cons.mp hb).elim (fun z => by rw [z]; exact iD) fun z => by rw [List.mem_singleton.mp z]; exact iN)), r, ch, hn.at' fun o e => hk _ o neC e, no⟩
  · rintro i v ys s1 hi hv2 st ⟨H1, acc, m, J, r, ch, hn, no⟩ hpl
    have hiL : i < L.length := by rw [← hlen]; simpa using hi
    have ev : v = .ref (L[i]).1.2.1 := by
      have q : its[i]? = some v := by simpa using hv2
      rw [eits, List.map_map, List.getElem?_map, List.getElem?_eq_getElem hiL] at q
      exact (Option.some.inj q).symm
    subst ev
    rw [List.drop_eq_getElem_cons hiL] at ch
    obtain ⟨_, ac, ch⟩ := ch
    have hm : ((L[i]).1.1, (L[i]).2) ∈ fam := by
      rw [← eL]
      exact List.mem_map.mpr ⟨L[i], List.getElem_mem hiL, rfl⟩
    have F := fo _ hm
    refine wpAny_assign_Name (wpAny_storeName_local (kx C) hn (fun h5 n5 s5 => ?_) hp)
    refine wpAny_tests_nil ?_
    show wpAny _ _ _ _ _ _
    have bC : ∀ {b}, b ≠ C → ∀ o, s1.heap.get? b = some o → h5.get? b = some o := fun ne o e => s5.extBut _ o ne e
    have J5 : Inv X pm σ H1 { s1 with heap := h5, toks := s1.toks + 1 } := J.turnedL (ch := [C]) (fun b o hb e => bC (fun z => hb (by rw [z]; simp)) o e) fun b hb => by rw [List.mem_singleton.mp hb]; exact fp no C iC
    have nNC : N ≠ C := fun z => by rw [z] at nC; exact Nat.not_succ_le_self _ nC
    have npC : p ≠ C := fun z => by rw [z] at plt; exact absurd (Nat.lt_of_lt_of_le plt (Nat.le_of_succ_le nC)) (Nat.lt_irrefl _)
    obtain ⟨⟨oN, gN, cN, dN⟩, _⟩ := st
    obtain ⟨nl, gD⟩ := hpl
    have obs : ∀ b ∈ [N, Dn, C], ∃ o, h5.get? b = some o ∧ ∀ v, o.data ≠ .cell v := by
      intro b hb
      simp only [List.mem_cons, List.not_mem_nil, or_false] at hb
      rcases hb with rfl | rfl | rfl
      · exact ⟨_, bC nNC _ gN, fun v z => by rw [dN] at z; cases z⟩
      · exact ⟨_, bC hDC _ gD, fun v z => by cases z⟩
      · obtain ⟨o, es, ep2, ho, hd, _⟩ := n5
        exact ⟨o, ho, fun v z => by rw [hd] at z; cases z⟩
    have J6 := J5.pinned (fp no) obs
    obtain ⟨pm2, ctv, hpn⟩ := hpin _ (List.getElem_mem hiL)
    have gf := J6.pin _ (List.mem_append_right _ (List.mem_append_left _ hpn))
    obtain ⟨g, mg, kg, run⟩ := run_word (E := notedBy (model X.prog X.w) X.A (compEnvC scope [] C X.env) (CompFails (model X.prog X.w) X.A X.xe (compEnvC scope [] C X.env))) D J6 gf.1 gf.2.1 (hL _ (List.getElem_mem hiL)).fr.1 ac F.S hr F.nob F.body ch
    refine wpAny_Call_Name_kw (Calls.Name_function_global hkind (hgx C) (Calls.loadGlobal_global (by show Heap.Ns _ X.env.globals _; rw [J5.ok.glob]; exact J5.mod.glob.keeps J5.bk) mg ?_) hdx)
    refine PySem.W.callWith_K (h₀ := X.base) J5.ok.mod.kin kg ?_ (by rfl) (by rfl)
    show wpAny _ _ (spliced ((false, eval (.Name c p2) (compEnvC scope [] C X.env)) :: backTo p3 (starEach [] (compEnvC scope [] C X.env)))) _ _ _
    refine Calls.spliced_cons (wpAny_Name (wpAny_loadName_local hkind (kx C) n5 (v := .ref (L[i]).1.2.1) (if_pos rfl) ?_) hdc)
    refine Calls.spliced_nil ⟨J5.kIn, ?_⟩
    refine wpAny_mono run (fun u s6 ⟨v2, H2, K2, rv, ch2⟩ => ?_) fun _ _ e => e
    have pin : ∀ b ∈ [N, Dn, C], ∀ o, h5.get? b = some o → s6.heap.get? b = some o ∧ H2 b = none := fun b hb o e => by
      have z := K2.pin (b, o) (List.mem_append_right _ (List.mem_append_right _ (mem_pinsAt hb e)))
      exact ⟨z.1, z.2.1⟩
    obtain ⟨_, its2, n2, rp2, ep2⟩ : ObjOk X.prog X.w H2 s6.heap p (.lst _) := K2.hok p _ (tCh_p ch2)
    have e2 : its2 = its := (vals_refs rp2).trans eits.symm
    subst e2
    refine ⟨⟨H2, acc ++ [v2], _, K2.unpinned, r.append (.cons rv .nil), ch2, n5.at' fun o e => (pin C iC o e).1, fun b hb => ?_⟩, ⟨⟨oN, (pin N iN _ (bC nNC _ gN)).1, cN, dN⟩, ⟨_, ep2, rfl, n2, rfl⟩⟩, ⟨nl, (pin Dn iD _ (bC hDC _ gD)).1⟩⟩
    obtain ⟨o, e, _⟩ := obs b hb
    exact (pin b hb o e).2
  · rintro ys s1 ⟨H1, acc, m, J, r, ch, hn, no⟩ ⟨nl, gD⟩
    rw [List.size_toArray, hlen, List.drop_length] at ch
    obtain ⟨_, hal, hq⟩ := ch
    refine ⟨m, hn, fun h' hs => ?_⟩
    have J2 := J.take (it := Dn) (o := .lst acc) (h' := s1.heap) (t' := s1.toks) (fun b o _ e => e) (fp no Dn iD) ⟨hal, ys, nl, r, gD⟩
    have f1 := fp no C iC
    have J3 : Inv X pm σ (upd H1 Dn (.lst acc)) { s1 with heap := h', toks := s1.toks } := J2.turnedL (ch := [C]) (fun b o hb e => hs.extBut b o (fun z => hb (by rw [z]; exact List.mem_cons_self)) e) fun b hb => by
      have e := List.mem_singleton.mp hb
      subst e
      exact ⟨(upd_ne (H := H1) (o := .lst acc) (Ne.symm hDC)).trans f1.1, f1.2⟩
    exact ⟨.ref Dn, _, J3, rfl, hq Dn (no Dn iD)⟩
end DL

set_option maxHeartbeats 4000000
namespace DL
open PySem PySem.Spec PyProof.Rows L2
/-! ### calls = [lambda: ..]; calls.append(lambda: ..); return .. [word(f) for f in calls] .. -/
/-- the list so far: it stands in the slot i -/
structure LmS (X : Cx) (T : List (Addr × Str)) (i : Nat) (σ0 : L2.St) (H0 : Hp) (ls : List Lm) (σ : L2.St) (H : Hp) : Prop where
  ex : ∃ (p : Addr) (fs : List (Addr × Addr)), σ = σ0.set i (some (.ref p)) ∧ H p = some (.lst (fs.map fun z => V.ref z.1)) ∧ (∀ o, (∀ ps, o ≠ .tbl ps) → H0 p ≠ some o) ∧ LamX.ExtN H0 H ∧ LamX.Tabs T H ∧ fs.length = ls.length ∧
    (∀ z ∈ fs, ∀ o, (∀ ps, o ≠ .tbl ps) → H0 z.1 ≠ some o) ∧ ∀ z ∈ ls.zip fs, LamAt X H z.1 z.2.1 z.2.2
section
variable {X : Cx} {T : List (Addr × Str)} {i : Nat} {cs : Str} {l : Lm}
theorem ps_lam0 {lp pp pos : Pos} (hN : X.N.Nodup) (hi : X.N[i]? = some cs) (hx : Loc X.env.scope cs) (pl : PE X l.ex (tLamN X T l)) (hst : starEach [l.ex] X.env = (false, eval l.ex X.env) :: starEach [] X.env := by rfl) (hs : swapsWith (.List [l.ex] lp) (some (.Name cs pp)) pos.line X.env = pure false := by rfl) (hf : X.fn cs = true ∨ X.env.scope.names.lookup cs = some .local := by first | exact .inl rfl | exact .inr rfl | assumption) :
    PS X (.Assign [.Name cs pp] (.List [l.ex] lp) pos) (fun D σ H => LamX.Tabs T H ∧ ∀ σ' H', LmS X T i σ H [l] σ' H' → D.nx σ' H') := by
  refine ps_imp (ps_set hN hi hx (pe_lst (pa_cons pl pa_nil hst)) hs hf) fun D σ H ⟨tb, h⟩ => ⟨tb, fun f c H1 x tb1 n a => ?_⟩
  refine ⟨size100 (by simp), fun p np => h _ _ ⟨p, [(f, c)], rfl, upd_same, ?_, ?_, ?_, rfl, fun z hz => ?_, fun z hz => ?_⟩⟩
  · intro o t q
    rw [x p o q t] at np
    cases np
  · exact x.trans (.of fun b o e => by rw [upd_ne (ne_of_none e np)]; exact e)
  · exact tb1.ext fun b o e => by rw [upd_ne (ne_of_none e np)]; exact e
  · rw [List.mem_singleton.mp hz]
    intro o t q
    rw [n] at q
    cases q
  · rw [List.mem_singleton.mp hz]
    exact a.ext (.of fun b o e => by rw [upd_ne (ne_of_none e np)]; exact e)
theorem ps_lam1 {p1 ap cp pos : Pos} (hN : X.N[i]? = some cs) (hv : Vis X.env.scope cs) (hdb : (cs == ("__debug__" : Str)) = false) (hcd : (cs == ("__classdict__" : Str)) = false) (pl : PE X l.ex (tLamN X T l)) (hst : starEach [l.ex] X.env = (false, eval l.ex X.env) :: starEach [] X.env := by rfl)
    (hs : swapsWith (.Call (.Attribute (.Name cs p1) "append" ap) [l.ex] [] cp) none pos.line X.env = pure false := by rfl) (hbase : attributeBase (.Name cs p1) "append" X.env (eval (.Name cs p1) X.env) = eval (.Name cs p1) X.env := by rfl)
    (hfew : ((backTo cp (starEach [l.ex] X.env)).all (fun x => !x.1) && (backToKw cp (keywordEach [] X.env)).all (fun x => x.1.isSome) && decide ([l.ex].length + ([] : List Keyword).length + (if ([] : List Keyword).isEmpty then 0 else 1) < 30)) = true := by rfl)
    (hline : (ap.endLine == cp.line) = true := by rfl) (hplain : (backTo cp (starEach [] X.env)).any (·.1) = false := by rfl) :
    PS X (.Expr (.Call (.Attribute (.Name cs p1) "append" ap) [l.ex] [] cp) pos) (fun D σ H => ∃ σ0 H0 ls, i < σ0.length ∧ LmS X T i σ0 H0 ls σ H ∧ ls.length < 100 ∧ ∀ H', LmS X T i σ0 H0 (ls ++ [l]) σ H' → D.nx σ H') := by
  refine ps_imp (ps_expr (pe_bm PySem.F.plainAttrs_list PySem.F.slot_list_append PySem.F.type_list_append mt_append (pe_var (pos := p1) hN hv hdb hcd) (pa_cons pl pa_nil hst) hbase hfew hline hst hplain) hs) fun D σ H ⟨σ0, H0, ls, hi, ⟨p, fs, e, hp, np, x, tb, hl, nf, at_⟩, hz, h⟩ => ?_
  subst e
  refine ⟨.ref p, by rw [List.getElem?_set_self hi], Or.inl ⟨rfl, _, .inl (.inl hp)⟩, tb, fun f c H1 x1 tb1 n a => ?_⟩
  have hp1 := x1 p _ hp fun ps z => by cases z
  have lne : ∀ {b o}, H1 b = some o → (∀ vs, o ≠ .lst vs) → upd H1 p (.lst (fs.map (fun z => V.ref z.1) ++ [V.ref f])) b = some o := fun {b o} q d => by
    rw [upd_ne fun z => by rw [z, hp1] at q; exact d _ (Option.some.inj q).symm]
    exact q
  have fz : ∀ b o, (∀ ps, o ≠ .tbl ps) → H0 b = some o → b ≠ p := fun b o t q z => np o t (z ▸ q)
  refine ⟨p, _, V.ref f, rfl, rfl, hp1, Nat.lt_of_lt_of_le (by rw [List.length_map, hl]; exact hz) (size100 (Nat.le_refl _)), h _ ⟨p, fs ++ [(f, c)], rfl, ?_, np, ?_, tabs_keep tb1 fun b o q d => lne q d, by rw [List.length_append, List.length_append, hl] <;> rfl, fun z hz => ?_, fun z hz => ?_⟩⟩
  · rw [upd_same, List.map_append] <;> rfl
  · intro b o q t
    rw [upd_ne (fz b o t q)]
    exact x1 b o (x b o q t) t
  · rcases List.mem_append.mp hz with hz | hz
    · exact nf z hz
    · rw [List.mem_singleton.mp hz]
      intro o t q
      rw [x f o q t] at n
      cases n
  · rw [List.zip_append hl.symm] at hz
    have go : ∀ {l2 f2 c2}, LamAt X H1 l2 f2 c2 → LamAt X (upd H1 p (.lst (fs.map (fun z => V.ref z.1) ++ [V.ref f]))) l2 f2 c2 := fun a => ⟨lne a.at_ lamO_ne.2, lne a.code (fun vs z => HO.noConfusion (show HO.ext _ = HO.lst _ from z)), a.fr⟩
    rcases List.mem_append.mp hz with hz | hz
    · exact go ((at_ z hz).ext x1)
    · have e : z = (l, f, c) := by simpa using hz
      subst e
      exact go a
/-- the rest of the list, then fin -/
def tTail (X : Cx) (T : List (Addr × Str)) (i : Nat) (done rest : List Lm) (fin : TS) : TS := fun D σ H => ∃ σ0 H0, i < σ0.length ∧ LmS X T i σ0 H0 done σ H ∧ ∀ H', LmS X T i σ0 H0 (done ++ rest) σ H' → fin D σ H'
theorem pss_lam1 {st : Stmt} {ss : List Stmt} {done rest : List Lm} {fin : TS} (hd : done.length < 100) (h1 : PS X st (fun D σ H => ∃ σ0 H0 ls, i < σ0.length ∧ LmS X T i σ0 H0 ls σ H ∧ ls.length < 100 ∧ ∀ H', LmS X T i σ0 H0 (ls ++ [l]) σ H' → D.nx σ H'))
    (h2 : PSs X ss (tTail X T i (done ++ [l]) rest fin)) : PSs X (st :: ss) (tTail X T i done (l :: rest) fin) :=
  pss_imp (pss_cons h1 h2) fun D σ H ⟨σ0, H0, hi, hm, h⟩ => ⟨σ0, H0, done, hi, hm, hd, fun H' m => ⟨σ0, H0, hi, m, fun H2 m2 => h H2 (by simpa using m2)⟩⟩
theorem pss_lamE {ss : List Stmt} {done : List Lm} {fin : TS} (h : PSs X ss fin) : PSs X ss (tTail X T i done [] fin) :=
  pss_imp h fun D σ H ⟨σ0, H0, hi, hm, k⟩ => k H (by simpa using hm)
theorem pss_lam0 {st : Stmt} {ss : List Stmt} {rest : List Lm} {fin : TS} (h1 : PS X st (fun D σ H => LamX.Tabs T H ∧ ∀ σ' H', LmS X T i σ H [l] σ' H' → D.nx σ' H')) (h2 : PSs X ss (tTail X T i [l] rest fin)) :
    PSs X (st :: ss) (fun D σ H => LamX.Tabs T H ∧ i < σ.length ∧ ∀ σ' H', LmS X T i σ H (l :: rest) σ' H' → fin D σ' H') :=
  pss_imp (pss_cons h1 h2) fun D σ H ⟨tb, hi, h⟩ => ⟨tb, fun σ' H' m => ⟨σ, H, hi, m, fun H2 m2 => h σ' H2 m2⟩⟩
end
/-! ### by values -/
/-- one try after another -/
def chW (K : PySem.W.Frag) (CS : Addr) (fl : Er → Sto → KR → Prop) (tr : D → D) : List WE' → List D → Vars → Sto → KR → Prop
  | [], acc, _, S, R => acc.length ≤ sizeLine ∧ R (.lst acc) S
  | w :: ws, acc, env, S, R => wTry K CS fl tr w env S (fun d S1 => chW K CS fl tr ws (acc ++ [d]) env S1 R) (fun _ _ _ => False)
section
variable {K : PySem.W.Frag} {T : List (Addr × Str)} {CS : Addr} {pf : Addr → Addr → Option Addr → SpD} {tell : Tell} {tr : D → D} {fl : Er → Sto → KR → Prop}
theorem try_tl {w : WE'} {env : Vars} {S : Sto} {R : KR} {Rx : KX} {m : List Addr} {G H : Hp} {Q : VK} {σ : L2.St} (wr : Wraps tell tr) (hfl : ∀ (e : Er) (S : Sto) (R : KR) (a : Addr) (dd : Option Addr) (m : List Addr) (G : Hp), DE K m G e (.ref e.1) dd → fl e S R → pf e.1 a dd [.ob a] S R (fun _ _ => False))
    (he : RE K m G env σ) (rp : Rp K T m S G H) (h : wTry K CS fl tr w env S R Rx) (hok : Okl K T m G H R Q) : TTry K T CS pf tell (fun E H' Q' => lE K T (fun cls d _ H' => E cls d H') w σ H' Q') H Q := by
  refine ⟨G, env, S, m, _, _, he, rp, h, wr _ _ _ _ _ _ _ hok, fun e env2 S2 cls dd σ2 m2 G2 H2 ⟨h1, h2⟩ s2 p2 e2 d2 => ?_⟩
  have ec : cls = .ref e.1 := d2.1
  subst ec
  exact ⟨e.1, rfl, h1, fun b nb => ⟨G2, S2, m2, R, p2, hfl e S2 R b dd m2 G2 d2 h2, hok.on s2⟩⟩
/-- what a reading says in the frame of the lambda -/
abbrev lamT (K : PySem.W.Frag) (T : List (Addr × Str)) (w : WE') : XK → TE := fun E => lE K T (fun cls d _ H' => E cls d H') w
theorem chain_ok {X : Cx} {p : Addr} {all : List Addr} {σ : L2.St} {env : Vars} {R : KR} {Q : VK} (wr : Wraps tell tr) (hfl : ∀ (e : Er) (S : Sto) (R : KR) (a : Addr) (dd : Option Addr) (m : List Addr) (G : Hp), DE K m G e (.ref e.1) dd → fl e S R → pf e.1 a dd [.ob a] S R (fun _ _ => False)) :
    ∀ (L : List ((Lm × Addr × Addr) × WE')) (acc : List V) (accD : List D) (m : List Addr) (G H : Hp) (S : Sto), RE K m G env σ → Rp K T m S G H → DRs K m G accD acc → Okl K T m G H R Q → H p = some (.lst (all.map V.ref)) → G p = none → (∀ z ∈ L, H z.1.2.2 = some (LamX.CodeO z.1.2.2 (X.env.qual ++ "<lambda>"))) →
      chW K CS fl tr (L.map (·.2)) accD env S R → tCh X (TTry K T CS pf tell) σ p all (L.map fun z => (z.1, lamT K T z.2)) acc H Q
  | [], acc, accD, m, G, H, S, he, rp, da, hok, hp, gp, hc, h => by
    refine ⟨hp, by rw [← da.length]; exact h.1, fun D nD => ?_⟩
    obtain ⟨r1, r2⟩ := rp.new (o := .lst acc) nD
    refine hok _ S _ m _ _ h.2 r2 r1 (.lst upd_same (fun z => ?_) (da.mono rp r2))
    obtain ⟨ws, e⟩ := rp.lists z
    have e2 := rp.sub _ _ e
    rw [nD] at e2
    cases e2
  | z :: L, acc, accD, m, G, H, S, he, rp, da, hok, hp, gp, hc, h => by
    refine ⟨hp, hc z List.mem_cons_self, try_tl wr hfl he rp h fun d S1 v m1 G1 H1 h1 s1 p1 d1 => ?_⟩
    obtain ⟨hp1, gp1⟩ := s1.frame p _ hp gp (fun ps z => by cases z)
    refine chain_ok wr hfl L (acc ++ [v]) (accD ++ [d]) m1 G1 H1 S1 (he.mono rp s1) p1 ((da.mono rp s1).append (DRs.one d1)) (hok.on s1) hp1 gp1 (fun y hy => ?_) h1
    have hy := hc y (List.mem_cons_of_mem _ hy)
    cases q : G y.1.2.2 with
    | none => exact (s1.frame _ _ hy q LamX.codeO_ne).1
    | some o =>
      have e := rp.sub _ _ q
      rw [hy] at e
      cases e
      exact p1.sub _ _ (s1.keep _ _ q (notMem rp q fun vs z => HO.noConfusion (show HO.ext _ = HO.lst _ from z)))
/-- what is made of the list of answers -/
def Cont (X : Cx) (T : List (Addr × Str)) (W : WX) (cont : V → L2.St → Hp → VK → Prop) (cw : D → Vars → Sto → KR → KX → Prop) : Prop := ∀ (d : D) (v : V) (env : Vars) (σ : L2.St) (S : Sto) (m : List Addr) (G H : Hp) (R : KR) (Rx : KX) (Q : VK),
  DR X.K m G d v → RE X.K m G env σ → Rp X.K T m S G H → cw d env S R Rx → Okl X.K T m G H R Q → Exl X.K T W m G H Rx → cont v σ H Q
theorem cont_id {X : Cx} {W : WX} : Cont X T W (fun v _ H Q => Q v H) (fun d _ S R _ => R d S) := fun d v env σ S m G H R Rx Q dv he rp h hok _ => hok.at h rp dv
theorem cont_cmp {X : Cx} {W : WX} {f : F2} {w : WE'} : Cont X T W (fun v σ H Q => lE X.K T W w σ H fun y H2 => lO X.K T f v y H2 Q) (fun d env S R Rx => w env S (fun y S2 => f d y S2 R) Rx) := fun d v env σ S m G H R Rx Q dv he rp h hok hx =>
  lE_of he rp h (fun y S2 u m2 G2 H2 h2 s2 p2 d2 => ⟨G2, d, y, S2, m2, R, dv.mono rp s2, d2, p2, h2, hok.on s2⟩) hx
def sLams (K : PySem.W.Frag) (CS : Addr) (fl : Er → Sto → KR → Prop) (tr : D → D) (i : Nat) (ws : List WE') (cw : D → Vars → Sto → KR → KX → Prop) : WS' := fun env S E => i < env.length ∧ chW K CS fl tr ws [] (env.set i none) S (fun d S1 => cw d (env.set i none) S1 E.rt E.ex)
theorem pss_lams {X : Cx} {W : WX} {i : Nat} {ss : List Stmt} {fam : List (Lm × WE')} {cont : V → L2.St → Hp → VK → Prop} {cw : D → Vars → Sto → KR → KX → Prop} (hc : Cont X T W cont cw) (wr : Wraps tell tr) (hfl : ∀ (e : Er) (S : Sto) (R : KR) (a : Addr) (dd : Option Addr) (m : List Addr) (G : Hp), DE X.K m G e (.ref e.1) dd → fl e S R → pf e.1 a dd [.ob a] S R (fun _ _ => False))
    (h : PSs X ss (fun D σ H => LamX.Tabs T H ∧ i < σ.length ∧ ∀ σ' H', LmS X T i σ H (fam.map (·.1)) σ' H' → tLL X (TTry X.K T CS pf tell) i (fam.map fun z => (z.1, lamT X.K T z.2)) σ' H' (fun v H1 => cont v σ' H1 D.rt))) :
    PSsD X T W ss (sLams X.K CS fl tr i (fam.map (·.2)) cw) := by
  refine pss_imp h fun D σ H ⟨G, env, S, m, E, he, rp, ⟨hi, h⟩, l⟩ => ⟨rp.tabs, by rw [← he.len]; exact hi, fun σ' H' ⟨p, fs, e, hp, np, x, tb, hl, nf, at_⟩ => ?_⟩
  subst e
  rw [List.length_map] at hl
  have e1 : (fam.zip fs).map (·.1) = fam := List.map_fst_zip (Nat.le_of_eq hl.symm)
  have e2 : (fam.zip fs).map (·.2) = fs := List.map_snd_zip (Nat.le_of_eq hl)
  generalize hL : (fam.zip fs).map (fun z => ((z.1.1, z.2.1, z.2.2), z.1.2)) = L
  have l1 : L.map (fun z => (z.1.1, lamT X.K T z.2)) = fam.map fun z => (z.1, lamT X.K T z.2) := by
    rw [← hL, List.map_map]
    conv => rhs; rw [← e1, List.map_map]
    rfl
  have l2 : L.map (·.1.2.1) = fs.map (·.1) := by
    rw [← hL, List.map_map]
    conv => rhs; rw [← e2, List.map_map]
    rfl
  have l3 : L.map (·.2) = fam.map (·.2) := by
    rw [← hL, List.map_map]
    conv => rhs; rw [← e1, List.map_map]
    rfl
  have lat : ∀ z ∈ L, LamAt X H' z.1.1 z.1.2.1 z.1.2.2 := fun z hz => by
    rw [← hL] at hz
    obtain ⟨y, hy, rfl⟩ := List.mem_map.mp hz
    refine at_ (y.1.1, y.2) ?_
    rw [List.zip_map_left]
    exact List.mem_map.mpr ⟨y, hy, rfl⟩
  have lnf : ∀ f ∈ L.map (·.1.2.1), ∀ o, (∀ ps, o ≠ .tbl ps) → H f ≠ some o := fun f hf => by
    rw [l2] at hf
    obtain ⟨y, hy, rfl⟩ := List.mem_map.mp hf
    exact nf y hy
  have hp2 : H' p = some (.lst ((L.map (·.1.2.1)).map V.ref)) := by
    rw [l2, List.map_map]
    exact hp
  obtain ⟨rp1, st1⟩ := ext_rp rp x tb
  refine ⟨p, L.map fun z => (z.1, lamT X.K T z.2), by rw [List.getElem?_set_self (by rw [← he.len]; exact hi)], by rw [List.map_map]; exact l1, fun z hz => ?_, fun ap => ?_⟩
  · obtain ⟨y, hy, rfl⟩ := List.mem_map.mp hz
    exact lat y hy
  have em : (L.map fun z => (z.1, lamT X.K T z.2)).map (·.1.2.1) = L.map (·.1.2.1) := by rw [List.map_map]; rfl
  rw [em]
  have ext : ∀ f ∈ L.map (·.1.2.1), ∃ l c, LamAt X H' l f c := fun f hf => by
    obtain ⟨y, hy, rfl⟩ := List.mem_map.mp hf
    exact ⟨_, _, lat y hy⟩
  have out : ∀ {a o}, H' a = some o → (∀ φ, o ≠ .ext φ) → delL H' (L.map (·.1.2.1)) a = some o := fun {a o} q d => by
    rw [delL_out fun z => ?_]
    · exact q
    · obtain ⟨l, c, y⟩ := ext _ z
      rw [y.at_] at q
      exact d _ (Option.some.inj q).symm
  have old : ∀ {a o}, H a = some o → (∀ ps, o ≠ .tbl ps) → delL H' (L.map (·.1.2.1)) a = some o := fun {a o} q d => by
    rw [delL_out fun z => lnf _ z o d q]
    exact x a o q d
  have codes : ∀ {c q}, H' c = some (LamX.CodeO c q) → delL H' (L.map (·.1.2.1)) c = some (LamX.CodeO c q) := fun {c q} e => by
    rw [delL_out fun z => ?_]
    · exact e
    · obtain ⟨l, c2, y⟩ := ext _ z
      exact ap _ _ _ _ _ _ _ e y.at_ rfl
  have rp2 : Rp X.K T m S G (delL H' (L.map (·.1.2.1))) := ⟨fun a o q => old (rp.sub a o q) (fun ps z => rp.nt a ps (z ▸ q)), rp.nd, rp.len, rp.sto, fun q hq => by
    obtain ⟨ps, t1, t2, t3⟩ := tb q hq
    refine ⟨ps, out t1 (fun _ z => by cases z), t2, fun pos cv hcv => ?_⟩
    obtain ⟨c, y1, y2⟩ := t3 pos cv hcv
    exact ⟨c, y1, codes y2⟩, rp.nt⟩
  have st2 : Stp m G H m G (delL H' (L.map (·.1.2.1))) := ⟨⟨[], by simp, by simp⟩, fun _ _ q _ => q, fun _ o q => ⟨o, q⟩, fun a o q g n => ⟨old q n, g⟩⟩
  have he2 : RE X.K m G (env.set i none) (σ.set i (some (.ref p))) := he.unset
  refine chain_ok wr hfl L [] [] m G _ S he2 rp2 .nil (R := fun d S1 => cw d (env.set i none) S1 E.rt E.ex) (fun d S1 v m1 G1 H1 h1 s1 p1 d1 => hc d v _ _ S1 m1 G1 H1 _ _ _ d1 (he2.mono rp2 s1) p1 h1 (l.rt.on (st2.trans s1)) (l.ex.on (st2.trans s1))) (out hp2 (fun _ z => by cases z)) ?_ (fun z hz => codes (lat z hz).code) (by rw [l3]; exact h)
  cases q : G p with
  | none => rfl
  | some o => exact absurd (rp.sub _ _ q) (np o fun ps z => rp.nt p ps (z ▸ q))
end
end DL

set_option maxHeartbeats 4000000
namespace DL
open PySem PySem.Spec PyProof.Rows L2
/-! ### the same, as the generator writes it -/
/-- the names of [word(f) for f in calls] -/
def lcB (scope : Scope) (c x : Str) : Bool := decide (scope.kind = .function) && (scope.names.all (fun y => !decide (y.2 = .free) && !decide (y.2 = .cell) && (!decide (y.2 = .local) || decide (scope.names.lookup y.1 = some .local))) &&
  (decide (scope.names.lookup c = some .local) && decide (scope.names.lookup x = some .globalImplicit)))
theorem lookup_same {env : Env} : ∀ (ns : List (Str × NameKind)) (x : Str), (∀ y ∈ ns, y.2 ≠ .free) → (ns.map fun (n, k) => if (k == NameKind.free && env.scope.kind == .function && env.kindOf n == some .cell) then (n, NameKind.cell) else (n, k)).lookup x = ns.lookup x
  | [], _, _ => rfl
  | (n, k) :: r, x, h => by
    have ih := lookup_same (env := env) r x fun y hy => h y (List.mem_cons_of_mem _ hy)
    have hk : (k == NameKind.free) = false := by
      have := h (n, k) List.mem_cons_self
      cases k <;> first | rfl | exact absurd rfl this
    rw [List.map_cons]
    simp only [hk, Bool.false_and, Bool.false_eq_true, if_false]
    simp only [List.lookup]
    rw [ih]
theorem clo_none : ∀ {ce : List (Str × Addr)} (ns : List (Str × NameKind)) (acc : List (Str × Addr)), (∀ y ∈ ns, y.2 ≠ .free) → cloFrom ce ns acc = acc
  | _, [], _, _ => rfl
  | ce, (n, k) :: r, acc, h => by
    have hk : (k == NameKind.free) = false := by
      have := h (n, k) List.mem_cons_self
      cases k <;> first | rfl | exact absurd rfl this
    unfold cloFrom
    rw [hk]
    exact clo_none r acc fun y hy => h y (List.mem_cons_of_mem _ hy)
theorem lcB_ok {scope : Scope} {c x : Str} (h : lcB scope c x = true) : scope.kind = .function ∧ (∀ y ∈ scope.names, y.2 ≠ .free) ∧ (∀ y ∈ scope.names, y.2 ≠ .cell) ∧ (∀ y ∈ scope.names, y.2 = .local → scope.names.lookup y.1 = some .local) ∧ scope.names.lookup c = some .local ∧ scope.names.lookup x = some .globalImplicit := by
  unfold lcB at h
  simp only [Bool.and_eq_true, Bool.or_eq_true, Bool.not_eq_true', decide_eq_true_eq, decide_eq_false_iff_not, List.all_eq_true] at h
  obtain ⟨h1, h2, h3, h4⟩ := h
  exact ⟨h1, fun y hy => (h2 y hy).1.1, fun y hy => (h2 y hy).1.2, fun y hy e => (h2 y hy).2.resolve_left fun z => z e, h3, h4⟩
section
variable {X : Cx} {T : List (Addr × Str)} {i k : Nat} {cs : Str} {pa : Arguments} {bo : Expr} {sc : Scope} {lps : Pos}
theorem pe_lamD {q : Str} (L : LamD X.K X.base X.mg T X.env.code q) (eq : X.env.qual ++ "<lambda>" = q) (Ls : LamX.LamS X.env.scope sc) (nod : defaultsOf pa X.env = ([], []) := by rfl) : PE X (.Lambda pa bo sc lps) (tLamN X T ⟨pa, bo, sc, lps⟩) := by
  subst eq
  obtain ⟨c, P, hcode, TB, hmT, hu⟩ := L.ex
  exact pe_lamN (l := ⟨pa, bo, sc, lps⟩) TB hcode hmT hu Ls nod
theorem ps_lam0E {lp pp pos : Pos} (hN : X.N.Nodup) (hi : X.N[i]? = some cs) (hx : Loc X.env.scope cs) (pl : PE X (.Lambda pa bo sc lps) (tLamN X T ⟨pa, bo, sc, lps⟩)) (hst : starEach [.Lambda pa bo sc lps] X.env = (false, eval (.Lambda pa bo sc lps) X.env) :: starEach [] X.env := by rfl)
    (hs : swapsWith (.List [.Lambda pa bo sc lps] lp) (some (.Name cs pp)) pos.line X.env = pure false := by rfl) (hf : X.fn cs = true ∨ X.env.scope.names.lookup cs = some .local := by first | exact .inl rfl | exact .inr rfl | assumption) :
    PS X (.Assign [.Name cs pp] (.List [.Lambda pa bo sc lps] lp) pos) (fun D σ H => LamX.Tabs T H ∧ ∀ σ' H', LmS X T i σ H [⟨pa, bo, sc, lps⟩] σ' H' → D.nx σ' H') :=
  ps_lam0 (l := ⟨pa, bo, sc, lps⟩) hN hi hx pl hst hs hf
theorem ps_lam1E {p1 ap cp pos : Pos} (hN : X.N[i]? = some cs) (hv : Vis X.env.scope cs) (pl : PE X (.Lambda pa bo sc lps) (tLamN X T ⟨pa, bo, sc, lps⟩)) (hdb : (cs == ("__debug__" : Str)) = false := by decide) (hcd : (cs == ("__classdict__" : Str)) = false := by decide) (hst : starEach [.Lambda pa bo sc lps] X.env = (false, eval (.Lambda pa bo sc lps) X.env) :: starEach [] X.env := by rfl)
    (hs : swapsWith (.Call (.Attribute (.Name cs p1) "append" ap) [.Lambda pa bo sc lps] [] cp) none pos.line X.env = pure false := by rfl) (hbase : attributeBase (.Name cs p1) "append" X.env (eval (.Name cs p1) X.env) = eval (.Name cs p1) X.env := by rfl)
    (hfew : ((backTo cp (starEach [.Lambda pa bo sc lps] X.env)).all (fun x => !x.1) && (backToKw cp (keywordEach [] X.env)).all (fun x => x.1.isSome) && decide ([Expr.Lambda pa bo sc lps].length + ([] : List Keyword).length + (if ([] : List Keyword).isEmpty then 0 else 1) < 30)) = true := by rfl)
    (hline : (ap.endLine == cp.line) = true := by rfl) (hplain : (backTo cp (starEach [] X.env)).any (·.1) = false := by rfl) :
    PS X (.Expr (.Call (.Attribute (.Name cs p1) "append" ap) [.Lambda pa bo sc lps] [] cp) pos) (fun D σ H => ∃ σ0 H0 ls, i < σ0.length ∧ LmS X T i σ0 H0 ls σ H ∧ ls.length < 100 ∧ ∀ H', LmS X T i σ0 H0 (ls ++ [⟨pa, bo, sc, lps⟩]) σ H' → D.nx σ H') :=
  ps_lam1 (l := ⟨pa, bo, sc, lps⟩) hN hv hdb hcd pl hst hs hbase hfew hline hplain
theorem word_of {x : Str} {j : Nat} {tt : (XK → Hp → VK → Prop) → Hp → VK → Prop} (Y : TryD X.prog X.w X.K X.mg X.base x j tt) (hr : Room (j + 1) X.A) : WordD X x tt := by
  obtain ⟨g, a, Ng, pg, bg, sg, dV, kV, doc, pm, cdv, ct, oc, an, od, osl, hm, hk, lk, hcg, hb, Sg, hN, hva, hda, hca, gives⟩ := Y.ex
  exact ⟨⟨g, a, Ng, pg, bg, sg, dV, kV, doc, pm, cdv, ct, oc, an, od, osl, hm, hk, lk, hcg, hb, Sg, hN, hva, hda, hca, gives X _ rfl rfl rfl rfl rfl hr⟩⟩
def FamAll (X : Cx) (T : List (Addr × Str)) (k : Nat) (fam : List (Lm × WE')) : Prop := ∀ z ∈ fam, FamOk X k z.1 (lamT X.K T z.2)
theorem fam_nil : FamAll X T k [] := fun _ h => nomatch h
theorem fam_cons {w : WE'} {fam : List (Lm × WE')} (S : LamX.LamS X.env.scope sc) (body : ∀ (A : Around) (outer : List Env) (s : Shared) (H : Hp) (E : XK) (f c' : Addr), Room k (A.deeper (LamX.lamEnv X sc s.heap.objs.size f c')) → PD (LamX.lamCx X A outer s H E sc f c') T (fun cls d _ H' => E cls d H') bo w)
    (r : FamAll X T k fam) (nob : ∀ (q : Str) (cl : List (Str × Addr)) (pm cv ctv : Value), bindArgs (PySem.W.kla_fn "<lambda>" q pa bo sc cl pm cv ctv) ⟨[], []⟩ = pure [] := by intros; rfl) : FamAll X T k ((⟨pa, bo, sc, lps⟩, w) :: fam) := fun z h => by
  rcases List.mem_cons.mp h with e | e
  · subst e
    exact ⟨S, nob, body⟩
  · exact r z e
theorem pe_lamLcE {x c : Str} {tt : (XK → Hp → VK → Prop) → Hp → VK → Prop} {fam : List (Lm × WE')} {scope : Scope} {p1 p2 p3 p4 p5 pos : Pos} (fo : FamAll X T k fam) (D : WordD X x tt) (hr : Room (k + 2) X.A) (hcm : X.calm = true)
    (hN : X.N[i]? = some cs) (hv : Vis X.env.scope cs) (hb : lcB scope c x = true) (hdx : (x == ("__debug__" : Str)) = false := by decide) (hdc : (c == ("__debug__" : Str)) = false := by decide) (hdb : (cs == ("__debug__" : Str)) = false := by decide) (hcd : (cs == ("__classdict__" : Str)) = false := by decide)
    (hfs : ∀ x, foldedSetIterable (.Name cs p5) X.env x = pure x := by intro _; rfl) :
    PE X (.ListComp (.Call (.Name x p1) [.Name c p2] [] p3) [⟨.Name c p4, .Name cs p5, [], 0⟩] scope pos) (tLL X tt i (fam.map fun z => (z.1, lamT X.K T z.2))) := by
  obtain ⟨h1, h2, h3, h4, h5, h6⟩ := lcB_ok hb
  refine pe_lamLc D hr hcm (fun z hz => ?_) hN hv (by rw [closure_ok fun y hy e => absurd e (h2 y hy), clo_none _ _ h2]) h3 h1 h4 h5 (fun C => (lookup_same _ _ h2).trans h6) hdx hdc hdb hcd hfs
  obtain ⟨y, hy, rfl⟩ := List.mem_map.mp hz
  exact fo y hy
theorem pss_retId {lc : Expr} {rp : Pos} {tt : (XK → Hp → VK → Prop) → Hp → VK → Prop} {F : List (Lm × (XK → TE))} (h : PE X lc (tLL X tt i F)) : PSs X [.Return (some lc) rp] (fun D σ H => tLL X tt i F σ H (fun v H1 => (fun v (_ : L2.St) H (Q : VK) => Q v H) v σ H1 D.rt)) := pss_one (ps_ret h)
theorem pss_retOp {W : WX} {op : CmpOp} {lc b : Expr} {f : F2} {w : WE'} {pos rp : Pos} {tt : (XK → Hp → VK → Prop) → Hp → VK → Prop} {F : List (Lm × (XK → TE))} (ho : OpR X (compareOp op) (lO X.K T f)) (hm : behindInMarks op b = false) (h : PE X lc (tLL X tt i F)) (hb : PD X T W b w) :
    PSs X [.Return (some (.Compare lc [op] [b] pos)) rp] (fun D σ H => tLL X tt i F σ H (fun v H1 => (fun v σ H Q => lE X.K T W w σ H fun y H2 => lO X.K T f v y H2 Q) v σ H1 D.rt)) := pss_one (ps_ret (pe_cmpR ho h hb hm))
end
end DL

set_option maxHeartbeats 4000000
namespace DL
open PySem PySem.Spec PyProof.Rows L2
/-! ### () * int -/
theorem tup_mul0 (l : Addr) (n : Nat) (dd : Option Addr) (sl : Array (Option Value)) (x : Int) (u : Tok) (c0 : (decide (x < -(2 ^ 63)) || decide (x ≥ 2 ^ 63)) = false) :
    Meets (Builtin.«tuple.__mul__» ⟨[.ref l, .int x u], []⟩) (fun _ R s => s.heap.get? l = some { cls := .type "tuple", dict := dd, data := .seq #[] n, slots := sl } ∧ R (.ok (.ret (Value.ref l))) s) :=
  .of_wp fun prog w A R s h => by
    obtain ⟨hp, g, d, tk, os⟩ := s
    obtain ⟨hl, h⟩ := h
    have f1 := AutoSeq1.idx_int
    have e0 : (#[] : Array Value).isEmpty = true := rfl
    wp_walk using wpAny_loadPart' hl
    refine wpAny_ite_false (decide_eq_false (by rw [c0]; exact Bool.false_ne_true)) ?_
    wp_walk using wpAny_loadPart' hl
    exact ⟨_, rfl, h⟩
/-- * of ints, of a tuple or a list, of an empty tuple -/
def dMulH : F2 := fun a b S R => (∃ k : Int, a = .tup [] ∧ b = .int k ∧ 2 ≤ k ∧ k ≤ 1000 ∧ R (.tup []) S) ∨ dMulG a b S R
section
variable {X : Cx} {T : List (Addr × Str)}
theorem opD_mulH : OpR X (binaryOp .Mult) (lO X.K T dMulH) := by
  intro pins s σ H x y v u Q I rx ry ⟨G, a, b, S, m, R, d1, d2, hp, h, hk⟩
  rcases h with ⟨k, rfl, rfl, h1, h2, h⟩ | h
  · obtain ⟨l, vs, rfl, sq, dr⟩ := tup_at hp d1
    cases dr
    cases d2
    cases rx
    obtain ⟨t, rfl⟩ := ry
    obtain ⟨its, r, ⟨⟨cls, dd, data, sl⟩, ho, hc, n, hd⟩, hs⟩ := I.tuple sq
    cases r
    simp only at hc hd
    subst hc hd
    have c0 : (decide (k < -(2 ^ 63)) || decide (k ≥ 2 ^ 63)) = false := by
      rw [decide_eq_false (by omega), decide_eq_false (by omega)] <;> rfl
    refine wpAny_binaryOp_repeat_ref (T := "tuple") (U := "int") (by decide) ⟨_, ho, rfl⟩ (fun s' => typeIs_int s' k t) noFill_tuple_mul F.fills_int_mul F.slot_int_rmul repeat_tuple F.slot_int_index.lookup
      (call_meets F.slot_int_rmul (typeIs_int s k t) F.entry_int_rmul (F.args_int_rmul_2 _ _) (int_rmul_tuple k t l _ n dd sl)
        ⟨ho, rfl, ⟨_, ho, rfl⟩, call_meets F.slot_tuple_mul ⟨_, ho, rfl⟩ F.entry_tuple_mul (F.args_tuple_mul_2 _ _) (tup_mul0 l n dd sl k t c0) ⟨ho, ?_⟩⟩)
    exact ⟨.ref l, H, I, rfl, hk.at h hp d1⟩
  · exact opD_mulG pins s σ H _ _ v u Q I rx ry ⟨G, a, b, S, m, R, d1, d2, hp, h, hk⟩
end
theorem r_mulH0 {k : Int} {S : Sto} {R : KR} (h1 : 2 ≤ k) (h2 : k ≤ 1000) (h : R (.tup []) S) : dMulH (.tup []) (.int k) S R := .inl ⟨k, rfl, rfl, h1, h2, h⟩
theorem r_mulH {a b : D} {S : Sto} {R : KR} (h : dMulG a b S R) : dMulH a b S R := .inr h
end DL

set_option maxHeartbeats 0
set_option maxHeartbeats 4000000
set_option maxHeartbeats 0
namespace DL
open PySem PySem.Spec PyProof.Rows L2
abbrev known : List Str := ["NoPart", "NoMoment", "NoHour", "NoClock"]
def topS (i : Nat) : Stmt := PySem.Challenge.pw_gunclocks_k02_clocks_known.main.body.getD i (.Pass ⟨0, 0, 0, 0⟩)
abbrev s_is_whole : Stmt := topS 24
abbrev s_is_part : Stmt := topS 25
abbrev s_check_part : Stmt := topS 26
abbrev s_lowest : Stmt := topS 27
abbrev s_sum_of : Stmt := topS 28
abbrev s_difference_of : Stmt := topS 29
abbrev s_product_of : Stmt := topS 30
abbrev s_is_below : Stmt := topS 31
abbrev s_added : Stmt := topS 32
abbrev s_less : Stmt := topS 33
abbrev s_times : Stmt := topS 34
abbrev s_divided : Stmt := topS 35
abbrev s_is_less : Stmt := topS 36
abbrev s_is_moment : Stmt := topS 41
abbrev s_is_gain : Stmt := topS 42
abbrev s_is_one_set : Stmt := topS 43
abbrev s_are_sets : Stmt := topS 44
abbrev s_is_clock : Stmt := topS 45
abbrev s_check_clock : Stmt := topS 46
abbrev s_check_moment : Stmt := topS 47
abbrev s_check_hour : Stmt := topS 48
abbrev s_error_told : Stmt := topS 49
abbrev s_grown_by : Stmt := topS 50
abbrev s_drift : Stmt := topS 51
abbrev s_shown_at : Stmt := topS 52
abbrev s_spans_between : Stmt := topS 53
abbrev s_is_within : Stmt := topS 54
abbrev s_moments_of : Stmt := topS 55
abbrev s_leaps_of : Stmt := topS 56
abbrev s_turned_back : Stmt := topS 57
abbrev s_skipped : Stmt := topS 58
abbrev s_law_cell_at : Stmt := topS 60
abbrev s_law_next : Stmt := topS 61
abbrev s_law_pen_of : Stmt := topS 62
abbrev s_law_draw : Stmt := topS 63
abbrev s_law_made : Stmt := topS 64
abbrev s_law_sum : Stmt := topS 65
abbrev s_law_under : Stmt := topS 66
abbrev s_law_gain : Stmt := topS 67
abbrev s_law_sets : Stmt := topS 68
abbrev s_law_flags : Stmt := topS 69
abbrev s_law_word : Stmt := topS 70
abbrev s_law_is_part : Stmt := topS 71
abbrev s_law_is_clock : Stmt := topS 72
abbrev s_law_bent : Stmt := topS 73
abbrev s_law_refused : Stmt := topS 74
abbrev s_law : Stmt := topS 75
def d_is_whole : He.DefD := ⟨("is_whole", none), "is_whole", "is_whole", defArgs s_is_whole, defBody s_is_whole, defScope s_is_whole, [], []⟩
def d_is_part : He.DefD := ⟨("is_part", none), "is_part", "is_part", defArgs s_is_part, defBody s_is_part, defScope s_is_part, [], []⟩
def d_check_part : He.DefD := ⟨("check_part", none), "check_part", "check_part", defArgs s_check_part, defBody s_check_part, defScope s_check_part, [], []⟩
def d_is_less : He.DefD := ⟨("is_less", none), "is_less", "is_less", defArgs s_is_less, defBody s_is_less, defScope s_is_less, [], []⟩
def d_is_moment : He.DefD := ⟨("is_moment", none), "is_moment", "is_moment", defArgs s_is_moment, defBody s_is_moment, defScope s_is_moment, [], []⟩
def d_is_gain : He.DefD := ⟨("is_gain", none), "is_gain", "is_gain", defArgs s_is_gain, defBody s_is_gain, defScope s_is_gain, [], []⟩
def d_is_one_set : He.DefD := ⟨("is_one_set", none), "is_one_set", "is_one_set", defArgs s_is_one_set, defBody s_is_one_set, defScope s_is_one_set, [], []⟩
def d_are_sets : He.DefD := ⟨("are_sets", none), "are_sets", "are_sets", defArgs s_are_sets, defBody s_are_sets, defScope s_are_sets, [], []⟩
def d_is_clock : He.DefD := ⟨("is_clock", none), "is_clock", "is_clock", defArgs s_is_clock, defBody s_is_clock, defScope s_is_clock, [], []⟩
def d_check_clock : He.DefD := ⟨("check_clock", none), "check_clock", "check_clock", defArgs s_check_clock, defBody s_check_clock, defScope s_check_clock, [], []⟩
def d_check_moment : He.DefD := ⟨("check_moment", none), "check_moment", "check_moment", defArgs s_check_moment, defBody s_check_moment, defScope s_check_moment, [], []⟩
def d_check_hour : He.DefD := ⟨("check_hour", none), "check_hour", "check_hour", defArgs s_check_hour, defBody s_check_hour, defScope s_check_hour, [], []⟩
def d_error_told : He.DefD := ⟨("error_told", none), "error_told", "error_told", defArgs s_error_told, defBody s_error_told, defScope s_error_told, [], []⟩
def d_drift : He.DefD := ⟨("drift", none), "drift", "drift", defArgs s_drift, defBody s_drift, defScope s_drift, [], []⟩
def d_shown_at : He.DefD := ⟨("shown_at", none), "shown_at", "shown_at", defArgs s_shown_at, defBody s_shown_at, defScope s_shown_at, [.non], []⟩
def d_moments_of : He.DefD := ⟨("moments_of", none), "moments_of", "moments_of", defArgs s_moments_of, defBody s_moments_of, defScope s_moments_of, [.non], []⟩
def d_leaps_of : He.DefD := ⟨("leaps_of", none), "leaps_of", "leaps_of", defArgs s_leaps_of, defBody s_leaps_of, defScope s_leaps_of, [], []⟩
def d_turned_back : He.DefD := ⟨("turned_back", none), "turned_back", "turned_back", defArgs s_turned_back, defBody s_turned_back, defScope s_turned_back, [.non], []⟩
def d_skipped : He.DefD := ⟨("skipped", none), "skipped", "skipped", defArgs s_skipped, defBody s_skipped, defScope s_skipped, [.non], []⟩
def d_law_cell_at : He.DefD := ⟨("_law_cell_at", none), "_law_cell_at", "_law_cell_at", defArgs s_law_cell_at, defBody s_law_cell_at, defScope s_law_cell_at, [], []⟩
def d_law_next : He.DefD := ⟨("_law_next", none), "_law_next", "_law_next", defArgs s_law_next, defBody s_law_next, defScope s_law_next, [], []⟩
def d_law_pen_of : He.DefD := ⟨("_law_pen_of", none), "_law_pen_of", "_law_pen_of", defArgs s_law_pen_of, defBody s_law_pen_of, defScope s_law_pen_of, [], []⟩
def d_law_draw : He.DefD := ⟨("_law_draw", none), "_law_draw", "_law_draw", defArgs s_law_draw, defBody s_law_draw, defScope s_law_draw, [], []⟩
def d_law_made : He.DefD := ⟨("_law_made", none), "_law_made", "_law_made", defArgs s_law_made, defBody s_law_made, defScope s_law_made, [], []⟩
def d_law_sum : He.DefD := ⟨("_law_sum", none), "_law_sum", "_law_sum", defArgs s_law_sum, defBody s_law_sum, defScope s_law_sum, [], []⟩
def d_law_under : He.DefD := ⟨("_law_under", none), "_law_under", "_law_under", defArgs s_law_under, defBody s_law_under, defScope s_law_under, [], []⟩
def d_law_gain : He.DefD := ⟨("_law_gain", none), "_law_gain", "_law_gain", defArgs s_law_gain, defBody s_law_gain, defScope s_law_gain, [], []⟩
def d_law_sets : He.DefD := ⟨("_law_sets", none), "_law_sets", "_law_sets", defArgs s_law_sets, defBody s_law_sets, defScope s_law_sets, [], []⟩
def d_law_flags : He.DefD := ⟨("_law_flags", none), "_law_flags", "_law_flags", defArgs s_law_flags, defBody s_law_flags, defScope s_law_flags, [], []⟩
def d_law_word : He.DefD := ⟨("_law_word", none), "_law_word", "_law_word", defArgs s_law_word, defBody s_law_word, defScope s_law_word, [], []⟩
def d_law_is_part : He.DefD := ⟨("_law_is_part", none), "_law_is_part", "_law_is_part", defArgs s_law_is_part, defBody s_law_is_part, defScope s_law_is_part, [], []⟩
def d_law_is_clock : He.DefD := ⟨("_law_is_clock", none), "_law_is_clock", "_law_is_clock", defArgs s_law_is_clock, defBody s_law_is_clock, defScope s_law_is_clock, [], []⟩
def d_law_bent : He.DefD := ⟨("_law_bent", none), "_law_bent", "_law_bent", defArgs s_law_bent, defBody s_law_bent, defScope s_law_bent, [], []⟩
def d_law_refused : He.DefD := ⟨("_law_refused", none), "_law_refused", "_law_refused", defArgs s_law_refused, defBody s_law_refused, defScope s_law_refused, [], []⟩
def d_law : He.DefD := ⟨("law", none), "law", "law", defArgs s_law, defBody s_law, defScope s_law, [], []⟩
def fns0 : List He.DefD := [d_is_whole, d_is_part, d_check_part, d_is_less, d_is_moment, d_is_gain, d_is_one_set, d_are_sets, d_is_clock, d_check_clock, d_check_moment, d_check_hour]
def fns1 : List He.DefD := [d_error_told, d_drift, d_shown_at, d_moments_of, d_leaps_of, d_turned_back, d_skipped, d_law_cell_at, d_law_next, d_law_pen_of, d_law_draw, d_law_made]
def fns2 : List He.DefD := [d_law_sum, d_law_under, d_law_gain, d_law_sets, d_law_flags, d_law_word, d_law_is_part, d_law_is_clock, d_law_bent, d_law_refused, d_law]
def fns : List He.DefD := fns0 ++ fns1 ++ fns2
def fas0 : List He.Fa := [.glo "is_whole", .glo "is_part", .glo "check_part", .glo "is_less", .glo "is_moment", .glo "is_gain", .glo "is_one_set", .glo "are_sets", .glo "is_clock", .glo "check_clock", .glo "check_moment", .glo "check_hour"]
def fas1 : List He.Fa := [.glo "error_told", .glo "drift", .glo "shown_at", .glo "moments_of", .glo "leaps_of", .glo "turned_back", .glo "skipped", .glo "_law_cell_at", .glo "_law_next", .glo "_law_pen_of", .glo "_law_draw", .glo "_law_made"]
def fas2 : List He.Fa := [.glo "_law_sum", .glo "_law_under", .glo "_law_gain", .glo "_law_sets", .glo "_law_flags", .glo "_law_word", .glo "_law_is_part", .glo "_law_is_clock", .glo "_law_bent", .glo "_law_refused", .glo "law", .glo "NoPart"]
def fas3 : List He.Fa := [.glo "NoNumber", .glo "NoMoment", .glo "NoClock", .glo "NoHour", .glo "NoTelling", .glo "NoTellings", .glo "NoRow", .glo "Apart", .glo "Twice", .glo "Missing", .glo "NoDeed", .glo "NoAir"]
def fas4 : List He.Fa := [.glo "NoSignal", .glo "NoQuarrel", .glo "NoCarriage", .glo "NoLine", .glo "TooMany", .glo "NoText", .glo "ClockError", .free "len", .free "isinstance", .free "tuple", .free "int", .free "bool"]
def fas5 : List He.Fa := [.free "abs", .free "max", .free "min", .free "range", .free "all", .free "any", .free "zip", .free "list", .free "repr", .free "enumerate", .free "str", .free "LookupError"]
def fas6 : List He.Fa := [.free "TypeError", .free "ArithmeticError", .free "RuntimeError", .free "ValueError", .free "sum", .free "sorted", .free "set", .int "MOST_GAIN" 12, .int "MOST_SETS" 6, .glo "NOUGHT", .exc "NoPart", .exc "NoClock"]
def fas7 : List He.Fa := [.exc "NoMoment", .exc "NoHour"]
def fas : List He.Fa := fas0 ++ fas1 ++ fas2 ++ fas3 ++ fas4 ++ fas5 ++ fas6 ++ fas7
def tfs : List He.Defn := [("_law_refused", none), ("law", none)]
def exs (K : PySem.W.Frag) : Bool := (He.tupB K "NOUGHT" [.int 0, .int 1] && (He.eqO (PySem.W.nsIn K mainGlobals "gcd") (some (some (.builtin "math.gcd"))) && (errB K "NoPart" && (errB K "NoMoment" && (errB K "NoHour" && (errB K "NoClock" && apartB K tfs))))))
abbrev Rw : PySem.W.OpenRow := PySem.W.OpenLaw.row PySem.Challenge.rw_gunclocks_k02_clocks_known
abbrev hkX : PySem.W.Hook := He.hookX 2 fas fns [] tfs exs
def obX (s : PySem.W.SharedT) : He.AlX := He.obsX 2 fas fns [] tfs exs (HandSHeadRun.getT s)
theorem obX_eq (s : PySem.W.SharedT) : obX s = hkX.obs s.abs := He.obsX_eq (HandSHeadRun.getT_eq s)
def nm0 : List PySem.Str := ["ClockError", "NoPart", "NoNumber", "NoMoment", "NoClock", "NoHour", "NoTelling", "NoTellings", "NoRow", "Apart", "Twice", "Missing"]
def nm1 : List PySem.Str := ["NoDeed", "NoAir", "NoSignal", "NoQuarrel", "NoCarriage", "NoLine", "TooMany", "NoText", "NOUGHT", "is_whole", "is_part", "check_part"]
def nm2 : List PySem.Str := ["lowest", "sum_of", "difference_of", "product_of", "is_below", "added", "less", "times", "divided", "is_less", "DAY_HOURS", "MOST_GAIN"]
def nm3 : List PySem.Str := ["MOST_SETS", "is_moment", "is_gain", "is_one_set", "are_sets", "is_clock", "check_clock", "check_moment", "check_hour", "error_told", "grown_by", "drift"]
def nm4 : List PySem.Str := ["shown_at", "spans_between", "is_within", "moments_of", "leaps_of", "turned_back", "skipped", "_law_cell_at", "_law_next", "_law_pen_of", "_law_draw", "_law_made"]
def nm5 : List PySem.Str := ["_law_sum", "_law_under", "_law_gain", "_law_sets", "_law_flags", "_law_word", "_law_is_part", "_law_is_clock", "_law_bent", "_law_refused"]
def nms : List PySem.Str := nm0 ++ nm1 ++ nm2 ++ nm3 ++ nm4 ++ nm5
theorem runX (w : World) : HandSHeadRun.RunEqI Rw (PySem.W.view Rw.prog [0, 75]) hkX obX 9000 nms w := by
  unfold HandSHeadRun.RunEqI
  kernel_rfl
open PySem.W PySem.Calls in
theorem top (hc : PySem.W.WalkO (PySem.W.view Rw.prog [0, 75]) nms (PySem.W.XL (PySem.W.view Rw.prog [0, 75]) []) hkX.says Rw.toRowW (HandSHeadRun.topDef Rw.prog 75) [] fun f vs => PySem.call f vs) : PySem.Challenge.rw_gunclocks_k02_clocks_known.Holds := by
  w_on; o_law
  refine HandSHeadRun.head_imp (r := DL.Rw) (q := view DL.Rw.prog [0, 75]) (H := DL.hkX) (ob := DL.obX) (M := 9000) (loose := DL.nms) (d := HandSHeadRun.topDef DL.Rw.prog 75) (kwd := []) DL.obX_eq
    DL.runX (by kernel_rfl) (by kernel_rfl) (by kernel_rfl) (by rfl) (by first | assumption | decide +kernel) (by decide +kernel) ⟨rfl, rfl, rfl, rfl, rfl, by decide +kernel⟩ ?hw hc
  case hw => w_witness2

end DL

set_option maxHeartbeats 4000000
namespace DL
open PySem PySem.Spec PyProof.Rows L2
structure Fr (mg : Str → Option Value) : Prop where
  len_ : mg "len" = none
  isinstance_ : mg "isinstance" = none
  tuple_ : mg "tuple" = none
  int_ : mg "int" = none
  bool_ : mg "bool" = none
  abs_ : mg "abs" = none
  max_ : mg "max" = none
  min_ : mg "min" = none
  range_ : mg "range" = none
  all_ : mg "all" = none
  any_ : mg "any" = none
  zip_ : mg "zip" = none
  list_ : mg "list" = none
  repr_ : mg "repr" = none
  enumerate_ : mg "enumerate" = none
  str_ : mg "str" = none
  LookupError_ : mg "LookupError" = none
  TypeError_ : mg "TypeError" = none
  ArithmeticError_ : mg "ArithmeticError" = none
  RuntimeError_ : mg "RuntimeError" = none
  ValueError_ : mg "ValueError" = none
  sum_ : mg "sum" = none
  sorted_ : mg "sorted" = none
  set_ : mg "set" = none

def isWhole : D → Bool
  | .int _ => true
  | _ => false
def isPart : D → Bool
  | .tup [.int a, .int b] => decide (0 < b) && decide (Nat.gcd a.natAbs b.natAbs = 1)
  | _ => false
def p_is_whole : SpD := fun ds S R _ => ∃ d, ds = [d] ∧ plainD d = true ∧ R (.bl (isWhole d)) S
/-- of a tuple: its items plain -/
def plain2 : D → Bool
  | .tup [a, b] => plainD a && plainD b
  | d => plainD d
def p_is_part : SpD := fun ds S R _ => ∃ d, ds = [d] ∧ plain2 d = true ∧ R (.bl (isPart d)) S
def p_check_part (K : PySem.W.Frag) : SpD := fun ds S R Rx => ∃ d, ds = [d] ∧ plain2 d = true ∧ (isPart d = true → R .non S) ∧ (isPart d = false → Rx (erO K "NoPart") S)
theorem nat_ne {b : Int} (h : b ≠ 0) : b.natAbs ≠ 0 := by omega
/-- top over bottom, of either sign -/
def over (a b : Int) (h : b ≠ 0) : Rat := Rat.normalize (if b < 0 then -a else a) b.natAbs (nat_ne h)
def p_lowest : SpD := fun ds S R _ => ∃ (a b : Int) (h : b ≠ 0), ds = [.int a, .int b] ∧ b.natAbs < 2 ^ 9000 ∧ R (pt (over a b h)) S
abbrev Sm (q : Rat) : Prop := Sz 4000 q
def p_sum_of : SpD := fun ds S R _ => ∃ p q : Rat, ds = [pt p, pt q] ∧ Sm p ∧ Sm q ∧ R (pt (p + q)) S
def p_product_of : SpD := fun ds S R _ => ∃ p q : Rat, ds = [pt p, pt q] ∧ Sm p ∧ Sm q ∧ R (pt (p * q)) S
def p_difference_of : SpD := fun ds S R _ => ∃ p q : Rat, ds = [pt p, pt q] ∧ Sm p ∧ Sm q ∧ R (pt (p - q)) S
def p_is_below : SpD := fun ds S R _ => ∃ p q : Rat, ds = [pt p, pt q] ∧ Sm p ∧ Sm q ∧ R (.bl (decide (p < q))) S
def p_opposite : SpD := fun ds S R _ => ∃ p : Rat, ds = [pt p] ∧ R (pt (-p)) S
/-- a part from 0 on -/
def isUp : D → Bool
  | .tup [.int a, .int b] => isPart (.tup [.int a, .int b]) && decide (0 ≤ a)
  | _ => false
def p_is_from_nought : SpD := fun ds S R _ => ∃ d, ds = [d] ∧ plain2 d = true ∧ R (.bl (isUp d)) S
def two (K : PySem.W.Frag) (f : Rat → Rat → D) : SpD := fun ds S R Rx => ∃ a b, ds = [a, b] ∧ plain2 a = true ∧ (isPart a = true → plain2 b = true) ∧ (isPart a = false → Rx (erO K "NoPart") S) ∧ (isPart a = true → isPart b = false → Rx (erO K "NoPart") S) ∧
  ∀ p q : Rat, a = pt p → b = pt q → Sm p ∧ Sm q ∧ R (f p q) S
def p_added (K : PySem.W.Frag) : SpD := two K fun p q => pt (p + q)
def p_less (K : PySem.W.Frag) : SpD := two K fun p q => pt (p - q)
def p_times (K : PySem.W.Frag) : SpD := two K fun p q => pt (p * q)
def p_is_less (K : PySem.W.Frag) : SpD := two K fun p q => .bl (decide (p < q))
theorem isPart_pt (q : Rat) : isPart (pt q) = true := by
  show (decide (0 < (q.den : Int)) && decide (Nat.gcd q.num.natAbs (q.den : Int).natAbs = 1)) = true
  have h1 := q.den_nz
  have h2 : Nat.gcd q.num.natAbs q.den = 1 := q.reduced
  rw [Bool.and_eq_true]
  refine ⟨decide_eq_true (by omega), decide_eq_true ?_⟩
  rw [Int.natAbs_natCast]
  exact h2
theorem isPart_at {d : D} (h : isPart d = true) : ∃ q : Rat, d = pt q := by
  unfold isPart at h
  split at h
  · rename_i a b
    obtain ⟨h1, h2⟩ := Bool.and_eq_true_iff.mp h
    have h1 := of_decide_eq_true h1
    have h2 := of_decide_eq_true h2
    refine ⟨⟨a, b.natAbs, by omega, h2⟩, ?_⟩
    show D.tup [.int a, .int b] = .tup [.int a, .int (b.natAbs : Int)]
    rw [Int.natAbs_of_nonneg (by omega)]
  · cases h
theorem pt_inj {p q : Rat} (h : pt p = pt q) : p = q := by
  have h1 : D.tup [.int p.num, .int p.den] = .tup [.int q.num, .int q.den] := h
  injection h1 with h2
  injection h2 with h3 h4
  injection h3 with h3
  injection h4 with h4 h5
  injection h4 with h4
  exact Rat.ext h3 (by omega)
theorem cm_of {i j : Int} {n m : Nat} (hi : i.natAbs < 2 ^ n) (hj : j.natAbs < 2 ^ m) (h : n + m ≤ 900000) : CMulW i j :=
  wide_mul (a := n + 1) (b := m + 1) (Nat.lt_of_lt_of_le hi (Nat.pow_le_pow_right (by decide) (by omega))) (Nat.lt_of_lt_of_le hj (Nat.pow_le_pow_right (by decide) (by omega))) (by omega) (by omega) (by omega)
theorem Sm.n {q : Rat} (h : Sm q) : q.num.natAbs < 2 ^ 4000 := h.1
theorem Sm.d {q : Rat} (h : Sm q) : (q.den : Int).natAbs < 2 ^ 4000 := by
  rw [Int.natAbs_natCast]
  exact h.2
theorem den_mul {p q : Rat} (hp : Sm p) (hq : Sm q) : p.den * q.den < 2 ^ 9000 := by
  have := Nat.mul_lt_mul'' hp.2 hq.2
  rw [← Nat.pow_add] at this
  exact Nat.lt_of_lt_of_le this (Nat.pow_le_pow_right (by decide) (by decide))
theorem den_nz2 (p q : Rat) : p.den * q.den ≠ 0 := Nat.mul_ne_zero p.den_nz q.den_nz
theorem log_of {n k : Nat} (h : n < 2 ^ k) (hk : 0 < k) : n.log2 < k := PySem.Flt.log2_lt_of hk h
theorem fdiv_nat {a : Int} {g : Nat} : a.fdiv (g : Int) = a / (g : Int) := Int.fdiv_eq_ediv_of_nonneg a (by omega)
theorem gcd_pos' {a : Int} {b : Nat} (h : b ≠ 0) : 0 < a.natAbs.gcd b := Nat.gcd_pos_of_pos_right _ (Nat.pos_of_ne_zero h)
theorem r_ixP0 {S : Sto} {R : KR} {q : Rat} (k : R (.int q.num) S) : dIx (pt q) (.int 0) S R := ⟨_, atI_0, k⟩
theorem r_ixP1 {S : Sto} {R : KR} {q : Rat} (k : R (.int q.den) S) : dIx (pt q) (.int 1) S R := ⟨_, atI_1, k⟩
theorem normal_pt {a : Int} {b : Nat} (h : b ≠ 0) : pt (Rat.normalize a b h) = .tup [.int (a.fdiv ((a.natAbs.gcd b : Nat) : Int)), .int (((b : Nat) : Int).fdiv ((a.natAbs.gcd b : Nat) : Int))] := by
  show D.tup [.int _, .int ((Rat.normalize a b h).den : Int)] = _
  rw [norm_num, norm_den, fdiv_nat, fdiv_nat, Int.natCast_ediv]
theorem gcd_side {a : Int} {b : Nat} (h : b ≠ 0) (hb : b < 2 ^ 9000) : ((a.natAbs.gcd b : Nat) : Int) ≠ 0 ∧ ((a.natAbs.gcd b : Nat) : Int).natAbs.log2 < 9000 := by
  have hg := gcd_pos' (a := a) h
  have hgl : a.natAbs.gcd b ≤ b := Nat.gcd_le_right _ (Nat.pos_of_ne_zero h)
  exact ⟨by omega, by rw [Int.natAbs_natCast]; exact log_of (by omega) (by decide)⟩
theorem lt_pt {p q : Rat} : decide (p.num * (q.den : Int) < q.num * (p.den : Int)) = decide (p < q) := by rw [decide_eq_decide, Rat.lt_iff]
theorem gain_le {q : Rat} (h : q.num.natAbs ≤ 12 * q.den) : decide ((if q.num < 0 then -q.num else q.num) ≤ 12 * (q.den : Int)) = true := decide_eq_true (by split <;> omega)

theorem i_is_whole {S : Sto} {R : KR} {Rx : Er → Sto → Prop} {a : D} (h : plainD a = true) (k : R (.bl (isWhole a)) S) : ([a] ++ ([] : List D)).length = 1 ∧ p_is_whole ([a] ++ []) S R Rx := ⟨rfl, a, rfl, h, k⟩
theorem i_is_part {S : Sto} {R : KR} {Rx : Er → Sto → Prop} {a : D} (h : plain2 a = true) (k : R (.bl (isPart a)) S) : ([a] ++ ([] : List D)).length = 1 ∧ p_is_part ([a] ++ []) S R Rx := ⟨rfl, a, rfl, h, k⟩
theorem isWhole_of {a : D} (h : isWhole a = true) : ∃ i, a = .int i := by
  cases a <;> first | exact ⟨_, rfl⟩ | cases h
theorem isPart_l {a b : D} (h : isWhole a = false) : isPart (.tup [a, b]) = false := by
  cases a <;> first | rfl | cases h
theorem isPart_r {a b : D} (h : isWhole b = false) : isPart (.tup [a, b]) = false := by
  cases a <;> cases b <;> first | rfl | cases h
theorem isPart_2 {d : D} (h : ¬ ∃ a b, d = .tup [a, b]) : isPart d = false := by
  unfold isPart
  split
  · exact absurd ⟨_, _, rfl⟩ h
  · rfl
theorem len_2 {xs : List D} (h : ¬ ∃ a b, D.tup xs = .tup [a, b]) : (!decide (((xs.length : Nat) : Int) = 2)) = true := by
  match xs, h with
  | [], _ => rfl
  | [a], _ => rfl
  | [a, b], h => exact absurd ⟨a, b, rfl⟩ h
  | a :: b :: c :: r, _ => rw [decide_eq_false (by simp only [List.length_cons]; omega)]; rfl

section
variable {K : PySem.W.Frag} {S : Sto} {R : KR} {Rx : Er → Sto → Prop} {p q : Rat} {d a b : D}
theorem i_check_part (h : plain2 d = true) (k : isPart d = true → R .non S) (x : isPart d = false → Rx (erO K "NoPart") S) : ([d] ++ ([] : List D)).length = 1 ∧ p_check_part K ([d] ++ []) S R Rx := ⟨rfl, d, rfl, h, k, x⟩
theorem i_lowest {a b : Int} (h : b ≠ 0) (hb : b.natAbs < 2 ^ 9000) (k : R (pt (over a b h)) S) : ([D.int a, .int b] ++ ([] : List D)).length = 2 ∧ p_lowest ([D.int a, .int b] ++ []) S R Rx := ⟨rfl, a, b, h, rfl, hb, k⟩
theorem i_sum_of (hp : Sm p) (hq : Sm q) (k : R (pt (p + q)) S) : ([pt p, pt q] ++ ([] : List D)).length = 2 ∧ p_sum_of ([pt p, pt q] ++ []) S R Rx := ⟨rfl, p, q, rfl, hp, hq, k⟩
theorem i_product_of (hp : Sm p) (hq : Sm q) (k : R (pt (p * q)) S) : ([pt p, pt q] ++ ([] : List D)).length = 2 ∧ p_product_of ([pt p, pt q] ++ []) S R Rx := ⟨rfl, p, q, rfl, hp, hq, k⟩
theorem two_pt {f : Rat → Rat → D} (hp : Sm p) (hq : Sm q) (k : R (f p q) S) : ([pt p, pt q] ++ ([] : List D)).length = 2 ∧ two K f ([pt p, pt q] ++ []) S R Rx :=
  ⟨rfl, pt p, pt q, rfl, rfl, fun _ => rfl, fun z => (by rw [isPart_pt] at z; cases z), fun _ z => (by rw [isPart_pt] at z; cases z), fun p' q' e1 e2 => by rw [← pt_inj e1, ← pt_inj e2]; exact ⟨hp, hq, k⟩⟩
theorem i_added (hp : Sm p) (hq : Sm q) (k : R (pt (p + q)) S) : ([pt p, pt q] ++ ([] : List D)).length = 2 ∧ p_added K ([pt p, pt q] ++ []) S R Rx := two_pt hp hq k
theorem i_less (hp : Sm p) (hq : Sm q) (k : R (pt (p - q)) S) : ([pt p, pt q] ++ ([] : List D)).length = 2 ∧ p_less K ([pt p, pt q] ++ []) S R Rx := two_pt hp hq k
theorem i_times (hp : Sm p) (hq : Sm q) (k : R (pt (p * q)) S) : ([pt p, pt q] ++ ([] : List D)).length = 2 ∧ p_times K ([pt p, pt q] ++ []) S R Rx := two_pt hp hq k
theorem i_is_less (hp : Sm p) (hq : Sm q) (k : R (.bl (decide (p < q))) S) : ([pt p, pt q] ++ ([] : List D)).length = 2 ∧ p_is_less K ([pt p, pt q] ++ []) S R Rx := two_pt hp hq k
theorem two_bad1 {f : Rat → Rat → D} (h1 : plain2 a = true) (h : isPart a = false) (k : Rx (erO K "NoPart") S) : two K f [a, b] S R Rx :=
  ⟨a, b, rfl, h1, fun z => (by rw [h] at z; cases z), fun _ => k, fun _ _ => k, fun p q e1 _ => by subst e1; rw [isPart_pt] at h; cases h⟩
theorem two_bad2 {f : Rat → Rat → D} (h2 : plain2 b = true) (h : isPart b = false) (k : Rx (erO K "NoPart") S) : two K f [pt p, b] S R Rx :=
  ⟨pt p, b, rfl, rfl, fun _ => h2, fun _ => k, fun _ _ => k, fun p q _ e2 => by subst e2; rw [isPart_pt] at h; cases h⟩
theorem over_nat {a : Int} {b : Nat} (h : ((b : Nat) : Int) ≠ 0) (h' : b ≠ 0) : over a b h = Rat.normalize a b h' := by
  unfold over
  have e : (if ((b : Nat) : Int) < 0 then -a else a) = a := if_neg (by omega)
  simp only [e, Int.natAbs_natCast]
end
/-! ### the law's own defs -/
def Pen (S : Sto) (i : Nat) : Prop := ∃ a b c : Int, S[i]? = some [.int a, .int b, .int c]
structure Stm (i : Nat) (S S' : Sto) : Prop where
  le : S.length ≤ S'.length
  keep : ∀ j, j < S.length → j ≠ i → S'[j]? = S[j]?
  pen : Pen S' i
theorem Stm.trans {i : Nat} {S S1 S2 : Sto} (h : Stm i S S1) (g : Stm i S1 S2) : Stm i S S2 :=
  ⟨Nat.le_trans h.le g.le, fun j hj hn => (g.keep j (Nat.lt_of_lt_of_le hj h.le) hn).trans (h.keep j hj hn), g.pen⟩
theorem Pen.lt {S : Sto} {i : Nat} (h : Pen S i) : i < S.length := by
  obtain ⟨a, b, c, h⟩ := h
  exact (List.getElem?_eq_some_iff.mp h).1
theorem Stm.of {i : Nat} {S : Sto} (h : Pen S i) : Stm i S S := ⟨Nat.le_refl _, fun _ _ _ => rfl, h⟩
theorem Stm.set {i : Nat} {S : Sto} {a b c : Int} (h : i < S.length) : Stm i S (S.set i [.int a, .int b, .int c]) :=
  ⟨Nat.le_of_eq List.length_set.symm, fun j hj hn => List.getElem?_set_ne (fun e => hn e.symm), a, b, c, List.getElem?_set_self h⟩
theorem Stm.new {i : Nat} {S : Sto} {xs : List D} (h : Pen S i) : Stm i S (S ++ [xs]) := by
  obtain ⟨a, b, c, e⟩ := h
  refine ⟨by rw [List.length_append]; omega, fun j hj hn => List.getElem?_append_left hj, a, b, c, ?_⟩
  rw [List.getElem?_append_left (List.getElem?_eq_some_iff.mp e).1]
  exact e
theorem Stm.put {i n : Nat} {S S' : Sto} {xs : List D} (h : Stm i S S') (hn : S.length ≤ n) (hi : n ≠ i) : Stm i S (S'.set n xs) := by
  refine ⟨by rw [List.length_set]; exact h.le, fun j hj hn' => ?_, ?_⟩
  · rw [List.getElem?_set_ne (by omega)]
    exact h.keep j hj hn'
  · obtain ⟨a, b, c, e⟩ := h.pen
    exact ⟨a, b, c, by rw [List.getElem?_set_ne hi]; exact e⟩
theorem Stm.pen0 {i : Nat} {S S' : Sto} (h : Stm i S S') : Pen S' i := h.pen
def p_law_cell_at : SpD := fun ds S R _ => ∃ ns : List Int, ds = [.scr (ns.map D.int), .int 0] ∧ ∀ z, R (.int z) S
def p_law_next : SpD := fun ds S R _ => ∃ a : Int, ds = [.int a] ∧ ∀ r : Int, 0 ≤ r → r < 2 ^ 31 → R (.int r) S
def p_law_pen_of : SpD := fun ds S R _ => ∃ z : Int, ds = [.int z] ∧ ∀ a b c : Int, R (.mu S.length) (S ++ [[.int a, .int b, .int c]])
def p_law_draw : SpD := fun ds S R _ => ∃ (i : Nat) (m : Int), ds = [.mu i, .int m] ∧ 0 < m ∧ m < 2 ^ 60 ∧ Pen S i ∧ ∀ (x : Int) S', 0 ≤ x → x < m → Stm i S S' → R (.int x) S'
def p_law_made : SpD := fun ds S R _ => ∃ (a : Int) (b : Nat) (h : b ≠ 0), ds = [.int a, .int b] ∧ b < 2 ^ 9000 ∧ R (pt (Rat.normalize a b h)) S
def ptwo (f : Rat → Rat → D) : SpD := fun ds S R _ => ∃ p q : Rat, ds = [pt p, pt q] ∧ Sm p ∧ Sm q ∧ R (f p q) S
def p_law_sum : SpD := ptwo fun p q => pt (p + q)
def p_law_rest : SpD := ptwo fun p q => pt (p - q)
def p_law_prod : SpD := ptwo fun p q => pt (p * q)
def p_law_under : SpD := ptwo fun p q => .bl (decide (p < q))
section
variable {S : Sto} {R : KR} {Rx : Er → Sto → Prop} {p q : Rat} {i : Nat} {a : Int}
theorem i_next (k : ∀ r : Int, 0 ≤ r → r < 2 ^ 31 → R (.int r) S) : ([D.int a] ++ ([] : List D)).length = 1 ∧ p_law_next ([D.int a] ++ []) S R Rx := ⟨rfl, a, rfl, k⟩
theorem i_draw (h0 : 0 < a) (h1 : a < 2 ^ 60) (hp : Pen S i) (k : ∀ (x : Int) S', 0 ≤ x → x < a → Stm i S S' → R (.int x) S') : ([D.mu i, D.int a] ++ ([] : List D)).length = 2 ∧ p_law_draw ([D.mu i, D.int a] ++ []) S R Rx := ⟨rfl, i, a, rfl, h0, h1, hp, k⟩
theorem i_made {a c : Int} {b : Nat} (h0 : b ≠ 0) (hc : c = (b : Int)) (hb : b < 2 ^ 9000) (k : R (pt (Rat.normalize a b h0)) S) : ([D.int a, D.int c] ++ ([] : List D)).length = 2 ∧ p_law_made ([D.int a, D.int c] ++ []) S R Rx := by
  subst hc
  exact ⟨rfl, a, b, h0, rfl, hb, k⟩
theorem i_sum (hp : Sm p) (hq : Sm q) (k : R (pt (p + q)) S) : ([pt p, pt q] ++ ([] : List D)).length = 2 ∧ p_law_sum ([pt p, pt q] ++ []) S R Rx := ⟨rfl, p, q, rfl, hp, hq, k⟩
theorem i_rest (hp : Sm p) (hq : Sm q) (k : R (pt (p - q)) S) : ([pt p, pt q] ++ ([] : List D)).length = 2 ∧ p_law_rest ([pt p, pt q] ++ []) S R Rx := ⟨rfl, p, q, rfl, hp, hq, k⟩
theorem i_prod (hp : Sm p) (hq : Sm q) (k : R (pt (p * q)) S) : ([pt p, pt q] ++ ([] : List D)).length = 2 ∧ p_law_prod ([pt p, pt q] ++ []) S R Rx := ⟨rfl, p, q, rfl, hp, hq, k⟩
theorem i_under (hp : Sm p) (hq : Sm q) (k : R (.bl (decide (p < q))) S) : ([pt p, pt q] ++ ([] : List D)).length = 2 ∧ p_law_under ([pt p, pt q] ++ []) S R Rx := ⟨rfl, p, q, rfl, hp, hq, k⟩
theorem r_ixIn {xs : List D} {i : Int} (h0 : 0 ≤ i) (h1 : i < xs.length) (k : ∀ d ∈ xs, R d S) : dIx (.lst xs) (.int i) S R := by
  obtain ⟨n, rfl⟩ := Int.eq_ofNat_of_zero_le h0
  have hn : n < xs.length := by omega
  refine ⟨xs, xs[n], rfl, ?_, k _ (List.getElem_mem hn)⟩
  unfold atI ixN
  rw [if_pos h0, if_pos (by omega)]
  show xs[n]? = _
  exact List.getElem?_eq_getElem hn
end
theorem fmod_lo {a : Int} {m : Int} (h : 0 < m) : 0 ≤ a.fmod m := Int.fmod_nonneg_of_pos a h
theorem fmod_hi {a : Int} {m : Int} (h : 0 < m) : a.fmod m < m := Int.fmod_lt_of_pos a h
theorem p31 {a : Int} (h0 : 0 ≤ a) (h1 : a < 2 ^ 31) : a.natAbs < 2 ^ 31 := by omega
theorem small_log {m : Int} (h0 : 0 < m) (h1 : m < 2 ^ 60) : m ≠ 0 ∧ m.natAbs.log2 < 9000 := ⟨by omega, log_of (Nat.lt_of_lt_of_le (show m.natAbs < 2 ^ 60 by omega) (Nat.pow_le_pow_right (by decide) (by decide))) (by decide)⟩
theorem fmod_nat {a b : Nat} : (a : Int).fmod (b : Int) = ((a % b : Nat) : Int) := by
  rw [Int.fmod_eq_emod_of_nonneg _ (by omega)]
  rfl
abbrev ptP (q : Rat) : PyData := .tuple [.int q.num, .int q.den]
theorem shw_pt {q : Rat} {n : Nat} (h : Sz n q) (hn : n.ble 1100 = true) : Shw (n + 1 + (n + 1 + 0)) 1 (ptP q) :=
  .tup (.cons (.int h.1 hn) (.cons (.int (by rw [Int.natAbs_natCast]; exact h.2) hn) .nil))
section
variable {env : Vars} {S : Sto} {E : Ds} {u v : WS'}
theorem seq_by (Q : Vars → Sto → Prop) (h : ∀ N : Vars → Sto → Prop, (∀ e s, Q e s → N e s) → u env S { E with nx := N }) (k : ∀ e s, Q e s → v e s E) : sSeq u v env S E := h _ k
theorem r_size0 {A : Prop} (k : A) : ([] : List D).length ≤ sizeLine ∧ A := ⟨size100 (by decide), k⟩
theorem r_size3 {a b c : D} {A : Prop} (k : A) : [a, b, c].length ≤ sizeLine ∧ A := ⟨size100 (Nat.le_of_ble_eq_true rfl), k⟩
end

theorem max_nat {a : Int} : (if 0 - a > a then 0 - a else a) = (a.natAbs : Int) := by split <;> omega
abbrev p_law_plus : SpD := p_law_sum
abbrev p_law_minus : SpD := p_law_rest
abbrev p_law_product : SpD := p_law_prod
abbrev p_law_below : SpD := p_law_under
theorem sz0 : Sz 1 (0 : Rat) := ⟨by decide, by decide⟩
theorem sz1 : Sz 1 (1 : Rat) := ⟨by decide, by decide⟩
def absR (q : Rat) : Rat := ⟨(q.num.natAbs : Int), q.den, q.den_nz, by rw [Int.natAbs_natCast]; exact q.reduced⟩
theorem sz_abs {n : Nat} {q : Rat} (h : Sz n q) : Sz n (absR q) := ⟨by show ((q.num.natAbs : Int)).natAbs < _; rw [Int.natAbs_natCast]; exact h.1, h.2⟩
theorem absR_0 {q : Rat} : 0 ≤ absR q := of_num (show (0 : Int) ≤ (q.num.natAbs : Int) by omega)
theorem stm_st {S : Sto} {xs : List D} {i : Nat} (h : Pen S i) : Pen (S ++ [xs]) i := (Stm.new h).pen
theorem isUp_pt {q : Rat} : isUp (pt q) = decide (0 ≤ q.num) := by
  show (isPart (pt q) && decide (0 ≤ q.num)) = _
  rw [isPart_pt, Bool.true_and]
theorem isUp_no {d : D} (h : isPart d = false) : isUp d = false := by
  unfold isUp
  split
  · rw [h]
    rfl
  · rfl
section
variable {K : PySem.W.Frag} {S : Sto} {R : KR} {Rx : Er → Sto → Prop} {p q : Rat} {d a b : D} {A B : Prop} {c : Bool} {Z : Prop} [Decidable Z]
theorem i_difference_of (hp : Sm p) (hq : Sm q) (k : R (pt (p - q)) S) : ([pt p, pt q] ++ ([] : List D)).length = 2 ∧ p_difference_of ([pt p, pt q] ++ []) S R Rx := ⟨rfl, p, q, rfl, hp, hq, k⟩
theorem i_is_below (hp : Sm p) (hq : Sm q) (k : R (.bl (decide (p < q))) S) : ([pt p, pt q] ++ ([] : List D)).length = 2 ∧ p_is_below ([pt p, pt q] ++ []) S R Rx := ⟨rfl, p, q, rfl, hp, hq, k⟩
theorem i_opposite (k : R (pt (-p)) S) : ([pt p] ++ ([] : List D)).length = 1 ∧ p_opposite ([pt p] ++ []) S R Rx := ⟨rfl, p, rfl, k⟩
theorem i_is_part_pt (k : R (.bl true) S) : ([pt p] ++ ([] : List D)).length = 1 ∧ p_is_part ([pt p] ++ []) S R Rx := ⟨rfl, _, rfl, rfl, by rw [isPart_pt]; exact k⟩
theorem i_is_up (z : plain2 d = true) (k : R (.bl (isUp d)) S) : ([d] ++ ([] : List D)).length = 1 ∧ p_is_from_nought ([d] ++ []) S R Rx := ⟨rfl, d, rfl, z, k⟩
theorem r_bothT (k1 : c = true → A) (k2 : c = false → B) : if c = true then A else B := by
  cases c with
  | true => rw [if_pos rfl]; exact k1 rfl
  | false => rw [if_neg (by decide)]; exact k2 rfl
theorem r_bothF (k1 : c = false → A) (k2 : c = true → B) : if (!c) = true then A else B := by
  cases c with
  | true => exact (if_neg (show ¬ (!true) = true by decide)).mpr (k2 rfl)
  | false => exact (if_pos (show (!false) = true from rfl)).mpr (k1 rfl)
theorem r_bothD (k1 : Z → A) (k2 : ¬ Z → B) : if decide Z = true then A else B := by
  by_cases h : Z
  · rw [if_pos (decide_eq_true h)]; exact k1 h
  · rw [if_neg (by rw [decide_eq_false h]; decide)]; exact k2 h
theorem r_bothN (k1 : ¬ Z → A) (k2 : Z → B) : if (!decide Z) = true then A else B := by
  by_cases h : Z
  · rw [if_neg (by rw [decide_eq_true h]; decide)]; exact k2 h
  · rw [if_pos (by rw [decide_eq_false h]; rfl)]; exact k1 h
theorem r_blE {u v : Bool} (k : R (.bl u) S) (e : u = v) : R (.bl v) S := e ▸ k
/-- each kind of a part: one that is, one that is none -/
theorem i_part_c (z : plain2 d = true) (k1 : ∀ q, d = pt q → R (.bl true) S) (k2 : isPart d = false → R (.bl false) S) : ([d] ++ ([] : List D)).length = 1 ∧ p_is_part ([d] ++ []) S R Rx := by
  refine ⟨rfl, d, rfl, z, ?_⟩
  cases e : isPart d with
  | true =>
    obtain ⟨q, rfl⟩ := isPart_at e
    exact k1 q rfl
  | false => exact k2 e
theorem i_up_c (z : plain2 d = true) (k1 : ∀ q : Rat, d = pt q → 0 ≤ q → R (.bl true) S) (k2 : isUp d = false → R (.bl false) S) : ([d] ++ ([] : List D)).length = 1 ∧ p_is_from_nought ([d] ++ []) S R Rx := by
  refine ⟨rfl, d, rfl, z, ?_⟩
  cases e : isUp d with
  | true =>
    cases e2 : isPart d with
    | true =>
      obtain ⟨q, rfl⟩ := isPart_at e2
      rw [isUp_pt] at e
      exact k1 q rfl (of_num (of_decide_eq_true e))
    | false => rw [isUp_no e2] at e; cases e
  | false => exact k2 e
end

theorem comp_all {ck : Sto → Prop} {b : Bd} {te : WE'} {own : List Nat} {env : Vars} {Rf : List D → Sto → Prop} {xs : List D} {S : Sto} (f : D → Bool) (hl : xs.length ≤ 1000) (hck : ck S)
    (hs : ∀ (d : D) (N : D → Sto → Prop), d ∈ xs → N (.bl (f d)) S → bindE b d (wipeE env own) fun env1 => te env1 S N noX) (hd : Rf ((xs.map f).map D.bl) S) : comp ck b wYes te own env Rf xs [] S := by
  refine comp_by (fun i acc S1 => S = S1 ∧ acc = ((xs.take i).map f).map D.bl) ⟨rfl, rfl⟩ ?_ ?_
  · intro i d acc S1 N hi hI hN
    obtain ⟨rfl, rfl⟩ := hI
    refine ⟨hck, ?_⟩
    have h1 : i < xs.length := (List.getElem?_eq_some_iff.mp hi).1
    refine hs d (fun y S3 => _ ∧ N (_ ++ [y]) S3) (List.mem_of_getElem? hi) ⟨?_, hN _ _ ⟨rfl, ?_⟩⟩
    · rw [List.length_map, List.length_map, List.length_take]
      have : (1001 : Nat) < sizeLine := by decide
      omega
    · rw [List.take_add_one, hi, List.map_append, List.map_append]
      rfl
  · intro acc S1 hI
    obtain ⟨rfl, rfl⟩ := hI
    refine ⟨hck, ?_⟩
    rw [List.take_length]
    exact hd
theorem all_map {xs : List D} {f : D → Bool} : (xs.map f).all id = xs.all f := by
  rw [List.all_map]
  rfl
/-- each item told by what it stands for -/
theorem comp_map {α : Type} {ck : Sto → Prop} {b : Bd} {te : WE'} {own : List Nat} {env : Vars} {Rf : List D → Sto → Prop} {S : Sto} (l : List α) (g f : α → D) (hl : l.length ≤ 1000) (hck : ck S)
    (hs : ∀ (a : α) (N : D → Sto → Prop), a ∈ l → N (f a) S → bindE b (g a) (wipeE env own) fun env1 => te env1 S N noX) (hd : Rf (l.map f) S) : comp ck b wYes te own env Rf (l.map g) [] S := by
  refine comp_by (fun i acc S1 => S = S1 ∧ acc = (l.take i).map f) ⟨rfl, rfl⟩ ?_ ?_
  · intro i d acc S1 N hi hI hN
    obtain ⟨rfl, rfl⟩ := hI
    obtain ⟨a, ha, rfl⟩ := map_at hi
    refine ⟨hck, ?_⟩
    refine hs a (fun y S3 => _ ∧ N (_ ++ [y]) S3) (List.mem_of_getElem? ha) ⟨?_, hN _ _ ⟨rfl, ?_⟩⟩
    · rw [List.length_map, List.length_take]
      have : (1001 : Nat) < sizeLine := by decide
      omega
    · rw [List.take_add_one, ha, List.map_append]
      rfl
  · intro acc S1 hI
    obtain ⟨rfl, rfl⟩ := hI
    refine ⟨hck, ?_⟩
    rw [List.length_map, List.take_length]
    exact hd
/-- items drawn one behind the other -/
theorem comp_pen {α : Type} {ck : Sto → Prop} {b : Bd} {te : WE'} {own : List Nat} {env : Vars} {Rf : List D → Sto → Prop} {xs : List D} {S0 S : Sto} {i : Nat} (P : α → Prop) (g : α → D) (hl : xs.length ≤ 1000) (h0 : Stm i S0 S) (hck : ∀ S', Stm i S0 S' → ck S')
    (hs : ∀ (d : D) (S1 : Sto) (N : D → Sto → Prop), d ∈ xs → Stm i S0 S1 → (∀ a S2, P a → Stm i S0 S2 → N (g a) S2) → bindE b d (wipeE env own) fun env1 => te env1 S1 N noX)
    (hd : ∀ (l : List α) S', l.length = xs.length → (∀ a ∈ l, P a) → Stm i S0 S' → Rf (l.map g) S') : comp ck b wYes te own env Rf xs [] S := by
  refine comp_by (fun k acc S1 => ∃ l : List α, acc = l.map g ∧ l.length = k ∧ (∀ a ∈ l, P a) ∧ Stm i S0 S1) ⟨[], rfl, rfl, fun a h => (by cases h), h0⟩ ?_ ?_
  · intro k d acc S1 N hi ⟨l, hacc, hlen, hP, st⟩ hN
    subst hacc
    have hk := (List.getElem?_eq_some_iff.mp hi).1
    refine ⟨hck _ st, ?_⟩
    refine hs d S1 (fun y S3 => _ ∧ N (_ ++ [y]) S3) (List.mem_of_getElem? hi) st fun a S2 ha s2 => ⟨?_, hN _ _ ⟨l ++ [a], by rw [List.map_append]; rfl, by rw [List.length_append, hlen]; rfl, ?_, s2⟩⟩
    · rw [List.length_map, hlen]
      have : (1001 : Nat) < sizeLine := by decide
      omega
    · intro x hx
      rcases List.mem_append.mp hx with hx | hx
      · exact hP x hx
      · rw [List.mem_singleton.mp hx]
        exact ha
  · intro acc S1 ⟨l, hacc, hlen, hP, st⟩
    subst hacc
    exact ⟨hck _ st, hd l S1 hlen hP st⟩

theorem cut_len {xs : List D} {lo hi : Option Int} : (cutD xs lo hi).length ≤ xs.length := by
  unfold cutD
  rw [List.length_take, List.length_drop]
  omega
theorem cut_mem {xs : List D} {lo hi : Option Int} {d : D} (h : d ∈ cutD xs lo hi) : d ∈ xs := List.mem_of_mem_drop (List.mem_of_mem_take h)
theorem ixN_in {n : Nat} {z : Int} (h0 : 0 ≤ z) (h1 : z < (n : Int)) : ixN n z = some z.toNat := by
  unfold ixN
  rw [if_pos h0, if_pos (by omega)]
theorem atI_in {xs : List D} {z : Int} (h0 : 0 ≤ z) (h1 : z < (xs.length : Int)) : ∃ d ∈ xs, atI xs z = some d := by
  have hn : z.toNat < xs.length := by omega
  refine ⟨xs[z.toNat], List.getElem_mem hn, ?_⟩
  unfold atI
  rw [ixN_in h0 h1]
  exact List.getElem?_eq_getElem hn
theorem r_ixMIn {S : Sto} {R : KR} {xs : List D} {n : Nat} {z : Int} (hs : S[n]? = some xs) (h0 : 0 ≤ z) (h1 : z < (xs.length : Int)) (k : ∀ d ∈ xs, R d S) : dIx (.mu n) (.int z) S R := by
  obtain ⟨d, hd, e⟩ := atI_in h0 h1
  exact ⟨xs, d, hs, e, k d hd⟩
theorem r_ixTIn {S : Sto} {R : KR} {xs : List D} {z : Int} (h0 : 0 ≤ z) (h1 : z < (xs.length : Int)) (k : ∀ d ∈ xs, R d S) : dIx (.tup xs) (.int z) S R := by
  obtain ⟨d, hd, e⟩ := atI_in h0 h1
  exact ⟨d, e, k d hd⟩
theorem r_seqS {u v : WS'} {env : Vars} {S : Sto} {E : Ds} (k : sSeq u v env S E) : sSeq u v env S E := k
theorem r_rng1 {j : Int} {Q : Int → Prop} (h0 : -(2 ^ 62) ≤ j) (h1 : j < 2 ^ 62) (k : Q j) : ∃ i : Int, [D.int j] = [D.int i] ∧ -(2 ^ 62) ≤ i ∧ i < 2 ^ 62 ∧ Q i := ⟨j, rfl, h0, h1, k⟩
theorem r_ix0L {a : D} {xs : List D} {S : Sto} {R : KR} (k : R a S) : dIx (.lst (a :: xs)) (.int 0) S R := r_ixL atI_0 k
theorem r_muE {n : Nat} {Q : Nat → Prop} (k : Q n) : ∃ i, D.mu n = .mu i ∧ Q i := ⟨n, rfl, k⟩
theorem r_itL {xs : List D} {S : Sto} {Q : List D → Prop} (k : Q xs) : ∃ ys, itemsL (.lst xs) S = some ys ∧ Q ys := ⟨xs, rfl, k⟩
theorem r_itT {xs : List D} {Q : List D → Prop} (k : Q xs) : ∃ ys, D.tup xs = .tup ys ∧ Q ys := ⟨xs, rfl, k⟩
theorem r_neSS {S : Sto} {R : KR} {x y : Str} (e : x = y) (k : R (.bl false) S) : dNe (.str x) (.str y) S R := by
  subst e
  show R (.bl (!decide (x = x))) S
  rw [decide_eq_true rfl]
  exact k
theorem sto_at {S : Sto} {xs : List D} : (S ++ [xs])[S.length]? = some xs := by rw [List.getElem?_append_right (Nat.le_refl _), Nat.sub_self]; rfl
theorem sto_set {S : Sto} {xs ys : List D} : (S ++ [xs]).set S.length ys = S ++ [ys] := by
  rw [List.set_append, if_neg (by omega), Nat.sub_self]
  rfl
/-- what stood last stands yet behind some draws -/
theorem st_at {i : Nat} {S S' : Sto} {xs : List D} (h : Stm i (S ++ [xs]) S') (hp : i < S.length := by first | assumption | (apply Pen.lt; assumption)) : S'[S.length]? = some xs := by
  rw [h.keep S.length (by rw [List.length_append, List.length_singleton]; omega) (by omega)]
  exact sto_at

theorem toPs_app {S : Sto} : ∀ {xs ys : List D} {ps qs : List PyData}, toPs S xs = some ps → toPs S ys = some qs → toPs S (xs ++ ys) = some (ps ++ qs)
  | [], _, _, _, h1, h2 => by
    simp only [toPs, Option.some.injEq] at h1
    subst h1
    exact h2
  | x :: xs, ys, ps, qs, h1, h2 => by
    unfold toPs at h1
    split at h1
    · rename_i p ps' e1 e2
      cases h1
      have := toPs_app e2 h2
      show toPs S (x :: (xs ++ ys)) = _
      simp only [toPs, e1, this]
      rfl
    · cases h1

/-! what is shown -/
structure Shx (w n : Nat) (p : PyData) : Prop where
  sh : p.showable = true
  ls : PyData.leavesShort 580 p = true
  wt : p.weight ≤ w
  dp : p.depth ≤ n
structure ShxA (w n : Nat) (ps : List PyData) : Prop where
  sh : PyData.showableAll ps = true
  ls : PyData.leavesShortAll 580 ps = true
  wt : PyData.weightAll ps ≤ w
  dp : PyData.depthAll ps ≤ n
theorem shown_x {i : Int} (h : i.natAbs < 2 ^ 1900) : (PyData.shown (.int i)).length ≤ 580 := by
  have e := int_text_length_le10 (k := 579) (by decide) (Nat.lt_of_lt_of_le h (show (2 : Nat) ^ 1900 ≤ 10 ^ 579 by decide))
  show (Str.ofString (toString i)).length ≤ 580
  rw [PySem.ofString_length]
  exact e
theorem Shx.non : Shx 0 0 .none := ⟨rfl, rfl, Nat.le_refl _, by simp [PyData.depth]⟩
theorem Shx.bl {b : Bool} : Shx 0 0 (.bool b) := ⟨rfl, rfl, Nat.le_refl _, by simp [PyData.depth]⟩
theorem Shx.int {i : Int} {b : Nat} (h : i.natAbs < 2 ^ b) (hb : b.ble 1900 = true) : Shx b 0 (.int i) := by
  have hb := Nat.le_of_ble_eq_true hb
  have h2 : i.natAbs < 2 ^ 1900 := Nat.lt_of_lt_of_le h (Nat.pow_le_pow_right (by decide) hb)
  have hl : i.natAbs.log2 < 1900 := PySem.Flt.log2_lt_of (by decide) h2
  refine ⟨?_, ?_, ?_, by simp [PyData.depth]⟩
  · simp only [PyData.showable, decide_eq_true_eq]
    omega
  · simp only [PyData.leavesShort, decide_eq_true_eq]
    exact shown_x h2
  · simp only [PyData.weight]
    by_cases z : i = 0
    · subst z
      exact Nat.zero_le _
    · have n0 : i.natAbs ≠ 0 := by omega
      rw [if_neg (by simpa using z)]
      have hp : 0 < b := by
        rcases Nat.eq_zero_or_pos b with y | y
        · subst y
          omega
        · exact y
      have := PySem.Flt.log2_lt_of hp h
      omega
theorem Shx.mono {w w' n n' : Nat} {p : PyData} (h : Shx w n p) (l : w ≤ w') (m : n ≤ n') : Shx w' n' p := ⟨h.sh, h.ls, Nat.le_trans h.wt l, Nat.le_trans h.dp m⟩
theorem ShxA.nil : ShxA 0 0 [] := ⟨rfl, rfl, Nat.le_refl _, by simp [PyData.depthAll]⟩
theorem ShxA.cons {w w' n n' : Nat} {p : PyData} {ps : List PyData} (h : Shx w n p) (hs : ShxA w' n' ps) : ShxA (w + 1 + w') (max n n') (p :: ps) := by
  refine ⟨?_, ?_, ?_, ?_⟩
  · simp only [PyData.showableAll, h.sh, hs.sh]
    rfl
  · simp only [PyData.leavesShortAll, h.ls, hs.ls]
    rfl
  · simp only [PyData.weightAll]
    have := h.wt
    have := hs.wt
    omega
  · simp only [PyData.depthAll]
    have := h.dp
    have := hs.dp
    omega
theorem Shx.tup {w n : Nat} {ps : List PyData} (h : ShxA w n ps) : Shx w (n + 1) (.tuple ps) := by
  refine ⟨?_, ?_, ?_, ?_⟩
  · simp only [PyData.showable]
    exact h.sh
  · simp only [PyData.leavesShort]
    exact h.ls
  · simp only [PyData.weight]
    exact h.wt
  · simp only [PyData.depth]
    have := h.dp
    omega
theorem Shx.lst {w n : Nat} {ps : List PyData} (h : ShxA w n ps) : Shx w (n + 1) (.list ps) := by
  refine ⟨?_, ?_, ?_, ?_⟩
  · simp only [PyData.showable]
    exact h.sh
  · simp only [PyData.leavesShort]
    exact h.ls
  · simp only [PyData.weight]
    exact h.wt
  · simp only [PyData.depth]
    have := h.dp
    omega
theorem Shx.txt {x : Str} {w : Nat} (h : (x.cps.toList.all fun c => decide (c < 16 ^ 8)) = true) (hw : x.cps.size.ble w = true) : Shx w 0 (.str x) :=
  ⟨by simp [PyData.showable], by simpa only [PyData.leavesShort] using h, by simp only [PyData.weight]; exact Nat.le_of_ble_eq_true hw, by simp [PyData.depth]⟩
theorem Shx.short {w n : Nat} {p : PyData} (h : Shx w n p) (hw : w.ble 28000 = true) : p.shown.length ≤ sizeLine := by
  have hw := Nat.le_of_ble_eq_true hw
  have h1 := PyData.shown_le 580 (by decide) p h.ls
  have h2 := h.wt
  rw [sizeLine_eq]
  omega

theorem shx_pt {q : Rat} {n : Nat} (h : Sz n q) (hn : n.ble 1900 = true) : Shx (n + 1 + (n + 1 + 0)) 1 (ptP q) :=
  .tup (.cons (.int h.1 hn) (.cons (.int (by rw [Int.natAbs_natCast]; exact h.2) hn) .nil))
def ShD (w n : Nat) (d : D) : Prop := ∃ p, (∀ S, toQ S d = some p) ∧ (∀ S, toP S d = some p) ∧ Shx w n p
def ShDs (w n : Nat) (xs : List D) : Prop := ∃ ps, (∀ S, toPs S xs = some ps) ∧ ShxA w n ps
def shD (d : D) : Str := ((toQ [] d).map PyData.shown).getD ""
section
variable {w w' n n' b : Nat} {d : D} {xs ys : List D} {q : Rat} {S : Sto} {R : KR}
theorem ShD.mono (h : ShD w n d) (l : w ≤ w') (m : n ≤ n') : ShD w' n' d := let ⟨p, h0, h1, h2⟩ := h; ⟨p, h0, h1, h2.mono l m⟩
theorem ShDs.mono (h : ShDs w n xs) (l : w ≤ w') (m : n ≤ n') : ShDs w' n' xs := let ⟨ps, h1, h2⟩ := h; ⟨ps, h1, ⟨h2.sh, h2.ls, Nat.le_trans h2.wt l, Nat.le_trans h2.dp m⟩⟩
theorem ShD.non : ShD 0 0 .non := ⟨_, fun _ => rfl, fun _ => rfl, Shx.non⟩
theorem ShD.bl {c : Bool} : ShD 0 0 (.bl c) := ⟨_, fun _ => rfl, fun _ => rfl, Shx.bl⟩
theorem ShD.int {i : Int} (h : i.natAbs < 2 ^ b) (hb : b.ble 1900 = true) : ShD b 0 (.int i) := ⟨_, fun _ => rfl, fun _ => rfl, Shx.int h hb⟩
theorem ShD.nat {k : Nat} (h : k < 2 ^ 20) : ShD 20 0 (.int (k : Int)) := .int (by rw [Int.natAbs_natCast]; exact h) rfl
theorem ShD.lit {i : Int} (h : decide (i.natAbs < 2 ^ 20) = true) : ShD 20 0 (.int i) := .int (of_decide_eq_true h) rfl
theorem ShD.str {x : Str} (h : (x.cps.toList.all fun c => decide (c < 16 ^ 8)) = true) (hw : x.cps.size.ble 60 = true) : ShD 60 0 (.str x) := ⟨_, fun _ => rfl, fun _ => rfl, Shx.txt h hw⟩
theorem ShD.pt (h : Sz b q) (hb : b.ble 1900 = true) : ShD (b + 1 + (b + 1 + 0)) 1 (pt q) := ⟨ptP q, fun _ => rfl, fun _ => rfl, shx_pt h hb⟩
theorem ShDs.nil : ShDs 0 0 [] := ⟨[], fun _ => rfl, ShxA.nil⟩
theorem ShDs.cons (h : ShD w n d) (hs : ShDs w' n' xs) : ShDs (w + 1 + w') (max n n') (d :: xs) := by
  obtain ⟨p, _, e, h⟩ := h
  obtain ⟨ps, es, hs⟩ := hs
  refine ⟨p :: ps, fun S => ?_, ShxA.cons h hs⟩
  simp only [toPs, e S, es S]
theorem ShD.tup (h : ShDs w n xs) : ShD w (n + 1) (.tup xs) := by
  obtain ⟨ps, es, hs⟩ := h
  have e : ∀ S, toP S (.tup xs) = some (.tuple ps) := fun S => by simp only [toP, es S]; rfl
  exact ⟨.tuple ps, e, e, Shx.tup hs⟩
theorem ShD.lst (h : ShDs w n xs) : ShD w (n + 1) (.lst xs) := by
  obtain ⟨ps, es, hs⟩ := h
  have e : ∀ S, toP S (.lst xs) = some (.list ps) := fun S => by simp only [toP, es S]; rfl
  exact ⟨.list ps, e, e, Shx.lst hs⟩
theorem ShDs.of {k : Nat} : ∀ {xs : List D}, (∀ x ∈ xs, ShD w n x) → xs.length ≤ k → ShDs (k * (w + 1)) n xs
  | [], _, _ => ShDs.nil.mono (Nat.zero_le _) (Nat.zero_le _)
  | x :: xs, h, hl => by
    have h1 := h x List.mem_cons_self
    have hk : k = (k - 1) + 1 := by
      rw [List.length_cons] at hl
      omega
    have h2 := ShDs.of (k := k - 1) (fun y hy => h y (List.mem_cons_of_mem _ hy)) (by rw [List.length_cons] at hl; omega)
    refine (ShDs.cons h1 h2).mono ?_ (by rw [Nat.max_self]; exact Nat.le_refl _)
    rw [hk, Nat.add_mul]
    simp only [Nat.add_sub_cancel]
    omega
theorem ShxA.append {ps qs : List PyData} (h : ShxA w n ps) (h' : ShxA w' n' qs) : ShxA (w + w') (max n n') (ps ++ qs) := by
  have e : ∀ ps : List PyData, PyData.weightAll (ps ++ qs) = PyData.weightAll ps + PyData.weightAll qs := fun ps => by
    induction ps with
    | nil => simp [PyData.weightAll]
    | cons p ps ih =>
      simp only [List.cons_append, PyData.weightAll, ih]
      omega
  have e1 : ∀ ps : List PyData, PyData.showableAll (ps ++ qs) = (PyData.showableAll ps && PyData.showableAll qs) := fun ps => by
    induction ps with
    | nil => simp [PyData.showableAll]
    | cons p ps ih => simp only [List.cons_append, PyData.showableAll, ih, Bool.and_assoc]
  have e2 : ∀ ps : List PyData, PyData.leavesShortAll 580 (ps ++ qs) = (PyData.leavesShortAll 580 ps && PyData.leavesShortAll 580 qs) := fun ps => by
    induction ps with
    | nil => simp [PyData.leavesShortAll]
    | cons p ps ih => simp only [List.cons_append, PyData.leavesShortAll, ih, Bool.and_assoc]
  have e3 : ∀ ps : List PyData, PyData.depthAll (ps ++ qs) ≤ max (PyData.depthAll ps) (PyData.depthAll qs) := fun ps => by
    induction ps with
    | nil => simp [PyData.depthAll]
    | cons p ps ih =>
      simp only [List.cons_append, PyData.depthAll]
      omega
  have := e3 ps
  exact ⟨by rw [e1, h.sh, h'.sh]; rfl, by rw [e2, h.ls, h'.ls]; rfl, by rw [e]; have := h.wt; have := h'.wt; omega, by have := h.dp; have := h'.dp; omega⟩
theorem ShDs.append (h : ShDs w n xs) (h' : ShDs w' n' ys) : ShDs (w + w') (max n n') (xs ++ ys) := by
  obtain ⟨ps, es, hs⟩ := h
  obtain ⟨qs, eq, hq⟩ := h'
  exact ⟨ps ++ qs, fun S => toPs_app (es S) (eq S), hs.append hq⟩
theorem ShD.toQ (h : ShD w n d) : ∃ p, (∀ S, toQ S d = some p) ∧ Shx w n p ∧ shD d = p.shown := by
  obtain ⟨p, e, _, h⟩ := h
  exact ⟨p, e, h, by unfold shD; rw [e]; rfl⟩
theorem r_reprD (h : ShD w n d) (hw : w.ble 28000 = true) (hn : n.ble 60 = true) (k : R (.str (shD d)) S) : dRepr [d] S R := by
  obtain ⟨p, e, hs, e2⟩ := h.toQ
  rw [e2] at k
  exact ⟨p, e S, hs.sh, hs.short hw, Nat.le_trans hs.dp (Nat.le_of_ble_eq_true hn), k⟩
end
/-! what may be handed in for a part; a tuple of such; a tuple of these -/
def Pz (n : Nat) (d : D) : Prop := plain2 d = true ∧ ∀ a b : Int, d = .tup [.int a, .int b] → a.natAbs < 2 ^ n ∧ b.natAbs < 2 ^ n
def Qz (n : Nat) (d : D) : Prop := plainD d = true ∧ ∀ xs, d = .tup xs → xs.length ≤ 100 ∧ ∀ x ∈ xs, Pz n x
def Tz (n : Nat) (d : D) : Prop := plainD d = true ∧ ∀ xs, d = .tup xs → xs.length ≤ 100 ∧ ∀ x ∈ xs, Qz n x
section
variable {n m : Nat} {d x : D} {xs : List D} {q : Rat}
theorem Pz.mono (h : Pz n d) (k : n ≤ m) : Pz m d := ⟨h.1, fun a b e => let ⟨h1, h2⟩ := h.2 a b e; ⟨Nat.lt_of_lt_of_le h1 (Nat.pow_le_pow_right (by decide) k), Nat.lt_of_lt_of_le h2 (Nat.pow_le_pow_right (by decide) k)⟩⟩
theorem Qz.mono (h : Qz n d) (k : n ≤ m) : Qz m d := ⟨h.1, fun xs e => ⟨(h.2 xs e).1, fun x hx => ((h.2 xs e).2 x hx).mono k⟩⟩
theorem Tz.mono (h : Tz n d) (k : n ≤ m) : Tz m d := ⟨h.1, fun xs e => ⟨(h.2 xs e).1, fun x hx => ((h.2 xs e).2 x hx).mono k⟩⟩
theorem Pz.pt (h : Sz n q) : Pz n (pt q) := ⟨rfl, fun a b e => by
  have e : D.tup [.int q.num, .int (q.den : Int)] = .tup [.int a, .int b] := e
  cases e
  exact ⟨h.1, by rw [Int.natAbs_natCast]; exact h.2⟩⟩
theorem Pz.sz (h : Pz n (DL.pt q)) : Sz n q := by
  have := h.2 q.num q.den rfl
  rw [Int.natAbs_natCast] at this
  exact this
theorem Pz.p2 (h : Pz n d) : plain2 d = true := h.1
theorem Pz.pD (h : Pz n d) : plainD d = true := by
  have := h.1
  unfold plain2 at this
  split at this
  · rfl
  · exact this
theorem Pz.no (h : plainD d = true) (t : isTup d = false) : Pz n d := by
  refine ⟨?_, fun a b e => by subst e; cases t⟩
  unfold plain2
  split
  · cases t
  · exact h
theorem Pz.two {a b : Int} (h1 : a.natAbs < 2 ^ n) (h2 : b.natAbs < 2 ^ n) : Pz n (.tup [.int a, .int b]) := ⟨rfl, fun a' b' e => by cases e; exact ⟨h1, h2⟩⟩
theorem Qz.tup (h0 : xs.length.ble 100 = true) (h : ∀ x ∈ xs, Pz n x) : Qz n (.tup xs) := ⟨rfl, fun ys e => by cases e; exact ⟨Nat.le_of_ble_eq_true h0, h⟩⟩
theorem Qz.tup' (h0 : xs.length ≤ 100) (h : ∀ x ∈ xs, Pz n x) : Qz n (.tup xs) := ⟨rfl, fun ys e => by cases e; exact ⟨h0, h⟩⟩
theorem Qz.no (h : plainD d = true) (t : isTup d = false) : Qz n d := ⟨h, fun xs e => by subst e; cases t⟩
theorem Tz.tup (h0 : xs.length ≤ 100) (h : ∀ x ∈ xs, Qz n x) : Tz n (.tup xs) := ⟨rfl, fun ys e => by cases e; exact ⟨h0, h⟩⟩
theorem Tz.no (h : plainD d = true) (t : isTup d = false) : Tz n d := ⟨h, fun xs e => by subst e; cases t⟩
/-- closed things -/
def pzB (n : Nat) : D → Bool
  | .tup [.int a, .int b] => decide (a.natAbs < 2 ^ n) && decide (b.natAbs < 2 ^ n)
  | .tup [a, b] => plainD a && plainD b
  | d => plainD d
theorem pz_of (h : pzB n d = true) : Pz n d := by
  unfold pzB at h
  split at h
  · obtain ⟨h1, h2⟩ := Bool.and_eq_true_iff.mp h
    exact Pz.two (of_decide_eq_true h1) (of_decide_eq_true h2)
  · rename_i a b hne
    exact ⟨h, fun x y e => by cases e; exact by cases hne x y rfl rfl⟩
  · rename_i h1 h2
    refine ⟨?_, fun x y e => (h1 x y e).elim⟩
    unfold plain2
    split
    · rename_i a b
      exact (h2 a b rfl).elim
    · exact h
def qzB (n : Nat) : D → Bool
  | .tup xs => decide (xs.length ≤ 100) && xs.all (pzB n)
  | d => plainD d
theorem qz_of (h : qzB n d = true) : Qz n d := by
  unfold qzB at h
  split at h
  · obtain ⟨h1, h2⟩ := Bool.and_eq_true_iff.mp h
    exact Qz.tup (Nat.ble_eq_true_of_le (of_decide_eq_true h1)) fun x hx => pz_of (List.all_eq_true.mp h2 x hx)
  · rename_i hn
    refine ⟨h, fun xs e => (hn xs e).elim⟩
def tzB (n : Nat) : D → Bool
  | .tup xs => decide (xs.length ≤ 100) && xs.all (qzB n)
  | d => plainD d
theorem tz_of (h : tzB n d = true) : Tz n d := by
  unfold tzB at h
  split at h
  · obtain ⟨h1, h2⟩ := Bool.and_eq_true_iff.mp h
    exact Tz.tup (of_decide_eq_true h1) fun x hx => qz_of (List.all_eq_true.mp h2 x hx)
  · rename_i hn
    refine ⟨h, fun xs e => (hn xs e).elim⟩
theorem Qz.at (h : Qz n (.tup xs)) (hx : x ∈ xs) : Pz n x := (h.2 xs rfl).2 x hx
theorem Qz.len (h : Qz n (.tup xs)) : xs.length ≤ 100 := (h.2 xs rfl).1
theorem Tz.at (h : Tz n (.tup xs)) (hx : x ∈ xs) : Qz n x := (h.2 xs rfl).2 x hx
theorem Tz.len (h : Tz n (.tup xs)) : xs.length ≤ 100 := (h.2 xs rfl).1
/-- no tuple of k -/
def NotN (k : Nat) (d : D) : Prop := ∀ xs, d = .tup xs → xs.length ≠ k
theorem NotN.ne {k : Nat} (h : NotN k (.tup xs)) : (!decide (((xs.length : Nat) : Int) = (k : Int))) = true := by
  have := h xs rfl
  rw [decide_eq_false (by omega)]
  rfl
theorem NotN.not {k : Nat} (h : xs.length ≠ k) : NotN k (.tup xs) := fun ys e => by cases e; exact h
theorem NotN.no {k : Nat} (h : isTup d = false) : NotN k d := fun ys e => by subst e; cases h
theorem tup_2 (d : D) : (∃ a b, d = .tup [a, b]) ∨ NotN 2 d := by
  by_cases h : ∃ xs, d = .tup xs ∧ xs.length = 2
  · obtain ⟨xs, rfl, h⟩ := h
    match xs, h with
    | [a, b], _ => exact .inl ⟨a, b, rfl⟩
  · exact .inr fun xs e z => h ⟨xs, e, z⟩
theorem tup_4 (d : D) : (∃ a b c e, d = .tup [a, b, c, e]) ∨ NotN 4 d := by
  by_cases h : ∃ xs, d = .tup xs ∧ xs.length = 4
  · obtain ⟨xs, rfl, h⟩ := h
    match xs, h with
    | [a, b, c, e], _ => exact .inl ⟨a, b, c, e, rfl⟩
  · exact .inr fun xs e z => h ⟨xs, e, z⟩
theorem tup_7 (d : D) : (∃ a b c e f g i, d = .tup [a, b, c, e, f, g, i]) ∨ NotN 7 d := by
  by_cases h : ∃ xs, d = .tup xs ∧ xs.length = 7
  · obtain ⟨xs, rfl, h⟩ := h
    match xs, h with
    | [a, b, c, e, f, g, i], _ => exact .inl ⟨a, b, c, e, f, g, i, rfl⟩
  · exact .inr fun xs e z => h ⟨xs, e, z⟩
end

end DL

set_option maxHeartbeats 4000000
namespace DL
open PySem PySem.Spec PyProof.Rows L2
local macro_rules | `(tactic| walk_at "go1") => `(tactic| first
  | with_reducible refine r_seq ?_ | with_reducible refine r_asg ?_ | with_reducible refine r_ret ?_ | with_reducible refine r_ifS ?_ | with_reducible refine r_drop ?_ | with_reducible refine r_par ?_ | with_reducible refine r_next ?_ | with_reducible refine r_retN ?_
  | ((with_reducible refine' r_var ?hv ?_); (case hv => rfl)) | with_reducible refine r_c ?_ | with_reducible refine r_bin ?_ | with_reducible refine r_un ?_ | with_reducible refine r_as1 ?_ | with_reducible refine r_as0 ?_
  | with_reducible refine r_cb ?_ | with_reducible refine r_call ?_ | with_reducible refine r_B ?_ | with_reducible refine r_notT ?_ | with_reducible refine r_andT ?_ | with_reducible refine r_orT ?_
  | with_reducible refine r_andV ?_ | with_reducible refine r_orV ?_ | with_reducible refine r_notV ?_ | with_reducible refine r_if ?_ | with_reducible refine r_tup ?_ | with_reducible refine r_lst ?_ | with_reducible refine r_mu ?_
  | with_reducible refine r_cut ?_ | with_reducible refine r_p0 ?_ | with_reducible refine r_p1 ?_ | with_reducible refine r_gN ?_ | ((with_reducible refine r_gT ?hv ?_); (case hv => rfl)) | with_reducible refine r_gs1 ?_ | with_reducible refine r_gs0 ?_
  | ((with_reducible refine r_trueR ?hv ?_); (case hv => first | rfl | assumption)) | ((with_reducible refine r_falseR ?hv ?_); (case hv => first | rfl | assumption)) | with_reducible refine r_bl ?_ | with_reducible refine r_in ?_ | with_reducible refine r_two ?_
  | with_reducible refine r_addI ?_ | with_reducible refine r_subI ?_ | with_reducible refine r_mulI ?_ ?_ | with_reducible refine r_divI ?_ ?_ | with_reducible refine r_modI ?_ ?_ | with_reducible refine r_powI ?_ ?_ | with_reducible refine r_negI ?_
  | with_reducible refine r_lt ?_ | with_reducible refine r_le ?_ | with_reducible refine r_gt ?_ | with_reducible refine r_ge ?_ | with_reducible refine r_is ?_ | with_reducible refine r_isNot ?_ | with_reducible refine r_eqI ?_ | with_reducible refine r_neI ?_ | with_reducible refine r_eqS ?_ | with_reducible refine r_neS ?_
  | with_reducible refine r_ixP0 ?_ | with_reducible refine r_ixP1 ?_ | with_reducible refine r_ix0T ?_ | with_reducible refine r_ix1T ?_ | with_reducible refine r_lenT ?_ | with_reducible refine r_lenL ?_ | with_reducible refine r_lenC ?_
  | with_reducible refine r_abs ?_ | with_reducible refine r_max ?_ | with_reducible refine r_min ?_ | with_reducible refine r_intI ?_ | with_reducible refine r_intB ?_ | with_reducible refine r_tupL ?_ | with_reducible refine r_tupT ?_
  | with_reducible refine r_gcd ?_ | ((with_reducible refine r_isi ?hv ?_); (case hv => first | rfl | assumption)) | with_reducible refine r_sizeT ?_ | with_reducible refine r_sizeL ?_)
local macro_rules | `(tactic| walk_at "go") => `(tactic| repeat' walk_at "go1")
local macro_rules | `(tactic| walk_at "go1") => `(tactic| first
  | with_reducible refine r_lc ?_ | with_reducible refine r_wiT ?_ | with_reducible refine r_wiZ ?_ | with_reducible refine r_wiL ?_ | with_reducible refine r_wiR1 ?_ | with_reducible refine r_for ?_ | with_reducible refine r_yes ?_
  | with_reducible refine b_nm ?_ | with_reducible refine r_setD0 ?_ | with_reducible refine r_setD1 ?_ | ((with_reducible refine' r_setDT ?hv ?_); (case hv => rfl)) | with_reducible refine r_setsD ?_ | with_reducible refine r_setsCut ?_ | with_reducible refine b_tp2 ?_ | with_reducible refine r_trueL ?_ | with_reducible refine r_falseL ?_ )

local macro_rules | `(tactic| walk_at "go1") => `(tactic| first
  | with_reducible refine r_size0 ?_ | with_reducible refine r_size3 ?_ | with_reducible refine r_app ?_ | with_reducible refine r_setIx ?_ | ((with_reducible refine' r_sizeG ?hv ?_); (case hv => rfl)) | ((with_reducible refine' r_addG ?hv ?_); (case hv => rfl)) | ((with_reducible refine' r_addTG ?hv ?_); (case hv => rfl))
  | with_reducible refine r_bmL ?_ | with_reducible refine r_isL ?_ | with_reducible refine r_try ?_ | with_reducible refine r_emp ?_ | with_reducible refine r_raise ?_ | with_reducible refine r_chain ?_ | with_reducible refine r_mulGI ?_ ?_
  | with_reducible refine r_wiET ?_ | with_reducible refine r_telLen ?_ | with_reducible refine r_telsLen ?_ | with_reducible refine r_rowLen ?_ | ((with_reducible refine' r_telT ?hv ?_); (case hv => rfl)))

local macro_rules | `(tactic| walk_at "szs") => `(tactic| first
  | assumption
  | ((with_reducible apply Sz.add); walk_at "szs"; walk_at "szs")
  | ((with_reducible apply Sz.sub); walk_at "szs"; walk_at "szs")
  | ((with_reducible apply Sz.mul); walk_at "szs"; walk_at "szs")
  | ((with_reducible apply Sz.neg); walk_at "szs")
  | (apply Pz.sz; assumption) | exact sz0 | exact sz1 | exact sz24
  | ((with_reducible apply sz_abs); walk_at "szs"))
local macro_rules | `(tactic| walk_at "sz") => `(tactic| (apply Sz.mono; walk_at "szs"; exact Nat.le_of_ble_eq_true rfl))
local macro_rules | `(tactic| walk_at "pen") => `(tactic| first | assumption | (apply Stm.pen; assumption) | (apply stm_st; assumption) | (apply stm_st; apply Stm.pen; assumption))
local macro_rules | `(tactic| walk_at "stm") => `(tactic| first | assumption | exact Stm.of (by walk_at "pen") | (refine Stm.trans ?_ (by assumption); walk_at "stm") | (refine Stm.trans ?_ (Stm.new (by walk_at "pen")); walk_at "stm"))
local macro_rules | `(tactic| walk_at "side") => `(tactic| first | assumption | rfl | omega | decide | walk_at "sz" | walk_at "pen")
local macro_rules | `(tactic| walk_at "au") => `(tactic| repeat' walk_at "au1")
local macro_rules | `(tactic| walk_at "au1") => `(tactic| first
  | walk_at "go1"
  | (with_reducible refine i_next ?_; intro r _ _)
  | (with_reducible refine i_draw ?a ?b ?c ?_; (case a => walk_at "side"); (case b => walk_at "side"); (case c => walk_at "pen"); intro x S' _ _ _)
  | (with_reducible refine i_sum_of ?a ?b ?_; (case a => walk_at "sz"); (case b => walk_at "sz"))
  | (with_reducible refine i_difference_of ?a ?b ?_; (case a => walk_at "sz"); (case b => walk_at "sz"))
  | (with_reducible refine i_product_of ?a ?b ?_; (case a => walk_at "sz"); (case b => walk_at "sz"))
  | (with_reducible refine i_is_below ?a ?b ?_; (case a => walk_at "sz"); (case b => walk_at "sz"))
  | (with_reducible refine i_added ?a ?b ?_; (case a => walk_at "sz"); (case b => walk_at "sz"))
  | (with_reducible refine i_less ?a ?b ?_; (case a => walk_at "sz"); (case b => walk_at "sz"))
  | (with_reducible refine i_times ?a ?b ?_; (case a => walk_at "sz"); (case b => walk_at "sz"))
  | (with_reducible refine i_is_less ?a ?b ?_; (case a => walk_at "sz"); (case b => walk_at "sz"))
  | (with_reducible refine i_sum ?a ?b ?_; (case a => walk_at "sz"); (case b => walk_at "sz"))
  | (with_reducible refine i_rest ?a ?b ?_; (case a => walk_at "sz"); (case b => walk_at "sz"))
  | (with_reducible refine i_prod ?a ?b ?_; (case a => walk_at "sz"); (case b => walk_at "sz"))
  | (with_reducible refine i_under ?a ?b ?_; (case a => walk_at "sz"); (case b => walk_at "sz"))
  | with_reducible refine i_is_part_pt ?_
  | with_reducible refine r_intB ?_
  | (with_reducible refine r_rng1 ?a ?b ?_; (case a => decide); (case b => decide)) | with_reducible refine r_ix0L ?_ | with_reducible refine r_muE ?_ | with_reducible refine r_itL ?_ | with_reducible refine r_itT ?_
  | with_reducible refine r_par3 ?_ | with_reducible refine r_three ?_ | with_reducible refine r_gSub ?_ | with_reducible refine r_lstM ?_ | with_reducible refine r_lstT ?_ | with_reducible refine r_turn ?_ | with_reducible refine r_callK ?_
  | with_reducible refine i_opposite ?_
  | ((with_reducible refine' r_ixT ?hv ?_); (case hv => rfl))
  | ((with_reducible refine' r_ixL ?hv ?_); (case hv => rfl)) | fail)
local macro_rules | `(tactic| walk_at "au1") => `(tactic| first
  | (with_reducible refine r_modI ?a ?_; (case a => decide))
  | (with_reducible refine r_divI ?a ?_; (case a => exact ⟨by decide, by decide⟩))
  | (with_reducible refine r_powI ?a ?_; (case a => exact ⟨by decide, by decide, by decide⟩)) | fail)
local macro_rules | `(tactic| walk_at "br") => `(tactic| first
  | (with_reducible refine r_bothT ?_ ?_ <;> intro z)
  | (with_reducible refine r_bothF ?_ ?_ <;> intro z)
  | (with_reducible refine r_bothD ?_ ?_ <;> intro z)
  | (with_reducible refine r_bothN ?_ ?_ <;> intro z)
  | (with_reducible refine r_both ?_ ?_ <;> intro z) | fail)
local macro_rules | `(tactic| walk_at "ab") => `(tactic| repeat' first | walk_at "au1" | walk_at "br")

local macro_rules | `(tactic| walk_at "shd") => `(tactic| first
  | assumption | exact ShD.non | exact ShD.bl | exact ShD.lit (by decide) | exact ShD.str (by decide +kernel) (by decide +kernel)
  | (apply ShD.nat; omega)
  | (apply ShD.pt (by walk_at "szs"); exact (Nat.ble_eq_true_of_le (of_decide_eq_true rfl)))
  | (apply ShD.tup; walk_at "shds") | (apply ShD.lst; walk_at "shds"))
local macro_rules | `(tactic| walk_at "shds") => `(tactic| first
  | assumption | exact ShDs.nil | (apply ShDs.cons; walk_at "shd"; walk_at "shds"))

local macro_rules | `(tactic| walk_at "au1") => `(tactic| first
  | (with_reducible refine r_neSS rfl ?_)
  | ((with_reducible refine' r_reprD ?a ?b ?c ?_); (case a => walk_at "shd"); (case b => rfl); (case c => rfl)) | fail)
theorem sz0h : Sz 100 (0 : Rat) := ⟨by decide, by decide⟩
abbrev v_NOUGHT : D := .tup [.int 0, .int 1]
abbrev v_DAY_HOURS : D := .tup [.int 24, .int 1]
abbrev v_MOST_GAIN : D := .int 12
abbrev v_MOST_SETS : D := .int 6
def p_is_moment : SpD := fun ds S R _ => ∃ q : Rat, ds = [pt q] ∧ R (.bl (decide (0 ≤ q.num))) S
def p_is_gain : SpD := fun ds S R _ => ∃ q : Rat, ds = [pt q] ∧ q.num.natAbs ≤ 12 * q.den ∧ Sm q ∧ R (.bl true) S
def p_is_one_set : SpD := fun ds S R _ => ∃ m j : Rat, ds = [.tup [pt m, pt j]] ∧ 0 ≤ m.num ∧ j.num ≠ 0 ∧ R (.bl true) S
def p_check_moment : SpD := fun ds S R _ => ∃ q : Rat, ds = [pt q] ∧ 0 ≤ q.num ∧ R .non S
theorem i_is_moment {S : Sto} {R : KR} {Rx : Er → Sto → Prop} {q : Rat} (k : R (.bl (decide (0 ≤ q.num))) S) : ([pt q] ++ ([] : List D)).length = 1 ∧ p_is_moment ([pt q] ++ []) S R Rx := ⟨rfl, q, rfl, k⟩

theorem i_check_pt {K : PySem.W.Frag} {S : Sto} {R : KR} {Rx : Er → Sto → Prop} {q : Rat} (k : R .non S) : ([pt q] ++ ([] : List D)).length = 1 ∧ p_check_part K ([pt q] ++ []) S R Rx := i_check_part rfl (fun _ => k) fun z => by rw [isPart_pt] at z; cases z
/-! ### clocks -/
def setD (e : Rat × Rat) : D := .tup [pt e.1, pt e.2]
def setsD (l : List (Rat × Rat)) : D := .tup (l.map setD)
abbrev ckD (q : Rat) (l : List (Rat × Rat)) : D := .tup [pt q, setsD l]
structure SetsOk (l : List (Rat × Rat)) : Prop where
  len : l.length ≤ 6
  ea : ∀ e ∈ l, 0 ≤ e.1.num ∧ e.2.num ≠ 0 ∧ Sz 100 e.1 ∧ Sz 100 e.2
  up : ∀ (i : Nat) (a b : Rat × Rat), l[i]? = some a → l[i + 1]? = some b → a.1 < b.1
def CkOk (q : Rat) (l : List (Rat × Rat)) : Prop := q.num.natAbs ≤ 12 * q.den ∧ Sz 100 q ∧ SetsOk l
abbrev eD : Option Rat → D
  | none => .non
  | some q => pt q
def driftR (q : Rat) (l : List (Rat × Rat)) (m : Rat) : Rat := l.foldl (fun a e => if e.1 ≤ m then a + e.2 else a) (m * q)
def p_are_sets : SpD := fun ds S R _ => ∃ l, ds = [setsD l] ∧ SetsOk l ∧ R (.bl true) S
def p_is_clock : SpD := fun ds S R _ => ∃ q l, ds = [ckD q l] ∧ q.num.natAbs ≤ 12 * q.den ∧ Sz 100 q ∧ SetsOk l ∧ R (.bl true) S
def p_check_clock : SpD := fun ds S R _ => ∃ q l, ds = [ckD q l] ∧ CkOk q l ∧ R .non S
def p_error_told : SpD := fun ds S R _ => ∃ e : Option Rat, ds = [eD e] ∧ R (pt (e.getD 0)) S
def p_drift : SpD := fun ds S R _ => ∃ q l m, ds = [ckD q l, pt m] ∧ CkOk q l ∧ 0 ≤ m.num ∧ Sz 600 m ∧ R (pt (driftR q l m)) S
def p_shown_at : SpD := fun ds S R _ => ∃ q l m, ∃ e : Option Rat, ds = [ckD q l, pt m, eD e] ∧ CkOk q l ∧ 0 ≤ m.num ∧ Sz 600 m ∧ Sz 100 (e.getD 0) ∧ R (pt (24 * m + (e.getD 0 + driftR q l m))) S
section
variable {env : Vars} {S : Sto} {R : KR} {Rx : KX} {xs ys : List D} {a b d : D}
theorem r_setsD {l : List (Rat × Rat)} (k : R (.int (l.map setD).length) S) : dLen [setsD l] S R := k
theorem r_setsCut {l : List (Rat × Rat)} (k : R (.tup (cutD (l.map setD) (some 1) none)) S) : dCut (setsD l) (some 1) none S R := k
theorem r_setD0 {e : Rat × Rat} (k : R (pt e.1) S) : dIx (setD e) (.int 0) S R := ⟨_, atI_0, k⟩
theorem r_setD1 {e : Rat × Rat} (k : R (pt e.2) S) : dIx (setD e) (.int 1) S R := ⟨_, atI_1, k⟩
theorem r_setDT {n : Nat} {gs : WGs'} {e : Rat × Rat} {R : Vars → Sto → Prop} (h : 2 = n) (k : gs [pt e.1, pt e.2] env S R) : gT n gs (setD e) env S R := ⟨_, rfl, h, k⟩
end
theorem Sz.sm {q : Rat} (h : Sz 100 q) : Sm q := Sz.mono h (by decide)
theorem len_rep {l : List (Rat × Rat)} {i : Nat} {d : D} (h : (l.map setD)[i]? = some d) (hl : (l.map setD).length = l.length) (h6 : l.length ≤ 6) : ((List.replicate i true).map D.bl).length < sizeLine := by
  rw [List.length_map, List.length_replicate]
  have := (List.getElem?_eq_some_iff.mp h).1
  have : (7 : Nat) < sizeLine := by decide
  omega
theorem len_rep2 {l : List (Rat × Rat)} {i : Nat} {d : Rat × Rat} (h : l[i]? = some d) (h6 : l.length ≤ 6) : ((List.replicate i true).map D.bl).length < sizeLine := by
  rw [List.length_map, List.length_replicate]
  have := (List.getElem?_eq_some_iff.mp h).1
  have : (7 : Nat) < sizeLine := by decide
  omega
theorem zip_at {l : List (Rat × Rat)} {i : Nat} {d : D} (h : (List.zipWith (fun x y => D.tup [x, y]) (l.map setD) ((l.map setD).drop 1))[i]? = some d) : ∃ a b, l[i]? = some a ∧ l[i + 1]? = some b ∧ d = .tup [setD a, setD b] := by
  rw [List.getElem?_zipWith, List.getElem?_drop, Nat.add_comm 1 i] at h
  cases p : (l.map setD)[i]? with
  | none => rw [p] at h; cases h
  | some x =>
    rw [p] at h
    cases q : (l.map setD)[i + 1]? with
    | none => rw [q] at h; cases h
    | some y =>
      rw [q] at h
      obtain ⟨a, ha, rfl⟩ := map_at p
      obtain ⟨b, hb, rfl⟩ := map_at q
      exact ⟨a, b, ha, hb, (Option.some.inj h).symm⟩
theorem drift_in {q m : Rat} {l : List (Rat × Rat)} {i : Nat} {e : Rat × Rat} (h : l[i]? = some e) (hm : e.1 ≤ m) : driftR q (l.take (i + 1)) m = driftR q (l.take i) m + e.2 := by
  unfold driftR
  rw [List.take_add_one, h, List.foldl_append]
  show (if e.1 ≤ m then _ else _) = _
  rw [if_pos hm]
theorem drift_out {q m : Rat} {l : List (Rat × Rat)} {i : Nat} {e : Rat × Rat} (h : l[i]? = some e) (hm : ¬ e.1 ≤ m) : driftR q (l.take (i + 1)) m = driftR q (l.take i) m := by
  unfold driftR
  rw [List.take_add_one, h, List.foldl_append]
  show (if e.1 ≤ m then _ else _) = _
  rw [if_neg hm]
theorem fold_sz {m : Rat} : ∀ {l : List (Rat × Rat)} {a : Rat} {n : Nat}, Sz n a → (∀ e ∈ l, Sz 100 e.2) → Sz (n + 101 * l.length) (l.foldl (fun a e => if e.1 ≤ m then a + e.2 else a) a)
  | [], a, n, h, _ => h.mono (by omega)
  | e :: l, a, n, h, hl => by
    have : Sz (n + 101) (if e.1 ≤ m then a + e.2 else a) := by
      split
      · exact (h.add (hl e List.mem_cons_self)).mono (by omega)
      · exact h.mono (by omega)
    exact (fold_sz this fun x hx => hl x (List.mem_cons_of_mem _ hx)).mono (by rw [List.length_cons]; omega)
theorem drift_sz {q m : Rat} {l : List (Rat × Rat)} (hc : CkOk q l) (hm : Sz 100 m) : Sz 806 (driftR q l m) :=
  (fold_sz (hm.mul hc.2.1) fun e he => (hc.2.2.ea e he).2.2.2).mono (by have := hc.2.2.len; omega)
section
variable {K : PySem.W.Frag} {S : Sto} {R : KR} {Rx : Er → Sto → Prop} {p q m : Rat} {l : List (Rat × Rat)}
theorem i_times24 (hq : Sm q) (k : R (pt (24 * q)) S) : ([v_DAY_HOURS, pt q] ++ ([] : List D)).length = 2 ∧ p_times K ([v_DAY_HOURS, pt q] ++ []) S R Rx := i_times (p := 24) (Sz.mono sz24 (by decide)) hq k
theorem i_is_gain (h : q.num.natAbs ≤ 12 * q.den) (hq : Sm q) (k : R (.bl true) S) : ([pt q] ++ ([] : List D)).length = 1 ∧ p_is_gain ([pt q] ++ []) S R Rx := ⟨rfl, q, rfl, h, hq, k⟩
theorem i_is_one_set {e : Rat × Rat} (h1 : 0 ≤ e.1.num) (h2 : e.2.num ≠ 0) (k : R (.bl true) S) : ([setD e] ++ ([] : List D)).length = 1 ∧ p_is_one_set ([setD e] ++ []) S R Rx := ⟨rfl, e.1, e.2, rfl, h1, h2, k⟩
theorem i_are_sets (h : SetsOk l) (k : R (.bl true) S) : ([setsD l] ++ ([] : List D)).length = 1 ∧ p_are_sets ([setsD l] ++ []) S R Rx := ⟨rfl, l, rfl, h, k⟩
theorem i_is_clock (h : CkOk q l) (k : R (.bl true) S) : ([ckD q l] ++ ([] : List D)).length = 1 ∧ p_is_clock ([ckD q l] ++ []) S R Rx := ⟨rfl, q, l, rfl, h.1, h.2.1, h.2.2, k⟩
theorem i_check_clock (h : CkOk q l) (k : R .non S) : ([ckD q l] ++ ([] : List D)).length = 1 ∧ p_check_clock ([ckD q l] ++ []) S R Rx := ⟨rfl, q, l, rfl, h, k⟩
theorem i_check_moment (h : 0 ≤ m.num) (k : R .non S) : ([pt m] ++ ([] : List D)).length = 1 ∧ p_check_moment ([pt m] ++ []) S R Rx := ⟨rfl, m, rfl, h, k⟩
theorem i_error_told {e : Option Rat} (k : R (pt (e.getD 0)) S) : ([eD e] ++ ([] : List D)).length = 1 ∧ p_error_told ([eD e] ++ []) S R Rx := ⟨rfl, e, rfl, k⟩
theorem i_drift (hc : CkOk q l) (hm : 0 ≤ m.num) (hs : Sz 100 m) (k : R (pt (driftR q l m)) S) : ([ckD q l, pt m] ++ ([] : List D)).length = 2 ∧ p_drift ([ckD q l, pt m] ++ []) S R Rx := ⟨rfl, q, l, m, rfl, hc, hm, (hs.mono (by decide)), k⟩
end

def p_grown_by : SpD := fun ds S R _ => ∃ q l m, ds = [ckD q l, pt m] ∧ CkOk q l ∧ Sz 600 m ∧ R (pt (driftR q l m)) S

theorem i_grown_by {S : Sto} {R : KR} {Rx : Er → Sto → Prop} {q m : Rat} {l : List (Rat × Rat)} (hc : CkOk q l) (hs : Sz 600 m) (k : R (pt (driftR q l m)) S) : ([ckD q l, pt m] ++ ([] : List D)).length = 2 ∧ p_grown_by ([ckD q l, pt m] ++ []) S R Rx := ⟨rfl, q, l, m, rfl, hc, hs, k⟩

theorem drift_sz6 {q m : Rat} {l : List (Rat × Rat)} (hc : CkOk q l) (hm : Sz 600 m) : Sz 1306 (driftR q l m) :=
  (fold_sz (hm.mul hc.2.1) fun e he => (hc.2.2.ea e he).2.2.2).mono (by have := hc.2.2.len; omega)
theorem i_drift6 {S : Sto} {R : KR} {Rx : Er → Sto → Prop} {q m : Rat} {l : List (Rat × Rat)} (hc : CkOk q l) (hm : 0 ≤ m.num) (hs : Sz 600 m) (k : R (pt (driftR q l m)) S) : ([ckD q l, pt m] ++ ([] : List D)).length = 2 ∧ p_drift ([ckD q l, pt m] ++ []) S R Rx := ⟨rfl, q, l, m, rfl, hc, hm, (hs.mono (by decide)), k⟩
theorem i_shown6 {S : Sto} {R : KR} {Rx : Er → Sto → Prop} {q m e : Rat} {l : List (Rat × Rat)} (hc : CkOk q l) (hm : 0 ≤ m.num) (hs : Sz 600 m) (he : Sz 100 e) (k : R (pt (24 * m + (e + driftR q l m))) S) : ([ckD q l, pt m, pt e] ++ ([] : List D)).length = 3 ∧ p_shown_at ([ckD q l, pt m, pt e] ++ []) S R Rx := ⟨rfl, q, l, m, some e, rfl, hc, hm, (hs.mono (by decide)), he, k⟩
/-! ### the law's own defs -/
section
variable {S : Sto} {R : KR} {Rx : Er → Sto → Prop} {p q : Rat} {i : Nat} {a : Int}
end
section
variable {env : Vars} {S : Sto} {E : Ds} {u v : WS'}
end
/-! ### the law's own defs -/
def p_law_some : SpD := fun ds S R _ => ∃ i, ds = [.mu i] ∧ Pen S i ∧ ∀ (q : Rat) S', Sz 6 q → Stm i S S' → R (pt q) S'
def p_law_up : SpD := fun ds S R _ => ∃ i, ds = [.mu i] ∧ Pen S i ∧ ∀ (q : Rat) S', 0 ≤ q.num → Sz 6 q → Stm i S S' → R (pt q) S'
def p_law_gain : SpD := fun ds S R _ => ∃ i, ds = [.mu i] ∧ Pen S i ∧ ∀ (q : Rat) S', q.num.natAbs ≤ 12 * q.den → Sz 6 q → Stm i S S' → R (pt q) S'
def SmallSets (l : List (Rat × Rat)) : Prop := SetsOk l ∧ ∀ e ∈ l, Sz 40 e.1 ∧ Sz 8 e.2
def p_law_sets : SpD := fun ds S R _ => ∃ i, ds = [.mu i, .int 6] ∧ Pen S i ∧ ∀ l S', SmallSets l → Stm i S S' → R (setsD l) S'
def p_law_drift : SpD := p_drift
def p_law_shown : SpD := fun ds S R _ => ∃ q l m e, ds = [ckD q l, pt m, pt e] ∧ CkOk q l ∧ 0 ≤ m.num ∧ Sz 100 m ∧ Sz 100 e ∧ R (pt (24 * m + (e + driftR q l m))) S
section
variable {S : Sto} {R : KR} {Rx : Er → Sto → Prop} {p q m e : Rat} {l : List (Rat × Rat)} {i : Nat} {a b c : Int}
theorem i_ldrift (hc : CkOk q l) (hm : 0 ≤ m.num) (hs : Sz 100 m) (k : R (pt (driftR q l m)) S) : ([ckD q l, pt m] ++ ([] : List D)).length = 2 ∧ p_law_drift ([ckD q l, pt m] ++ []) S R Rx := ⟨rfl, q, l, m, rfl, hc, hm, (hs.mono (by decide)), k⟩
end
section
variable {S : Sto} {R : KR} {xs : List D} {i : Int}
end/-! ### sets; the law -/
abbrev q1000 : Rat := ⟨1, 1000, by decide, by decide⟩
abbrev q1000_7 : Rat := ⟨1000, 7, by decide, by decide⟩
theorem q1000_eq : q1000 = 1 / 1000 := by decide +kernel
section
variable {env : Vars} {S : Sto} {R : KR} {Rx : KX} {E : Ds} {u v : WS'} {wa wb : WE'} {d : D}
theorem r_neg (q : Rat) (k : R (pt (-q)) S) : R (.tup [.int (0 - q.num), .int q.den]) S := by
  have e : D.tup [.int (0 - q.num), .int q.den] = pt (-q) := by
    show _ = D.tup [.int (-q).num, .int ((-q).den : Int)]
    rw [Rat.neg_num, Rat.neg_den, Int.zero_sub]
  rw [e]
  exact k
end
/-- what the growing sets are -/
structure SI (i n : Nat) (S : Sto) (k : Nat) (w : Rat) (l : List (Rat × Rat)) (S1 : Sto) : Prop where
  stm : Stm i S S1
  at_ : S1[n]? = some (l.map setD)
  len : l.length = k
  ea : ∀ e ∈ l, 0 ≤ e.1.num ∧ e.2.num ≠ 0 ∧ Sz 40 e.1 ∧ Sz 8 e.2
  up : ∀ (j : Nat) (a b : Rat × Rat), l[j]? = some a → l[j + 1]? = some b → a.1 < b.1
  le : ∀ e ∈ l, e.1 ≤ w
  w0 : 0 ≤ w.num
  sz : Sz (5 * k + 2) w
theorem SI.ok {i n : Nat} {S S1 : Sto} {k : Nat} {w : Rat} {l : List (Rat × Rat)} (h : SI i n S k w l S1) (hk : k ≤ 6) : SmallSets l :=
  ⟨⟨by rw [h.len]; exact hk, fun e he => by obtain ⟨a, b, c, d⟩ := h.ea e he; exact ⟨a, b, c.mono (by decide), d.mono (by decide)⟩, h.up⟩, fun e he => (h.ea e he).2.2⟩
theorem SI.next {i n : Nat} {S S1 S2 : Sto} {k : Nat} {w w' j : Rat} {l : List (Rat × Rat)} (h : SI i n S k w l S1) (hn : S.length ≤ n) (hi : n ≠ i) (hk : k < 6) (h0 : 0 ≤ w'.num) (hs : Sz (5 * (k + 1) + 2) w') (hw : w ≤ w') (hw2 : 0 < k → w < w')
    (hj : j.num ≠ 0) (hjs : Sz 8 j) (st : Stm i S S2) (hS : S2[n]? = some (l.map setD)) : SI i n S (k + 1) w' (l ++ [(w', j)]) (S2.set n (l.map setD ++ [setD (w', j)])) := by
  have hlt : n < S2.length := (List.getElem?_eq_some_iff.mp hS).1
  refine ⟨st.put hn hi, ?_, ?_, ?_, ?_, ?_, h0, hs⟩
  · rw [List.getElem?_set_self hlt, List.map_append]
    rfl
  · rw [List.length_append, h.len]
    rfl
  · intro e he
    rcases List.mem_append.mp he with he | he
    · exact h.ea e he
    · rw [List.mem_singleton.mp he]
      exact ⟨h0, hj, hs.mono (by omega), hjs⟩
  · intro m a b ha hb
    by_cases hm : m + 1 < l.length
    · rw [List.getElem?_append_left hm] at hb
      rw [List.getElem?_append_left (by omega)] at ha
      exact h.up m a b ha hb
    · have h1 : m + 1 < (l ++ [(w', j)]).length := (List.getElem?_eq_some_iff.mp hb).1
      rw [List.length_append] at h1
      have h1 : m + 1 = l.length := by
        have : [(w', j)].length = 1 := rfl
        omega
      rw [List.getElem?_append_right (by omega), h1, Nat.sub_self] at hb
      have hb : (w', j) = b := Option.some.inj hb
      subst hb
      rw [List.getElem?_append_left (by omega)] at ha
      have h2 := h.le a (List.mem_of_getElem? ha)
      have h3 := hw2 (by have := h.len; omega)
      show a.1 < w'
      grind
  · intro e he
    rcases List.mem_append.mp he with he | he
    · have h2 := h.le e he
      grind
    · rw [List.mem_singleton.mp he]
      exact Rat.le_refl
theorem Stm.at_ {i n : Nat} {S S' : Sto} {xs : List D} (h : Stm i S S') (hi : n ≠ i) (hS : S[n]? = some xs) : S'[n]? = some xs := (h.keep n (List.getElem?_eq_some_iff.mp hS).1 hi).trans hS
/-! repr -/
theorem shown_i {i : Int} (h : i.natAbs < 2 ^ 1100) : (PyData.shown (.int i)).length ≤ 341 := by
  have e := int_text_length_le10 (k := 340) (by decide) (Nat.lt_of_lt_of_le h (show (2 : Nat) ^ 1100 ≤ 10 ^ 340 by decide))
  show (Str.ofString (toString i)).length ≤ 341
  rw [PySem.ofString_length]
  exact e
theorem pt_leaves {q : Rat} (h : Sz 1100 q) : PyData.leavesShort 341 (ptP q) = true := by
  have h1 := shown_i h.1
  have h2 := shown_i (i := (q.den : Int)) (by rw [Int.natAbs_natCast]; exact h.2)
  simp only [PyData.leavesShort, PyData.leavesShortAll, Bool.and_eq_true, decide_eq_true_eq]
  exact ⟨h1, h2, trivial⟩
theorem pt_log {q : Rat} (h : Sz 1100 q) : q.num.natAbs.log2 < 1100 ∧ (q.den : Int).natAbs.log2 < 1100 :=
  ⟨log_of h.1 (by decide), by rw [Int.natAbs_natCast]; exact log_of h.2 (by decide)⟩
theorem pt_show {q : Rat} (h : Sz 1100 q) : PyData.showable (ptP q) = true := by
  have h1 := pt_log h
  simp only [PyData.showable, PyData.showableAll, Bool.and_eq_true, decide_eq_true_eq]
  exact ⟨by omega, by omega, trivial⟩
theorem w_int {i : Int} : (PyData.int i).weight ≤ i.natAbs.log2 + 1 := by
  simp only [PyData.weight]
  first | (split <;> omega) | omega
theorem pt_weight {q : Rat} (h : Sz 1100 q) : (ptP q).weight ≤ 2300 := by
  have h1 := pt_log h
  have h2 := w_int (i := q.num)
  have h3 := w_int (i := (q.den : Int))
  simp only [PyData.weight, PyData.weightAll] at h2 h3 ⊢
  omega
theorem r_repr1 {S : Sto} {R : KR} {a : Rat} (ha : Sz 1100 a) (k : R (.str (PyData.shown (ptP a))) S) : dRepr [pt a] S R := by
  refine ⟨_, rfl, pt_show ha, ?_, by show PyData.depth (ptP a) ≤ 60; simp [PyData.depth, PyData.depthAll], k⟩
  have h := PyData.shown_le 341 (by decide) _ (pt_leaves ha)
  have h2 := pt_weight ha
  show (ptP a).shown.length ≤ sizeLine
  rw [sizeLine_eq]
  omega
theorem r_repr3 {S : Sto} {R : KR} {a b c : Rat} (ha : Sz 1100 a) (hb : Sz 1100 b) (hc : Sz 1100 c) (k : R (.str (PyData.shown (.list [ptP a, ptP b, ptP c]))) S) : dRepr [.lst [pt a, pt b, pt c]] S R := by
  refine ⟨_, rfl, ?_, ?_, by show PyData.depth _ ≤ 60; simp [PyData.depth, PyData.depthAll], k⟩
  · have h1 := pt_show ha
    have h2 := pt_show hb
    have h3 := pt_show hc
    simp only [PyData.showable, PyData.showableAll] at h1 h2 h3 ⊢
    simp only [h1, h2, h3]
    rfl
  · have h1 : PyData.leavesShort 341 (.list [ptP a, ptP b, ptP c]) = true := by
      have h1 := pt_leaves ha
      have h2 := pt_leaves hb
      have h3 := pt_leaves hc
      simp only [PyData.leavesShort, PyData.leavesShortAll] at h1 h2 h3 ⊢
      simp only [h1, h2, h3]
      rfl
    have h := PyData.shown_le 341 (by decide) _ h1
    have e : (PyData.list [ptP a, ptP b, ptP c]).weight = (ptP a).weight + 1 + ((ptP b).weight + 1 + ((ptP c).weight + 1)) := by simp only [PyData.weight, PyData.weightAll, Nat.add_zero]
    have wa := pt_weight ha
    have wb := pt_weight hb
    have wc := pt_weight hc
    rw [e] at h
    show (PyData.list [ptP a, ptP b, ptP c]).shown.length ≤ sizeLine
    rw [sizeLine_eq]
    omega
/-! ### what the law asks -/
def ClkOk (c : Rat × List (Rat × Rat)) : Prop := c.1.num.natAbs ≤ 12 * c.1.den ∧ Sz 6 c.1 ∧ SmallSets c.2
theorem ClkOk.ck {c : Rat × List (Rat × Rat)} (h : ClkOk c) : CkOk c.1 c.2 := ⟨h.1, h.2.1.mono (by decide), h.2.2.1⟩
abbrev clkD (c : Rat × List (Rat × Rat)) : D := ckD c.1 c.2
def MomOk (m : Rat) : Prop := 0 ≤ m.num ∧ Sz 100 m
def p_law : SpD := fun ds S R _ => ∃ ns : List Int, ds = [.scr (ns.map D.int)] ∧ ns.length ≤ 63 ∧ ∀ S', R (.bl true) S'
section
variable {S : Sto} {R : KR} {Rx : Er → Sto → Prop} {p q m e : Rat} {l : List (Rat × Rat)} {i : Nat} {a b c : Int}
theorem i_some (hp : Pen S i) (k : ∀ (q : Rat) S', Sz 6 q → Stm i S S' → R (pt q) S') : ([D.mu i] ++ ([] : List D)).length = 1 ∧ p_law_some ([D.mu i] ++ []) S R Rx := ⟨rfl, i, rfl, hp, k⟩
theorem i_up (hp : Pen S i) (k : ∀ (q : Rat) S', 0 ≤ q.num → Sz 6 q → Stm i S S' → R (pt q) S') : ([D.mu i] ++ ([] : List D)).length = 1 ∧ p_law_up ([D.mu i] ++ []) S R Rx := ⟨rfl, i, rfl, hp, k⟩
theorem i_gain (hp : Pen S i) (k : ∀ (q : Rat) S', q.num.natAbs ≤ 12 * q.den → Sz 6 q → Stm i S S' → R (pt q) S') : ([D.mu i] ++ ([] : List D)).length = 1 ∧ p_law_gain ([D.mu i] ++ []) S R Rx := ⟨rfl, i, rfl, hp, k⟩
theorem i_sets (hp : Pen S i) (k : ∀ l S', SmallSets l → Stm i S S' → R (setsD l) S') : ([D.mu i, D.int 6] ++ ([] : List D)).length = 2 ∧ p_law_sets ([D.mu i, D.int 6] ++ []) S R Rx := ⟨rfl, i, rfl, hp, k⟩
theorem i_pen_of {z : Int} (k : ∀ a b c : Int, R (.mu S.length) (S ++ [[.int a, .int b, .int c]])) : ([D.int z] ++ ([] : List D)).length = 1 ∧ p_law_pen_of ([D.int z] ++ []) S R Rx := ⟨rfl, z, rfl, k⟩
theorem i_cell_at {ns : List Int} (k : ∀ z, R (.int z) S) : ([D.scr (ns.map D.int), D.int 0] ++ ([] : List D)).length = 2 ∧ p_law_cell_at ([D.scr (ns.map D.int), D.int 0] ++ []) S R Rx := ⟨rfl, ns, rfl, k⟩
theorem i_lshown (hc : CkOk q l) (hm : 0 ≤ m.num) (hs : Sz 100 m) (he : Sz 100 e) (k : R (pt (24 * m + (e + driftR q l m))) S) : ([ckD q l, pt m, pt e] ++ ([] : List D)).length = 3 ∧ p_law_shown ([ckD q l, pt m, pt e] ++ []) S R Rx := ⟨rfl, q, l, m, e, rfl, hc, hm, hs, he, k⟩
theorem i_shown (hc : CkOk q l) (hm : 0 ≤ m.num) (hs : Sz 100 m) (he : Sz 100 e) (k : R (pt (24 * m + (e + driftR q l m))) S) : ([ckD q l, pt m, pt e] ++ ([] : List D)).length = 3 ∧ p_shown_at ([ckD q l, pt m, pt e] ++ []) S R Rx := ⟨rfl, q, l, m, some e, rfl, hc, hm, (hs.mono (by decide)), he, k⟩
theorem i_shown0 (hc : CkOk q l) (hm : 0 ≤ m.num) (hs : Sz 100 m) (k : R (pt (24 * m + (0 + driftR q l m))) S) : ([ckD q l, pt m, .non] ++ ([] : List D)).length = 3 ∧ p_shown_at ([ckD q l, pt m, .non] ++ []) S R Rx := ⟨rfl, q, l, m, none, rfl, hc, hm, (hs.mono (by decide)), sz0h, k⟩
theorem i_shown2 (hc : CkOk q l) (hm : 0 ≤ m.num) (hs : Sz 100 m) (k : R (pt (24 * m + (0 + driftR q l m))) S) : ([ckD q l, pt m] ++ [D.non]).length = 3 ∧ p_shown_at ([ckD q l, pt m] ++ [.non]) S R Rx := ⟨rfl, q, l, m, none, rfl, hc, hm, (hs.mono (by decide)), sz0h, k⟩
end
theorem shown_sz {q : Rat} {l : List (Rat × Rat)} {m e : Rat} (hc : CkOk q l) (hs : Sz 100 m) (he : Sz 100 e) : Sz 1100 (24 * m + (e + driftR q l m)) :=
  ((sz24.mul hs).add (he.add (drift_sz hc hs))).mono (by decide)
theorem moms_pos {w : Rat} (h : 0 ≤ w.num) : 0 ≤ (w - w * q1000).num := by
  apply num_of
  have := of_num h
  rw [q1000_eq]
  grind
theorem moms_pos2 {w : Rat} (h : 0 ≤ w.num) : 0 ≤ (w + q1000).num := by
  apply num_of
  have := of_num h
  rw [q1000_eq]
  grind
theorem szq : Sz 10 q1000 := ⟨by decide, by decide⟩

theorem neg_pt {q : Rat} : D.tup [.int (0 - q.num), .int q.den] = pt (-q) := by
  show _ = D.tup [.int (-q).num, .int ((-q).den : Int)]
  rw [Rat.neg_num, Rat.neg_den, Int.zero_sub]

theorem r_neSelf {x : Str} {S : Sto} {R : KR} (k : R (.bl false) S) : dNe (.str x) (.str x) S R := by
  show R (.bl (!decide (x = x))) S
  rw [decide_eq_true rfl]
  exact k
theorem of_tri {a b c d : Rat} (h : d ∈ [a, b, c]) : d = a ∨ d = b ∨ d = c := by simpa using h
theorem of_duo {a b d : Rat} (h : d ∈ [a, b]) : d = a ∨ d = b := by simpa using h

end DL

set_option maxHeartbeats 4000000
namespace DL
open PySem PySem.Spec PyProof.Rows L2
local macro_rules | `(tactic| walk_at "go1") => `(tactic| first
  | with_reducible refine r_seq ?_ | with_reducible refine r_asg ?_ | with_reducible refine r_ret ?_ | with_reducible refine r_ifS ?_ | with_reducible refine r_drop ?_ | with_reducible refine r_par ?_ | with_reducible refine r_next ?_ | with_reducible refine r_retN ?_
  | ((with_reducible refine' r_var ?hv ?_); (case hv => rfl)) | with_reducible refine r_c ?_ | with_reducible refine r_bin ?_ | with_reducible refine r_un ?_ | with_reducible refine r_as1 ?_ | with_reducible refine r_as0 ?_
  | with_reducible refine r_cb ?_ | with_reducible refine r_call ?_ | with_reducible refine r_B ?_ | with_reducible refine r_notT ?_ | with_reducible refine r_andT ?_ | with_reducible refine r_orT ?_
  | with_reducible refine r_andV ?_ | with_reducible refine r_orV ?_ | with_reducible refine r_notV ?_ | with_reducible refine r_if ?_ | with_reducible refine r_tup ?_ | with_reducible refine r_lst ?_ | with_reducible refine r_mu ?_
  | with_reducible refine r_cut ?_ | with_reducible refine r_p0 ?_ | with_reducible refine r_p1 ?_ | with_reducible refine r_gN ?_ | ((with_reducible refine r_gT ?hv ?_); (case hv => rfl)) | with_reducible refine r_gs1 ?_ | with_reducible refine r_gs0 ?_
  | ((with_reducible refine r_trueR ?hv ?_); (case hv => first | rfl | assumption)) | ((with_reducible refine r_falseR ?hv ?_); (case hv => first | rfl | assumption)) | with_reducible refine r_bl ?_ | with_reducible refine r_in ?_ | with_reducible refine r_two ?_
  | with_reducible refine r_addI ?_ | with_reducible refine r_subI ?_ | with_reducible refine r_mulI ?_ ?_ | with_reducible refine r_divI ?_ ?_ | with_reducible refine r_modI ?_ ?_ | with_reducible refine r_powI ?_ ?_ | with_reducible refine r_negI ?_
  | with_reducible refine r_lt ?_ | with_reducible refine r_le ?_ | with_reducible refine r_gt ?_ | with_reducible refine r_ge ?_ | with_reducible refine r_is ?_ | with_reducible refine r_isNot ?_ | with_reducible refine r_eqI ?_ | with_reducible refine r_neI ?_ | with_reducible refine r_eqS ?_ | with_reducible refine r_neS ?_
  | with_reducible refine r_ixP0 ?_ | with_reducible refine r_ixP1 ?_ | with_reducible refine r_ix0T ?_ | with_reducible refine r_ix1T ?_ | with_reducible refine r_lenT ?_ | with_reducible refine r_lenL ?_ | with_reducible refine r_lenC ?_
  | with_reducible refine r_abs ?_ | with_reducible refine r_max ?_ | with_reducible refine r_min ?_ | with_reducible refine r_intI ?_ | with_reducible refine r_intB ?_ | with_reducible refine r_tupL ?_ | with_reducible refine r_tupT ?_
  | with_reducible refine r_gcd ?_ | ((with_reducible refine r_isi ?hv ?_); (case hv => first | rfl | assumption)) | with_reducible refine r_sizeT ?_ | with_reducible refine r_sizeL ?_)
local macro_rules | `(tactic| walk_at "go") => `(tactic| repeat' walk_at "go1")
local macro_rules | `(tactic| walk_at "go1") => `(tactic| first
  | with_reducible refine r_lc ?_ | with_reducible refine r_wiT ?_ | with_reducible refine r_wiZ ?_ | with_reducible refine r_wiL ?_ | with_reducible refine r_wiR1 ?_ | with_reducible refine r_for ?_ | with_reducible refine r_yes ?_
  | with_reducible refine b_nm ?_ | with_reducible refine r_setD0 ?_ | with_reducible refine r_setD1 ?_ | ((with_reducible refine' r_setDT ?hv ?_); (case hv => rfl)) | with_reducible refine r_setsD ?_ | with_reducible refine r_setsCut ?_ | with_reducible refine b_tp2 ?_ | with_reducible refine r_trueL ?_ | with_reducible refine r_falseL ?_ )

local macro_rules | `(tactic| walk_at "go1") => `(tactic| first
  | with_reducible refine r_size0 ?_ | with_reducible refine r_size3 ?_ | with_reducible refine r_app ?_ | with_reducible refine r_setIx ?_ | ((with_reducible refine' r_sizeG ?hv ?_); (case hv => rfl)) | ((with_reducible refine' r_addG ?hv ?_); (case hv => rfl)) | ((with_reducible refine' r_addTG ?hv ?_); (case hv => rfl))
  | with_reducible refine r_bmL ?_ | with_reducible refine r_isL ?_ | with_reducible refine r_try ?_ | with_reducible refine r_emp ?_ | with_reducible refine r_raise ?_ | with_reducible refine r_chain ?_ | with_reducible refine r_mulGI ?_ ?_
  | with_reducible refine r_wiET ?_ | with_reducible refine r_telLen ?_ | with_reducible refine r_telsLen ?_ | with_reducible refine r_rowLen ?_ | ((with_reducible refine' r_telT ?hv ?_); (case hv => rfl)))

local macro_rules | `(tactic| walk_at "szs") => `(tactic| first
  | assumption
  | ((with_reducible apply Sz.add); walk_at "szs"; walk_at "szs")
  | ((with_reducible apply Sz.sub); walk_at "szs"; walk_at "szs")
  | ((with_reducible apply Sz.mul); walk_at "szs"; walk_at "szs")
  | ((with_reducible apply Sz.neg); walk_at "szs")
  | (apply Pz.sz; assumption) | exact sz0 | exact sz1 | exact sz24
  | ((with_reducible apply sz_abs); walk_at "szs"))
local macro_rules | `(tactic| walk_at "sz") => `(tactic| (apply Sz.mono; walk_at "szs"; exact Nat.le_of_ble_eq_true rfl))
local macro_rules | `(tactic| walk_at "pen") => `(tactic| first | assumption | (apply Stm.pen; assumption) | (apply stm_st; assumption) | (apply stm_st; apply Stm.pen; assumption))
local macro_rules | `(tactic| walk_at "stm") => `(tactic| first | assumption | exact Stm.of (by walk_at "pen") | (refine Stm.trans ?_ (by assumption); walk_at "stm") | (refine Stm.trans ?_ (Stm.new (by walk_at "pen")); walk_at "stm"))
local macro_rules | `(tactic| walk_at "side") => `(tactic| first | assumption | rfl | omega | decide | walk_at "sz" | walk_at "pen")
local macro_rules | `(tactic| walk_at "au") => `(tactic| repeat' walk_at "au1")
local macro_rules | `(tactic| walk_at "au1") => `(tactic| first
  | walk_at "go1"
  | (with_reducible refine i_next ?_; intro r _ _)
  | (with_reducible refine i_draw ?a ?b ?c ?_; (case a => walk_at "side"); (case b => walk_at "side"); (case c => walk_at "pen"); intro x S' _ _ _)
  | (with_reducible refine i_sum_of ?a ?b ?_; (case a => walk_at "sz"); (case b => walk_at "sz"))
  | (with_reducible refine i_difference_of ?a ?b ?_; (case a => walk_at "sz"); (case b => walk_at "sz"))
  | (with_reducible refine i_product_of ?a ?b ?_; (case a => walk_at "sz"); (case b => walk_at "sz"))
  | (with_reducible refine i_is_below ?a ?b ?_; (case a => walk_at "sz"); (case b => walk_at "sz"))
  | (with_reducible refine i_added ?a ?b ?_; (case a => walk_at "sz"); (case b => walk_at "sz"))
  | (with_reducible refine i_less ?a ?b ?_; (case a => walk_at "sz"); (case b => walk_at "sz"))
  | (with_reducible refine i_times ?a ?b ?_; (case a => walk_at "sz"); (case b => walk_at "sz"))
  | (with_reducible refine i_is_less ?a ?b ?_; (case a => walk_at "sz"); (case b => walk_at "sz"))
  | (with_reducible refine i_sum ?a ?b ?_; (case a => walk_at "sz"); (case b => walk_at "sz"))
  | (with_reducible refine i_rest ?a ?b ?_; (case a => walk_at "sz"); (case b => walk_at "sz"))
  | (with_reducible refine i_prod ?a ?b ?_; (case a => walk_at "sz"); (case b => walk_at "sz"))
  | (with_reducible refine i_under ?a ?b ?_; (case a => walk_at "sz"); (case b => walk_at "sz"))
  | with_reducible refine i_is_part_pt ?_
  | with_reducible refine r_intB ?_
  | (with_reducible refine r_rng1 ?a ?b ?_; (case a => decide); (case b => decide)) | with_reducible refine r_ix0L ?_ | with_reducible refine r_muE ?_ | with_reducible refine r_itL ?_ | with_reducible refine r_itT ?_
  | with_reducible refine r_par3 ?_ | with_reducible refine r_three ?_ | with_reducible refine r_gSub ?_ | with_reducible refine r_lstM ?_ | with_reducible refine r_lstT ?_ | with_reducible refine r_turn ?_ | with_reducible refine r_callK ?_
  | with_reducible refine i_opposite ?_
  | ((with_reducible refine' r_ixT ?hv ?_); (case hv => rfl))
  | ((with_reducible refine' r_ixL ?hv ?_); (case hv => rfl)) | fail)
local macro_rules | `(tactic| walk_at "au1") => `(tactic| first
  | (with_reducible refine r_modI ?a ?_; (case a => decide))
  | (with_reducible refine r_divI ?a ?_; (case a => exact ⟨by decide, by decide⟩))
  | (with_reducible refine r_powI ?a ?_; (case a => exact ⟨by decide, by decide, by decide⟩)) | fail)
local macro_rules | `(tactic| walk_at "br") => `(tactic| first
  | (with_reducible refine r_bothT ?_ ?_ <;> intro z)
  | (with_reducible refine r_bothF ?_ ?_ <;> intro z)
  | (with_reducible refine r_bothD ?_ ?_ <;> intro z)
  | (with_reducible refine r_bothN ?_ ?_ <;> intro z)
  | (with_reducible refine r_both ?_ ?_ <;> intro z) | fail)
local macro_rules | `(tactic| walk_at "ab") => `(tactic| repeat' first | walk_at "au1" | walk_at "br")

local macro_rules | `(tactic| walk_at "shd") => `(tactic| first
  | assumption | exact ShD.non | exact ShD.bl | exact ShD.lit (by decide) | exact ShD.str (by decide +kernel) (by decide +kernel)
  | (apply ShD.nat; omega)
  | (apply ShD.pt (by walk_at "szs"); exact (Nat.ble_eq_true_of_le (of_decide_eq_true rfl)))
  | (apply ShD.tup; walk_at "shds") | (apply ShD.lst; walk_at "shds"))
local macro_rules | `(tactic| walk_at "shds") => `(tactic| first
  | assumption | exact ShDs.nil | (apply ShDs.cons; walk_at "shd"; walk_at "shds"))

local macro_rules | `(tactic| walk_at "au1") => `(tactic| first
  | (with_reducible refine r_neSS rfl ?_)
  | ((with_reducible refine' r_reprD ?a ?b ?c ?_); (case a => walk_at "shd"); (case b => rfl); (case c => rfl)) | fail)

def p_law_whole : SpD := p_is_whole
theorem isPart_int {a : Int} {b : Nat} (h : b ≠ 0) : PyData.eqv (ptP (Rat.normalize a b h)) (.tuple [.int a, .int b]) = decide (Nat.gcd a.natAbs b = 1) := by
  have e1 : (Rat.normalize a b h).num = a / ((a.natAbs.gcd b : Nat) : Int) := norm_num h
  have e2 : (Rat.normalize a b h).den = b / a.natAbs.gcd b := norm_den h
  by_cases g : Nat.gcd a.natAbs b = 1
  · rw [g] at e1 e2
    have e1 : (Rat.normalize a b h).num = a := by rw [e1]; simp
    have e2 : (Rat.normalize a b h).den = b := by rw [e2]; simp
    simp only [ptP, e1, e2, g]
    simp [PyData.eqv, PyData.eqvAll]
  · rw [decide_eq_false g]
    have gp := gcd_pos' (a := a) h
    have hl : b / a.natAbs.gcd b < b := Nat.div_lt_self (by omega) (by omega)
    have n2 : (((Rat.normalize a b h).den : Nat) : Int) ≠ (b : Int) := by rw [e2]; omega
    have e3 : PyData.eqv (ptP (Rat.normalize a b h)) (.tuple [.int a, .int b]) = (decide ((Rat.normalize a b h).num = a) && decide ((((Rat.normalize a b h).den : Nat) : Int) = (b : Int))) := by
      simp only [ptP, PyData.eqv, PyData.eqvAll, Bool.and_true]
      rfl
    rw [e3, decide_eq_false n2, Bool.and_false]

def p_law_is_part : SpD := fun ds S R _ => ∃ d, ds = [d] ∧ Pz 8000 d ∧ R (.bl (isPart d)) S
/-! ### clocks, of anything -/
def isGn : D → Bool
  | .tup [.int a, .int b] => isPart (.tup [.int a, .int b]) && decide ((a.natAbs : Int) ≤ 12 * b)
  | _ => false
def nzB : D → Bool
  | .tup [.int a, .int _] => !decide (a = 0)
  | _ => false
def isSet1 : D → Bool
  | .tup [m, j] => isUp m && (isPart j && nzB j)
  | _ => false
def riseR : List (Rat × Rat) → Bool
  | a :: b :: r => decide (a.1 < b.1) && riseR (b :: r)
  | _ => true
def headD : D → D
  | .tup (m :: _) => m
  | _ => .non
def ltQ : D → D → Bool
  | .tup [.int a, .int b], .tup [.int c, .int d] => decide (a * d < c * b)
  | _, _ => false
def riseB : List D → Bool
  | x :: y :: r => ltQ (headD x) (headD y) && riseB (y :: r)
  | _ => true
def areSt : D → Bool
  | .tup xs => decide (xs.length ≤ 6) && (xs.all isSet1 && riseB xs)
  | _ => false
def isClo : D → Bool
  | .tup [g, s] => isGn g && areSt s
  | _ => false
def Cz (n : Nat) (d : D) : Prop := plainD d = true ∧ ∀ xs, d = .tup xs → xs.length ≤ 100 ∧ ∀ x ∈ xs, Pz n x ∧ Tz n x
def p_is_momentX : SpD := fun ds S R _ => ∃ d, ds = [d] ∧ Pz 4000 d ∧ R (.bl (isUp d)) S
def p_is_gainX : SpD := fun ds S R _ => ∃ d, ds = [d] ∧ Pz 4000 d ∧ R (.bl (isGn d)) S
def p_is_one_setX : SpD := fun ds S R _ => ∃ d, ds = [d] ∧ Qz 4000 d ∧ R (.bl (isSet1 d)) S
def p_are_setsX : SpD := fun ds S R _ => ∃ d, ds = [d] ∧ Tz 4000 d ∧ R (.bl (areSt d)) S
def p_is_clockX : SpD := fun ds S R _ => ∃ d, ds = [d] ∧ Cz 4000 d ∧ R (.bl (isClo d)) S
def p_law_is_clockX : SpD := p_is_clockX
def p_check_clockX (K : PySem.W.Frag) : SpD := fun ds S R Rx => ∃ d, ds = [d] ∧ Cz 4000 d ∧ (isClo d = true → R .non S) ∧ (isClo d = false → Rx (erO K "NoClock") S)
def p_check_momentX (K : PySem.W.Frag) : SpD := fun ds S R Rx => ∃ d, ds = [d] ∧ Pz 4000 d ∧ (isUp d = true → R .non S) ∧ (isUp d = false → Rx (erO K "NoMoment") S)
def p_check_hourX (K : PySem.W.Frag) : SpD := fun ds S R Rx => ∃ d, ds = [d] ∧ Pz 4000 d ∧ (isPart d = true → R .non S) ∧ (isPart d = false → Rx (erO K "NoHour") S)
/-- a bad error -/
def BadE (d : D) : Prop := Pz 4000 d ∧ isNon d = false ∧ isPart d = false
def p_error_toldX (K : PySem.W.Frag) : SpD := fun ds S R Rx => ∃ d, ds = [d] ∧ BadE d ∧ Rx (erO K "NoPart") S
def p_leaps_ofX (K : PySem.W.Frag) : SpD := fun ds S R Rx => ∃ c e b, ds = [c, e, b] ∧ BadE e ∧ Rx (erO K "NoPart") S
/-- asked of a clock: what is refused -/
def NoClk (K : PySem.W.Frag) (d : D) (S : Sto) (Rx : Er → Sto → Prop) (more : Prop) : Prop := Cz 4000 d ∧ ((isClo d = false ∧ Rx (erO K "NoClock") S) ∨ (isClo d = true ∧ more))
def p_driftX (K : PySem.W.Frag) : SpD := fun ds S R Rx => ∃ d e, ds = [d, e] ∧ NoClk K d S Rx (Pz 4000 e ∧ isUp e = false ∧ Rx (erO K "NoMoment") S)
def p_shown_atX (K : PySem.W.Frag) : SpD := fun ds S R Rx => ∃ d m e, ds = [d, m, e] ∧ NoClk K d S Rx (Pz 4000 m ∧ ((isUp m = false ∧ Rx (erO K "NoMoment") S) ∨ (isUp m = true ∧ BadE e ∧ Rx (erO K "NoPart") S)))
def p_moments_ofX (K : PySem.W.Frag) : SpD := fun ds S R Rx => ∃ d m e, ds = [d, m, e] ∧ NoClk K d S Rx (Pz 4000 m ∧ ((isPart m = false ∧ Rx (erO K "NoHour") S) ∨ (isPart m = true ∧ BadE e ∧ Rx (erO K "NoPart") S)))
def p_turned_backX (K : PySem.W.Frag) : SpD := fun ds S R Rx => ∃ d e, ds = [d, e] ∧ NoClk K d S Rx (BadE e ∧ Rx (erO K "NoPart") S)
def p_skippedX (K : PySem.W.Frag) : SpD := p_turned_backX K
section
variable {K : PySem.W.Frag} {S : Sto} {R : KR} {Rx : Er → Sto → Prop} {d e m a b : D} {q : Rat} {n : Nat} {xs : List D}
theorem i_momX (z : Pz 4000 d) (k : R (.bl (isUp d)) S) : ([d] ++ ([] : List D)).length = 1 ∧ p_is_momentX ([d] ++ []) S R Rx := ⟨rfl, d, rfl, z, k⟩
theorem i_gainX (z : Pz 4000 d) (k : R (.bl (isGn d)) S) : ([d] ++ ([] : List D)).length = 1 ∧ p_is_gainX ([d] ++ []) S R Rx := ⟨rfl, d, rfl, z, k⟩
theorem i_setX (z : Qz 4000 d) (k : R (.bl (isSet1 d)) S) : ([d] ++ ([] : List D)).length = 1 ∧ p_is_one_setX ([d] ++ []) S R Rx := ⟨rfl, d, rfl, z, k⟩
theorem i_setsX (z : Tz 4000 d) (k : R (.bl (areSt d)) S) : ([d] ++ ([] : List D)).length = 1 ∧ p_are_setsX ([d] ++ []) S R Rx := ⟨rfl, d, rfl, z, k⟩
theorem i_clockX (z : Cz 4000 d) (k : R (.bl (isClo d)) S) : ([d] ++ ([] : List D)).length = 1 ∧ p_is_clockX ([d] ++ []) S R Rx := ⟨rfl, d, rfl, z, k⟩
theorem i_lclockX (z : Cz 4000 d) (k : R (.bl (isClo d)) S) : ([d] ++ ([] : List D)).length = 1 ∧ p_law_is_clockX ([d] ++ []) S R Rx := ⟨rfl, d, rfl, z, k⟩
theorem i_ckclockX (z : Cz 4000 d) (k : isClo d = true → R .non S) (x : isClo d = false → Rx (erO K "NoClock") S) : ([d] ++ ([] : List D)).length = 1 ∧ p_check_clockX K ([d] ++ []) S R Rx := ⟨rfl, d, rfl, z, k, x⟩
theorem i_ckmomX (z : Pz 4000 d) (k : isUp d = true → R .non S) (x : isUp d = false → Rx (erO K "NoMoment") S) : ([d] ++ ([] : List D)).length = 1 ∧ p_check_momentX K ([d] ++ []) S R Rx := ⟨rfl, d, rfl, z, k, x⟩
theorem i_ckhourX (z : Pz 4000 d) (k : isPart d = true → R .non S) (x : isPart d = false → Rx (erO K "NoHour") S) : ([d] ++ ([] : List D)).length = 1 ∧ p_check_hourX K ([d] ++ []) S R Rx := ⟨rfl, d, rfl, z, k, x⟩
theorem i_errX (z : BadE d) (x : Rx (erO K "NoPart") S) : ([d] ++ ([] : List D)).length = 1 ∧ p_error_toldX K ([d] ++ []) S R Rx := ⟨rfl, d, rfl, z, x⟩
theorem i_leapsX (z : BadE e) (x : Rx (erO K "NoPart") S) : ([d, e, b] ++ ([] : List D)).length = 3 ∧ p_leaps_ofX K ([d, e, b] ++ []) S R Rx := ⟨rfl, d, e, b, rfl, z, x⟩
theorem i_driftX (h : NoClk K d S Rx (Pz 4000 e ∧ isUp e = false ∧ Rx (erO K "NoMoment") S)) : ([d, e] ++ ([] : List D)).length = 2 ∧ p_driftX K ([d, e] ++ []) S R Rx := ⟨rfl, d, e, rfl, h⟩
theorem i_shownX (h : NoClk K d S Rx (Pz 4000 m ∧ ((isUp m = false ∧ Rx (erO K "NoMoment") S) ∨ (isUp m = true ∧ BadE e ∧ Rx (erO K "NoPart") S)))) : ([d, m, e] ++ ([] : List D)).length = 3 ∧ p_shown_atX K ([d, m, e] ++ []) S R Rx := ⟨rfl, d, m, e, rfl, h⟩
theorem i_momsX (h : NoClk K d S Rx (Pz 4000 m ∧ ((isPart m = false ∧ Rx (erO K "NoHour") S) ∨ (isPart m = true ∧ BadE e ∧ Rx (erO K "NoPart") S)))) : ([d, m, e] ++ ([] : List D)).length = 3 ∧ p_moments_ofX K ([d, m, e] ++ []) S R Rx := ⟨rfl, d, m, e, rfl, h⟩
theorem i_backX (h : NoClk K d S Rx (BadE e ∧ Rx (erO K "NoPart") S)) : ([d, e] ++ ([] : List D)).length = 2 ∧ p_turned_backX K ([d, e] ++ []) S R Rx := ⟨rfl, d, e, rfl, h⟩
theorem i_skipX (h : NoClk K d S Rx (BadE e ∧ Rx (erO K "NoPart") S)) : ([d, e] ++ ([] : List D)).length = 2 ∧ p_skippedX K ([d, e] ++ []) S R Rx := ⟨rfl, d, e, rfl, h⟩
theorem i_lpart (z : Pz 8000 d) (k : R (.bl (isPart d)) S) : ([d] ++ ([] : List D)).length = 1 ∧ p_law_is_part ([d] ++ []) S R Rx := ⟨rfl, d, rfl, z, k⟩
theorem i_lpart_c (z : Pz 8000 d) (k1 : ∀ q, d = pt q → R (.bl true) S) (k2 : isPart d = false → R (.bl false) S) : ([d] ++ ([] : List D)).length = 1 ∧ p_law_is_part ([d] ++ []) S R Rx := by
  refine i_lpart z ?_
  cases e : isPart d with
  | true =>
    obtain ⟨q, rfl⟩ := isPart_at e
    exact k1 q rfl
  | false => exact k2 e
theorem isGn_pt : isGn (pt q) = decide (q.num.natAbs ≤ 12 * q.den) := by
  show (isPart (pt q) && decide ((q.num.natAbs : Int) ≤ 12 * (q.den : Int))) = _
  rw [isPart_pt, Bool.true_and, decide_eq_decide]
  omega
theorem isGn_no (h : isPart d = false) : isGn d = false := by
  unfold isGn
  split
  · rw [h]
    rfl
  · rfl
theorem nzB_pt : nzB (pt q) = !decide (q.num = 0) := rfl
theorem isSet1_no (z : NotN 2 d) : isSet1 d = false := by
  unfold isSet1
  split
  · exact absurd rfl (z _ rfl)
  · rfl
theorem isClo_no (z : NotN 2 d) : isClo d = false := by
  unfold isClo
  split
  · exact absurd rfl (z _ rfl)
  · rfl
theorem isUp_at (h : isUp d = true) : ∃ q : Rat, d = pt q ∧ 0 ≤ q.num := by
  cases e : isPart d with
  | true =>
    obtain ⟨q, rfl⟩ := isPart_at e
    rw [isUp_pt] at h
    exact ⟨q, rfl, of_decide_eq_true h⟩
  | false =>
    rw [isUp_no e] at h
    cases h
theorem set1_at (hz : Qz n d) (h : isSet1 d = true) : ∃ e : Rat × Rat, d = setD e ∧ 0 ≤ e.1.num ∧ e.2.num ≠ 0 ∧ Sz n e.1 ∧ Sz n e.2 := by
  rcases tup_2 d with ⟨m, j, rfl⟩ | hn
  · have h : (isUp m && (isPart j && nzB j)) = true := h
    simp only [Bool.and_eq_true] at h
    obtain ⟨h1, h2, h3⟩ := h
    obtain ⟨q, rfl, hq⟩ := isUp_at h1
    obtain ⟨r, rfl⟩ := isPart_at h2
    rw [nzB_pt] at h3
    exact ⟨(q, r), rfl, hq, (by have h3 : (!decide (r.num = 0)) = true := h3; simpa using h3), (hz.at (x := pt q) (by simp)).sz, (hz.at (x := pt r) (by simp)).sz⟩
  · rw [isSet1_no hn] at h
    cases h
theorem sets_at : ∀ {xs : List D}, (∀ x ∈ xs, Qz n x) → xs.all isSet1 = true → ∃ l : List (Rat × Rat), xs = l.map setD ∧ ∀ e ∈ l, 0 ≤ e.1.num ∧ e.2.num ≠ 0 ∧ Sz n e.1 ∧ Sz n e.2
  | [], _, _ => ⟨[], rfl, fun _ h => nomatch h⟩
  | x :: xs, hz, h => by
    rw [List.all_cons, Bool.and_eq_true] at h
    obtain ⟨e, rfl, he⟩ := set1_at (hz x List.mem_cons_self) h.1
    obtain ⟨l, rfl, hl⟩ := sets_at (fun y hy => hz y (List.mem_cons_of_mem _ hy)) h.2
    exact ⟨e :: l, rfl, fun y hy => (List.mem_cons.mp hy).elim (fun z => z ▸ he) (hl y)⟩
theorem ltQ_pt {p q : Rat} : ltQ (pt p) (pt q) = decide (p < q) := lt_pt
theorem rise_map : ∀ l : List (Rat × Rat), riseB (l.map setD) = riseR l
  | [] => rfl
  | [_] => rfl
  | a :: b :: r => by
    show (ltQ (pt a.1) (pt b.1) && riseB ((b :: r).map setD)) = (decide (a.1 < b.1) && riseR (b :: r))
    rw [ltQ_pt, rise_map (b :: r)]
theorem rise_zip : ∀ l : List (Rat × Rat), (List.zipWith (fun a b => decide (a.1 < b.1)) l (l.drop 1)).all id = riseR l
  | [] => rfl
  | [_] => rfl
  | a :: b :: r => by
    show (decide (a.1 < b.1) && (List.zipWith (fun a b => decide (a.1 < b.1)) (b :: r) ((b :: r).drop 1)).all id) = _
    rw [rise_zip (b :: r)]
    rfl
theorem riseR_ok : ∀ {l : List (Rat × Rat)}, (∀ (i : Nat) (a b : Rat × Rat), l[i]? = some a → l[i + 1]? = some b → a.1 < b.1) → riseR l = true
  | [], _ => rfl
  | [_], _ => rfl
  | a :: b :: r, h => by
    show (decide (a.1 < b.1) && riseR (b :: r)) = true
    rw [decide_eq_true (h 0 a b rfl rfl), Bool.true_and]
    exact riseR_ok fun i x y h1 h2 => h (i + 1) x y h1 h2
theorem isClo_ck {q : Rat} {l : List (Rat × Rat)} (h : CkOk q l) : isClo (ckD q l) = true := by
  show (isGn (pt q) && (decide ((l.map setD).length ≤ 6) && ((l.map setD).all isSet1 && riseB (l.map setD)))) = true
  rw [isGn_pt, decide_eq_true h.1, rise_map, riseR_ok h.2.2.up, decide_eq_true (by rw [List.length_map]; exact h.2.2.len), Bool.true_and, Bool.true_and, Bool.and_true, List.all_eq_true]
  intro x hx
  obtain ⟨e, he, rfl⟩ := List.mem_map.mp hx
  obtain ⟨h1, h2, _, _⟩ := h.2.2.ea e he
  show (isUp (pt e.1) && (isPart (pt e.2) && nzB (pt e.2))) = true
  rw [isUp_pt, isPart_pt, nzB_pt, decide_eq_true h1, decide_eq_false h2]
  rfl
/-! things that tuples are made of -/
structure Tg (d : D) : Prop where
  p : Pz 200 d
  t : Tz 200 d
  q : Qz 200 d
theorem Tg.no (h : plainD d = true) (t : isTup d = false) : Tg d := ⟨Pz.no h t, Tz.no h t, Qz.no h t⟩
theorem Tg.tup (hl : xs.length ≤ 100) (hb : ∀ a b : Int, xs = [.int a, .int b] → a.natAbs < 2 ^ 200 ∧ b.natAbs < 2 ^ 200) (h : ∀ x ∈ xs, Tg x) : Tg (.tup xs) := by
  refine ⟨⟨?_, fun a b e => hb a b (by cases e; rfl)⟩, Tz.tup hl fun x hx => (h x hx).q, Qz.tup' hl fun x hx => (h x hx).p⟩
  unfold plain2
  split
  · rename_i a b e
    cases e
    rw [(h a (by simp)).p.pD, (h b (by simp)).p.pD]
    rfl
  · rfl
theorem Tg.pt (h : Sz 200 q) : Tg (pt q) := ⟨Pz.pt h, Tz.tup (by simp) fun x hx => by
  simp only [List.mem_cons, List.not_mem_nil, or_false] at hx
  rcases hx with rfl | rfl <;> exact Qz.no rfl rfl, Qz.tup' (by simp) fun x hx => by
  simp only [List.mem_cons, List.not_mem_nil, or_false] at hx
  rcases hx with rfl | rfl <;> exact Pz.no rfl rfl⟩
theorem Tg.of (h : pzB 200 d = true) (h2 : qzB 200 d = true) (h3 : tzB 200 d = true) : Tg d := ⟨pz_of h, tz_of h3, qz_of h2⟩
theorem Cz.tup (hl : xs.length ≤ 100) (h : ∀ x ∈ xs, Tg x) : Cz 4000 (.tup xs) := ⟨rfl, fun ys e => by cases e; exact ⟨hl, fun x hx => ⟨(h x hx).p.mono (by decide), (h x hx).t.mono (by decide)⟩⟩⟩
theorem Cz.no (h : plainD d = true) (t : isTup d = false) : Cz n d := ⟨h, fun xs e => by subst e; cases t⟩
theorem Cz.at (h : Cz n (.tup xs)) (hx : d ∈ xs) : Pz n d ∧ Tz n d := (h.2 xs rfl).2 d hx
theorem Cz.len (h : Cz n (.tup xs)) : xs.length ≤ 100 := (h.2 xs rfl).1
theorem tg_set {e : Rat × Rat} (h1 : Sz 200 e.1) (h2 : Sz 200 e.2) : Tg (setD e) := Tg.tup (by simp) (fun a b e => by cases e) fun x hx => by
  simp only [List.mem_cons, List.not_mem_nil, or_false] at hx
  rcases hx with rfl | rfl
  · exact .pt h1
  · exact .pt h2
theorem tg_sets {l : List (Rat × Rat)} (hl : l.length ≤ 100) (h : ∀ e ∈ l, Sz 200 e.1 ∧ Sz 200 e.2) : Tg (setsD l) := Tg.tup (by rw [List.length_map]; exact hl) (fun a b e => by
    cases l with
    | nil => cases e
    | cons x r => cases e) fun x hx => by
  obtain ⟨e, he, rfl⟩ := List.mem_map.mp hx
  exact tg_set (h e he).1 (h e he).2
theorem cz_ck {q : Rat} {l : List (Rat × Rat)} (h : CkOk q l) : Cz 4000 (ckD q l) := Cz.tup (by simp) fun x hx => by
  simp only [List.mem_cons, List.not_mem_nil, or_false] at hx
  rcases hx with rfl | rfl
  · exact .pt (h.2.1.mono (by decide))
  · exact tg_sets (by have := h.2.2.len; omega) fun e he => ⟨(h.2.2.ea e he).2.2.1.mono (by decide), (h.2.2.ea e he).2.2.2.mono (by decide)⟩
end
/-! the law's look at a clock -/
def partR : D → Rat
  | .tup [.int a, .int b] => mkRat a b.toNat
  | _ => 0
theorem partR_pt {q : Rat} : partR (pt q) = q := by
  show mkRat q.num (q.den : Int).toNat = q
  rw [Int.toNat_natCast]
  exact Rat.mkRat_self q
def goodL : Rat → List D → Bool
  | _, [] => true
  | a, x :: r => isSet1 x && (ltQ (pt a) (headD x) && goodL (partR (headD x)) r)
def startB (a : Rat) : List D → Bool
  | [] => true
  | x :: _ => ltQ (pt a) (headD x)
theorem good_eq {n : Nat} : ∀ (xs : List D) (a : Rat), (∀ x ∈ xs, Qz n x) → goodL a xs = (xs.all isSet1 && (startB a xs && riseB xs))
  | [], a, _ => rfl
  | x :: r, a, hz => by
    show (isSet1 x && (ltQ (pt a) (headD x) && goodL (partR (headD x)) r)) = ((isSet1 x && r.all isSet1) && (ltQ (pt a) (headD x) && riseB (x :: r)))
    cases e : isSet1 x with
    | false => rfl
    | true =>
      obtain ⟨y, rfl, _⟩ := set1_at (hz x List.mem_cons_self) e
      have e1 : headD (setD y) = pt y.1 := rfl
      rw [e1, partR_pt, good_eq r y.1 (fun z hz' => hz z (List.mem_cons_of_mem _ hz'))]
      have e2 : riseB (setD y :: r) = (startB y.1 r && riseB r) := by
        cases r with
        | nil => rfl
        | cons z r => rfl
      rw [e2]
      cases r.all isSet1 <;> cases ltQ (pt a) (pt y.1) <;> rfl
theorem good_first {n : Nat} {xs : List D} (hz : ∀ x ∈ xs, Qz n x) : goodL (-1) xs = (xs.all isSet1 && riseB xs) := by
  rw [good_eq xs (-1) hz]
  cases xs with
  | nil => rfl
  | cons x r =>
    show ((isSet1 x && r.all isSet1) && (ltQ (pt (-1)) (headD x) && riseB (x :: r))) = _
    cases e : isSet1 x with
    | false =>
      show (false && r.all isSet1 && _) = ((isSet1 x && r.all isSet1) && _)
      rw [e]
      rfl
    | true =>
      obtain ⟨y, rfl, h0, _⟩ := set1_at (hz x List.mem_cons_self) e
      have e1 : ltQ (pt (-1)) (headD (setD y)) = true := by
        show ltQ (pt (-1)) (pt y.1) = true
        rw [ltQ_pt]
        exact decide_eq_true (by have := of_num h0; grind)
      rw [e1, Bool.true_and]
      show _ = ((isSet1 (setD y) && r.all isSet1) && _)
      rw [e, Bool.true_and, Bool.true_and]
theorem gn_pt {q : Rat} : isGn (pt q) = (!decide ((12 : Rat) < q) && !decide (q < -12)) := by
  rw [isGn_pt, ← lt_pt, ← lt_pt]
  have e1 : ((12 : Rat).num) = 12 := rfl
  have e2 : ((12 : Rat).den) = 1 := rfl
  have e3 : ((-12 : Rat).num) = -12 := rfl
  have e4 : ((-12 : Rat).den) = 1 := rfl
  rw [e1, e2, e3, e4, Bool.eq_iff_iff]
  simp only [decide_eq_true_eq, Bool.and_eq_true, Bool.not_eq_true', decide_eq_false_iff_not]
  omega
def p_law_refused (K : PySem.W.Frag) : SpD := fun ds S R _ => ∃ d, ds = [d] ∧ Cz 4000 d ∧ isClo d = false ∧ R (.bl true) S
def p_law_bent : SpD := fun ds S R _ => ∃ (i : Nat) (q : Rat) (l : List (Rat × Rat)), ds = [.mu i, ckD q l] ∧ Pen S i ∧ Sz 6 q ∧ SmallSets l ∧ ∀ e xs S', itemsM e S' = some xs → (∀ x ∈ xs, Cz 4000 x) → xs.length ≤ 60 → Stm i S S' → R e S'
section
variable {K : PySem.W.Frag} {S : Sto} {R : KR} {Rx : Er → Sto → Prop} {d : D} {q : Rat} {i : Nat} {l : List (Rat × Rat)}
theorem i_refusedX (z : Cz 4000 d) (c : isClo d = false) (k : R (.bl true) S) : ([d] ++ ([] : List D)).length = 1 ∧ p_law_refused K ([d] ++ []) S R Rx := ⟨rfl, d, rfl, z, c, k⟩
theorem i_bentX (hp : Pen S i) (hq : Sz 6 q) (hl : SmallSets l) (k : ∀ e xs S', itemsM e S' = some xs → (∀ x ∈ xs, Cz 4000 x) → xs.length ≤ 60 → Stm i S S' → R e S') : ([D.mu i, ckD q l] ++ ([] : List D)).length = 2 ∧ p_law_bent ([D.mu i, ckD q l] ++ []) S R Rx := ⟨rfl, i, q, l, rfl, hp, hq, hl, k⟩
def setP (e : Rat × Rat) : PyData := .tuple [ptP e.1, ptP e.2]
theorem r_eqSets0 (hl : l.length ≤ 6) (k1 : l = [] → R (.bl true) S) (k2 : l ≠ [] → R (.bl false) S) : dEq (setsD l) (.tup []) S R := by
  match l, hl with
  | [], _ => exact ⟨.tuple [], .tuple [], rfl, rfl, rfl, rfl, k1 rfl⟩
  | [a], _ => exact ⟨.tuple [setP a], .tuple [], rfl, rfl, rfl, rfl, k2 (by simp)⟩
  | [a, b], _ => exact ⟨.tuple [setP a, setP b], .tuple [], rfl, rfl, rfl, rfl, k2 (by simp)⟩
  | [a, b, c], _ => exact ⟨.tuple [setP a, setP b, setP c], .tuple [], rfl, rfl, rfl, rfl, k2 (by simp)⟩
  | [a, b, c, d], _ => exact ⟨.tuple [setP a, setP b, setP c, setP d], .tuple [], rfl, rfl, rfl, rfl, k2 (by simp)⟩
  | [a, b, c, d, e], _ => exact ⟨.tuple [setP a, setP b, setP c, setP d, setP e], .tuple [], rfl, rfl, rfl, rfl, k2 (by simp)⟩
  | [a, b, c, d, e, f], _ => exact ⟨.tuple [setP a, setP b, setP c, setP d, setP e, setP f], .tuple [], rfl, rfl, rfl, rfl, k2 (by simp)⟩
theorem r_ixSets {n : Nat} {e : Rat × Rat} (h : l[n]? = some e) (k : R (setD e) S) : dIx (setsD l) (.int (n : Int)) S R := by
  refine ⟨setD e, ?_, k⟩
  have h2 : (l.map setD)[n]? = some (setD e) := by rw [List.getElem?_map, h]; rfl
  have hn := (List.getElem?_eq_some_iff.mp h2).1
  unfold atI ixN
  rw [if_pos (by omega), if_pos (by omega)]
  simpa using h2
theorem toPs_sets {S : Sto} : ∀ l : List (Rat × Rat), toPs S (l.map setD) = some (l.map setP)
  | [] => rfl
  | e :: l => by
    have ih := toPs_sets (S := S) l
    have e1 : toP S (setD e) = some (setP e) := rfl
    simp only [List.map_cons, toPs, e1, ih]
theorem shx_set {e : Rat × Rat} (h1 : Sz 40 e.1) (h2 : Sz 40 e.2) : ShD 200 2 (setD e) := (ShD.tup (.of (fun x hx => by
  simp only [List.mem_cons, List.not_mem_nil, or_false] at hx
  rcases hx with rfl | rfl
  · exact ShD.pt h1 rfl
  · exact ShD.pt h2 rfl) (Nat.le_refl _))).mono (Nat.le_of_ble_eq_true rfl) (Nat.le_of_ble_eq_true rfl)
end
theorem r_neWord {S : Sto} {R : KR} {x y : Str} (e : x = y) (h : SeqAt.shaped (.tuple [.str y]) = true) (k : R (.bl false) S) : dNe (.tup [.str x]) (.tup [.str y]) S R := by
  subst e
  refine ⟨.tuple [.str x], .tuple [.str x], rfl, rfl, h, h, ?_⟩
  have e : PyData.eqv (.tuple [.str x]) (.tuple [.str x]) = true := by simp [PyData.eqv, PyData.eqvAll]
  rw [e]
  exact k
def bads1 : List D := [.non, .tup [.int (-1), .int 2], .tup [.int 2, .int 2], .int 1, .bl true, .tup [.int 1, .int 0], .str "0"]
def bads2 : List D := [.tup [.int 2, .int 2], .int 1, .bl true, .str "0", .tup [.int 1, .int 0], .lst [.int 0, .int 1], .int 0, .bl false, .str "", .tup [], .lst [], .emp]
theorem bad1 {d : D} (h : d ∈ bads1) : Pz 4000 d ∧ isUp d = false := by
  have z := List.all_eq_true.mp (show bads1.all (fun d => pzB 200 d && !isUp d) = true by decide +kernel) d h
  obtain ⟨z1, z2⟩ := Bool.and_eq_true_iff.mp z
  exact ⟨(pz_of z1).mono (by decide), by simpa using z2⟩
theorem bad2 {d : D} (h : d ∈ bads2) : BadE d := by
  have z := List.all_eq_true.mp (show bads2.all (fun d => pzB 200 d && (!isNon d && !isPart d)) = true by decide +kernel) d h
  simp only [Bool.and_eq_true, Bool.not_eq_true'] at z
  exact ⟨(pz_of z.1).mono (by decide), z.2.1, z.2.2⟩
theorem pen_new {S : Sto} {a b c : Int} {p : Nat} (h : S.length = p) : Pen (S ++ [[.int a, .int b, .int c]]) p := by
  refine ⟨a, b, c, ?_⟩
  rw [List.getElem?_append_right (by omega), h, Nat.sub_self]
  rfl
theorem r_chC {K : PySem.W.Frag} {CS : Addr} {fl : Er → Sto → KR → Prop} {tr : D → D} {w : WE'} {ws : List WE'} {acc : List D} {env : Vars} {S : Sto} {R : KR} (k : wTry K CS fl tr w env S (fun d S1 => chW K CS fl tr ws (acc ++ [d]) env S1 R) (fun _ _ _ => False)) : chW K CS fl tr (w :: ws) acc env S R := k
theorem r_chN {K : PySem.W.Frag} {CS : Addr} {fl : Er → Sto → KR → Prop} {tr : D → D} {acc : List D} {env : Vars} {S : Sto} {R : KR} (h : acc.length.ble 100 = true) (k : R (.lst acc) S) : chW K CS fl tr [] acc env S R := ⟨size100 (Nat.le_of_ble_eq_true h), k⟩
theorem r_eqQ {a b : D} {p q : PyData} {S : Sto} {R : KR} (n1 : (∃ xs, a = .lst xs) ∨ ∃ j, a = .mu j) (ha : toQ S a = some p) (hb : toQ S b = some q) (h1 : SeqAt.shaped p = true) (h2 : SeqAt.shaped q = true) (e : PyData.eqv p q = true) (k : R (.bl true) S) : dEq a b S R := by
  rcases n1 with ⟨xs, rfl⟩ | ⟨j, rfl⟩ <;> exact ⟨p, q, ha, hb, h1, h2, by rw [e]; exact k⟩
theorem r_neQ {a b : D} {p q : PyData} {S : Sto} {R : KR} (n1 : (∃ xs, a = .lst xs) ∨ ∃ j, a = .mu j) (ha : toQ S a = some p) (hb : toQ S b = some q) (h1 : SeqAt.shaped p = true) (h2 : SeqAt.shaped q = true) (e : PyData.eqv p q = true) (k : R (.bl false) S) : dNe a b S R := by
  rcases n1 with ⟨xs, rfl⟩ | ⟨j, rfl⟩ <;> exact ⟨p, q, ha, hb, h1, h2, by rw [e]; exact k⟩

end DL

set_option maxHeartbeats 4000000
namespace DL
open PySem PySem.Spec PyProof.Rows L2
local macro_rules | `(tactic| walk_at "go1") => `(tactic| first
  | with_reducible refine r_seq ?_ | with_reducible refine r_asg ?_ | with_reducible refine r_ret ?_ | with_reducible refine r_ifS ?_ | with_reducible refine r_drop ?_ | with_reducible refine r_par ?_ | with_reducible refine r_next ?_ | with_reducible refine r_retN ?_
  | ((with_reducible refine' r_var ?hv ?_); (case hv => rfl)) | with_reducible refine r_c ?_ | with_reducible refine r_bin ?_ | with_reducible refine r_un ?_ | with_reducible refine r_as1 ?_ | with_reducible refine r_as0 ?_
  | with_reducible refine r_cb ?_ | with_reducible refine r_call ?_ | with_reducible refine r_B ?_ | with_reducible refine r_notT ?_ | with_reducible refine r_andT ?_ | with_reducible refine r_orT ?_
  | with_reducible refine r_andV ?_ | with_reducible refine r_orV ?_ | with_reducible refine r_notV ?_ | with_reducible refine r_if ?_ | with_reducible refine r_tup ?_ | with_reducible refine r_lst ?_ | with_reducible refine r_mu ?_
  | with_reducible refine r_cut ?_ | with_reducible refine r_p0 ?_ | with_reducible refine r_p1 ?_ | with_reducible refine r_gN ?_ | ((with_reducible refine r_gT ?hv ?_); (case hv => rfl)) | with_reducible refine r_gs1 ?_ | with_reducible refine r_gs0 ?_
  | ((with_reducible refine r_trueR ?hv ?_); (case hv => first | rfl | assumption)) | ((with_reducible refine r_falseR ?hv ?_); (case hv => first | rfl | assumption)) | with_reducible refine r_bl ?_ | with_reducible refine r_in ?_ | with_reducible refine r_two ?_
  | with_reducible refine r_addI ?_ | with_reducible refine r_subI ?_ | with_reducible refine r_mulI ?_ ?_ | with_reducible refine r_divI ?_ ?_ | with_reducible refine r_modI ?_ ?_ | with_reducible refine r_powI ?_ ?_ | with_reducible refine r_negI ?_
  | with_reducible refine r_lt ?_ | with_reducible refine r_le ?_ | with_reducible refine r_gt ?_ | with_reducible refine r_ge ?_ | with_reducible refine r_is ?_ | with_reducible refine r_isNot ?_ | with_reducible refine r_eqI ?_ | with_reducible refine r_neI ?_ | with_reducible refine r_eqS ?_ | with_reducible refine r_neS ?_
  | with_reducible refine r_ixP0 ?_ | with_reducible refine r_ixP1 ?_ | with_reducible refine r_ix0T ?_ | with_reducible refine r_ix1T ?_ | with_reducible refine r_lenT ?_ | with_reducible refine r_lenL ?_ | with_reducible refine r_lenC ?_
  | with_reducible refine r_abs ?_ | with_reducible refine r_max ?_ | with_reducible refine r_min ?_ | with_reducible refine r_intI ?_ | with_reducible refine r_intB ?_ | with_reducible refine r_tupL ?_ | with_reducible refine r_tupT ?_
  | with_reducible refine r_gcd ?_ | ((with_reducible refine r_isi ?hv ?_); (case hv => first | rfl | assumption)) | with_reducible refine r_sizeT ?_ | with_reducible refine r_sizeL ?_)
local macro_rules | `(tactic| walk_at "go") => `(tactic| repeat' walk_at "go1")
local macro_rules | `(tactic| walk_at "go1") => `(tactic| first
  | with_reducible refine r_lc ?_ | with_reducible refine r_wiT ?_ | with_reducible refine r_wiZ ?_ | with_reducible refine r_wiL ?_ | with_reducible refine r_wiR1 ?_ | with_reducible refine r_for ?_ | with_reducible refine r_yes ?_
  | with_reducible refine b_nm ?_ | with_reducible refine r_setD0 ?_ | with_reducible refine r_setD1 ?_ | ((with_reducible refine' r_setDT ?hv ?_); (case hv => rfl)) | with_reducible refine r_setsD ?_ | with_reducible refine r_setsCut ?_ | with_reducible refine b_tp2 ?_ | with_reducible refine r_trueL ?_ | with_reducible refine r_falseL ?_ )

local macro_rules | `(tactic| walk_at "go1") => `(tactic| first
  | with_reducible refine r_size0 ?_ | with_reducible refine r_size3 ?_ | with_reducible refine r_app ?_ | with_reducible refine r_setIx ?_ | ((with_reducible refine' r_sizeG ?hv ?_); (case hv => rfl)) | ((with_reducible refine' r_addG ?hv ?_); (case hv => rfl)) | ((with_reducible refine' r_addTG ?hv ?_); (case hv => rfl))
  | with_reducible refine r_bmL ?_ | with_reducible refine r_isL ?_ | with_reducible refine r_try ?_ | with_reducible refine r_emp ?_ | with_reducible refine r_raise ?_ | with_reducible refine r_chain ?_ | with_reducible refine r_mulGI ?_ ?_
  | with_reducible refine r_wiET ?_ | with_reducible refine r_telLen ?_ | with_reducible refine r_telsLen ?_ | with_reducible refine r_rowLen ?_ | ((with_reducible refine' r_telT ?hv ?_); (case hv => rfl)))

local macro_rules | `(tactic| walk_at "szs") => `(tactic| first
  | assumption
  | ((with_reducible apply Sz.add); walk_at "szs"; walk_at "szs")
  | ((with_reducible apply Sz.sub); walk_at "szs"; walk_at "szs")
  | ((with_reducible apply Sz.mul); walk_at "szs"; walk_at "szs")
  | ((with_reducible apply Sz.neg); walk_at "szs")
  | (apply Pz.sz; assumption) | exact sz0 | exact sz1 | exact sz24
  | ((with_reducible apply sz_abs); walk_at "szs"))
local macro_rules | `(tactic| walk_at "sz") => `(tactic| (apply Sz.mono; walk_at "szs"; exact Nat.le_of_ble_eq_true rfl))
local macro_rules | `(tactic| walk_at "pen") => `(tactic| first | assumption | (apply Stm.pen; assumption) | (apply stm_st; assumption) | (apply stm_st; apply Stm.pen; assumption))
local macro_rules | `(tactic| walk_at "stm") => `(tactic| first | assumption | exact Stm.of (by walk_at "pen") | (refine Stm.trans ?_ (by assumption); walk_at "stm") | (refine Stm.trans ?_ (Stm.new (by walk_at "pen")); walk_at "stm"))
local macro_rules | `(tactic| walk_at "side") => `(tactic| first | assumption | rfl | omega | decide | walk_at "sz" | walk_at "pen")
local macro_rules | `(tactic| walk_at "au") => `(tactic| repeat' walk_at "au1")
local macro_rules | `(tactic| walk_at "au1") => `(tactic| first
  | walk_at "go1"
  | (with_reducible refine i_next ?_; intro r _ _)
  | (with_reducible refine i_draw ?a ?b ?c ?_; (case a => walk_at "side"); (case b => walk_at "side"); (case c => walk_at "pen"); intro x S' _ _ _)
  | (with_reducible refine i_sum_of ?a ?b ?_; (case a => walk_at "sz"); (case b => walk_at "sz"))
  | (with_reducible refine i_difference_of ?a ?b ?_; (case a => walk_at "sz"); (case b => walk_at "sz"))
  | (with_reducible refine i_product_of ?a ?b ?_; (case a => walk_at "sz"); (case b => walk_at "sz"))
  | (with_reducible refine i_is_below ?a ?b ?_; (case a => walk_at "sz"); (case b => walk_at "sz"))
  | (with_reducible refine i_added ?a ?b ?_; (case a => walk_at "sz"); (case b => walk_at "sz"))
  | (with_reducible refine i_less ?a ?b ?_; (case a => walk_at "sz"); (case b => walk_at "sz"))
  | (with_reducible refine i_times ?a ?b ?_; (case a => walk_at "sz"); (case b => walk_at "sz"))
  | (with_reducible refine i_is_less ?a ?b ?_; (case a => walk_at "sz"); (case b => walk_at "sz"))
  | (with_reducible refine i_sum ?a ?b ?_; (case a => walk_at "sz"); (case b => walk_at "sz"))
  | (with_reducible refine i_rest ?a ?b ?_; (case a => walk_at "sz"); (case b => walk_at "sz"))
  | (with_reducible refine i_prod ?a ?b ?_; (case a => walk_at "sz"); (case b => walk_at "sz"))
  | (with_reducible refine i_under ?a ?b ?_; (case a => walk_at "sz"); (case b => walk_at "sz"))
  | with_reducible refine i_is_part_pt ?_
  | with_reducible refine r_intB ?_
  | (with_reducible refine r_rng1 ?a ?b ?_; (case a => decide); (case b => decide)) | with_reducible refine r_ix0L ?_ | with_reducible refine r_muE ?_ | with_reducible refine r_itL ?_ | with_reducible refine r_itT ?_
  | with_reducible refine r_par3 ?_ | with_reducible refine r_three ?_ | with_reducible refine r_gSub ?_ | with_reducible refine r_lstM ?_ | with_reducible refine r_lstT ?_ | with_reducible refine r_turn ?_ | with_reducible refine r_callK ?_
  | with_reducible refine i_opposite ?_
  | ((with_reducible refine' r_ixT ?hv ?_); (case hv => rfl))
  | ((with_reducible refine' r_ixL ?hv ?_); (case hv => rfl)) | fail)
local macro_rules | `(tactic| walk_at "au1") => `(tactic| first
  | (with_reducible refine r_modI ?a ?_; (case a => decide))
  | (with_reducible refine r_divI ?a ?_; (case a => exact ⟨by decide, by decide⟩))
  | (with_reducible refine r_powI ?a ?_; (case a => exact ⟨by decide, by decide, by decide⟩)) | fail)
local macro_rules | `(tactic| walk_at "br") => `(tactic| first
  | (with_reducible refine r_bothT ?_ ?_ <;> intro z)
  | (with_reducible refine r_bothF ?_ ?_ <;> intro z)
  | (with_reducible refine r_bothD ?_ ?_ <;> intro z)
  | (with_reducible refine r_bothN ?_ ?_ <;> intro z)
  | (with_reducible refine r_both ?_ ?_ <;> intro z) | fail)
local macro_rules | `(tactic| walk_at "ab") => `(tactic| repeat' first | walk_at "au1" | walk_at "br")

local macro_rules | `(tactic| walk_at "shd") => `(tactic| first
  | assumption | exact ShD.non | exact ShD.bl | exact ShD.lit (by decide) | exact ShD.str (by decide +kernel) (by decide +kernel)
  | (apply ShD.nat; omega)
  | (apply ShD.pt (by walk_at "szs"); exact (Nat.ble_eq_true_of_le (of_decide_eq_true rfl)))
  | (apply ShD.tup; walk_at "shds") | (apply ShD.lst; walk_at "shds"))
local macro_rules | `(tactic| walk_at "shds") => `(tactic| first
  | assumption | exact ShDs.nil | (apply ShDs.cons; walk_at "shd"; walk_at "shds"))

local macro_rules | `(tactic| walk_at "au1") => `(tactic| first
  | (with_reducible refine r_neSS rfl ?_)
  | ((with_reducible refine' r_reprD ?a ?b ?c ?_); (case a => walk_at "shd"); (case b => rfl); (case c => rfl)) | fail)
local macro_rules | `(tactic| walk_at "gs1") => `(tactic| first
  | with_reducible refine r_asg ?_ | with_reducible refine r_ret ?_ | with_reducible refine r_ifS ?_ | with_reducible refine r_drop ?_ | with_reducible refine r_par ?_ | with_reducible refine r_next ?_ | with_reducible refine r_retN ?_
  | ((with_reducible refine' r_var ?hv ?_); (case hv => rfl)) | with_reducible refine r_c ?_ | with_reducible refine r_bin ?_ | with_reducible refine r_un ?_ | with_reducible refine r_as1 ?_ | with_reducible refine r_as0 ?_
  | with_reducible refine r_cb ?_ | with_reducible refine r_call ?_ | with_reducible refine r_B ?_ | with_reducible refine r_notT ?_ | with_reducible refine r_andT ?_ | with_reducible refine r_orT ?_
  | with_reducible refine r_andV ?_ | with_reducible refine r_orV ?_ | with_reducible refine r_notV ?_ | with_reducible refine r_if ?_ | with_reducible refine r_tup ?_ | with_reducible refine r_lst ?_ | with_reducible refine r_mu ?_
  | with_reducible refine r_cut ?_ | with_reducible refine r_p0 ?_ | with_reducible refine r_p1 ?_ | with_reducible refine r_gN ?_ | ((with_reducible refine r_gT ?hv ?_); (case hv => rfl)) | with_reducible refine r_gs1 ?_ | with_reducible refine r_gs0 ?_
  | ((with_reducible refine r_trueR ?hv ?_); (case hv => first | rfl | assumption)) | ((with_reducible refine r_falseR ?hv ?_); (case hv => first | rfl | assumption)) | with_reducible refine r_bl ?_ | with_reducible refine r_in ?_ | with_reducible refine r_two ?_
  | with_reducible refine r_addI ?_ | with_reducible refine r_subI ?_ | with_reducible refine r_mulI ?_ ?_ | with_reducible refine r_divI ?_ ?_ | with_reducible refine r_modI ?_ ?_ | with_reducible refine r_powI ?_ ?_ | with_reducible refine r_negI ?_
  | with_reducible refine r_lt ?_ | with_reducible refine r_le ?_ | with_reducible refine r_gt ?_ | with_reducible refine r_ge ?_ | with_reducible refine r_is ?_ | with_reducible refine r_isNot ?_ | with_reducible refine r_eqI ?_ | with_reducible refine r_neI ?_ | with_reducible refine r_eqS ?_ | with_reducible refine r_neS ?_
  | with_reducible refine r_ixP0 ?_ | with_reducible refine r_ixP1 ?_ | with_reducible refine r_ix0T ?_ | with_reducible refine r_ix1T ?_ | with_reducible refine r_lenT ?_ | with_reducible refine r_lenL ?_ | with_reducible refine r_lenC ?_
  | with_reducible refine r_abs ?_ | with_reducible refine r_max ?_ | with_reducible refine r_min ?_ | with_reducible refine r_intI ?_ | with_reducible refine r_intB ?_ | with_reducible refine r_tupL ?_ | with_reducible refine r_tupT ?_
  | with_reducible refine r_gcd ?_ | ((with_reducible refine r_isi ?hv ?_); (case hv => first | rfl | assumption)) | with_reducible refine r_sizeT ?_ | with_reducible refine r_sizeL ?_)
local macro_rules | `(tactic| walk_at "gs") => `(tactic| repeat' walk_at "gs1")
local macro_rules | `(tactic| walk_at "gs1") => `(tactic| first
  | with_reducible refine r_lc ?_ | with_reducible refine r_wiT ?_ | with_reducible refine r_wiZ ?_ | with_reducible refine r_wiL ?_ | with_reducible refine r_wiR1 ?_ | with_reducible refine r_for ?_ | with_reducible refine r_yes ?_
  | with_reducible refine b_nm ?_ | with_reducible refine r_setD0 ?_ | with_reducible refine r_setD1 ?_ | ((with_reducible refine' r_setDT ?hv ?_); (case hv => rfl)) | with_reducible refine r_setsD ?_ | with_reducible refine r_setsCut ?_ | with_reducible refine b_tp2 ?_ | with_reducible refine r_trueL ?_ | with_reducible refine r_falseL ?_ )

local macro_rules | `(tactic| walk_at "gs1") => `(tactic| first
  | with_reducible refine r_size0 ?_ | with_reducible refine r_size3 ?_ | with_reducible refine r_app ?_ | with_reducible refine r_setIx ?_ | ((with_reducible refine' r_sizeG ?hv ?_); (case hv => rfl)) | ((with_reducible refine' r_addG ?hv ?_); (case hv => rfl)) | ((with_reducible refine' r_addTG ?hv ?_); (case hv => rfl))
  | with_reducible refine r_bmL ?_ | with_reducible refine r_isL ?_ | with_reducible refine r_try ?_ | with_reducible refine r_emp ?_ | with_reducible refine r_raise ?_ | with_reducible refine r_chain ?_ | with_reducible refine r_mulGI ?_ ?_
  | with_reducible refine r_wiET ?_ | with_reducible refine r_telLen ?_ | with_reducible refine r_telsLen ?_ | with_reducible refine r_rowLen ?_ | ((with_reducible refine' r_telT ?hv ?_); (case hv => rfl)))

local macro_rules | `(tactic| walk_at "as") => `(tactic| repeat' walk_at "as1")
local macro_rules | `(tactic| walk_at "as1") => `(tactic| first
  | walk_at "gs1"
  | (with_reducible refine i_next ?_; intro r _ _)
  | (with_reducible refine i_draw ?a ?b ?c ?_; (case a => walk_at "side"); (case b => walk_at "side"); (case c => walk_at "pen"); intro x S' _ _ _)
  | (with_reducible refine i_sum_of ?a ?b ?_; (case a => walk_at "sz"); (case b => walk_at "sz"))
  | (with_reducible refine i_difference_of ?a ?b ?_; (case a => walk_at "sz"); (case b => walk_at "sz"))
  | (with_reducible refine i_product_of ?a ?b ?_; (case a => walk_at "sz"); (case b => walk_at "sz"))
  | (with_reducible refine i_is_below ?a ?b ?_; (case a => walk_at "sz"); (case b => walk_at "sz"))
  | (with_reducible refine i_added ?a ?b ?_; (case a => walk_at "sz"); (case b => walk_at "sz"))
  | (with_reducible refine i_less ?a ?b ?_; (case a => walk_at "sz"); (case b => walk_at "sz"))
  | (with_reducible refine i_times ?a ?b ?_; (case a => walk_at "sz"); (case b => walk_at "sz"))
  | (with_reducible refine i_is_less ?a ?b ?_; (case a => walk_at "sz"); (case b => walk_at "sz"))
  | (with_reducible refine i_sum ?a ?b ?_; (case a => walk_at "sz"); (case b => walk_at "sz"))
  | (with_reducible refine i_rest ?a ?b ?_; (case a => walk_at "sz"); (case b => walk_at "sz"))
  | (with_reducible refine i_prod ?a ?b ?_; (case a => walk_at "sz"); (case b => walk_at "sz"))
  | (with_reducible refine i_under ?a ?b ?_; (case a => walk_at "sz"); (case b => walk_at "sz"))
  | with_reducible refine i_is_part_pt ?_
  | with_reducible refine r_intB ?_
  | (with_reducible refine r_rng1 ?a ?b ?_; (case a => decide); (case b => decide)) | with_reducible refine r_ix0L ?_ | with_reducible refine r_muE ?_ | with_reducible refine r_itL ?_ | with_reducible refine r_itT ?_
  | with_reducible refine r_par3 ?_ | with_reducible refine r_three ?_ | with_reducible refine r_gSub ?_ | with_reducible refine r_lstM ?_ | with_reducible refine r_lstT ?_ | with_reducible refine r_turn ?_ | with_reducible refine r_callK ?_
  | with_reducible refine i_opposite ?_
  | ((with_reducible refine' r_ixT ?hv ?_); (case hv => rfl))
  | ((with_reducible refine' r_ixL ?hv ?_); (case hv => rfl)) | fail)
local macro_rules | `(tactic| walk_at "as1") => `(tactic| first
  | (with_reducible refine r_modI ?a ?_; (case a => decide))
  | (with_reducible refine r_divI ?a ?_; (case a => exact ⟨by decide, by decide⟩))
  | (with_reducible refine r_powI ?a ?_; (case a => exact ⟨by decide, by decide, by decide⟩)) | fail)
local macro_rules | `(tactic| walk_at "as1") => `(tactic| first
  | (with_reducible refine r_neSS rfl ?_)
  | ((with_reducible refine' r_reprD ?a ?b ?c ?_); (case a => walk_at "shd"); (case b => rfl); (case c => rfl)) | fail)
section
variable {P : Program} {w : World} {K : PySem.W.Frag} {mg : Str → Option Value} {base : Heap} {T : List (Addr × Str)}

abbrev N_is_whole : List Str := ["thing"]
theorem sc_is_whole : FnScope N_is_whole ["thing"] (defScope s_is_whole) := ⟨rfl, rfl, rfl, by decide +kernel, rfl, by decide +kernel, by decide +kernel⟩
theorem ok_is_whole {f : Addr} {fd : FuncData} (F : FunD K "is_whole" "is_whole" (defArgs s_is_whole) (defBody s_is_whole) (defScope s_is_whole) [] [] f fd) (fr : Fr mg)  : FnD false P w K mg base T 1 f fd ["thing"] p_is_whole := by
  refine fn_okD F sc_is_whole fun cdv A outer s H E hr hG0 cc => ?_
  have hG : GdOk false (cxOf (L2.CX P w) P w K mg base N_is_whole "is_whole" (defScope s_is_whole) f cdv A outer s H E).A := hG0
  have tk : Takes (cxOf (L2.CX P w) P w K mg base N_is_whole "is_whole" (defScope s_is_whole) f cdv A outer s H E) (fun cls d _ H' => E cls d H') := takes_of rfl rfl rfl rfl
  have po : PassesOwn (model P w) (cxOf (L2.CX P w) P w K mg base N_is_whole "is_whole" (defScope s_is_whole) f cdv A outer s H E).A (cxOf (L2.CX P w) P w K mg base N_is_whole "is_whole" (defScope s_is_whole) f cdv A outer s H E).env (cxOf (L2.CX P w) P w K mg base N_is_whole "is_whole" (defScope s_is_whole) f cdv A outer s H E).xe := passes_of rfl
  refine ⟨_, (psd_one (psd_ret (pd_and (pd_callB (cD_isi isi_int) rfl fr.isinstance_ (by decide +kernel) (pad_cons (pd_var 0) (pad_cons (pd_ty (n := "int") rfl fr.int_ (by decide +kernel)) pad_nil))) (pd_one (pd_not (pd_callB (cD_isi isi_bool) rfl fr.isinstance_ (by decide +kernel) (pad_cons (pd_var 0) (pad_cons (pd_ty (n := "bool") rfl fr.bool_ (by decide +kernel)) pad_nil)))))))), fun ds S R Rx hl hp => ?_⟩
  clear hG0 hG tk po hr cc; try clear fr 
  obtain ⟨d, rfl, h0, h⟩ := hp
  cases d <;> first | (cases h0; done) | skip
  all_goals (walk_at "go"; exact h)
abbrev N_is_part : List Str := ["thing", "top", "bottom"]
theorem sc_is_part : FnScope N_is_part ["thing"] (defScope s_is_part) := ⟨rfl, rfl, rfl, by decide +kernel, rfl, by decide +kernel, by decide +kernel⟩
theorem ok_is_part {f : Addr} {fd : FuncData} (F : FunD K "is_part" "is_part" (defArgs s_is_part) (defBody s_is_part) (defScope s_is_part) [] [] f fd) (fr : Fr mg) (c_is_whole : Cal false P w K mg base T "is_whole" 1 1 [] p_is_whole) (m_gcd : mg "gcd" = some (.builtin "math.gcd")) : FnD false P w K mg base T 2 f fd ["thing"] p_is_part := by
  refine fn_okD F sc_is_part fun cdv A outer s H E hr hG0 cc => ?_
  have hG : GdOk false (cxOf (L2.CX P w) P w K mg base N_is_part "is_part" (defScope s_is_part) f cdv A outer s H E).A := hG0
  have tk : Takes (cxOf (L2.CX P w) P w K mg base N_is_part "is_part" (defScope s_is_part) f cdv A outer s H E) (fun cls d _ H' => E cls d H') := takes_of rfl rfl rfl rfl
  have po : PassesOwn (model P w) (cxOf (L2.CX P w) P w K mg base N_is_part "is_part" (defScope s_is_part) f cdv A outer s H E).A (cxOf (L2.CX P w) P w K mg base N_is_part "is_part" (defScope s_is_part) f cdv A outer s H E).env (cxOf (L2.CX P w) P w K mg base N_is_part "is_part" (defScope s_is_part) f cdv A outer s H E).xe := passes_of rfl
  refine ⟨_, (psd_cons (psd_if (ptd_w (pwd_or (ptd_not (ptd_val (pd_callB (cD_isi isi_tup) rfl fr.isinstance_ (by decide +kernel) (pad_cons (pd_var 0) (pad_cons (pd_ty (n := "tuple") rfl fr.tuple_ (by decide +kernel)) pad_nil))))) (pwd_or1 (ptd_cmp (opD_ne hr.units) (nobehind _ (by decide) (by decide)) (pd_callB cD_len rfl fr.len_ (by decide +kernel) (pad_cons (pd_var 0) pad_nil)) pd_int)))) (psd_one (psd_ret pd_bl)) psd_nil) (psd_cons (psd_asg (pd_var 0) (pgd_tup rfl (pgsd_cons (pgd_name 1 sc_is_part.nd rfl (Or.inl rfl)) (pgsd_cons (pgd_name 2 sc_is_part.nd rfl (Or.inl rfl)) pgsd_nil)))) (psd_cons (psd_if (ptd_w (pwd_or (ptd_not (ptd_val (pd_own (c_is_whole.up (by decide)) hr (hG.le (by decide)) rfl tk (pad_cons (pd_var 1) pad_nil)))) (pwd_or1 (ptd_not (ptd_val (pd_own (c_is_whole.up (by decide)) hr (hG.le (by decide)) rfl tk (pad_cons (pd_var 2) pad_nil))))))) (psd_one (psd_ret pd_bl)) psd_nil) (psd_one (psd_ret (pd_and (pd_cmp opD_gt (nobehind _ (by decide) (by decide)) (pd_var 2) pd_int) (pd_one (pd_cmp (opD_eq hr.units) (nobehind _ (by decide) (by decide)) (pd_callF cD_gcd rfl m_gcd (pad_cons (pd_var 1) (pad_cons (pd_var 2) pad_nil))) pd_int)))))))), fun ds S R Rx hl hp => ?_⟩
  clear hG0 hG tk po hr cc; try clear fr c_is_whole m_gcd
  obtain ⟨d, rfl, h0, h⟩ := hp
  by_cases ht : ∃ a b, d = .tup [a, b]
  · obtain ⟨a, b, rfl⟩ := ht
    obtain ⟨ha, hb⟩ := Bool.and_eq_true_iff.mp (show (plainD a && plainD b) = true from h0)
    walk_at "go"
    refine i_is_whole ha ?_
    cases wa : isWhole a with
    | false =>
      rw [isPart_l wa] at h
      walk_at "go"
      exact h
    | true =>
      walk_at "go"
      refine i_is_whole hb ?_
      cases wb : isWhole b with
      | false =>
        rw [isPart_r wb] at h
        walk_at "go"
        exact h
      | true =>
        obtain ⟨i, rfl⟩ := isWhole_of wa
        obtain ⟨j, rfl⟩ := isWhole_of wb
        walk_at "go"
        have h : R (.bl (decide (0 < j) && decide (Nat.gcd i.natAbs j.natAbs = 1))) S := h
        by_cases hj : 0 < j
        · rw [decide_eq_true hj] at h ⊢
          walk_at "go"
          have e : decide (((Nat.gcd i.natAbs j.natAbs : Nat) : Int) = 1) = decide (Nat.gcd i.natAbs j.natAbs = 1) := by
            simp only [decide_eq_decide]
            omega
          rw [e]
          exact h
        · rw [decide_eq_false hj] at h ⊢
          walk_at "go"
          exact h
  · have hf : isPart d = false := isPart_2 ht
    rw [hf] at h
    cases d with
    | tup xs =>
      walk_at "go"
      have e : (!decide (((xs.length : Nat) : Int) = 2)) = true := len_2 ht
      rw [e]
      walk_at "go"
      exact h
    | ty n => cases h0
    | ob n => cases h0
    | _ =>
      walk_at "go"
      exact h
abbrev N_check_part : List Str := ["thing"]
theorem sc_check_part : FnScope N_check_part ["thing"] (defScope s_check_part) := ⟨rfl, rfl, rfl, by decide +kernel, rfl, by decide +kernel, by decide +kernel⟩
theorem ok_check_part {f : Addr} {fd : FuncData} (F : FunD K "check_part" "check_part" (defArgs s_check_part) (defBody s_check_part) (defScope s_check_part) [] [] f fd) (fr : Fr mg) (c_is_part : Cal false P w K mg base T "is_part" 2 1 [] p_is_part) (x_NoPart : Xc K mg "NoPart") : FnD false P w K mg base T 3 f fd ["thing"] (p_check_part K) := by
  refine fn_okD F sc_check_part fun cdv A outer s H E hr hG0 cc => ?_
  have hG : GdOk false (cxOf (L2.CX P w) P w K mg base N_check_part "check_part" (defScope s_check_part) f cdv A outer s H E).A := hG0
  have tk : Takes (cxOf (L2.CX P w) P w K mg base N_check_part "check_part" (defScope s_check_part) f cdv A outer s H E) (fun cls d _ H' => E cls d H') := takes_of rfl rfl rfl rfl
  have po : PassesOwn (model P w) (cxOf (L2.CX P w) P w K mg base N_check_part "check_part" (defScope s_check_part) f cdv A outer s H E).A (cxOf (L2.CX P w) P w K mg base N_check_part "check_part" (defScope s_check_part) f cdv A outer s H E).env (cxOf (L2.CX P w) P w K mg base N_check_part "check_part" (defScope s_check_part) f cdv A outer s H E).xe := passes_of rfl
  refine ⟨_, (psd_one (psd_if (ptd_not (ptd_val (pd_own (c_is_part.up (by decide)) hr (hG.le (by decide)) rfl tk (pad_cons (pd_var 0) pad_nil)))) (psd_one (psd_raise x_NoPart rfl rfl tk)) psd_nil)), fun ds S R Rx hl hp => ?_⟩
  clear hG0 hG tk po hr cc; try clear fr c_is_part x_NoPart
  obtain ⟨d, rfl, h0, h1, h2⟩ := hp
  walk_at "go"
  refine i_is_part h0 ?_
  cases e : isPart d with
  | true =>
    walk_at "go"
    exact h1 e
  | false =>
    walk_at "go"
    exact h2 e
abbrev N_is_less : List Str := ["one", "other"]
theorem sc_is_less : FnScope N_is_less ["one", "other"] (defScope s_is_less) := ⟨rfl, rfl, rfl, by decide +kernel, rfl, by decide +kernel, by decide +kernel⟩
theorem ok_is_less {f : Addr} {fd : FuncData} (F : FunD K "is_less" "is_less" (defArgs s_is_less) (defBody s_is_less) (defScope s_is_less) [] [] f fd) (fr : Fr mg) (c_check_part : Cal false P w K mg base T "check_part" 3 1 [] (p_check_part K)) : FnD false P w K mg base T 4 f fd ["one", "other"] (p_is_less K) := by
  refine fn_okD F sc_is_less fun cdv A outer s H E hr hG0 cc => ?_
  have hG : GdOk false (cxOf (L2.CX P w) P w K mg base N_is_less "is_less" (defScope s_is_less) f cdv A outer s H E).A := hG0
  have tk : Takes (cxOf (L2.CX P w) P w K mg base N_is_less "is_less" (defScope s_is_less) f cdv A outer s H E) (fun cls d _ H' => E cls d H') := takes_of rfl rfl rfl rfl
  have po : PassesOwn (model P w) (cxOf (L2.CX P w) P w K mg base N_is_less "is_less" (defScope s_is_less) f cdv A outer s H E).A (cxOf (L2.CX P w) P w K mg base N_is_less "is_less" (defScope s_is_less) f cdv A outer s H E).env (cxOf (L2.CX P w) P w K mg base N_is_less "is_less" (defScope s_is_less) f cdv A outer s H E).xe := passes_of rfl
  refine ⟨_, (psd_cons (psd_expr (pd_own (c_check_part.up (by decide)) hr (hG.le (by decide)) rfl tk (pad_cons (pd_var 0) pad_nil))) (psd_cons (psd_expr (pd_own (c_check_part.up (by decide)) hr (hG.le (by decide)) rfl tk (pad_cons (pd_var 1) pad_nil))) (psd_one (psd_ret (pd_cmp opD_lt (nobehind _ (by decide) (by decide)) (pd_bin opD_mul (pd_ix ixD (pd_var 0) pd_int) (pd_ix ixD (pd_var 1) pd_int)) (pd_bin opD_mul (pd_ix ixD (pd_var 1) pd_int) (pd_ix ixD (pd_var 0) pd_int))))))), fun ds S R Rx hl hp => ?_⟩
  clear hG0 hG tk po hr cc; try clear fr c_check_part
  obtain ⟨a, b, rfl, h0, h1, x1, x2, h⟩ := hp
  walk_at "go"
  refine i_check_part h0 (fun ea => ?_) x1
  walk_at "go"
  refine i_check_part (h1 ea) (fun eb => ?_) (x2 ea)
  obtain ⟨p, rfl⟩ := isPart_at ea
  obtain ⟨q, rfl⟩ := isPart_at eb
  obtain ⟨hp, hq, h⟩ := h p q rfl rfl
  walk_at "go"
  · exact cm_of hp.n hq.d (by decide)
  · exact cm_of hq.n hp.d (by decide)
  · rw [lt_pt]
    exact h
abbrev N_is_moment : List Str := ["thing"]
theorem sc_is_moment : FnScope N_is_moment ["thing"] (defScope s_is_moment) := ⟨rfl, rfl, rfl, by decide +kernel, rfl, by decide +kernel, by decide +kernel⟩
theorem ok_is_moment {f : Addr} {fd : FuncData} (F : FunD K "is_moment" "is_moment" (defArgs s_is_moment) (defBody s_is_moment) (defScope s_is_moment) [] [] f fd) (fr : Fr mg) (c_is_part : Cal false P w K mg base T "is_part" 2 1 [] p_is_part) : FnD false P w K mg base T 3 f fd ["thing"] p_is_momentX := by
  refine fn_okD F sc_is_moment fun cdv A outer s H E hr hG0 cc => ?_
  have hG : GdOk false (cxOf (L2.CX P w) P w K mg base N_is_moment "is_moment" (defScope s_is_moment) f cdv A outer s H E).A := hG0
  have tk : Takes (cxOf (L2.CX P w) P w K mg base N_is_moment "is_moment" (defScope s_is_moment) f cdv A outer s H E) (fun cls d _ H' => E cls d H') := takes_of rfl rfl rfl rfl
  have po : PassesOwn (model P w) (cxOf (L2.CX P w) P w K mg base N_is_moment "is_moment" (defScope s_is_moment) f cdv A outer s H E).A (cxOf (L2.CX P w) P w K mg base N_is_moment "is_moment" (defScope s_is_moment) f cdv A outer s H E).env (cxOf (L2.CX P w) P w K mg base N_is_moment "is_moment" (defScope s_is_moment) f cdv A outer s H E).xe := passes_of rfl
  refine ⟨_, (psd_one (psd_ret (pd_and (pd_own (c_is_part.up (by decide)) hr (hG.le (by decide)) rfl tk (pad_cons (pd_var 0) pad_nil)) (pd_one (pd_cmp opD_ge (nobehind _ (by decide) (by decide)) (pd_ix ixD (pd_var 0) pd_int) pd_int))))), fun ds S R Rx hl hp => ?_⟩
  clear hG0 hG tk po hr cc; try clear fr c_is_part
  obtain ⟨d, rfl, hz, h⟩ := hp
  walk_at "go"
  refine i_part_c hz.p2 (fun q e => ?_) (fun e => ?_)
  · subst e
    have hs := hz.sz
    rw [isUp_pt] at h
    walk_at "go"
    exact h
  · rw [isUp_no e] at h
    walk_at "go"
    exact h
abbrev N_is_gain : List Str := ["thing"]
theorem sc_is_gain : FnScope N_is_gain ["thing"] (defScope s_is_gain) := ⟨rfl, rfl, rfl, by decide +kernel, rfl, by decide +kernel, by decide +kernel⟩
theorem ok_is_gain {f : Addr} {fd : FuncData} (F : FunD K "is_gain" "is_gain" (defArgs s_is_gain) (defBody s_is_gain) (defScope s_is_gain) [] [] f fd) (fr : Fr mg) (c_is_part : Cal false P w K mg base T "is_part" 2 1 [] p_is_part) (k_MOST_GAIN : Con K mg "MOST_GAIN" v_MOST_GAIN) : FnD false P w K mg base T 3 f fd ["thing"] p_is_gainX := by
  refine fn_okD F sc_is_gain fun cdv A outer s H E hr hG0 cc => ?_
  have hG : GdOk false (cxOf (L2.CX P w) P w K mg base N_is_gain "is_gain" (defScope s_is_gain) f cdv A outer s H E).A := hG0
  have tk : Takes (cxOf (L2.CX P w) P w K mg base N_is_gain "is_gain" (defScope s_is_gain) f cdv A outer s H E) (fun cls d _ H' => E cls d H') := takes_of rfl rfl rfl rfl
  have po : PassesOwn (model P w) (cxOf (L2.CX P w) P w K mg base N_is_gain "is_gain" (defScope s_is_gain) f cdv A outer s H E).A (cxOf (L2.CX P w) P w K mg base N_is_gain "is_gain" (defScope s_is_gain) f cdv A outer s H E).env (cxOf (L2.CX P w) P w K mg base N_is_gain "is_gain" (defScope s_is_gain) f cdv A outer s H E).xe := passes_of rfl
  refine ⟨_, (psd_one (psd_ret (pd_and (pd_own (c_is_part.up (by decide)) hr (hG.le (by decide)) rfl tk (pad_cons (pd_var 0) pad_nil)) (pd_one (pd_cmp opD_le (nobehind _ (by decide) (by decide)) (pd_callB cD_abs rfl fr.abs_ (by decide +kernel) (pad_cons (pd_ix ixD (pd_var 0) pd_int) pad_nil)) (pd_bin opD_mul (pd_const k_MOST_GAIN rfl) (pd_ix ixD (pd_var 0) pd_int))))))), fun ds S R Rx hl hp => ?_⟩
  clear hG0 hG tk po hr cc; try clear fr c_is_part k_MOST_GAIN
  obtain ⟨d, rfl, hz, h⟩ := hp
  walk_at "go"
  refine i_part_c hz.p2 (fun q e => ?_) (fun e => ?_)
  · subst e
    have hs := hz.sz
    rw [isGn_pt] at h
    walk_at "go"
    · exact cm_of (n := 4) (by decide) hs.2 (by decide)
    · exact r_blE h (by rw [decide_eq_decide]; split <;> omega)
  · rw [isGn_no e] at h
    walk_at "go"
    exact h
abbrev N_is_one_set : List Str := ["thing", "moment", "jump"]
theorem sc_is_one_set : FnScope N_is_one_set ["thing"] (defScope s_is_one_set) := ⟨rfl, rfl, rfl, by decide +kernel, rfl, by decide +kernel, by decide +kernel⟩
theorem ok_is_one_set {f : Addr} {fd : FuncData} (F : FunD K "is_one_set" "is_one_set" (defArgs s_is_one_set) (defBody s_is_one_set) (defScope s_is_one_set) [] [] f fd) (fr : Fr mg) (c_is_moment : Cal false P w K mg base T "is_moment" 3 1 [] p_is_momentX) (c_is_part : Cal false P w K mg base T "is_part" 2 1 [] p_is_part) : FnD false P w K mg base T 4 f fd ["thing"] p_is_one_setX := by
  refine fn_okD F sc_is_one_set fun cdv A outer s H E hr hG0 cc => ?_
  have hG : GdOk false (cxOf (L2.CX P w) P w K mg base N_is_one_set "is_one_set" (defScope s_is_one_set) f cdv A outer s H E).A := hG0
  have tk : Takes (cxOf (L2.CX P w) P w K mg base N_is_one_set "is_one_set" (defScope s_is_one_set) f cdv A outer s H E) (fun cls d _ H' => E cls d H') := takes_of rfl rfl rfl rfl
  have po : PassesOwn (model P w) (cxOf (L2.CX P w) P w K mg base N_is_one_set "is_one_set" (defScope s_is_one_set) f cdv A outer s H E).A (cxOf (L2.CX P w) P w K mg base N_is_one_set "is_one_set" (defScope s_is_one_set) f cdv A outer s H E).env (cxOf (L2.CX P w) P w K mg base N_is_one_set "is_one_set" (defScope s_is_one_set) f cdv A outer s H E).xe := passes_of rfl
  refine ⟨_, (psd_cons (psd_if (ptd_w (pwd_or (ptd_not (ptd_val (pd_callB (cD_isi isi_tup) rfl fr.isinstance_ (by decide +kernel) (pad_cons (pd_var 0) (pad_cons (pd_ty (n := "tuple") rfl fr.tuple_ (by decide +kernel)) pad_nil))))) (pwd_or1 (ptd_cmp (opD_ne hr.units) (nobehind _ (by decide) (by decide)) (pd_callB cD_len rfl fr.len_ (by decide +kernel) (pad_cons (pd_var 0) pad_nil)) pd_int)))) (psd_one (psd_ret pd_bl)) psd_nil) (psd_cons (psd_asg (pd_var 0) (pgd_tup rfl (pgsd_cons (pgd_name 1 sc_is_one_set.nd rfl (Or.inl rfl)) (pgsd_cons (pgd_name 2 sc_is_one_set.nd rfl (Or.inl rfl)) pgsd_nil)))) (psd_one (psd_ret (pd_and (pd_own (c_is_moment.up (by decide)) hr (hG.le (by decide)) rfl tk (pad_cons (pd_var 1) pad_nil)) (pd_and (pd_own (c_is_part.up (by decide)) hr (hG.le (by decide)) rfl tk (pad_cons (pd_var 2) pad_nil)) (pd_one (pd_cmp (opD_ne hr.units) (nobehind _ (by decide) (by decide)) (pd_ix ixD (pd_var 2) pd_int) pd_int)))))))), fun ds S R Rx hl hp => ?_⟩
  clear hG0 hG tk po hr cc; try clear fr c_is_moment c_is_part
  obtain ⟨d, rfl, hz, h⟩ := hp
  rcases tup_2 d with ⟨m, j, rfl⟩ | hn
  · have zm := hz.at (x := m) (by simp)
    have zj := hz.at (x := j) (by simp)
    have h : R (.bl (isUp m && (isPart j && nzB j))) S := h
    clear hz
    walk_at "go"
    refine i_momX zm ?_
    cases e : isUp m with
    | false =>
      rw [e, Bool.false_and] at h
      walk_at "go"
      exact h
    | true =>
      rw [e, Bool.true_and] at h
      walk_at "go"
      refine i_part_c zj.p2 (fun q e2 => ?_) (fun e2 => ?_)
      · subst e2
        rw [isPart_pt, Bool.true_and, nzB_pt] at h
        walk_at "go"
        exact h
      · rw [e2, Bool.false_and] at h
        walk_at "go"
        exact h
  · rw [isSet1_no hn] at h
    cases d with
    | tup xs =>
      have e := hn.ne
      walk_at "go"
      exact h
    | ty n => cases hz.1
    | ob n => cases hz.1
    | er n => cases hz.1
    | ab n => cases hz.1
    | _ =>
      walk_at "go"
      exact h
abbrev N_are_sets : List Str := ["thing", "entry", "ahead", "behind"]
theorem sc_are_sets : FnScope N_are_sets ["thing"] (defScope s_are_sets) := ⟨rfl, rfl, rfl, by decide +kernel, rfl, by decide +kernel, by decide +kernel⟩
theorem ok_are_sets {f : Addr} {fd : FuncData} (F : FunD K "are_sets" "are_sets" (defArgs s_are_sets) (defBody s_are_sets) (defScope s_are_sets) [] [] f fd) (fr : Fr mg) (c_is_less : Cal false P w K mg base T "is_less" 4 2 [] (p_is_less K)) (c_is_one_set : Cal false P w K mg base T "is_one_set" 4 1 [] p_is_one_setX) (k_MOST_SETS : Con K mg "MOST_SETS" v_MOST_SETS) : FnD false P w K mg base T 5 f fd ["thing"] p_are_setsX := by
  refine fn_okD F sc_are_sets fun cdv A outer s H E hr hG0 cc => ?_
  have hG : GdOk false (cxOf (L2.CX P w) P w K mg base N_are_sets "are_sets" (defScope s_are_sets) f cdv A outer s H E).A := hG0
  have tk : Takes (cxOf (L2.CX P w) P w K mg base N_are_sets "are_sets" (defScope s_are_sets) f cdv A outer s H E) (fun cls d _ H' => E cls d H') := takes_of rfl rfl rfl rfl
  have po : PassesOwn (model P w) (cxOf (L2.CX P w) P w K mg base N_are_sets "are_sets" (defScope s_are_sets) f cdv A outer s H E).A (cxOf (L2.CX P w) P w K mg base N_are_sets "are_sets" (defScope s_are_sets) f cdv A outer s H E).env (cxOf (L2.CX P w) P w K mg base N_are_sets "are_sets" (defScope s_are_sets) f cdv A outer s H E).xe := passes_of rfl
  refine ⟨_, (psd_cons (psd_if (ptd_w (pwd_or (ptd_not (ptd_val (pd_callB (cD_isi isi_tup) rfl fr.isinstance_ (by decide +kernel) (pad_cons (pd_var 0) (pad_cons (pd_ty (n := "tuple") rfl fr.tuple_ (by decide +kernel)) pad_nil))))) (pwd_or1 (ptd_cmp opD_gt (nobehind _ (by decide) (by decide)) (pd_callB cD_len rfl fr.len_ (by decide +kernel) (pad_cons (pd_var 0) pad_nil)) (pd_const k_MOST_SETS rfl))))) (psd_one (psd_ret pd_bl)) psd_nil) (psd_cons (psd_if (ptd_not (ptd_val (pd_callB (cD_all rfl) rfl fr.all_ (by decide +kernel) (pad_cons (pd_lc (own := [("entry", 1)]) (b := (.nm 1)) rfl sc_are_sets.nd (pid_tup (pd_var 0)) (blkOk_by (own := [("entry", 1)]) (N := N_are_sets) (sc := defScope s_are_sets) (by decide +kernel)) (by intro i hi; simp [Bd.all] at hi ⊢; omega) (fun _ _ _ _ _ => pg_name (i := 1) sc_are_sets.nd rfl (Or.inl rfl)) (fun _ _ _ _ _ => ptsd_nil) (fun _ _ _ _ _ => (pd_own (c_is_one_set.up (by decide)) hr (hG.le (by decide)) rfl L2.takes0 (pad_cons (pd_var 1) pad_nil)))) pad_nil)))) (psd_one (psd_ret pd_bl)) psd_nil) (psd_one (psd_ret (pd_callB (cD_all rfl) rfl fr.all_ (by decide +kernel) (pad_cons (pd_lc (own := [("ahead", 2), ("behind", 3)]) (b := (.tp [2, 3])) rfl sc_are_sets.nd (pid_zipT rfl fr.zip_ (pad_cons (pd_var 0) (pad_cons (pd_cut (pd_var 0) (pod_some pd_int) pod_none) pad_nil))) (blkOk_by (own := [("ahead", 2), ("behind", 3)]) (N := N_are_sets) (sc := defScope s_are_sets) (by decide +kernel)) (by intro i hi; simp [Bd.all] at hi ⊢; omega) (fun _ _ _ _ _ => pg_tup rfl (pgs_cons (pg_name (i := 2) sc_are_sets.nd rfl (Or.inl rfl)) (pgs_cons (pg_name (i := 3) sc_are_sets.nd rfl (Or.inl rfl)) pgs_nil))) (fun _ _ _ _ _ => ptsd_nil) (fun _ _ _ _ _ => (pd_own (c_is_less.up (by decide)) hr (hG.le (by decide)) rfl L2.takes0 (pad_cons (pd_ix ixD (pd_var 2) pd_int) (pad_cons (pd_ix ixD (pd_var 3) pd_int) pad_nil))))) pad_nil)))))), fun ds S R Rx hl hp => ?_⟩
  clear hG0 hG tk po hr cc; try clear fr c_is_less c_is_one_set k_MOST_SETS
  obtain ⟨d, rfl, hz, h⟩ := hp
  cases d with
  | tup xs =>
    have h : R (.bl (decide (xs.length ≤ 6) && (xs.all isSet1 && riseB xs))) S := h
    walk_at "go"
    refine r_bothD (fun z => ?_) (fun z => ?_)
    · rw [decide_eq_false (by omega), Bool.false_and] at h
      walk_at "go"
      exact h
    rw [decide_eq_true (by omega), Bool.true_and] at h
    walk_at "go"
    refine ⟨_, rfl, ?_⟩
    refine comp_all (xs := xs) isSet1 (by omega) trivial (fun x N hx hN => ?_) ?_
    · walk_at "go"
      exact i_setX (hz.at hx) hN
    walk_at "go"
    refine ⟨_, rfl, ?_⟩
    rw [all_map]
    walk_at "go"
    refine r_bothF (fun e => ?_) (fun e => ?_)
    · rw [e, Bool.false_and] at h
      walk_at "go"
      exact h
    obtain ⟨l, rfl, hlo⟩ := sets_at (fun x hx => hz.at hx) e
    rw [e, Bool.true_and, rise_map, ← rise_zip] at h
    rw [List.length_map] at z
    walk_at "go"
    refine ⟨_, _, rfl, ?_⟩
    rw [zip_cut]
    refine comp_by (fun i acc S1 => S = S1 ∧ acc = ((List.zipWith (fun a b => decide (a.1 < b.1)) l (l.drop 1)).take i).map D.bl) ⟨rfl, rfl⟩ ?_ ?_
    · intro i d acc S1 N hd hI hN
      obtain ⟨rfl, rfl⟩ := hI
      obtain ⟨a, b, ha, hb, rfl⟩ := zip_at hd
      have ea := hlo a (List.mem_of_getElem? ha)
      have eb := hlo b (List.mem_of_getElem? hb)
      have hi : i < l.length := (List.getElem?_eq_some_iff.mp ha).1
      refine ⟨trivial, ?_⟩
      walk_at "go"
      refine i_is_less ea.2.2.1 eb.2.2.1 ?_
      refine ⟨Nat.lt_of_le_of_lt (by rw [List.length_map]; exact List.length_take_le _ _) (Nat.lt_of_lt_of_le (show i < 100 by omega) (size100 (Nat.le_refl _))), hN _ _ ⟨rfl, ?_⟩⟩
      have hz2 : (List.zipWith (fun (a b : Rat × Rat) => decide (a.1 < b.1)) l (l.drop 1))[i]? = some (decide (a.1 < b.1)) := by
        rw [List.getElem?_zipWith, ha, List.getElem?_drop, Nat.add_comm 1 i, hb]
      rw [List.take_add_one, hz2, List.map_append]
      rfl
    intro acc S1 hI
    obtain ⟨rfl, rfl⟩ := hI
    refine ⟨trivial, ?_⟩
    refine ⟨_, rfl, ?_⟩
    rw [List.take_of_length_le (by
      rw [List.length_zipWith, List.length_zipWith, List.length_drop, List.length_drop, List.length_map]
      exact Nat.le_refl _)]
    exact h
  | ty n => cases hz.1
  | ob n => cases hz.1
  | er n => cases hz.1
  | ab n => cases hz.1
  | _ =>
    walk_at "go"
    exact h
abbrev N_is_clock : List Str := ["thing", "gain", "sets"]
theorem sc_is_clock : FnScope N_is_clock ["thing"] (defScope s_is_clock) := ⟨rfl, rfl, rfl, by decide +kernel, rfl, by decide +kernel, by decide +kernel⟩
theorem ok_is_clock {f : Addr} {fd : FuncData} (F : FunD K "is_clock" "is_clock" (defArgs s_is_clock) (defBody s_is_clock) (defScope s_is_clock) [] [] f fd) (fr : Fr mg) (c_is_gain : Cal false P w K mg base T "is_gain" 3 1 [] p_is_gainX) (c_are_sets : Cal false P w K mg base T "are_sets" 5 1 [] p_are_setsX) : FnD false P w K mg base T 6 f fd ["thing"] p_is_clockX := by
  refine fn_okD F sc_is_clock fun cdv A outer s H E hr hG0 cc => ?_
  have hG : GdOk false (cxOf (L2.CX P w) P w K mg base N_is_clock "is_clock" (defScope s_is_clock) f cdv A outer s H E).A := hG0
  have tk : Takes (cxOf (L2.CX P w) P w K mg base N_is_clock "is_clock" (defScope s_is_clock) f cdv A outer s H E) (fun cls d _ H' => E cls d H') := takes_of rfl rfl rfl rfl
  have po : PassesOwn (model P w) (cxOf (L2.CX P w) P w K mg base N_is_clock "is_clock" (defScope s_is_clock) f cdv A outer s H E).A (cxOf (L2.CX P w) P w K mg base N_is_clock "is_clock" (defScope s_is_clock) f cdv A outer s H E).env (cxOf (L2.CX P w) P w K mg base N_is_clock "is_clock" (defScope s_is_clock) f cdv A outer s H E).xe := passes_of rfl
  refine ⟨_, (psd_cons (psd_if (ptd_w (pwd_or (ptd_not (ptd_val (pd_callB (cD_isi isi_tup) rfl fr.isinstance_ (by decide +kernel) (pad_cons (pd_var 0) (pad_cons (pd_ty (n := "tuple") rfl fr.tuple_ (by decide +kernel)) pad_nil))))) (pwd_or1 (ptd_cmp (opD_ne hr.units) (nobehind _ (by decide) (by decide)) (pd_callB cD_len rfl fr.len_ (by decide +kernel) (pad_cons (pd_var 0) pad_nil)) pd_int)))) (psd_one (psd_ret pd_bl)) psd_nil) (psd_cons (psd_asg (pd_var 0) (pgd_tup rfl (pgsd_cons (pgd_name 1 sc_is_clock.nd rfl (Or.inl rfl)) (pgsd_cons (pgd_name 2 sc_is_clock.nd rfl (Or.inl rfl)) pgsd_nil)))) (psd_one (psd_ret (pd_and (pd_own (c_is_gain.up (by decide)) hr (hG.le (by decide)) rfl tk (pad_cons (pd_var 1) pad_nil)) (pd_one (pd_own (c_are_sets.up (by decide)) hr (hG.le (by decide)) rfl tk (pad_cons (pd_var 2) pad_nil)))))))), fun ds S R Rx hl hp => ?_⟩
  clear hG0 hG tk po hr cc; try clear fr c_is_gain c_are_sets
  obtain ⟨d, rfl, hz, h⟩ := hp
  rcases tup_2 d with ⟨g, s, rfl⟩ | hn
  · have zg := (hz.at (d := g) (by simp)).1
    have zs := (hz.at (d := s) (by simp)).2
    have h : R (.bl (isGn g && areSt s)) S := h
    clear hz
    walk_at "go"
    refine i_gainX zg ?_
    cases e : isGn g with
    | false =>
      rw [e, Bool.false_and] at h
      walk_at "go"
      exact h
    | true =>
      rw [e, Bool.true_and] at h
      walk_at "go"
      exact i_setsX zs h
  · rw [isClo_no hn] at h
    cases d with
    | tup xs =>
      have e := hn.ne
      walk_at "go"
      exact h
    | ty n => cases hz.1
    | ob n => cases hz.1
    | er n => cases hz.1
    | ab n => cases hz.1
    | _ =>
      walk_at "go"
      exact h
abbrev N_check_clock : List Str := ["thing"]
theorem sc_check_clock : FnScope N_check_clock ["thing"] (defScope s_check_clock) := ⟨rfl, rfl, rfl, by decide +kernel, rfl, by decide +kernel, by decide +kernel⟩
theorem ok_check_clock {f : Addr} {fd : FuncData} (F : FunD K "check_clock" "check_clock" (defArgs s_check_clock) (defBody s_check_clock) (defScope s_check_clock) [] [] f fd) (fr : Fr mg) (c_is_clock : Cal false P w K mg base T "is_clock" 6 1 [] p_is_clockX) (x_NoClock : Xc K mg "NoClock") : FnD false P w K mg base T 7 f fd ["thing"] (p_check_clockX K) := by
  refine fn_okD F sc_check_clock fun cdv A outer s H E hr hG0 cc => ?_
  have hG : GdOk false (cxOf (L2.CX P w) P w K mg base N_check_clock "check_clock" (defScope s_check_clock) f cdv A outer s H E).A := hG0
  have tk : Takes (cxOf (L2.CX P w) P w K mg base N_check_clock "check_clock" (defScope s_check_clock) f cdv A outer s H E) (fun cls d _ H' => E cls d H') := takes_of rfl rfl rfl rfl
  have po : PassesOwn (model P w) (cxOf (L2.CX P w) P w K mg base N_check_clock "check_clock" (defScope s_check_clock) f cdv A outer s H E).A (cxOf (L2.CX P w) P w K mg base N_check_clock "check_clock" (defScope s_check_clock) f cdv A outer s H E).env (cxOf (L2.CX P w) P w K mg base N_check_clock "check_clock" (defScope s_check_clock) f cdv A outer s H E).xe := passes_of rfl
  refine ⟨_, (psd_one (psd_if (ptd_not (ptd_val (pd_own (c_is_clock.up (by decide)) hr (hG.le (by decide)) rfl tk (pad_cons (pd_var 0) pad_nil)))) (psd_one (psd_raise x_NoClock rfl rfl tk)) psd_nil)), fun ds S R Rx hl hp => ?_⟩
  clear hG0 hG tk po hr cc; try clear fr c_is_clock x_NoClock
  obtain ⟨d, rfl, hd, h1, h2⟩ := hp
  walk_at "go"
  refine i_clockX hd ?_
  walk_at "go"
  refine r_bothF (fun e => ?_) (fun e => ?_)
  · walk_at "go"
    exact h2 e
  · walk_at "go"
    exact h1 e
abbrev N_check_moment : List Str := ["thing"]
theorem sc_check_moment : FnScope N_check_moment ["thing"] (defScope s_check_moment) := ⟨rfl, rfl, rfl, by decide +kernel, rfl, by decide +kernel, by decide +kernel⟩
theorem ok_check_moment {f : Addr} {fd : FuncData} (F : FunD K "check_moment" "check_moment" (defArgs s_check_moment) (defBody s_check_moment) (defScope s_check_moment) [] [] f fd) (fr : Fr mg) (c_is_moment : Cal false P w K mg base T "is_moment" 3 1 [] p_is_momentX) (x_NoMoment : Xc K mg "NoMoment") : FnD false P w K mg base T 4 f fd ["thing"] (p_check_momentX K) := by
  refine fn_okD F sc_check_moment fun cdv A outer s H E hr hG0 cc => ?_
  have hG : GdOk false (cxOf (L2.CX P w) P w K mg base N_check_moment "check_moment" (defScope s_check_moment) f cdv A outer s H E).A := hG0
  have tk : Takes (cxOf (L2.CX P w) P w K mg base N_check_moment "check_moment" (defScope s_check_moment) f cdv A outer s H E) (fun cls d _ H' => E cls d H') := takes_of rfl rfl rfl rfl
  have po : PassesOwn (model P w) (cxOf (L2.CX P w) P w K mg base N_check_moment "check_moment" (defScope s_check_moment) f cdv A outer s H E).A (cxOf (L2.CX P w) P w K mg base N_check_moment "check_moment" (defScope s_check_moment) f cdv A outer s H E).env (cxOf (L2.CX P w) P w K mg base N_check_moment "check_moment" (defScope s_check_moment) f cdv A outer s H E).xe := passes_of rfl
  refine ⟨_, (psd_one (psd_if (ptd_not (ptd_val (pd_own (c_is_moment.up (by decide)) hr (hG.le (by decide)) rfl tk (pad_cons (pd_var 0) pad_nil)))) (psd_one (psd_raise x_NoMoment rfl rfl tk)) psd_nil)), fun ds S R Rx hl hp => ?_⟩
  clear hG0 hG tk po hr cc; try clear fr c_is_moment x_NoMoment
  obtain ⟨d, rfl, hd, h1, h2⟩ := hp
  walk_at "go"
  refine i_momX hd ?_
  walk_at "go"
  refine r_bothF (fun e => ?_) (fun e => ?_)
  · walk_at "go"
    exact h2 e
  · walk_at "go"
    exact h1 e
abbrev N_check_hour : List Str := ["thing"]
theorem sc_check_hour : FnScope N_check_hour ["thing"] (defScope s_check_hour) := ⟨rfl, rfl, rfl, by decide +kernel, rfl, by decide +kernel, by decide +kernel⟩
theorem ok_check_hour {f : Addr} {fd : FuncData} (F : FunD K "check_hour" "check_hour" (defArgs s_check_hour) (defBody s_check_hour) (defScope s_check_hour) [] [] f fd) (fr : Fr mg) (c_is_part : Cal false P w K mg base T "is_part" 2 1 [] p_is_part) (x_NoHour : Xc K mg "NoHour") : FnD false P w K mg base T 3 f fd ["thing"] (p_check_hourX K) := by
  refine fn_okD F sc_check_hour fun cdv A outer s H E hr hG0 cc => ?_
  have hG : GdOk false (cxOf (L2.CX P w) P w K mg base N_check_hour "check_hour" (defScope s_check_hour) f cdv A outer s H E).A := hG0
  have tk : Takes (cxOf (L2.CX P w) P w K mg base N_check_hour "check_hour" (defScope s_check_hour) f cdv A outer s H E) (fun cls d _ H' => E cls d H') := takes_of rfl rfl rfl rfl
  have po : PassesOwn (model P w) (cxOf (L2.CX P w) P w K mg base N_check_hour "check_hour" (defScope s_check_hour) f cdv A outer s H E).A (cxOf (L2.CX P w) P w K mg base N_check_hour "check_hour" (defScope s_check_hour) f cdv A outer s H E).env (cxOf (L2.CX P w) P w K mg base N_check_hour "check_hour" (defScope s_check_hour) f cdv A outer s H E).xe := passes_of rfl
  refine ⟨_, (psd_one (psd_if (ptd_not (ptd_val (pd_own (c_is_part.up (by decide)) hr (hG.le (by decide)) rfl tk (pad_cons (pd_var 0) pad_nil)))) (psd_one (psd_raise x_NoHour rfl rfl tk)) psd_nil)), fun ds S R Rx hl hp => ?_⟩
  clear hG0 hG tk po hr cc; try clear fr c_is_part x_NoHour
  obtain ⟨d, rfl, hd, h1, h2⟩ := hp
  walk_at "go"
  refine i_is_part hd.p2 ?_
  walk_at "go"
  refine r_bothF (fun e => ?_) (fun e => ?_)
  · walk_at "go"
    exact h2 e
  · walk_at "go"
    exact h1 e
abbrev N_error_told : List Str := ["error"]
theorem sc_error_told : FnScope N_error_told ["error"] (defScope s_error_told) := ⟨rfl, rfl, rfl, by decide +kernel, rfl, by decide +kernel, by decide +kernel⟩
theorem ok_error_told {f : Addr} {fd : FuncData} (F : FunD K "error_told" "error_told" (defArgs s_error_told) (defBody s_error_told) (defScope s_error_told) [] [] f fd) (fr : Fr mg) (c_check_part : Cal false P w K mg base T "check_part" 3 1 [] (p_check_part K)) (k_NOUGHT : Con K mg "NOUGHT" v_NOUGHT) : FnD false P w K mg base T 4 f fd ["error"] (p_error_toldX K) := by
  refine fn_okD F sc_error_told fun cdv A outer s H E hr hG0 cc => ?_
  have hG : GdOk false (cxOf (L2.CX P w) P w K mg base N_error_told "error_told" (defScope s_error_told) f cdv A outer s H E).A := hG0
  have tk : Takes (cxOf (L2.CX P w) P w K mg base N_error_told "error_told" (defScope s_error_told) f cdv A outer s H E) (fun cls d _ H' => E cls d H') := takes_of rfl rfl rfl rfl
  have po : PassesOwn (model P w) (cxOf (L2.CX P w) P w K mg base N_error_told "error_told" (defScope s_error_told) f cdv A outer s H E).A (cxOf (L2.CX P w) P w K mg base N_error_told "error_told" (defScope s_error_told) f cdv A outer s H E).env (cxOf (L2.CX P w) P w K mg base N_error_told "error_told" (defScope s_error_told) f cdv A outer s H E).xe := passes_of rfl
  refine ⟨_, (psd_cons (psd_if (ptd_cmp opD_is (nobehind _ (by decide) (by decide)) (pd_var 0) pd_non) (psd_one (psd_ret (pd_const k_NOUGHT rfl))) psd_nil) (psd_cons (psd_expr (pd_own (c_check_part.up (by decide)) hr (hG.le (by decide)) rfl tk (pad_cons (pd_var 0) pad_nil))) (psd_one (psd_ret (pd_var 0))))), fun ds S R Rx hl hp => ?_⟩
  clear hG0 hG tk po hr cc; try clear fr c_check_part k_NOUGHT
  obtain ⟨d, rfl, ⟨hz, hn, hq⟩, hx⟩ := hp
  walk_at "go"
  exact i_check_part hz.p2 (fun z => by rw [hq] at z; cases z) fun _ => hx
abbrev N_drift : List Str := ["clock", "moment"]
theorem sc_drift : FnScope N_drift ["clock", "moment"] (defScope s_drift) := ⟨rfl, rfl, rfl, by decide +kernel, rfl, by decide +kernel, by decide +kernel⟩
theorem ok_drift {f : Addr} {fd : FuncData} (F : FunD K "drift" "drift" (defArgs s_drift) (defBody s_drift) (defScope s_drift) [] [] f fd) (fr : Fr mg) (c_check_clock : Cal false P w K mg base T "check_clock" 7 1 [] (p_check_clockX K)) (c_check_moment : Cal false P w K mg base T "check_moment" 4 1 [] (p_check_momentX K)) : FnD false P w K mg base T 8 f fd ["clock", "moment"] (p_driftX K) := by
  refine fn_okD F sc_drift fun cdv A outer s H E hr hG0 cc => ?_
  have hG : GdOk false (cxOf (L2.CX P w) P w K mg base N_drift "drift" (defScope s_drift) f cdv A outer s H E).A := hG0
  have tk : Takes (cxOf (L2.CX P w) P w K mg base N_drift "drift" (defScope s_drift) f cdv A outer s H E) (fun cls d _ H' => E cls d H') := takes_of rfl rfl rfl rfl
  have po : PassesOwn (model P w) (cxOf (L2.CX P w) P w K mg base N_drift "drift" (defScope s_drift) f cdv A outer s H E).A (cxOf (L2.CX P w) P w K mg base N_drift "drift" (defScope s_drift) f cdv A outer s H E).env (cxOf (L2.CX P w) P w K mg base N_drift "drift" (defScope s_drift) f cdv A outer s H E).xe := passes_of rfl
  refine ⟨_, (psd_cons (psd_expr (pd_own (c_check_clock.up (by decide)) hr (hG.le (by decide)) rfl tk (pad_cons (pd_var 0) pad_nil))) (psd_cons (psd_expr (pd_own (c_check_moment.up (by decide)) hr (hG.le (by decide)) rfl tk (pad_cons (pd_var 1) pad_nil))) pss_none)), fun ds S R Rx hl hp => ?_⟩
  clear hG0 hG tk po hr cc; try clear fr c_check_clock c_check_moment
  obtain ⟨d, e, rfl, hz, ⟨hc, hx⟩ | ⟨hc, hm⟩⟩ := hp
  · walk_at "go"
    exact i_ckclockX hz (fun z => by rw [hc] at z; cases z) fun _ => hx
  · walk_at "go"
    refine i_ckclockX hz (fun _ => ?_) (fun z => by rw [hc] at z; cases z)
    walk_at "go"
    obtain ⟨hm, hu, hx⟩ := hm
    exact i_ckmomX hm (fun z => by rw [hu] at z; cases z) fun _ => hx
abbrev N_shown_at : List Str := ["clock", "moment", "error", "begun"]
theorem sc_shown_at : FnScope N_shown_at ["clock", "moment", "error"] (defScope s_shown_at) := ⟨rfl, rfl, rfl, by decide +kernel, rfl, by decide +kernel, by decide +kernel⟩
theorem ok_shown_at {f : Addr} {fd : FuncData} (F : FunD K "shown_at" "shown_at" (defArgs s_shown_at) (defBody s_shown_at) (defScope s_shown_at) [.non] [] f fd) (fr : Fr mg) (c_check_clock : Cal false P w K mg base T "check_clock" 7 1 [] (p_check_clockX K)) (c_check_moment : Cal false P w K mg base T "check_moment" 4 1 [] (p_check_momentX K)) (c_error_told : Cal false P w K mg base T "error_told" 4 1 [] (p_error_toldX K)) : FnD false P w K mg base T 8 f fd ["clock", "moment", "error"] (p_shown_atX K) := by
  refine fn_okD F sc_shown_at fun cdv A outer s H E hr hG0 cc => ?_
  have hG : GdOk false (cxOf (L2.CX P w) P w K mg base N_shown_at "shown_at" (defScope s_shown_at) f cdv A outer s H E).A := hG0
  have tk : Takes (cxOf (L2.CX P w) P w K mg base N_shown_at "shown_at" (defScope s_shown_at) f cdv A outer s H E) (fun cls d _ H' => E cls d H') := takes_of rfl rfl rfl rfl
  have po : PassesOwn (model P w) (cxOf (L2.CX P w) P w K mg base N_shown_at "shown_at" (defScope s_shown_at) f cdv A outer s H E).A (cxOf (L2.CX P w) P w K mg base N_shown_at "shown_at" (defScope s_shown_at) f cdv A outer s H E).env (cxOf (L2.CX P w) P w K mg base N_shown_at "shown_at" (defScope s_shown_at) f cdv A outer s H E).xe := passes_of rfl
  refine ⟨_, (psd_cons (psd_expr (pd_own (c_check_clock.up (by decide)) hr (hG.le (by decide)) rfl tk (pad_cons (pd_var 0) pad_nil))) (psd_cons (psd_expr (pd_own (c_check_moment.up (by decide)) hr (hG.le (by decide)) rfl tk (pad_cons (pd_var 1) pad_nil))) (psd_cons (psd_set 3 sc_shown_at.nd rfl (Or.inl rfl) (pd_own (c_error_told.up (by decide)) hr (hG.le (by decide)) rfl tk (pad_cons (pd_var 2) pad_nil))) pss_none))), fun ds S R Rx hl hp => ?_⟩
  clear hG0 hG tk po hr cc; try clear fr c_check_clock c_check_moment c_error_told
  obtain ⟨d, m, e, rfl, hz, ⟨hc, hx⟩ | ⟨hc, hm⟩⟩ := hp
  · walk_at "go"
    exact i_ckclockX hz (fun z => by rw [hc] at z; cases z) fun _ => hx
  · walk_at "go"
    refine i_ckclockX hz (fun _ => ?_) (fun z => by rw [hc] at z; cases z)
    walk_at "go"
    obtain ⟨hm, ⟨hu, hx⟩ | ⟨hu, he, hx⟩⟩ := hm
    · exact i_ckmomX hm (fun z => by rw [hu] at z; cases z) fun _ => hx
    · refine i_ckmomX hm (fun _ => ?_) (fun z => by rw [hu] at z; cases z)
      walk_at "go"
      exact i_errX he hx
abbrev N_moments_of : List Str := ["clock", "hour", "error", "begun", "gain", "sets", "by_day", "found", "begin", "end", "jumped", "moment"]
theorem sc_moments_of : FnScope N_moments_of ["clock", "hour", "error"] (defScope s_moments_of) := ⟨rfl, rfl, rfl, by decide +kernel, rfl, by decide +kernel, by decide +kernel⟩
theorem ok_moments_of {f : Addr} {fd : FuncData} (F : FunD K "moments_of" "moments_of" (defArgs s_moments_of) (defBody s_moments_of) (defScope s_moments_of) [.non] [] f fd) (fr : Fr mg) (c_check_clock : Cal false P w K mg base T "check_clock" 7 1 [] (p_check_clockX K)) (c_check_hour : Cal false P w K mg base T "check_hour" 3 1 [] (p_check_hourX K)) (c_error_told : Cal false P w K mg base T "error_told" 4 1 [] (p_error_toldX K)) : FnD false P w K mg base T 8 f fd ["clock", "hour", "error"] (p_moments_ofX K) := by
  refine fn_okD F sc_moments_of fun cdv A outer s H E hr hG0 cc => ?_
  have hG : GdOk false (cxOf (L2.CX P w) P w K mg base N_moments_of "moments_of" (defScope s_moments_of) f cdv A outer s H E).A := hG0
  have tk : Takes (cxOf (L2.CX P w) P w K mg base N_moments_of "moments_of" (defScope s_moments_of) f cdv A outer s H E) (fun cls d _ H' => E cls d H') := takes_of rfl rfl rfl rfl
  have po : PassesOwn (model P w) (cxOf (L2.CX P w) P w K mg base N_moments_of "moments_of" (defScope s_moments_of) f cdv A outer s H E).A (cxOf (L2.CX P w) P w K mg base N_moments_of "moments_of" (defScope s_moments_of) f cdv A outer s H E).env (cxOf (L2.CX P w) P w K mg base N_moments_of "moments_of" (defScope s_moments_of) f cdv A outer s H E).xe := passes_of rfl
  refine ⟨_, (psd_cons (psd_expr (pd_own (c_check_clock.up (by decide)) hr (hG.le (by decide)) rfl tk (pad_cons (pd_var 0) pad_nil))) (psd_cons (psd_expr (pd_own (c_check_hour.up (by decide)) hr (hG.le (by decide)) rfl tk (pad_cons (pd_var 1) pad_nil))) (psd_cons (psd_set 3 sc_moments_of.nd rfl (Or.inl rfl) (pd_own (c_error_told.up (by decide)) hr (hG.le (by decide)) rfl tk (pad_cons (pd_var 2) pad_nil))) pss_none))), fun ds S R Rx hl hp => ?_⟩
  clear hG0 hG tk po hr cc; try clear fr c_check_clock c_check_hour c_error_told
  obtain ⟨d, m, e, rfl, hz, ⟨hc, hx⟩ | ⟨hc, hm⟩⟩ := hp
  · walk_at "go"
    exact i_ckclockX hz (fun z => by rw [hc] at z; cases z) fun _ => hx
  · walk_at "go"
    refine i_ckclockX hz (fun _ => ?_) (fun z => by rw [hc] at z; cases z)
    walk_at "go"
    obtain ⟨hm, ⟨hu, hx⟩ | ⟨hu, he, hx⟩⟩ := hm
    · exact i_ckhourX hm (fun z => by rw [hu] at z; cases z) fun _ => hx
    · refine i_ckhourX hm (fun _ => ?_) (fun z => by rw [hu] at z; cases z)
      walk_at "go"
      exact i_errX he hx
abbrev N_leaps_of : List Str := ["clock", "error", "are_ahead", "begun", "gain", "sets", "by_day", "leaps", "moment", "jump", "before"]
theorem sc_leaps_of : FnScope N_leaps_of ["clock", "error", "are_ahead"] (defScope s_leaps_of) := ⟨rfl, rfl, rfl, by decide +kernel, rfl, by decide +kernel, by decide +kernel⟩
theorem ok_leaps_of {f : Addr} {fd : FuncData} (F : FunD K "leaps_of" "leaps_of" (defArgs s_leaps_of) (defBody s_leaps_of) (defScope s_leaps_of) [] [] f fd) (fr : Fr mg) (c_error_told : Cal false P w K mg base T "error_told" 4 1 [] (p_error_toldX K)) : FnD false P w K mg base T 5 f fd ["clock", "error", "are_ahead"] (p_leaps_ofX K) := by
  refine fn_okD F sc_leaps_of fun cdv A outer s H E hr hG0 cc => ?_
  have hG : GdOk false (cxOf (L2.CX P w) P w K mg base N_leaps_of "leaps_of" (defScope s_leaps_of) f cdv A outer s H E).A := hG0
  have tk : Takes (cxOf (L2.CX P w) P w K mg base N_leaps_of "leaps_of" (defScope s_leaps_of) f cdv A outer s H E) (fun cls d _ H' => E cls d H') := takes_of rfl rfl rfl rfl
  have po : PassesOwn (model P w) (cxOf (L2.CX P w) P w K mg base N_leaps_of "leaps_of" (defScope s_leaps_of) f cdv A outer s H E).A (cxOf (L2.CX P w) P w K mg base N_leaps_of "leaps_of" (defScope s_leaps_of) f cdv A outer s H E).env (cxOf (L2.CX P w) P w K mg base N_leaps_of "leaps_of" (defScope s_leaps_of) f cdv A outer s H E).xe := passes_of rfl
  refine ⟨_, (psd_cons (psd_set 3 sc_leaps_of.nd rfl (Or.inl rfl) (pd_own (c_error_told.up (by decide)) hr (hG.le (by decide)) rfl tk (pad_cons (pd_var 1) pad_nil))) pss_none), fun ds S R Rx hl hp => ?_⟩
  clear hG0 hG tk po hr cc; try clear fr c_error_told
  obtain ⟨c, e, b, rfl, he, hx⟩ := hp
  walk_at "go"
  exact i_errX he hx
abbrev N_turned_back : List Str := ["clock", "error", "before", "shown"]
theorem sc_turned_back : FnScope N_turned_back ["clock", "error"] (defScope s_turned_back) := ⟨rfl, rfl, rfl, by decide +kernel, rfl, by decide +kernel, by decide +kernel⟩
theorem ok_turned_back {f : Addr} {fd : FuncData} (F : FunD K "turned_back" "turned_back" (defArgs s_turned_back) (defBody s_turned_back) (defScope s_turned_back) [.non] [] f fd) (fr : Fr mg) (c_check_clock : Cal false P w K mg base T "check_clock" 7 1 [] (p_check_clockX K)) (c_leaps_of : Cal false P w K mg base T "leaps_of" 5 3 [] (p_leaps_ofX K)) : FnD false P w K mg base T 8 f fd ["clock", "error"] (p_turned_backX K) := by
  refine fn_okD F sc_turned_back fun cdv A outer s H E hr hG0 cc => ?_
  have hG : GdOk false (cxOf (L2.CX P w) P w K mg base N_turned_back "turned_back" (defScope s_turned_back) f cdv A outer s H E).A := hG0
  have tk : Takes (cxOf (L2.CX P w) P w K mg base N_turned_back "turned_back" (defScope s_turned_back) f cdv A outer s H E) (fun cls d _ H' => E cls d H') := takes_of rfl rfl rfl rfl
  have po : PassesOwn (model P w) (cxOf (L2.CX P w) P w K mg base N_turned_back "turned_back" (defScope s_turned_back) f cdv A outer s H E).A (cxOf (L2.CX P w) P w K mg base N_turned_back "turned_back" (defScope s_turned_back) f cdv A outer s H E).env (cxOf (L2.CX P w) P w K mg base N_turned_back "turned_back" (defScope s_turned_back) f cdv A outer s H E).xe := passes_of rfl
  refine ⟨_, (psd_cons (psd_expr (pd_own (c_check_clock.up (by decide)) hr (hG.le (by decide)) rfl tk (pad_cons (pd_var 0) pad_nil))) (psd_one (psd_ret (pd_lc (own := [("before", 2), ("shown", 3)]) (b := (.tp [2, 3])) rfl sc_turned_back.nd (pid_list (pd_own (c_leaps_of.up (by decide)) hr (hG.le (by decide)) rfl tk (pad_cons (pd_var 0) (pad_cons (pd_var 1) (pad_cons pd_bl pad_nil))))) (blkOk_by (own := [("before", 2), ("shown", 3)]) (N := N_turned_back) (sc := defScope s_turned_back) (by decide +kernel)) (by intro i hi; simp [Bd.all] at hi ⊢; omega) (fun _ _ _ _ _ => pg_tup rfl (pgs_cons (pg_name (i := 2) sc_turned_back.nd rfl (Or.inl rfl)) (pgs_cons (pg_name (i := 3) sc_turned_back.nd rfl (Or.inl rfl)) pgs_nil))) (fun _ _ _ _ _ => ptsd_nil) (fun _ _ _ _ _ => (pd_tup (pad_cons (pd_var 3) (pad_cons (pd_var 2) pad_nil)))))))), fun ds S R Rx hl hp => ?_⟩
  clear hG0 hG tk po hr cc; try clear fr c_check_clock c_leaps_of
  obtain ⟨d, e, rfl, hz, ⟨hc, hx⟩ | ⟨hc, hm⟩⟩ := hp
  · walk_at "go"
    exact i_ckclockX hz (fun z => by rw [hc] at z; cases z) fun _ => hx
  · walk_at "go"
    refine i_ckclockX hz (fun _ => ?_) (fun z => by rw [hc] at z; cases z)
    walk_at "go"
    exact i_leapsX hm.1 hm.2
abbrev N_skipped : List Str := ["clock", "error"]
theorem sc_skipped : FnScope N_skipped ["clock", "error"] (defScope s_skipped) := ⟨rfl, rfl, rfl, by decide +kernel, rfl, by decide +kernel, by decide +kernel⟩
theorem ok_skipped {f : Addr} {fd : FuncData} (F : FunD K "skipped" "skipped" (defArgs s_skipped) (defBody s_skipped) (defScope s_skipped) [.non] [] f fd) (fr : Fr mg) (c_check_clock : Cal false P w K mg base T "check_clock" 7 1 [] (p_check_clockX K)) (c_leaps_of : Cal false P w K mg base T "leaps_of" 5 3 [] (p_leaps_ofX K)) : FnD false P w K mg base T 8 f fd ["clock", "error"] (p_skippedX K) := by
  refine fn_okD F sc_skipped fun cdv A outer s H E hr hG0 cc => ?_
  have hG : GdOk false (cxOf (L2.CX P w) P w K mg base N_skipped "skipped" (defScope s_skipped) f cdv A outer s H E).A := hG0
  have tk : Takes (cxOf (L2.CX P w) P w K mg base N_skipped "skipped" (defScope s_skipped) f cdv A outer s H E) (fun cls d _ H' => E cls d H') := takes_of rfl rfl rfl rfl
  have po : PassesOwn (model P w) (cxOf (L2.CX P w) P w K mg base N_skipped "skipped" (defScope s_skipped) f cdv A outer s H E).A (cxOf (L2.CX P w) P w K mg base N_skipped "skipped" (defScope s_skipped) f cdv A outer s H E).env (cxOf (L2.CX P w) P w K mg base N_skipped "skipped" (defScope s_skipped) f cdv A outer s H E).xe := passes_of rfl
  refine ⟨_, (psd_cons (psd_expr (pd_own (c_check_clock.up (by decide)) hr (hG.le (by decide)) rfl tk (pad_cons (pd_var 0) pad_nil))) (psd_one (psd_ret (pd_own (c_leaps_of.up (by decide)) hr (hG.le (by decide)) rfl tk (pad_cons (pd_var 0) (pad_cons (pd_var 1) (pad_cons pd_bl pad_nil))))))), fun ds S R Rx hl hp => ?_⟩
  clear hG0 hG tk po hr cc; try clear fr c_check_clock c_leaps_of
  obtain ⟨d, e, rfl, hz, ⟨hc, hx⟩ | ⟨hc, hm⟩⟩ := hp
  · walk_at "go"
    exact i_ckclockX hz (fun z => by rw [hc] at z; cases z) fun _ => hx
  · walk_at "go"
    refine i_ckclockX hz (fun _ => ?_) (fun z => by rw [hc] at z; cases z)
    walk_at "go"
    exact i_leapsX hm.1 hm.2
end
end DL

set_option maxHeartbeats 4000000
namespace DL
open PySem PySem.Spec PyProof.Rows L2
local macro_rules | `(tactic| walk_at "go1") => `(tactic| first
  | with_reducible refine r_seq ?_ | with_reducible refine r_asg ?_ | with_reducible refine r_ret ?_ | with_reducible refine r_ifS ?_ | with_reducible refine r_drop ?_ | with_reducible refine r_par ?_ | with_reducible refine r_next ?_ | with_reducible refine r_retN ?_
  | ((with_reducible refine' r_var ?hv ?_); (case hv => rfl)) | with_reducible refine r_c ?_ | with_reducible refine r_bin ?_ | with_reducible refine r_un ?_ | with_reducible refine r_as1 ?_ | with_reducible refine r_as0 ?_
  | with_reducible refine r_cb ?_ | with_reducible refine r_call ?_ | with_reducible refine r_B ?_ | with_reducible refine r_notT ?_ | with_reducible refine r_andT ?_ | with_reducible refine r_orT ?_
  | with_reducible refine r_andV ?_ | with_reducible refine r_orV ?_ | with_reducible refine r_notV ?_ | with_reducible refine r_if ?_ | with_reducible refine r_tup ?_ | with_reducible refine r_lst ?_ | with_reducible refine r_mu ?_
  | with_reducible refine r_cut ?_ | with_reducible refine r_p0 ?_ | with_reducible refine r_p1 ?_ | with_reducible refine r_gN ?_ | ((with_reducible refine r_gT ?hv ?_); (case hv => rfl)) | with_reducible refine r_gs1 ?_ | with_reducible refine r_gs0 ?_
  | ((with_reducible refine r_trueR ?hv ?_); (case hv => first | rfl | assumption)) | ((with_reducible refine r_falseR ?hv ?_); (case hv => first | rfl | assumption)) | with_reducible refine r_bl ?_ | with_reducible refine r_in ?_ | with_reducible refine r_two ?_
  | with_reducible refine r_addI ?_ | with_reducible refine r_subI ?_ | with_reducible refine r_mulI ?_ ?_ | with_reducible refine r_divI ?_ ?_ | with_reducible refine r_modI ?_ ?_ | with_reducible refine r_powI ?_ ?_ | with_reducible refine r_negI ?_
  | with_reducible refine r_lt ?_ | with_reducible refine r_le ?_ | with_reducible refine r_gt ?_ | with_reducible refine r_ge ?_ | with_reducible refine r_is ?_ | with_reducible refine r_isNot ?_ | with_reducible refine r_eqI ?_ | with_reducible refine r_neI ?_ | with_reducible refine r_eqS ?_ | with_reducible refine r_neS ?_
  | with_reducible refine r_ixP0 ?_ | with_reducible refine r_ixP1 ?_ | with_reducible refine r_ix0T ?_ | with_reducible refine r_ix1T ?_ | with_reducible refine r_lenT ?_ | with_reducible refine r_lenL ?_ | with_reducible refine r_lenC ?_
  | with_reducible refine r_abs ?_ | with_reducible refine r_max ?_ | with_reducible refine r_min ?_ | with_reducible refine r_intI ?_ | with_reducible refine r_intB ?_ | with_reducible refine r_tupL ?_ | with_reducible refine r_tupT ?_
  | with_reducible refine r_gcd ?_ | ((with_reducible refine r_isi ?hv ?_); (case hv => first | rfl | assumption)) | with_reducible refine r_sizeT ?_ | with_reducible refine r_sizeL ?_)
local macro_rules | `(tactic| walk_at "go") => `(tactic| repeat' walk_at "go1")
local macro_rules | `(tactic| walk_at "go1") => `(tactic| first
  | with_reducible refine r_lc ?_ | with_reducible refine r_wiT ?_ | with_reducible refine r_wiZ ?_ | with_reducible refine r_wiL ?_ | with_reducible refine r_wiR1 ?_ | with_reducible refine r_for ?_ | with_reducible refine r_yes ?_
  | with_reducible refine b_nm ?_ | with_reducible refine r_setD0 ?_ | with_reducible refine r_setD1 ?_ | ((with_reducible refine' r_setDT ?hv ?_); (case hv => rfl)) | with_reducible refine r_setsD ?_ | with_reducible refine r_setsCut ?_ | with_reducible refine b_tp2 ?_ | with_reducible refine r_trueL ?_ | with_reducible refine r_falseL ?_ )

local macro_rules | `(tactic| walk_at "go1") => `(tactic| first
  | with_reducible refine r_size0 ?_ | with_reducible refine r_size3 ?_ | with_reducible refine r_app ?_ | with_reducible refine r_setIx ?_ | ((with_reducible refine' r_sizeG ?hv ?_); (case hv => rfl)) | ((with_reducible refine' r_addG ?hv ?_); (case hv => rfl)) | ((with_reducible refine' r_addTG ?hv ?_); (case hv => rfl))
  | with_reducible refine r_bmL ?_ | with_reducible refine r_isL ?_ | with_reducible refine r_try ?_ | with_reducible refine r_emp ?_ | with_reducible refine r_raise ?_ | with_reducible refine r_chain ?_ | with_reducible refine r_mulGI ?_ ?_
  | with_reducible refine r_wiET ?_ | with_reducible refine r_telLen ?_ | with_reducible refine r_telsLen ?_ | with_reducible refine r_rowLen ?_ | ((with_reducible refine' r_telT ?hv ?_); (case hv => rfl)))

local macro_rules | `(tactic| walk_at "szs") => `(tactic| first
  | assumption
  | ((with_reducible apply Sz.add); walk_at "szs"; walk_at "szs")
  | ((with_reducible apply Sz.sub); walk_at "szs"; walk_at "szs")
  | ((with_reducible apply Sz.mul); walk_at "szs"; walk_at "szs")
  | ((with_reducible apply Sz.neg); walk_at "szs")
  | (apply Pz.sz; assumption) | exact sz0 | exact sz1 | exact sz24
  | ((with_reducible apply sz_abs); walk_at "szs"))
local macro_rules | `(tactic| walk_at "sz") => `(tactic| (apply Sz.mono; walk_at "szs"; exact Nat.le_of_ble_eq_true rfl))
local macro_rules | `(tactic| walk_at "pen") => `(tactic| first | assumption | (apply Stm.pen; assumption) | (apply stm_st; assumption) | (apply stm_st; apply Stm.pen; assumption))
local macro_rules | `(tactic| walk_at "stm") => `(tactic| first | assumption | exact Stm.of (by walk_at "pen") | (refine Stm.trans ?_ (by assumption); walk_at "stm") | (refine Stm.trans ?_ (Stm.new (by walk_at "pen")); walk_at "stm"))
local macro_rules | `(tactic| walk_at "side") => `(tactic| first | assumption | rfl | omega | decide | walk_at "sz" | walk_at "pen")
local macro_rules | `(tactic| walk_at "au") => `(tactic| repeat' walk_at "au1")
local macro_rules | `(tactic| walk_at "au1") => `(tactic| first
  | walk_at "go1"
  | (with_reducible refine i_next ?_; intro r _ _)
  | (with_reducible refine i_draw ?a ?b ?c ?_; (case a => walk_at "side"); (case b => walk_at "side"); (case c => walk_at "pen"); intro x S' _ _ _)
  | (with_reducible refine i_sum_of ?a ?b ?_; (case a => walk_at "sz"); (case b => walk_at "sz"))
  | (with_reducible refine i_difference_of ?a ?b ?_; (case a => walk_at "sz"); (case b => walk_at "sz"))
  | (with_reducible refine i_product_of ?a ?b ?_; (case a => walk_at "sz"); (case b => walk_at "sz"))
  | (with_reducible refine i_is_below ?a ?b ?_; (case a => walk_at "sz"); (case b => walk_at "sz"))
  | (with_reducible refine i_added ?a ?b ?_; (case a => walk_at "sz"); (case b => walk_at "sz"))
  | (with_reducible refine i_less ?a ?b ?_; (case a => walk_at "sz"); (case b => walk_at "sz"))
  | (with_reducible refine i_times ?a ?b ?_; (case a => walk_at "sz"); (case b => walk_at "sz"))
  | (with_reducible refine i_is_less ?a ?b ?_; (case a => walk_at "sz"); (case b => walk_at "sz"))
  | (with_reducible refine i_sum ?a ?b ?_; (case a => walk_at "sz"); (case b => walk_at "sz"))
  | (with_reducible refine i_rest ?a ?b ?_; (case a => walk_at "sz"); (case b => walk_at "sz"))
  | (with_reducible refine i_prod ?a ?b ?_; (case a => walk_at "sz"); (case b => walk_at "sz"))
  | (with_reducible refine i_under ?a ?b ?_; (case a => walk_at "sz"); (case b => walk_at "sz"))
  | with_reducible refine i_is_part_pt ?_
  | with_reducible refine r_intB ?_
  | (with_reducible refine r_rng1 ?a ?b ?_; (case a => decide); (case b => decide)) | with_reducible refine r_ix0L ?_ | with_reducible refine r_muE ?_ | with_reducible refine r_itL ?_ | with_reducible refine r_itT ?_
  | with_reducible refine r_par3 ?_ | with_reducible refine r_three ?_ | with_reducible refine r_gSub ?_ | with_reducible refine r_lstM ?_ | with_reducible refine r_lstT ?_ | with_reducible refine r_turn ?_ | with_reducible refine r_callK ?_
  | with_reducible refine i_opposite ?_
  | ((with_reducible refine' r_ixT ?hv ?_); (case hv => rfl))
  | ((with_reducible refine' r_ixL ?hv ?_); (case hv => rfl)) | fail)
local macro_rules | `(tactic| walk_at "au1") => `(tactic| first
  | (with_reducible refine r_modI ?a ?_; (case a => decide))
  | (with_reducible refine r_divI ?a ?_; (case a => exact ⟨by decide, by decide⟩))
  | (with_reducible refine r_powI ?a ?_; (case a => exact ⟨by decide, by decide, by decide⟩)) | fail)
local macro_rules | `(tactic| walk_at "br") => `(tactic| first
  | (with_reducible refine r_bothT ?_ ?_ <;> intro z)
  | (with_reducible refine r_bothF ?_ ?_ <;> intro z)
  | (with_reducible refine r_bothD ?_ ?_ <;> intro z)
  | (with_reducible refine r_bothN ?_ ?_ <;> intro z)
  | (with_reducible refine r_both ?_ ?_ <;> intro z) | fail)
local macro_rules | `(tactic| walk_at "ab") => `(tactic| repeat' first | walk_at "au1" | walk_at "br")

local macro_rules | `(tactic| walk_at "shd") => `(tactic| first
  | assumption | exact ShD.non | exact ShD.bl | exact ShD.lit (by decide) | exact ShD.str (by decide +kernel) (by decide +kernel)
  | (apply ShD.nat; omega)
  | (apply ShD.pt (by walk_at "szs"); exact (Nat.ble_eq_true_of_le (of_decide_eq_true rfl)))
  | (apply ShD.tup; walk_at "shds") | (apply ShD.lst; walk_at "shds"))
local macro_rules | `(tactic| walk_at "shds") => `(tactic| first
  | assumption | exact ShDs.nil | (apply ShDs.cons; walk_at "shd"; walk_at "shds"))

local macro_rules | `(tactic| walk_at "au1") => `(tactic| first
  | (with_reducible refine r_neSS rfl ?_)
  | ((with_reducible refine' r_reprD ?a ?b ?c ?_); (case a => walk_at "shd"); (case b => rfl); (case c => rfl)) | fail)
local macro_rules | `(tactic| walk_at "gs1") => `(tactic| first
  | with_reducible refine r_asg ?_ | with_reducible refine r_ret ?_ | with_reducible refine r_ifS ?_ | with_reducible refine r_drop ?_ | with_reducible refine r_par ?_ | with_reducible refine r_next ?_ | with_reducible refine r_retN ?_
  | ((with_reducible refine' r_var ?hv ?_); (case hv => rfl)) | with_reducible refine r_c ?_ | with_reducible refine r_bin ?_ | with_reducible refine r_un ?_ | with_reducible refine r_as1 ?_ | with_reducible refine r_as0 ?_
  | with_reducible refine r_cb ?_ | with_reducible refine r_call ?_ | with_reducible refine r_B ?_ | with_reducible refine r_notT ?_ | with_reducible refine r_andT ?_ | with_reducible refine r_orT ?_
  | with_reducible refine r_andV ?_ | with_reducible refine r_orV ?_ | with_reducible refine r_notV ?_ | with_reducible refine r_if ?_ | with_reducible refine r_tup ?_ | with_reducible refine r_lst ?_ | with_reducible refine r_mu ?_
  | with_reducible refine r_cut ?_ | with_reducible refine r_p0 ?_ | with_reducible refine r_p1 ?_ | with_reducible refine r_gN ?_ | ((with_reducible refine r_gT ?hv ?_); (case hv => rfl)) | with_reducible refine r_gs1 ?_ | with_reducible refine r_gs0 ?_
  | ((with_reducible refine r_trueR ?hv ?_); (case hv => first | rfl | assumption)) | ((with_reducible refine r_falseR ?hv ?_); (case hv => first | rfl | assumption)) | with_reducible refine r_bl ?_ | with_reducible refine r_in ?_ | with_reducible refine r_two ?_
  | with_reducible refine r_addI ?_ | with_reducible refine r_subI ?_ | with_reducible refine r_mulI ?_ ?_ | with_reducible refine r_divI ?_ ?_ | with_reducible refine r_modI ?_ ?_ | with_reducible refine r_powI ?_ ?_ | with_reducible refine r_negI ?_
  | with_reducible refine r_lt ?_ | with_reducible refine r_le ?_ | with_reducible refine r_gt ?_ | with_reducible refine r_ge ?_ | with_reducible refine r_is ?_ | with_reducible refine r_isNot ?_ | with_reducible refine r_eqI ?_ | with_reducible refine r_neI ?_ | with_reducible refine r_eqS ?_ | with_reducible refine r_neS ?_
  | with_reducible refine r_ixP0 ?_ | with_reducible refine r_ixP1 ?_ | with_reducible refine r_ix0T ?_ | with_reducible refine r_ix1T ?_ | with_reducible refine r_lenT ?_ | with_reducible refine r_lenL ?_ | with_reducible refine r_lenC ?_
  | with_reducible refine r_abs ?_ | with_reducible refine r_max ?_ | with_reducible refine r_min ?_ | with_reducible refine r_intI ?_ | with_reducible refine r_intB ?_ | with_reducible refine r_tupL ?_ | with_reducible refine r_tupT ?_
  | with_reducible refine r_gcd ?_ | ((with_reducible refine r_isi ?hv ?_); (case hv => first | rfl | assumption)) | with_reducible refine r_sizeT ?_ | with_reducible refine r_sizeL ?_)
local macro_rules | `(tactic| walk_at "gs") => `(tactic| repeat' walk_at "gs1")
local macro_rules | `(tactic| walk_at "gs1") => `(tactic| first
  | with_reducible refine r_lc ?_ | with_reducible refine r_wiT ?_ | with_reducible refine r_wiZ ?_ | with_reducible refine r_wiL ?_ | with_reducible refine r_wiR1 ?_ | with_reducible refine r_for ?_ | with_reducible refine r_yes ?_
  | with_reducible refine b_nm ?_ | with_reducible refine r_setD0 ?_ | with_reducible refine r_setD1 ?_ | ((with_reducible refine' r_setDT ?hv ?_); (case hv => rfl)) | with_reducible refine r_setsD ?_ | with_reducible refine r_setsCut ?_ | with_reducible refine b_tp2 ?_ | with_reducible refine r_trueL ?_ | with_reducible refine r_falseL ?_ )

local macro_rules | `(tactic| walk_at "gs1") => `(tactic| first
  | with_reducible refine r_size0 ?_ | with_reducible refine r_size3 ?_ | with_reducible refine r_app ?_ | with_reducible refine r_setIx ?_ | ((with_reducible refine' r_sizeG ?hv ?_); (case hv => rfl)) | ((with_reducible refine' r_addG ?hv ?_); (case hv => rfl)) | ((with_reducible refine' r_addTG ?hv ?_); (case hv => rfl))
  | with_reducible refine r_bmL ?_ | with_reducible refine r_isL ?_ | with_reducible refine r_try ?_ | with_reducible refine r_emp ?_ | with_reducible refine r_raise ?_ | with_reducible refine r_chain ?_ | with_reducible refine r_mulGI ?_ ?_
  | with_reducible refine r_wiET ?_ | with_reducible refine r_telLen ?_ | with_reducible refine r_telsLen ?_ | with_reducible refine r_rowLen ?_ | ((with_reducible refine' r_telT ?hv ?_); (case hv => rfl)))

local macro_rules | `(tactic| walk_at "as") => `(tactic| repeat' walk_at "as1")
local macro_rules | `(tactic| walk_at "as1") => `(tactic| first
  | walk_at "gs1"
  | (with_reducible refine i_next ?_; intro r _ _)
  | (with_reducible refine i_draw ?a ?b ?c ?_; (case a => walk_at "side"); (case b => walk_at "side"); (case c => walk_at "pen"); intro x S' _ _ _)
  | (with_reducible refine i_sum_of ?a ?b ?_; (case a => walk_at "sz"); (case b => walk_at "sz"))
  | (with_reducible refine i_difference_of ?a ?b ?_; (case a => walk_at "sz"); (case b => walk_at "sz"))
  | (with_reducible refine i_product_of ?a ?b ?_; (case a => walk_at "sz"); (case b => walk_at "sz"))
  | (with_reducible refine i_is_below ?a ?b ?_; (case a => walk_at "sz"); (case b => walk_at "sz"))
  | (with_reducible refine i_added ?a ?b ?_; (case a => walk_at "sz"); (case b => walk_at "sz"))
  | (with_reducible refine i_less ?a ?b ?_; (case a => walk_at "sz"); (case b => walk_at "sz"))
  | (with_reducible refine i_times ?a ?b ?_; (case a => walk_at "sz"); (case b => walk_at "sz"))
  | (with_reducible refine i_is_less ?a ?b ?_; (case a => walk_at "sz"); (case b => walk_at "sz"))
  | (with_reducible refine i_sum ?a ?b ?_; (case a => walk_at "sz"); (case b => walk_at "sz"))
  | (with_reducible refine i_rest ?a ?b ?_; (case a => walk_at "sz"); (case b => walk_at "sz"))
  | (with_reducible refine i_prod ?a ?b ?_; (case a => walk_at "sz"); (case b => walk_at "sz"))
  | (with_reducible refine i_under ?a ?b ?_; (case a => walk_at "sz"); (case b => walk_at "sz"))
  | with_reducible refine i_is_part_pt ?_
  | with_reducible refine r_intB ?_
  | (with_reducible refine r_rng1 ?a ?b ?_; (case a => decide); (case b => decide)) | with_reducible refine r_ix0L ?_ | with_reducible refine r_muE ?_ | with_reducible refine r_itL ?_ | with_reducible refine r_itT ?_
  | with_reducible refine r_par3 ?_ | with_reducible refine r_three ?_ | with_reducible refine r_gSub ?_ | with_reducible refine r_lstM ?_ | with_reducible refine r_lstT ?_ | with_reducible refine r_turn ?_ | with_reducible refine r_callK ?_
  | with_reducible refine i_opposite ?_
  | ((with_reducible refine' r_ixT ?hv ?_); (case hv => rfl))
  | ((with_reducible refine' r_ixL ?hv ?_); (case hv => rfl)) | fail)
local macro_rules | `(tactic| walk_at "as1") => `(tactic| first
  | (with_reducible refine r_modI ?a ?_; (case a => decide))
  | (with_reducible refine r_divI ?a ?_; (case a => exact ⟨by decide, by decide⟩))
  | (with_reducible refine r_powI ?a ?_; (case a => exact ⟨by decide, by decide, by decide⟩)) | fail)
local macro_rules | `(tactic| walk_at "as1") => `(tactic| first
  | (with_reducible refine r_neSS rfl ?_)
  | ((with_reducible refine' r_reprD ?a ?b ?c ?_); (case a => walk_at "shd"); (case b => rfl); (case c => rfl)) | fail)
section
variable {P : Program} {w : World} {K : PySem.W.Frag} {mg : Str → Option Value} {base : Heap} {T : List (Addr × Str)}

abbrev N_law_cell_at : List Str := ["_law_script", "_law_k"]
theorem sc_law_cell_at : FnScope N_law_cell_at ["_law_script", "_law_k"] (defScope s_law_cell_at) := ⟨rfl, rfl, rfl, by decide +kernel, rfl, by decide +kernel, by decide +kernel⟩
theorem ok_law_cell_at {f : Addr} {fd : FuncData} (F : FunD K "_law_cell_at" "_law_cell_at" (defArgs s_law_cell_at) (defBody s_law_cell_at) (defScope s_law_cell_at) [] [] f fd) (fr : Fr mg)  : FnD false P w K mg base T 1 f fd ["_law_script", "_law_k"] p_law_cell_at := by
  refine fn_okD F sc_law_cell_at fun cdv A outer s H E hr hG0 cc => ?_
  have hG : GdOk false (cxOf (L2.CX P w) P w K mg base N_law_cell_at "_law_cell_at" (defScope s_law_cell_at) f cdv A outer s H E).A := hG0
  have tk : Takes (cxOf (L2.CX P w) P w K mg base N_law_cell_at "_law_cell_at" (defScope s_law_cell_at) f cdv A outer s H E) (fun cls d _ H' => E cls d H') := takes_of rfl rfl rfl rfl
  have po : PassesOwn (model P w) (cxOf (L2.CX P w) P w K mg base N_law_cell_at "_law_cell_at" (defScope s_law_cell_at) f cdv A outer s H E).A (cxOf (L2.CX P w) P w K mg base N_law_cell_at "_law_cell_at" (defScope s_law_cell_at) f cdv A outer s H E).env (cxOf (L2.CX P w) P w K mg base N_law_cell_at "_law_cell_at" (defScope s_law_cell_at) f cdv A outer s H E).xe := passes_of rfl
  refine ⟨_, (psd_cons (psd_if (ptd_cmp opD_lt (nobehind _ (by decide) (by decide)) (pd_var 1) (pd_callB cD_len rfl fr.len_ (by decide +kernel) (pad_cons (pd_var 0) pad_nil))) (psd_one (psd_ret (pd_ix ixD (pd_var 0) (pd_var 1)))) psd_nil) (psd_one (psd_ret pd_int))), fun ds S R Rx hl hp => ?_⟩
  clear hG0 hG tk po hr cc; try clear fr 
  obtain ⟨ns, rfl, h⟩ := hp
  walk_at "go"
  cases ns with
  | nil =>
    refine r_falseR (decide_eq_false (by simp)) ?_
    walk_at "go"
    exact h 0
  | cons z ns =>
    refine r_trueR (decide_eq_true (by simp only [List.map_cons, List.length_cons]; omega)) ?_
    walk_at "go"
    exact ⟨_, _, rfl, atI_0, h z⟩
abbrev N_law_next : List Str := ["_law_seed"]
theorem sc_law_next : FnScope N_law_next ["_law_seed"] (defScope s_law_next) := ⟨rfl, rfl, rfl, by decide +kernel, rfl, by decide +kernel, by decide +kernel⟩
theorem ok_law_next {f : Addr} {fd : FuncData} (F : FunD K "_law_next" "_law_next" (defArgs s_law_next) (defBody s_law_next) (defScope s_law_next) [] [] f fd) (fr : Fr mg)  : FnD false P w K mg base T 1 f fd ["_law_seed"] p_law_next := by
  refine fn_okD F sc_law_next fun cdv A outer s H E hr hG0 cc => ?_
  have hG : GdOk false (cxOf (L2.CX P w) P w K mg base N_law_next "_law_next" (defScope s_law_next) f cdv A outer s H E).A := hG0
  have tk : Takes (cxOf (L2.CX P w) P w K mg base N_law_next "_law_next" (defScope s_law_next) f cdv A outer s H E) (fun cls d _ H' => E cls d H') := takes_of rfl rfl rfl rfl
  have po : PassesOwn (model P w) (cxOf (L2.CX P w) P w K mg base N_law_next "_law_next" (defScope s_law_next) f cdv A outer s H E).A (cxOf (L2.CX P w) P w K mg base N_law_next "_law_next" (defScope s_law_next) f cdv A outer s H E).env (cxOf (L2.CX P w) P w K mg base N_law_next "_law_next" (defScope s_law_next) f cdv A outer s H E).xe := passes_of rfl
  refine ⟨_, (psd_cons (psd_set 0 sc_law_next.nd rfl (Or.inl rfl) (pd_bin opD_mod (pd_bin opD_add (pd_var 0) pd_int) pd_int)) (psd_one (psd_ret (pd_bin opD_mod (pd_bin opD_add (pd_bin opD_add (pd_bin opD_mul (pd_var 0) (pd_var 0)) (pd_bin opD_mul pd_int (pd_var 0))) pd_int) pd_int)))), fun ds S R Rx hl hp => ?_⟩
  clear hG0 hG tk po hr cc; try clear fr 
  obtain ⟨a, rfl, h⟩ := hp
  have h0 := fmod_lo (a := a + 7919) (m := 2147483647) (by decide)
  have h1 := fmod_hi (a := a + 7919) (m := 2147483647) (by decide)
  walk_at "go"
  · decide
  · exact cm_of (p31 h0 (by omega)) (p31 h0 (by omega)) (by decide)
  · exact cm_of (n := 31) (by decide) (p31 h0 (by omega)) (by decide)
  · decide
  · exact h _ (fmod_lo (by decide)) (Int.lt_trans (fmod_hi (by decide)) (by decide))
abbrev N_law_pen_of : List Str := ["_law_cell", "_law_left"]
theorem sc_law_pen_of : FnScope N_law_pen_of ["_law_cell"] (defScope s_law_pen_of) := ⟨rfl, rfl, rfl, by decide +kernel, rfl, by decide +kernel, by decide +kernel⟩
theorem ok_law_pen_of {f : Addr} {fd : FuncData} (F : FunD K "_law_pen_of" "_law_pen_of" (defArgs s_law_pen_of) (defBody s_law_pen_of) (defScope s_law_pen_of) [] [] f fd) (fr : Fr mg)  : FnD false P w K mg base T 1 f fd ["_law_cell"] p_law_pen_of := by
  refine fn_okD F sc_law_pen_of fun cdv A outer s H E hr hG0 cc => ?_
  have hG : GdOk false (cxOf (L2.CX P w) P w K mg base N_law_pen_of "_law_pen_of" (defScope s_law_pen_of) f cdv A outer s H E).A := hG0
  have tk : Takes (cxOf (L2.CX P w) P w K mg base N_law_pen_of "_law_pen_of" (defScope s_law_pen_of) f cdv A outer s H E) (fun cls d _ H' => E cls d H') := takes_of rfl rfl rfl rfl
  have po : PassesOwn (model P w) (cxOf (L2.CX P w) P w K mg base N_law_pen_of "_law_pen_of" (defScope s_law_pen_of) f cdv A outer s H E).A (cxOf (L2.CX P w) P w K mg base N_law_pen_of "_law_pen_of" (defScope s_law_pen_of) f cdv A outer s H E).env (cxOf (L2.CX P w) P w K mg base N_law_pen_of "_law_pen_of" (defScope s_law_pen_of) f cdv A outer s H E).xe := passes_of rfl
  refine ⟨_, (psd_cons (psd_set 1 sc_law_pen_of.nd rfl (Or.inl rfl) (pd_callB (cD_max rfl) rfl fr.max_ (by decide +kernel) (pad_cons (pd_var 0) (pad_cons (pd_bin opD_sub pd_int (pd_var 0)) pad_nil)))) (psd_one (psd_ret (pd_mu (pad_cons (pd_var 1) (pad_cons (pd_callTy cD_int rfl fr.int_ (by decide +kernel) (pad_cons (pd_cmp opD_ge (nobehind _ (by decide) (by decide)) (pd_var 1) (pd_bin opD_pow pd_int pd_int)) pad_nil)) (pad_cons (pd_bin opD_mod (pd_var 1) pd_int) pad_nil))))))), fun ds S R Rx hl hp => ?_⟩
  clear hG0 hG tk po hr cc; try clear fr 
  obtain ⟨z, rfl, h⟩ := hp
  walk_at "go"
  · exact ⟨by decide, by decide, by decide⟩
  · decide
  · exact h _ _ _
abbrev N_law_draw : List Str := ["_law_pen", "_law_many", "_law_found"]
theorem sc_law_draw : FnScope N_law_draw ["_law_pen", "_law_many"] (defScope s_law_draw) := ⟨rfl, rfl, rfl, by decide +kernel, rfl, by decide +kernel, by decide +kernel⟩
theorem ok_law_draw {f : Addr} {fd : FuncData} (F : FunD K "_law_draw" "_law_draw" (defArgs s_law_draw) (defBody s_law_draw) (defScope s_law_draw) [] [] f fd) (fr : Fr mg) (c_law_next : Cal false P w K mg base T "_law_next" 1 1 [] p_law_next) : FnD false P w K mg base T 2 f fd ["_law_pen", "_law_many"] p_law_draw := by
  refine fn_okD F sc_law_draw fun cdv A outer s H E hr hG0 cc => ?_
  have hG : GdOk false (cxOf (L2.CX P w) P w K mg base N_law_draw "_law_draw" (defScope s_law_draw) f cdv A outer s H E).A := hG0
  have tk : Takes (cxOf (L2.CX P w) P w K mg base N_law_draw "_law_draw" (defScope s_law_draw) f cdv A outer s H E) (fun cls d _ H' => E cls d H') := takes_of rfl rfl rfl rfl
  have po : PassesOwn (model P w) (cxOf (L2.CX P w) P w K mg base N_law_draw "_law_draw" (defScope s_law_draw) f cdv A outer s H E).A (cxOf (L2.CX P w) P w K mg base N_law_draw "_law_draw" (defScope s_law_draw) f cdv A outer s H E).env (cxOf (L2.CX P w) P w K mg base N_law_draw "_law_draw" (defScope s_law_draw) f cdv A outer s H E).xe := passes_of rfl
  refine ⟨_, (psd_cons (psd_if (ptd_w (pwd_and (ptd_cmp (opD_eq hr.units) (nobehind _ (by decide) (by decide)) (pd_ix ixD (pd_var 0) pd_int) pd_int) (pwd_and1 (ptd_cmp opD_gt (nobehind _ (by decide) (by decide)) (pd_ix ixD (pd_var 0) pd_int) pd_int)))) (psd_cons (psd_set 2 sc_law_draw.nd rfl (Or.inl rfl) (pd_bin opD_mod (pd_ix ixD (pd_var 0) pd_int) (pd_var 1))) (psd_cons (psd_setIx (pd_bin opD_div (pd_ix ixD (pd_var 0) pd_int) (pd_var 1)) (pd_var 0) pd_int rfl rfl rfl (pg_sub (pd_var 0) pd_int set_list)) (psd_one (psd_ret (pd_var 2))))) psd_nil) (psd_cons (psd_setIx (pd_own (c_law_next.up (by decide)) hr (hG.le (by decide)) rfl tk (pad_cons (pd_bin opD_add (pd_own (c_law_next.up (by decide)) hr (hG.le (by decide)) rfl tk (pad_cons (pd_ix ixD (pd_var 0) pd_int) pad_nil)) pd_int) pad_nil)) (pd_var 0) pd_int rfl rfl rfl (pg_sub (pd_var 0) pd_int set_list)) (psd_one (psd_ret (pd_bin opD_mod (pd_bin opD_div (pd_ix ixD (pd_var 0) pd_int) pd_int) (pd_var 1)))))), fun ds S R Rx hl hp => ?_⟩
  clear hG0 hG tk po hr cc; try clear fr c_law_next
  obtain ⟨i, m, rfl, h0, h1, ⟨a, b, c, hS⟩, h⟩ := hp
  have hi : i < S.length := (List.getElem?_eq_some_iff.mp hS).1
  have nx : ∀ {S' : Sto}, S' = S → wCallN p_law_next 1 (wAs1 (wBin dAdd (wCallN p_law_next 1 (wAs1 (wBin dIx (wVar 0) (wC (.int 2))) wAs0) []) (wC (.int 7))) wAs0) [] = wCallN p_law_next 1 (wAs1 (wBin dAdd (wCallN p_law_next 1 (wAs1 (wBin dIx (wVar 0) (wC (.int 2))) wAs0) []) (wC (.int 7))) wAs0) [] := fun _ => rfl
  clear nx
  have main : ∀ (R' : Prop), (∀ (x : Int) S', 0 ≤ x → x < m → Stm i S S' → R (.int x) S') → True := fun _ _ => trivial
  clear main
  walk_at "go"
  refine r_ixM hS rfl ?_
  walk_at "go"
  refine r_both ?_ ?_
  · intro hb
    walk_at "go"
    refine r_ixM hS rfl ?_
    walk_at "go"
    refine r_both ?_ ?_
    · intro ha
      walk_at "go"
      refine r_ixM hS rfl ?_
      walk_at "go"
      · omega
      refine r_ixM hS rfl ?_
      walk_at "go"
      · exact small_log h0 h1
      refine ⟨_, _, _, _, rfl, rfl, hS, rfl, ?_⟩
      walk_at "go"
      exact h _ _ (fmod_lo h0) (fmod_hi h0) (Stm.set hi)
    · intro ha
      walk_at "go"
      refine r_ixM hS rfl ?_
      refine i_next fun r1 _ _ => ?_
      walk_at "go"
      refine i_next fun r2 q0 q1 => ?_
      walk_at "go"
      refine ⟨_, _, _, _, rfl, rfl, hS, rfl, ?_⟩
      walk_at "go"
      refine r_ixM (List.getElem?_set_self hi) rfl ?_
      walk_at "go"
      · exact small_log (by decide) (by decide)
      · omega
      exact h _ _ (fmod_lo h0) (fmod_hi h0) (Stm.set hi)
  · intro hb
    walk_at "go"
    refine r_ixM hS rfl ?_
    refine i_next fun r1 _ _ => ?_
    walk_at "go"
    refine i_next fun r2 q0 q1 => ?_
    walk_at "go"
    refine ⟨_, _, _, _, rfl, rfl, hS, rfl, ?_⟩
    walk_at "go"
    refine r_ixM (List.getElem?_set_self hi) rfl ?_
    walk_at "go"
    · exact small_log (by decide) (by decide)
    · omega
    exact h _ _ (fmod_lo h0) (fmod_hi h0) (Stm.set hi)
abbrev N_law_made : List Str := ["_law_top", "_law_bottom", "_law_one", "_law_other"]
theorem sc_law_made : FnScope N_law_made ["_law_top", "_law_bottom"] (defScope s_law_made) := ⟨rfl, rfl, rfl, by decide +kernel, rfl, by decide +kernel, by decide +kernel⟩
theorem ok_law_made {f : Addr} {fd : FuncData} (F : FunD K "_law_made" "_law_made" (defArgs s_law_made) (defBody s_law_made) (defScope s_law_made) [] [] f fd) (fr : Fr mg)  : FnD false P w K mg base T 1 f fd ["_law_top", "_law_bottom"] p_law_made := by
  refine fn_okD F sc_law_made fun cdv A outer s H E hr hG0 cc => ?_
  have hG : GdOk false (cxOf (L2.CX P w) P w K mg base N_law_made "_law_made" (defScope s_law_made) f cdv A outer s H E).A := hG0
  have tk : Takes (cxOf (L2.CX P w) P w K mg base N_law_made "_law_made" (defScope s_law_made) f cdv A outer s H E) (fun cls d _ H' => E cls d H') := takes_of rfl rfl rfl rfl
  have po : PassesOwn (model P w) (cxOf (L2.CX P w) P w K mg base N_law_made "_law_made" (defScope s_law_made) f cdv A outer s H E).A (cxOf (L2.CX P w) P w K mg base N_law_made "_law_made" (defScope s_law_made) f cdv A outer s H E).env (cxOf (L2.CX P w) P w K mg base N_law_made "_law_made" (defScope s_law_made) f cdv A outer s H E).xe := passes_of rfl
  refine ⟨_, (psd_cons (psd_par 2 3 rfl sc_law_made.nd rfl rfl (by decide) rfl rfl (pad_cons (pd_callB cD_abs rfl fr.abs_ (by decide +kernel) (pad_cons (pd_var 0) pad_nil)) (pad_cons (pd_var 1) pad_nil)) (by rfl)) (psd_cons (psd_while po (ptd_cmp opD_gt (nobehind _ (by decide) (by decide)) (pd_var 3) pd_int) (psd_one (psd_par 2 3 rfl sc_law_made.nd rfl rfl (by decide) rfl rfl (pad_cons (pd_var 3) (pad_cons (pd_bin opD_mod (pd_var 2) (pd_var 3)) pad_nil)) (by rfl)))) (psd_one (psd_ret (pd_tup (pad_cons (pd_bin opD_div (pd_var 0) (pd_var 2)) (pad_cons (pd_bin opD_div (pd_var 1) (pd_var 2)) pad_nil))))))), fun ds S R Rx hl hp => ?_⟩
  clear hG0 hG tk po hr cc; try clear fr 
  obtain ⟨a, b, hb0, rfl, hb, h⟩ := hp
  walk_at "go"
  refine ⟨fun n env S1 => S = S1 ∧ ∃ x y : Nat, env = [some (.int a), some (.int b), some (.int x), some (.int y)] ∧ y = n ∧ Nat.gcd x y = Nat.gcd a.natAbs b, ⟨b, rfl, a.natAbs, b, ?_, rfl, rfl⟩, ?_⟩
  · first | rw [max_nat] | rw [abs_nat]
    rfl
  intro n env S1 hI
  obtain ⟨rfl, x, y, rfl, rfl, hg⟩ := hI
  walk_at "go"
  refine r_both ?_ ?_
  · intro hy
    have hy : 0 < y := by have := of_decide_eq_true hy; omega
    walk_at "go"
    · omega
    refine ⟨x % y, Nat.mod_lt _ hy, rfl, y, x % y, by rw [← fmod_nat]; rfl, rfl, ?_⟩
    rw [← hg, Nat.gcd_comm x y, Nat.gcd_rec y x, Nat.gcd_comm]
  · intro hy
    have hy : y = 0 := by have := of_decide_eq_false hy; omega
    subst hy
    rw [Nat.gcd_zero_right] at hg
    subst hg
    have hg := gcd_pos' (a := a) hb0
    have hgl : a.natAbs.gcd b ≤ b := Nat.gcd_le_right _ (Nat.pos_of_ne_zero hb0)
    have hside : ((a.natAbs.gcd b : Nat) : Int) ≠ 0 ∧ ((a.natAbs.gcd b : Nat) : Int).natAbs.log2 < 9000 := ⟨by omega, by rw [Int.natAbs_natCast]; exact log_of (by omega) (by decide)⟩
    walk_at "go"
    · exact hside
    · exact hside
    · have e : pt (Rat.normalize a b hb0) = .tup [.int (a.fdiv ((a.natAbs.gcd b : Nat) : Int)), .int (((b : Nat) : Int).fdiv ((a.natAbs.gcd b : Nat) : Int))] := by
        show D.tup [.int _, .int ((Rat.normalize a b hb0).den : Int)] = _
        rw [norm_num, norm_den, fdiv_nat, fdiv_nat, Int.natCast_ediv]
      rw [e] at h
      exact h
abbrev N_law_sum : List Str := ["_law_one", "_law_other"]
theorem sc_law_sum : FnScope N_law_sum ["_law_one", "_law_other"] (defScope s_law_sum) := ⟨rfl, rfl, rfl, by decide +kernel, rfl, by decide +kernel, by decide +kernel⟩
theorem ok_law_sum {f : Addr} {fd : FuncData} (F : FunD K "_law_sum" "_law_sum" (defArgs s_law_sum) (defBody s_law_sum) (defScope s_law_sum) [] [] f fd) (fr : Fr mg) (c_law_made : Cal false P w K mg base T "_law_made" 1 2 [] p_law_made) : FnD false P w K mg base T 2 f fd ["_law_one", "_law_other"] p_law_sum := by
  refine fn_okD F sc_law_sum fun cdv A outer s H E hr hG0 cc => ?_
  have hG : GdOk false (cxOf (L2.CX P w) P w K mg base N_law_sum "_law_sum" (defScope s_law_sum) f cdv A outer s H E).A := hG0
  have tk : Takes (cxOf (L2.CX P w) P w K mg base N_law_sum "_law_sum" (defScope s_law_sum) f cdv A outer s H E) (fun cls d _ H' => E cls d H') := takes_of rfl rfl rfl rfl
  have po : PassesOwn (model P w) (cxOf (L2.CX P w) P w K mg base N_law_sum "_law_sum" (defScope s_law_sum) f cdv A outer s H E).A (cxOf (L2.CX P w) P w K mg base N_law_sum "_law_sum" (defScope s_law_sum) f cdv A outer s H E).env (cxOf (L2.CX P w) P w K mg base N_law_sum "_law_sum" (defScope s_law_sum) f cdv A outer s H E).xe := passes_of rfl
  refine ⟨_, (psd_one (psd_ret (pd_own (c_law_made.up (by decide)) hr (hG.le (by decide)) rfl tk (pad_cons (pd_bin opD_add (pd_bin opD_mul (pd_ix ixD (pd_var 0) pd_int) (pd_ix ixD (pd_var 1) pd_int)) (pd_bin opD_mul (pd_ix ixD (pd_var 1) pd_int) (pd_ix ixD (pd_var 0) pd_int))) (pad_cons (pd_bin opD_mul (pd_ix ixD (pd_var 0) pd_int) (pd_ix ixD (pd_var 1) pd_int)) pad_nil))))), fun ds S R Rx hl hp => ?_⟩
  clear hG0 hG tk po hr cc; try clear fr c_law_made
  obtain ⟨p, q, rfl, hp, hq, h⟩ := hp
  have h : R (pt (p + q)) S := h
  walk_at "go"
  · exact cm_of hp.n hq.d (by decide)
  · exact cm_of hq.n hp.d (by decide)
  · exact cm_of hp.d hq.d (by decide)
  · refine i_made (b := p.den * q.den) (den_nz2 p q) (by rw [Int.natCast_mul]) (den_mul hp hq) ?_
    rw [Rat.add_def] at h
    exact h
abbrev N_law_under : List Str := ["_law_one", "_law_other"]
theorem sc_law_under : FnScope N_law_under ["_law_one", "_law_other"] (defScope s_law_under) := ⟨rfl, rfl, rfl, by decide +kernel, rfl, by decide +kernel, by decide +kernel⟩
theorem ok_law_under {f : Addr} {fd : FuncData} (F : FunD K "_law_under" "_law_under" (defArgs s_law_under) (defBody s_law_under) (defScope s_law_under) [] [] f fd) (fr : Fr mg)  : FnD false P w K mg base T 1 f fd ["_law_one", "_law_other"] p_law_under := by
  refine fn_okD F sc_law_under fun cdv A outer s H E hr hG0 cc => ?_
  have hG : GdOk false (cxOf (L2.CX P w) P w K mg base N_law_under "_law_under" (defScope s_law_under) f cdv A outer s H E).A := hG0
  have tk : Takes (cxOf (L2.CX P w) P w K mg base N_law_under "_law_under" (defScope s_law_under) f cdv A outer s H E) (fun cls d _ H' => E cls d H') := takes_of rfl rfl rfl rfl
  have po : PassesOwn (model P w) (cxOf (L2.CX P w) P w K mg base N_law_under "_law_under" (defScope s_law_under) f cdv A outer s H E).A (cxOf (L2.CX P w) P w K mg base N_law_under "_law_under" (defScope s_law_under) f cdv A outer s H E).env (cxOf (L2.CX P w) P w K mg base N_law_under "_law_under" (defScope s_law_under) f cdv A outer s H E).xe := passes_of rfl
  refine ⟨_, (psd_one (psd_ret (pd_cmp opD_lt (nobehind _ (by decide) (by decide)) (pd_bin opD_mul (pd_ix ixD (pd_var 0) pd_int) (pd_ix ixD (pd_var 1) pd_int)) (pd_bin opD_mul (pd_ix ixD (pd_var 1) pd_int) (pd_ix ixD (pd_var 0) pd_int))))), fun ds S R Rx hl hp => ?_⟩
  clear hG0 hG tk po hr cc; try clear fr 
  obtain ⟨p, q, rfl, hp, hq, h⟩ := hp
  walk_at "go"
  · exact cm_of hp.n hq.d (by decide)
  · exact cm_of hq.n hp.d (by decide)
  · rw [lt_pt]
    exact h
abbrev N_law_gain : List Str := ["_law_pen", "_law_top", "_law_bottom"]
theorem sc_law_gain : FnScope N_law_gain ["_law_pen"] (defScope s_law_gain) := ⟨rfl, rfl, rfl, by decide +kernel, rfl, by decide +kernel, by decide +kernel⟩
theorem ok_law_gain {f : Addr} {fd : FuncData} (F : FunD K "_law_gain" "_law_gain" (defArgs s_law_gain) (defBody s_law_gain) (defScope s_law_gain) [] [] f fd) (fr : Fr mg) (c_law_draw : Cal false P w K mg base T "_law_draw" 2 2 [] p_law_draw) (c_law_made : Cal false P w K mg base T "_law_made" 1 2 [] p_law_made) : FnD false P w K mg base T 3 f fd ["_law_pen"] p_law_gain := by
  refine fn_okD F sc_law_gain fun cdv A outer s H E hr hG0 cc => ?_
  have hG : GdOk false (cxOf (L2.CX P w) P w K mg base N_law_gain "_law_gain" (defScope s_law_gain) f cdv A outer s H E).A := hG0
  have tk : Takes (cxOf (L2.CX P w) P w K mg base N_law_gain "_law_gain" (defScope s_law_gain) f cdv A outer s H E) (fun cls d _ H' => E cls d H') := takes_of rfl rfl rfl rfl
  have po : PassesOwn (model P w) (cxOf (L2.CX P w) P w K mg base N_law_gain "_law_gain" (defScope s_law_gain) f cdv A outer s H E).A (cxOf (L2.CX P w) P w K mg base N_law_gain "_law_gain" (defScope s_law_gain) f cdv A outer s H E).env (cxOf (L2.CX P w) P w K mg base N_law_gain "_law_gain" (defScope s_law_gain) f cdv A outer s H E).xe := passes_of rfl
  refine ⟨_, (psd_cons (psd_par 1 2 rfl sc_law_gain.nd rfl rfl (by decide) rfl rfl (pad_cons (pd_own (c_law_draw.up (by decide)) hr (hG.le (by decide)) rfl tk (pad_cons (pd_var 0) (pad_cons pd_int pad_nil))) (pad_cons (pd_bin opD_add pd_int (pd_own (c_law_draw.up (by decide)) hr (hG.le (by decide)) rfl tk (pad_cons (pd_var 0) (pad_cons pd_int pad_nil)))) pad_nil)) (by rfl)) (psd_one (psd_ret (pd_ix ixD (pd_lst (pad_cons (pd_tup (pad_cons pd_int (pad_cons pd_int pad_nil))) (pad_cons (pd_own (c_law_made.up (by decide)) hr (hG.le (by decide)) rfl tk (pad_cons (pd_var 1) (pad_cons (pd_var 2) pad_nil))) (pad_cons (pd_own (c_law_made.up (by decide)) hr (hG.le (by decide)) rfl tk (pad_cons (pd_bin opD_sub pd_int (pd_var 1)) (pad_cons (pd_var 2) pad_nil))) (pad_cons (pd_tup (pad_cons pd_int (pad_cons pd_int pad_nil))) (pad_cons (pd_tup (pad_cons (pd_un unD_neg pd_int) (pad_cons pd_int pad_nil))) pad_nil)))))) (pd_own (c_law_draw.up (by decide)) hr (hG.le (by decide)) rfl tk (pad_cons (pd_var 0) (pad_cons pd_int pad_nil))))))), fun ds S R Rx hl hp => ?_⟩
  clear hG0 hG tk po hr cc; try clear fr c_law_draw c_law_made
  obtain ⟨i, rfl, hp, h⟩ := hp
  walk_at "go"
  refine i_draw (by decide) (by decide) hp fun x S1 x0 x1 s1 => ?_
  walk_at "go"
  refine i_draw (by decide) (by decide) s1.pen fun z S2 z0 z1 s2 => ?_
  obtain ⟨n, rfl⟩ := Int.eq_ofNat_of_zero_le z0
  walk_at "go"
  refine i_made (b := 1 + n) (by omega) (by omega) (lt9000 (by omega)) ?_
  walk_at "go"
  refine i_made (b := 1 + n) (by omega) (by omega) (lt9000 (by omega)) ?_
  walk_at "go"
  refine i_draw (by decide) (by decide) s2.pen fun y S3 y0 y1 s3 => ?_
  refine r_ixIn y0 y1 fun d hd => ?_
  have st := s1.trans (s2.trans s3)
  rcases of_five hd with rfl | rfl | rfl | rfl | rfl
  · exact h 0 _ (by decide) ⟨by decide, by decide⟩ st
  · exact h _ _ (norm_le12 _ (by omega)) (norm_sz _ (by omega) (by omega)) st
  · exact h _ _ (norm_le12 _ (by omega)) (norm_sz _ (by omega) (by omega)) st
  · exact h 12 _ (by decide) ⟨by decide, by decide⟩ st
  · exact h (-12) _ (by decide) ⟨by decide, by decide⟩ st
abbrev N_law_sets : List Str := ["_law_pen", "_law_most", "_law_found", "_law_when", "_law_turn", "_law_jump"]
theorem sc_law_sets : FnScope N_law_sets ["_law_pen", "_law_most"] (defScope s_law_sets) := ⟨rfl, rfl, rfl, by decide +kernel, rfl, by decide +kernel, by decide +kernel⟩
theorem ok_law_sets {f : Addr} {fd : FuncData} (F : FunD K "_law_sets" "_law_sets" (defArgs s_law_sets) (defBody s_law_sets) (defScope s_law_sets) [] [] f fd) (fr : Fr mg) (c_law_draw : Cal false P w K mg base T "_law_draw" 2 2 [] p_law_draw) (c_law_made : Cal false P w K mg base T "_law_made" 1 2 [] p_law_made) (c_law_sum : Cal false P w K mg base T "_law_sum" 2 2 [] p_law_sum) : FnD false P w K mg base T 3 f fd ["_law_pen", "_law_most"] p_law_sets := by
  refine fn_okD F sc_law_sets fun cdv A outer s H E hr hG0 cc => ?_
  have hG : GdOk false (cxOf (L2.CX P w) P w K mg base N_law_sets "_law_sets" (defScope s_law_sets) f cdv A outer s H E).A := hG0
  have tk : Takes (cxOf (L2.CX P w) P w K mg base N_law_sets "_law_sets" (defScope s_law_sets) f cdv A outer s H E) (fun cls d _ H' => E cls d H') := takes_of rfl rfl rfl rfl
  have po : PassesOwn (model P w) (cxOf (L2.CX P w) P w K mg base N_law_sets "_law_sets" (defScope s_law_sets) f cdv A outer s H E).A (cxOf (L2.CX P w) P w K mg base N_law_sets "_law_sets" (defScope s_law_sets) f cdv A outer s H E).env (cxOf (L2.CX P w) P w K mg base N_law_sets "_law_sets" (defScope s_law_sets) f cdv A outer s H E).xe := passes_of rfl
  refine ⟨_, (psd_cons (psd_par 2 3 rfl sc_law_sets.nd rfl rfl (by decide) rfl rfl (pad_cons (pd_mu pad_nil) (pad_cons (pd_tup (pad_cons pd_int (pad_cons pd_int pad_nil))) pad_nil)) (by rfl)) (psd_cons (psd_for po rfl (pid_range1 rfl fr.range_ (pad_cons (pd_own (c_law_draw.up (by decide)) hr (hG.le (by decide)) rfl tk (pad_cons (pd_var 0) (pad_cons (pd_bin opD_add (pd_var 1) pd_int) pad_nil))) pad_nil)) (pgd_name 4 sc_law_sets.nd rfl (Or.inl rfl)) (psd_cons (psd_if (ptd_w (pwd_or (ptd_cmp opD_gt (nobehind _ (by decide) (by decide)) (pd_var 4) pd_int) (pwd_or1 (ptd_cmp opD_gt (nobehind _ (by decide) (by decide)) (pd_own (c_law_draw.up (by decide)) hr (hG.le (by decide)) rfl tk (pad_cons (pd_var 0) (pad_cons pd_int pad_nil))) pd_int)))) (psd_one (psd_set 3 sc_law_sets.nd rfl (Or.inl rfl) (pd_own (c_law_sum.up (by decide)) hr (hG.le (by decide)) rfl tk (pad_cons (pd_var 3) (pad_cons (pd_own (c_law_made.up (by decide)) hr (hG.le (by decide)) rfl tk (pad_cons (pd_bin opD_add pd_int (pd_own (c_law_draw.up (by decide)) hr (hG.le (by decide)) rfl tk (pad_cons (pd_var 0) (pad_cons pd_int pad_nil)))) (pad_cons (pd_bin opD_add pd_int (pd_own (c_law_draw.up (by decide)) hr (hG.le (by decide)) rfl tk (pad_cons (pd_var 0) (pad_cons pd_int pad_nil)))) pad_nil))) pad_nil))))) psd_nil) (psd_cons (psd_set 5 sc_law_sets.nd rfl (Or.inl rfl) (pd_own (c_law_made.up (by decide)) hr (hG.le (by decide)) rfl tk (pad_cons (pd_bin opD_add pd_int (pd_own (c_law_draw.up (by decide)) hr (hG.le (by decide)) rfl tk (pad_cons (pd_var 0) (pad_cons (pd_ix ixD (pd_lst (pad_cons pd_int (pad_cons pd_int pad_nil))) (pd_own (c_law_draw.up (by decide)) hr (hG.le (by decide)) rfl tk (pad_cons (pd_var 0) (pad_cons pd_int pad_nil)))) pad_nil)))) (pad_cons (pd_bin opD_add pd_int (pd_own (c_law_draw.up (by decide)) hr (hG.le (by decide)) rfl tk (pad_cons (pd_var 0) (pad_cons pd_int pad_nil)))) pad_nil)))) (psd_one (psd_app (pd_var 2) (pd_tup (pad_cons (pd_var 3) (pad_cons (pd_ix ixD (pd_lst (pad_cons (pd_var 5) (pad_cons (pd_tup (pad_cons (pd_bin opD_sub pd_int (pd_ix ixD (pd_var 5) pd_int)) (pad_cons (pd_ix ixD (pd_var 5) pd_int) pad_nil))) pad_nil))) (pd_own (c_law_draw.up (by decide)) hr (hG.le (by decide)) rfl tk (pad_cons (pd_var 0) (pad_cons pd_int pad_nil)))) pad_nil)))))))) (psd_one (psd_ret (pd_callTy cD_tup rfl fr.tuple_ (by decide +kernel) (pad_cons (pd_var 2) pad_nil)))))), fun ds S R Rx hl hp => ?_⟩
  clear hG0 hG tk po hr cc; try clear fr c_law_draw c_law_made c_law_sum
  obtain ⟨i, rfl, hp, h⟩ := hp
  walk_at "go"
  refine i_draw (by decide) (by decide) (Stm.new hp).pen fun x S1 x0 x1 s1 => ?_
  walk_at "go"
  refine ⟨x, rfl, by omega, by omega, ?_⟩
  have hi : S.length ≠ i := by have := hp.lt; omega
  refine loop_by (fun k env S2 => ∃ w l a b, env = [some (.mu i), some (.int 6), some (.mu S.length), some (pt w), a, b] ∧ SI i S.length S k w l S2) ?_ ?_ ?_
  · refine ⟨0, [], _, _, rfl, ?_⟩
    have st : Stm i S S1 := (Stm.new hp).trans s1
    refine ⟨st, s1.at_ hi ?_, rfl, fun e he => (by cases he), fun j a b ha => (by simp at ha), fun e he => (by cases he), by decide, ⟨by decide, by decide⟩⟩
    rw [List.getElem?_append_right (Nat.le_refl _), Nat.sub_self]
    rfl
  · intro k d env S2 N hd ⟨w, l, a, b, henv, hI⟩ hN
    subst henv
    obtain ⟨rfl, hk⟩ := ints_at hd
    have hk6 : k < 6 := by omega
    refine ⟨trivial, ?_⟩
    walk_at "go1"
    refine seq_by (fun env1 S3 => ∃ w' a b, env1 = [some (.mu i), some (.int 6), some (.mu S.length), some (pt w'), a, b] ∧ 0 ≤ w'.num ∧ Sz (5 * (k + 1) + 2) w' ∧ w ≤ w' ∧ (0 < k → w < w') ∧ Stm i S S3 ∧ S3[S.length]? = some (l.map setD)) ?_ ?_
    · intro N2 hN2
      walk_at "go"
      refine r_both ?_ ?_
      · intro hk0
        have hk0 : 0 < k := by have := of_decide_eq_true hk0; omega
        walk_at "go"
        refine i_draw (by decide) (by decide) hI.stm.pen fun y S3 y0 y1 s3 => ?_
        walk_at "go"
        refine i_draw (by decide) (by decide) s3.pen fun z S4 z0 z1 s4 => ?_
        obtain ⟨n, rfl⟩ := Int.eq_ofNat_of_zero_le z0
        walk_at "go"
        refine i_made (b := 1 + n) (by omega) (by omega) (lt9000 (by omega)) ?_
        walk_at "go"
        have hsz : Sz 4 (Rat.normalize (1 + y) (1 + n) (by omega)) := norm_sz _ (by omega) (by omega)
        refine i_sum (hI.sz.mono (by omega)) (hsz.mono (by omega)) ?_
        have hps := norm_pos (a := 1 + y) (b := 1 + n) (by omega) (by omega)
        have hw0 := of_num hI.w0
        have hlt : w < w + Rat.normalize (1 + y) (1 + n) (by omega) := by grind
        walk_at "go"
        exact hN2 _ _ ⟨_, _, _, rfl, num_of (by grind), (hI.sz.add hsz).mono (by omega), Rat.le_of_lt hlt, fun _ => hlt, hI.stm.trans (s3.trans s4), (s3.trans s4).at_ hi hI.at_⟩
      · intro hk0
        have hk0 : k = 0 := by have := of_decide_eq_false hk0; omega
        subst hk0
        walk_at "go"
        refine i_draw (by decide) (by decide) hI.stm.pen fun u S3 u0 u1 s5 => ?_
        walk_at "go"
        refine r_both ?_ ?_
        · intro hu
          walk_at "go"
          refine i_draw (by decide) (by decide) s5.pen fun y S4 y0 y1 s3 => ?_
          walk_at "go"
          refine i_draw (by decide) (by decide) s3.pen fun z S5 z0 z1 s4 => ?_
          obtain ⟨n, rfl⟩ := Int.eq_ofNat_of_zero_le z0
          walk_at "go"
          refine i_made (b := 1 + n) (by omega) (by omega) (lt9000 (by omega)) ?_
          walk_at "go"
          have hsz : Sz 4 (Rat.normalize (1 + y) (1 + n) (by omega)) := norm_sz _ (by omega) (by omega)
          refine i_sum (hI.sz.mono (by omega)) (hsz.mono (by omega)) ?_
          have hps := norm_pos (a := 1 + y) (b := 1 + n) (by omega) (by omega)
          have hw0 := of_num hI.w0
          have hlt : w < w + Rat.normalize (1 + y) (1 + n) (by omega) := by grind
          walk_at "go"
          exact hN2 _ _ ⟨_, _, _, rfl, num_of (by grind), (hI.sz.add hsz).mono (by omega), Rat.le_of_lt hlt, fun _ => hlt, hI.stm.trans (s5.trans (s3.trans s4)), (s5.trans (s3.trans s4)).at_ hi hI.at_⟩
        · intro hu
          walk_at "go"
          exact hN2 _ _ ⟨_, _, _, rfl, hI.w0, hI.sz.mono (by omega), Rat.le_refl, fun h => absurd h (by omega), hI.stm.trans s5, s5.at_ hi hI.at_⟩
    · intro env1 S3 ⟨w', a, b, henv, h0, hs, hw, hw2, st, hS⟩
      subst henv
      walk_at "go"
      refine i_draw (by decide) (by decide) st.pen fun u S4 u0 u1 s4 => ?_
      refine r_ixIn u0 u1 fun d hd => ?_
      obtain ⟨c, rfl, c0, c1⟩ : ∃ c : Int, d = .int c ∧ 0 < c ∧ c < 100 := by
        rcases of_pair hd with rfl | rfl
        · exact ⟨9, rfl, by decide, by decide⟩
        · exact ⟨99, rfl, by decide, by decide⟩
      refine i_draw c0 (by omega) s4.pen fun y S5 y0 y1 s5 => ?_
      walk_at "go"
      refine i_draw (by decide) (by decide) s5.pen fun z S6 z0 z1 s6 => ?_
      obtain ⟨n, rfl⟩ := Int.eq_ofNat_of_zero_le z0
      walk_at "go"
      refine i_made (b := 1 + n) (by omega) (by omega) (lt9000 (by omega)) ?_
      have hsz : Sz 8 (Rat.normalize (1 + y) (1 + n) (by omega)) := norm_sz _ (by omega) (by omega)
      have hne := norm_ne (a := 1 + y) (b := 1 + n) (by omega) (by omega)
      walk_at "go"
      refine ⟨_, rfl, ?_⟩
      walk_at "go"
      refine i_draw (by decide) (by decide) s6.pen fun v S7 v0 v1 s7 => ?_
      refine r_ixIn v0 v1 fun d hd => ?_
      obtain ⟨j, rfl, hj, hjs⟩ : ∃ j : Rat, d = pt j ∧ j.num ≠ 0 ∧ Sz 8 j := by
        rcases of_pair hd with rfl | rfl
        · exact ⟨_, rfl, hne, hsz⟩
        · refine ⟨- _, neg_pt, ?_, hsz.neg⟩
          rw [Rat.neg_num]
          omega
      have st7 := s4.trans (s5.trans (s6.trans s7))
      have at7 := st7.at_ hi hS
      walk_at "go"
      refine ⟨_, at7, ?_, ?_⟩
      · rw [List.length_map, hI.len]
        exact Nat.lt_of_lt_of_le (show k < 100 by omega) (by decide)
      exact hN _ _ ⟨w', _, _, _, rfl, hI.next (Nat.le_refl _) hi hk6 h0 hs hw hw2 hj hjs (st.trans st7) at7⟩
  · intro env S2 ⟨w, l, a, b, henv, hI⟩
    subst henv
    rw [ints_len] at hI
    refine ⟨trivial, ?_⟩
    walk_at "go"
    refine r_tupM hI.at_ ?_
    exact h l _ (hI.ok (by omega)) hI.stm
abbrev N_law_flags : List Str := ["_law_e", "_law_marks", "_law_words", "_law_word_here"]
theorem sc_law_flags : FnScope N_law_flags ["_law_e"] (defScope s_law_flags) := ⟨rfl, rfl, rfl, by decide +kernel, rfl, by decide +kernel, by decide +kernel⟩
theorem ok_law_flags {f : Addr} {fd : FuncData} (F : FunD K "_law_flags" "_law_flags" (defArgs s_law_flags) (defBody s_law_flags) (defScope s_law_flags) [] [] f fd) (fr : Fr mg) (o_NoPart : mg "NoPart" = some (.ref (He.ga K "NoPart"))) (o_NoNumber : mg "NoNumber" = some (.ref (He.ga K "NoNumber"))) (o_NoMoment : mg "NoMoment" = some (.ref (He.ga K "NoMoment"))) (o_NoClock : mg "NoClock" = some (.ref (He.ga K "NoClock"))) (o_NoHour : mg "NoHour" = some (.ref (He.ga K "NoHour"))) (o_NoTelling : mg "NoTelling" = some (.ref (He.ga K "NoTelling"))) (o_NoTellings : mg "NoTellings" = some (.ref (He.ga K "NoTellings"))) (o_NoRow : mg "NoRow" = some (.ref (He.ga K "NoRow"))) (o_Apart : mg "Apart" = some (.ref (He.ga K "Apart"))) (o_Twice : mg "Twice" = some (.ref (He.ga K "Twice"))) (o_Missing : mg "Missing" = some (.ref (He.ga K "Missing"))) (o_NoDeed : mg "NoDeed" = some (.ref (He.ga K "NoDeed"))) (o_NoAir : mg "NoAir" = some (.ref (He.ga K "NoAir"))) (o_NoSignal : mg "NoSignal" = some (.ref (He.ga K "NoSignal"))) (o_NoQuarrel : mg "NoQuarrel" = some (.ref (He.ga K "NoQuarrel"))) (o_NoCarriage : mg "NoCarriage" = some (.ref (He.ga K "NoCarriage"))) (o_NoLine : mg "NoLine" = some (.ref (He.ga K "NoLine"))) (o_TooMany : mg "TooMany" = some (.ref (He.ga K "TooMany"))) (o_NoText : mg "NoText" = some (.ref (He.ga K "NoText"))) (EI : ∀ x ∈ known, ErI K x) : FnS P w K mg base T 1 f fd ["_law_e"] (pfE K known) := by
  refine fn_okS F sc_law_flags fun cdv A outer s H a oe C dd hr hz hv => ?_
  by_cases hx : ExcC K C ∧ dd = none
  · obtain ⟨EC, rfl⟩ := hx
    refine ⟨_, (psd_cons (psd_set 1 sc_law_flags.nd rfl (Or.inl rfl) (pd_lst (pad_cons (pd_callB (cD_isP (a := a) (C := C) (List.mem_singleton.mpr rfl) hz hv EC) rfl fr.isinstance_ (by decide +kernel) (pad_cons (pd_var 0) (pad_cons (pd_ob rfl o_NoPart) pad_nil))) (pad_cons (pd_callB (cD_isP (a := a) (C := C) (List.mem_singleton.mpr rfl) hz hv EC) rfl fr.isinstance_ (by decide +kernel) (pad_cons (pd_var 0) (pad_cons (pd_ob rfl o_NoNumber) pad_nil))) (pad_cons (pd_callB (cD_isP (a := a) (C := C) (List.mem_singleton.mpr rfl) hz hv EC) rfl fr.isinstance_ (by decide +kernel) (pad_cons (pd_var 0) (pad_cons (pd_ob rfl o_NoMoment) pad_nil))) (pad_cons (pd_callB (cD_isP (a := a) (C := C) (List.mem_singleton.mpr rfl) hz hv EC) rfl fr.isinstance_ (by decide +kernel) (pad_cons (pd_var 0) (pad_cons (pd_ob rfl o_NoClock) pad_nil))) pad_nil)))))) (psd_cons (psd_set 1 sc_law_flags.nd rfl (Or.inl rfl) (pd_bin opD_add (pd_var 1) (pd_lst (pad_cons (pd_callB (cD_isP (a := a) (C := C) (List.mem_singleton.mpr rfl) hz hv EC) rfl fr.isinstance_ (by decide +kernel) (pad_cons (pd_var 0) (pad_cons (pd_ob rfl o_NoHour) pad_nil))) (pad_cons (pd_callB (cD_isP (a := a) (C := C) (List.mem_singleton.mpr rfl) hz hv EC) rfl fr.isinstance_ (by decide +kernel) (pad_cons (pd_var 0) (pad_cons (pd_ob rfl o_NoTelling) pad_nil))) (pad_cons (pd_callB (cD_isP (a := a) (C := C) (List.mem_singleton.mpr rfl) hz hv EC) rfl fr.isinstance_ (by decide +kernel) (pad_cons (pd_var 0) (pad_cons (pd_ob rfl o_NoTellings) pad_nil))) (pad_cons (pd_callB (cD_isP (a := a) (C := C) (List.mem_singleton.mpr rfl) hz hv EC) rfl fr.isinstance_ (by decide +kernel) (pad_cons (pd_var 0) (pad_cons (pd_ob rfl o_NoRow) pad_nil))) pad_nil))))))) (psd_cons (psd_set 1 sc_law_flags.nd rfl (Or.inl rfl) (pd_bin opD_add (pd_var 1) (pd_lst (pad_cons (pd_callB (cD_isP (a := a) (C := C) (List.mem_singleton.mpr rfl) hz hv EC) rfl fr.isinstance_ (by decide +kernel) (pad_cons (pd_var 0) (pad_cons (pd_ob rfl o_Apart) pad_nil))) (pad_cons (pd_callB (cD_isP (a := a) (C := C) (List.mem_singleton.mpr rfl) hz hv EC) rfl fr.isinstance_ (by decide +kernel) (pad_cons (pd_var 0) (pad_cons (pd_ob rfl o_Twice) pad_nil))) (pad_cons (pd_callB (cD_isP (a := a) (C := C) (List.mem_singleton.mpr rfl) hz hv EC) rfl fr.isinstance_ (by decide +kernel) (pad_cons (pd_var 0) (pad_cons (pd_ob rfl o_Missing) pad_nil))) (pad_cons (pd_callB (cD_isP (a := a) (C := C) (List.mem_singleton.mpr rfl) hz hv EC) rfl fr.isinstance_ (by decide +kernel) (pad_cons (pd_var 0) (pad_cons (pd_ob rfl o_NoDeed) pad_nil))) pad_nil))))))) (psd_cons (psd_set 1 sc_law_flags.nd rfl (Or.inl rfl) (pd_bin opD_add (pd_var 1) (pd_lst (pad_cons (pd_callB (cD_isP (a := a) (C := C) (List.mem_singleton.mpr rfl) hz hv EC) rfl fr.isinstance_ (by decide +kernel) (pad_cons (pd_var 0) (pad_cons (pd_ob rfl o_NoAir) pad_nil))) (pad_cons (pd_callB (cD_isP (a := a) (C := C) (List.mem_singleton.mpr rfl) hz hv EC) rfl fr.isinstance_ (by decide +kernel) (pad_cons (pd_var 0) (pad_cons (pd_ob rfl o_NoSignal) pad_nil))) (pad_cons (pd_callB (cD_isP (a := a) (C := C) (List.mem_singleton.mpr rfl) hz hv EC) rfl fr.isinstance_ (by decide +kernel) (pad_cons (pd_var 0) (pad_cons (pd_ob rfl o_NoQuarrel) pad_nil))) (pad_cons (pd_callB (cD_isP (a := a) (C := C) (List.mem_singleton.mpr rfl) hz hv EC) rfl fr.isinstance_ (by decide +kernel) (pad_cons (pd_var 0) (pad_cons (pd_ob rfl o_NoCarriage) pad_nil))) pad_nil))))))) (psd_cons (psd_set 1 sc_law_flags.nd rfl (Or.inl rfl) (pd_bin opD_add (pd_var 1) (pd_lst (pad_cons (pd_callB (cD_isP (a := a) (C := C) (List.mem_singleton.mpr rfl) hz hv EC) rfl fr.isinstance_ (by decide +kernel) (pad_cons (pd_var 0) (pad_cons (pd_ob rfl o_NoLine) pad_nil))) (pad_cons (pd_callB (cD_isP (a := a) (C := C) (List.mem_singleton.mpr rfl) hz hv EC) rfl fr.isinstance_ (by decide +kernel) (pad_cons (pd_var 0) (pad_cons (pd_ob rfl o_TooMany) pad_nil))) (pad_cons (pd_callB (cD_isP (a := a) (C := C) (List.mem_singleton.mpr rfl) hz hv EC) rfl fr.isinstance_ (by decide +kernel) (pad_cons (pd_var 0) (pad_cons (pd_ob rfl o_NoText) pad_nil))) pad_nil)))))) (psd_cons (psd_if (ptd_w (pwd_or (ptd_not (ptd_val (pd_callB (cD_isP (a := a) (C := C) (List.mem_singleton.mpr rfl) hz hv EC) rfl fr.isinstance_ (by decide +kernel) (pad_cons (pd_var 0) (pad_cons (pd_ty (n := "ValueError") rfl fr.ValueError_ (by decide +kernel)) pad_nil))))) (pwd_or1 (ptd_val (pd_callB (cD_isP (a := a) (C := C) (List.mem_singleton.mpr rfl) hz hv EC) rfl fr.isinstance_ (by decide +kernel) (pad_cons (pd_var 0) (pad_cons (pd_tup (pad_cons (pd_ty (n := "LookupError") rfl fr.LookupError_ (by decide +kernel)) (pad_cons (pd_ty (n := "TypeError") rfl fr.TypeError_ (by decide +kernel)) (pad_cons (pd_ty (n := "ArithmeticError") rfl fr.ArithmeticError_ (by decide +kernel)) (pad_cons (pd_ty (n := "RuntimeError") rfl fr.RuntimeError_ (by decide +kernel)) pad_nil))))) pad_nil))))))) (psd_one (psd_ret (pd_tup (pad_cons pd_str pad_nil)))) psd_nil) (psd_cons (psd_if (ptd_cmp (opD_ne (roomH64 hr)) (nobehind _ (by decide) (by decide)) (pd_bmL PySem.F.slot_list_count ty_list_count (mtD_count (roomH65 hr)) (pd_var 1) (pad_cons pd_bl pad_nil)) pd_int) (psd_one (psd_ret (pd_tup (pad_cons pd_str pad_nil)))) psd_nil) (psd_cons (psd_set 2 sc_law_flags.nd rfl (Or.inl rfl) (pd_lst (pad_cons pd_str (pad_cons pd_str (pad_cons pd_str (pad_cons pd_str (pad_cons pd_str (pad_cons pd_str (pad_cons pd_str (pad_cons pd_str (pad_cons pd_str (pad_cons pd_str (pad_cons pd_str pad_nil))))))))))))) (psd_cons (psd_set 3 sc_law_flags.nd rfl (Or.inl rfl) (pd_ix ixD (pd_bin opD_add (pd_var 2) (pd_lst (pad_cons pd_str (pad_cons pd_str (pad_cons pd_str (pad_cons pd_str (pad_cons pd_str (pad_cons pd_str (pad_cons pd_str (pad_cons pd_str pad_nil)))))))))) (pd_bmL PySem.F.slot_list_index ty_list_index (mtD_index (roomH65 hr)) (pd_var 1) (pad_cons pd_bl pad_nil)))) (psd_cons (psd_if (ptd_cmp (opD_eq (roomH64 hr)) (nobehind _ (by decide) (by decide)) (pd_var 3) pd_str) (psd_one (psd_ret (pd_tup (pad_cons (pd_var 3) (pad_cons pd_never (pad_cons pd_never pad_nil)))))) psd_nil) (psd_one (psd_ret (pd_if (ptd_cmp (opD_eq (roomH64 hr)) (nobehind _ (by decide) (by decide)) (pd_var 3) pd_str) (pd_tup (pad_cons (pd_var 3) (pad_cons pd_never pad_nil))) (pd_tup (pad_cons (pd_var 3) pad_nil))))))))))))))), fun ds S R hl hp => ?_⟩
    obtain ⟨x, hx, rfl, _, rfl, h⟩ := hp
    have E := EI x hx
    rcases (show x = "NoPart" ∨ x = "NoMoment" ∨ x = "NoHour" ∨ x = "NoClock" by simpa using hx) with rfl | rfl | rfl | rfl
    · walk_at "go"
      refine r_isP E (by decide) (show decide ((("NoPart" : Str)) = "NoPart") = true by decide) ?_
      walk_at "go"
      refine r_isP E (by decide) (show decide ((("NoPart" : Str)) = "NoNumber") = false by decide) ?_
      walk_at "go"
      refine r_isP E (by decide) (show decide ((("NoPart" : Str)) = "NoMoment") = false by decide) ?_
      walk_at "go"
      refine r_isP E (by decide) (show decide ((("NoPart" : Str)) = "NoClock") = false by decide) ?_
      walk_at "go"
      refine r_isP E (by decide) (show decide ((("NoPart" : Str)) = "NoHour") = false by decide) ?_
      walk_at "go"
      refine r_isP E (by decide) (show decide ((("NoPart" : Str)) = "NoTelling") = false by decide) ?_
      walk_at "go"
      refine r_isP E (by decide) (show decide ((("NoPart" : Str)) = "NoTellings") = false by decide) ?_
      walk_at "go"
      refine r_isP E (by decide) (show decide ((("NoPart" : Str)) = "NoRow") = false by decide) ?_
      walk_at "go"
      refine r_isP E (by decide) (show decide ((("NoPart" : Str)) = "Apart") = false by decide) ?_
      walk_at "go"
      refine r_isP E (by decide) (show decide ((("NoPart" : Str)) = "Twice") = false by decide) ?_
      walk_at "go"
      refine r_isP E (by decide) (show decide ((("NoPart" : Str)) = "Missing") = false by decide) ?_
      walk_at "go"
      refine r_isP E (by decide) (show decide ((("NoPart" : Str)) = "NoDeed") = false by decide) ?_
      walk_at "go"
      refine r_isP E (by decide) (show decide ((("NoPart" : Str)) = "NoAir") = false by decide) ?_
      walk_at "go"
      refine r_isP E (by decide) (show decide ((("NoPart" : Str)) = "NoSignal") = false by decide) ?_
      walk_at "go"
      refine r_isP E (by decide) (show decide ((("NoPart" : Str)) = "NoQuarrel") = false by decide) ?_
      walk_at "go"
      refine r_isP E (by decide) (show decide ((("NoPart" : Str)) = "NoCarriage") = false by decide) ?_
      walk_at "go"
      refine r_isP E (by decide) (show decide ((("NoPart" : Str)) = "NoLine") = false by decide) ?_
      walk_at "go"
      refine r_isP E (by decide) (show decide ((("NoPart" : Str)) = "TooMany") = false by decide) ?_
      walk_at "go"
      refine r_isP E (by decide) (show decide ((("NoPart" : Str)) = "NoText") = false by decide) ?_
      walk_at "go"
      refine r_isV E ?_
      walk_at "go"
      refine r_isN E ?_
      walk_at "go"
      refine r_cntB (bs := [true, false, false, false, false, false, false, false, false, false, false, false, false, false, false, false, false, false, false]) (by decide +kernel) ?_
      walk_at "go"
      refine r_idxB (bs := [true, false, false, false, false, false, false, false, false, false, false, false, false, false, false, false, false, false, false]) (j := 0) (by decide +kernel) rfl rfl ?_
      walk_at "go"
      refine r_ixL (d := .str "part") rfl ?_
      walk_at "go"
      exact h
    · walk_at "go"
      refine r_isP E (by decide) (show decide ((("NoMoment" : Str)) = "NoPart") = false by decide) ?_
      walk_at "go"
      refine r_isP E (by decide) (show decide ((("NoMoment" : Str)) = "NoNumber") = false by decide) ?_
      walk_at "go"
      refine r_isP E (by decide) (show decide ((("NoMoment" : Str)) = "NoMoment") = true by decide) ?_
      walk_at "go"
      refine r_isP E (by decide) (show decide ((("NoMoment" : Str)) = "NoClock") = false by decide) ?_
      walk_at "go"
      refine r_isP E (by decide) (show decide ((("NoMoment" : Str)) = "NoHour") = false by decide) ?_
      walk_at "go"
      refine r_isP E (by decide) (show decide ((("NoMoment" : Str)) = "NoTelling") = false by decide) ?_
      walk_at "go"
      refine r_isP E (by decide) (show decide ((("NoMoment" : Str)) = "NoTellings") = false by decide) ?_
      walk_at "go"
      refine r_isP E (by decide) (show decide ((("NoMoment" : Str)) = "NoRow") = false by decide) ?_
      walk_at "go"
      refine r_isP E (by decide) (show decide ((("NoMoment" : Str)) = "Apart") = false by decide) ?_
      walk_at "go"
      refine r_isP E (by decide) (show decide ((("NoMoment" : Str)) = "Twice") = false by decide) ?_
      walk_at "go"
      refine r_isP E (by decide) (show decide ((("NoMoment" : Str)) = "Missing") = false by decide) ?_
      walk_at "go"
      refine r_isP E (by decide) (show decide ((("NoMoment" : Str)) = "NoDeed") = false by decide) ?_
      walk_at "go"
      refine r_isP E (by decide) (show decide ((("NoMoment" : Str)) = "NoAir") = false by decide) ?_
      walk_at "go"
      refine r_isP E (by decide) (show decide ((("NoMoment" : Str)) = "NoSignal") = false by decide) ?_
      walk_at "go"
      refine r_isP E (by decide) (show decide ((("NoMoment" : Str)) = "NoQuarrel") = false by decide) ?_
      walk_at "go"
      refine r_isP E (by decide) (show decide ((("NoMoment" : Str)) = "NoCarriage") = false by decide) ?_
      walk_at "go"
      refine r_isP E (by decide) (show decide ((("NoMoment" : Str)) = "NoLine") = false by decide) ?_
      walk_at "go"
      refine r_isP E (by decide) (show decide ((("NoMoment" : Str)) = "TooMany") = false by decide) ?_
      walk_at "go"
      refine r_isP E (by decide) (show decide ((("NoMoment" : Str)) = "NoText") = false by decide) ?_
      walk_at "go"
      refine r_isV E ?_
      walk_at "go"
      refine r_isN E ?_
      walk_at "go"
      refine r_cntB (bs := [false, false, true, false, false, false, false, false, false, false, false, false, false, false, false, false, false, false, false]) (by decide +kernel) ?_
      walk_at "go"
      refine r_idxB (bs := [false, false, true, false, false, false, false, false, false, false, false, false, false, false, false, false, false, false, false]) (j := 2) (by decide +kernel) rfl rfl ?_
      walk_at "go"
      refine r_ixL (d := .str "moment") rfl ?_
      walk_at "go"
      exact h
    · walk_at "go"
      refine r_isP E (by decide) (show decide ((("NoHour" : Str)) = "NoPart") = false by decide) ?_
      walk_at "go"
      refine r_isP E (by decide) (show decide ((("NoHour" : Str)) = "NoNumber") = false by decide) ?_
      walk_at "go"
      refine r_isP E (by decide) (show decide ((("NoHour" : Str)) = "NoMoment") = false by decide) ?_
      walk_at "go"
      refine r_isP E (by decide) (show decide ((("NoHour" : Str)) = "NoClock") = false by decide) ?_
      walk_at "go"
      refine r_isP E (by decide) (show decide ((("NoHour" : Str)) = "NoHour") = true by decide) ?_
      walk_at "go"
      refine r_isP E (by decide) (show decide ((("NoHour" : Str)) = "NoTelling") = false by decide) ?_
      walk_at "go"
      refine r_isP E (by decide) (show decide ((("NoHour" : Str)) = "NoTellings") = false by decide) ?_
      walk_at "go"
      refine r_isP E (by decide) (show decide ((("NoHour" : Str)) = "NoRow") = false by decide) ?_
      walk_at "go"
      refine r_isP E (by decide) (show decide ((("NoHour" : Str)) = "Apart") = false by decide) ?_
      walk_at "go"
      refine r_isP E (by decide) (show decide ((("NoHour" : Str)) = "Twice") = false by decide) ?_
      walk_at "go"
      refine r_isP E (by decide) (show decide ((("NoHour" : Str)) = "Missing") = false by decide) ?_
      walk_at "go"
      refine r_isP E (by decide) (show decide ((("NoHour" : Str)) = "NoDeed") = false by decide) ?_
      walk_at "go"
      refine r_isP E (by decide) (show decide ((("NoHour" : Str)) = "NoAir") = false by decide) ?_
      walk_at "go"
      refine r_isP E (by decide) (show decide ((("NoHour" : Str)) = "NoSignal") = false by decide) ?_
      walk_at "go"
      refine r_isP E (by decide) (show decide ((("NoHour" : Str)) = "NoQuarrel") = false by decide) ?_
      walk_at "go"
      refine r_isP E (by decide) (show decide ((("NoHour" : Str)) = "NoCarriage") = false by decide) ?_
      walk_at "go"
      refine r_isP E (by decide) (show decide ((("NoHour" : Str)) = "NoLine") = false by decide) ?_
      walk_at "go"
      refine r_isP E (by decide) (show decide ((("NoHour" : Str)) = "TooMany") = false by decide) ?_
      walk_at "go"
      refine r_isP E (by decide) (show decide ((("NoHour" : Str)) = "NoText") = false by decide) ?_
      walk_at "go"
      refine r_isV E ?_
      walk_at "go"
      refine r_isN E ?_
      walk_at "go"
      refine r_cntB (bs := [false, false, false, false, true, false, false, false, false, false, false, false, false, false, false, false, false, false, false]) (by decide +kernel) ?_
      walk_at "go"
      refine r_idxB (bs := [false, false, false, false, true, false, false, false, false, false, false, false, false, false, false, false, false, false, false]) (j := 4) (by decide +kernel) rfl rfl ?_
      walk_at "go"
      refine r_ixL (d := .str "hour") rfl ?_
      walk_at "go"
      exact h
    · walk_at "go"
      refine r_isP E (by decide) (show decide ((("NoClock" : Str)) = "NoPart") = false by decide) ?_
      walk_at "go"
      refine r_isP E (by decide) (show decide ((("NoClock" : Str)) = "NoNumber") = false by decide) ?_
      walk_at "go"
      refine r_isP E (by decide) (show decide ((("NoClock" : Str)) = "NoMoment") = false by decide) ?_
      walk_at "go"
      refine r_isP E (by decide) (show decide ((("NoClock" : Str)) = "NoClock") = true by decide) ?_
      walk_at "go"
      refine r_isP E (by decide) (show decide ((("NoClock" : Str)) = "NoHour") = false by decide) ?_
      walk_at "go"
      refine r_isP E (by decide) (show decide ((("NoClock" : Str)) = "NoTelling") = false by decide) ?_
      walk_at "go"
      refine r_isP E (by decide) (show decide ((("NoClock" : Str)) = "NoTellings") = false by decide) ?_
      walk_at "go"
      refine r_isP E (by decide) (show decide ((("NoClock" : Str)) = "NoRow") = false by decide) ?_
      walk_at "go"
      refine r_isP E (by decide) (show decide ((("NoClock" : Str)) = "Apart") = false by decide) ?_
      walk_at "go"
      refine r_isP E (by decide) (show decide ((("NoClock" : Str)) = "Twice") = false by decide) ?_
      walk_at "go"
      refine r_isP E (by decide) (show decide ((("NoClock" : Str)) = "Missing") = false by decide) ?_
      walk_at "go"
      refine r_isP E (by decide) (show decide ((("NoClock" : Str)) = "NoDeed") = false by decide) ?_
      walk_at "go"
      refine r_isP E (by decide) (show decide ((("NoClock" : Str)) = "NoAir") = false by decide) ?_
      walk_at "go"
      refine r_isP E (by decide) (show decide ((("NoClock" : Str)) = "NoSignal") = false by decide) ?_
      walk_at "go"
      refine r_isP E (by decide) (show decide ((("NoClock" : Str)) = "NoQuarrel") = false by decide) ?_
      walk_at "go"
      refine r_isP E (by decide) (show decide ((("NoClock" : Str)) = "NoCarriage") = false by decide) ?_
      walk_at "go"
      refine r_isP E (by decide) (show decide ((("NoClock" : Str)) = "NoLine") = false by decide) ?_
      walk_at "go"
      refine r_isP E (by decide) (show decide ((("NoClock" : Str)) = "TooMany") = false by decide) ?_
      walk_at "go"
      refine r_isP E (by decide) (show decide ((("NoClock" : Str)) = "NoText") = false by decide) ?_
      walk_at "go"
      refine r_isV E ?_
      walk_at "go"
      refine r_isN E ?_
      walk_at "go"
      refine r_cntB (bs := [false, false, false, true, false, false, false, false, false, false, false, false, false, false, false, false, false, false, false]) (by decide +kernel) ?_
      walk_at "go"
      refine r_idxB (bs := [false, false, false, true, false, false, false, false, false, false, false, false, false, false, false, false, false, false, false]) (j := 3) (by decide +kernel) rfl rfl ?_
      walk_at "go"
      refine r_ixL (d := .str "clock") rfl ?_
      walk_at "go"
      exact h
  · exact ⟨_, pss_none, fun ds S R hl hp => by
      obtain ⟨y, hy, rfl, e2, _⟩ := hp
      exact (hx ⟨(EI y hy).c, e2⟩).elim⟩
abbrev N_law_word : List Str := ["_law_call", "_law_e"]
theorem sc_law_word : FnScope N_law_word ["_law_call"] (defScope s_law_word) := ⟨rfl, rfl, rfl, by decide +kernel, rfl, by decide +kernel, by decide +kernel⟩
theorem ok_law_word {g f : Addr} {gd fd : FuncData} (F : FunD K "_law_word" "_law_word" (defArgs s_law_word) (defBody s_law_word) (defScope s_law_word) [] [] g gd) (hg : mg "_law_word" = some (.ref g)) (f_flags : FnS P w K mg base T 1 f fd ["_law_e"] (pfE K known)) (hf : mg "_law_flags" = some (.ref f)) (kf : PySem.W.keepIn K (.ref f) = true) (bf : L2.Binds K fd ["_law_e"] []) (o_ClockError : mg "ClockError" = some (.ref (He.ga K "ClockError"))) (k : Nat) (hk : 2 ≤ k + 1) : TryD P w K mg base "_law_word" k (TTry K T (He.ga K "ClockError") (pfE K known) tellT) := by
  obtain ⟨oc, od, dV, kV, doc, pm, an, cdv, ct, osl, e, lk, hcd, d1, d2⟩ := id F.ex
  have bw := FunD.bindsN F (ps := ["_law_call"]) (fun _ _ _ _ _ _ us hl => match us, hl with | [_], _ => rfl)
  subst e
  refine ⟨⟨g, "_law_call", N_law_word, _, _, _, dV, kV, doc, pm, cdv, ct, oc, an, od, osl, hg, F.kp, lk, hcd, bw, sc_law_word, rfl, .inl rfl, by decide, by decide, ?_⟩⟩
  intro X q e1 e2 e3 e4 e5 hr
  subst e1 e2 e3 e4 e5
  exact try_givesT (k := 1) f_flags (hr.mono hk) rfl hf kf bf rfl o_ClockError (by decide) (by decide) rfl (by decide) (by decide) (by decide)
abbrev N_law_is_part : List Str := ["_law_thing", "_law_one"]
theorem sc_law_is_part : FnScope N_law_is_part ["_law_thing"] (defScope s_law_is_part) := ⟨rfl, rfl, rfl, by decide +kernel, rfl, by decide +kernel, by decide +kernel⟩
theorem ok_law_is_part {f : Addr} {fd : FuncData} (F : FunD K "_law_is_part" "_law_is_part" (defArgs s_law_is_part) (defBody s_law_is_part) (defScope s_law_is_part) [] [] f fd) (fr : Fr mg) (c_law_made : Cal false P w K mg base T "_law_made" 1 2 [] p_law_made) : FnD false P w K mg base T 2 f fd ["_law_thing"] p_law_is_part := by
  refine fn_okD F sc_law_is_part fun cdv A outer s H E hr hG0 cc => ?_
  have hG : GdOk false (cxOf (L2.CX P w) P w K mg base N_law_is_part "_law_is_part" (defScope s_law_is_part) f cdv A outer s H E).A := hG0
  have tk : Takes (cxOf (L2.CX P w) P w K mg base N_law_is_part "_law_is_part" (defScope s_law_is_part) f cdv A outer s H E) (fun cls d _ H' => E cls d H') := takes_of rfl rfl rfl rfl
  have po : PassesOwn (model P w) (cxOf (L2.CX P w) P w K mg base N_law_is_part "_law_is_part" (defScope s_law_is_part) f cdv A outer s H E).A (cxOf (L2.CX P w) P w K mg base N_law_is_part "_law_is_part" (defScope s_law_is_part) f cdv A outer s H E).env (cxOf (L2.CX P w) P w K mg base N_law_is_part "_law_is_part" (defScope s_law_is_part) f cdv A outer s H E).xe := passes_of rfl
  refine ⟨_, (psd_cons (psd_if (ptd_w (pwd_or (ptd_not (ptd_val (pd_callB (cD_isi isi_tup) rfl fr.isinstance_ (by decide +kernel) (pad_cons (pd_var 0) (pad_cons (pd_ty (n := "tuple") rfl fr.tuple_ (by decide +kernel)) pad_nil))))) (pwd_or1 (ptd_cmp (opD_ne hr.units) (nobehind _ (by decide) (by decide)) (pd_callB cD_len rfl fr.len_ (by decide +kernel) (pad_cons (pd_var 0) pad_nil)) pd_int)))) (psd_one (psd_ret pd_bl)) psd_nil) (psd_cons (psd_if (ptd_not (ptd_val (pd_callB (cD_all rfl) rfl fr.all_ (by decide +kernel) (pad_cons (pd_lc (own := [("_law_one", 1)]) (b := (.nm 1)) rfl sc_law_is_part.nd (pid_tup (pd_var 0)) (blkOk_by (own := [("_law_one", 1)]) (N := N_law_is_part) (sc := defScope s_law_is_part) (by decide +kernel)) (by intro i hi; simp [Bd.all] at hi ⊢; omega) (fun _ _ _ _ _ => pg_name (i := 1) sc_law_is_part.nd rfl (Or.inl rfl)) (fun _ _ _ _ _ => ptsd_nil) (fun _ _ _ _ _ => (pd_and (pd_callB (cD_isi isi_int) rfl fr.isinstance_ (by decide +kernel) (pad_cons (pd_var 1) (pad_cons (pd_ty (n := "int") rfl fr.int_ (by decide +kernel)) pad_nil))) (pd_one (pd_not (pd_callB (cD_isi isi_bool) rfl fr.isinstance_ (by decide +kernel) (pad_cons (pd_var 1) (pad_cons (pd_ty (n := "bool") rfl fr.bool_ (by decide +kernel)) pad_nil)))))))) pad_nil)))) (psd_one (psd_ret pd_bl)) psd_nil) (psd_one (psd_ret (pd_and (pd_cmp opD_gt (nobehind _ (by decide) (by decide)) (pd_ix ixD (pd_var 0) pd_int) pd_int) (pd_one (pd_cmp (opD_eq hr.units) (nobehind _ (by decide) (by decide)) (pd_own (c_law_made.up (by decide)) hr (hG.le (by decide)) rfl tk (pad_cons (pd_ix ixD (pd_var 0) pd_int) (pad_cons (pd_ix ixD (pd_var 0) pd_int) pad_nil))) (pd_var 0)))))))), fun ds S R Rx hl hp => ?_⟩
  clear hG0 hG tk po hr cc; try clear fr c_law_made
  obtain ⟨d, rfl, hz, h⟩ := hp
  have h0 := hz.1
  have hb : ∀ a b : Int, d = .tup [.int a, .int b] → b.natAbs < 2 ^ 9000 := fun a b e => Nat.lt_of_lt_of_le (hz.2 a b e).2 (Nat.pow_le_pow_right (by decide) (by decide))
  by_cases ht : ∃ a b, d = .tup [a, b]
  · obtain ⟨a, b, rfl⟩ := ht
    obtain ⟨ha, hb'⟩ := Bool.and_eq_true_iff.mp (show (plainD a && plainD b) = true from h0)
    walk_at "go"
    refine ⟨_, rfl, ?_⟩
    refine comp_all (xs := [a, b]) isWhole (by simp) trivial ?_ ?_
    · intro d N hd hN
      have hd : plainD d = true := by
        rcases of_pair hd with rfl | rfl
        · exact ha
        · exact hb'
      walk_at "go"
      cases d <;> first | (cases hd; done) | (walk_at "go"; exact hN)
    refine ⟨_, rfl, ?_⟩
    rw [all_map]
    have e : [a, b].all isWhole = (isWhole a && isWhole b) := by simp
    rw [e]
    cases wa : isWhole a with
    | false =>
      rw [isPart_l wa] at h
      walk_at "go"
      exact h
    | true =>
      cases wb : isWhole b with
      | false =>
        rw [isPart_r wb] at h
        walk_at "go"
        exact h
      | true =>
        obtain ⟨i, rfl⟩ := isWhole_of wa
        obtain ⟨j, rfl⟩ := isWhole_of wb
        have hj9 := hb i j rfl
        walk_at "go"
        have h : R (.bl (decide (0 < j) && decide (Nat.gcd i.natAbs j.natAbs = 1))) S := h
        by_cases hj : 0 < j
        · rw [decide_eq_true hj] at h ⊢
          obtain ⟨n, rfl⟩ := Int.eq_ofNat_of_zero_le (show 0 ≤ j by omega)
          have n0 : n ≠ 0 := by omega
          rw [Int.natAbs_natCast] at h hj9
          walk_at "go"
          refine i_made n0 rfl hj9 ?_
          walk_at "go"
          have e := isPart_int (a := i) n0
          refine ⟨_, _, rfl, rfl, rfl, rfl, ?_⟩
          rw [e]
          exact h
        · rw [decide_eq_false hj] at h ⊢
          walk_at "go"
          exact h
  · have hf : isPart d = false := isPart_2 ht
    rw [hf] at h
    cases d with
    | tup xs =>
      walk_at "go"
      have e : (!decide (((xs.length : Nat) : Int) = 2)) = true := len_2 ht
      rw [e]
      walk_at "go"
      exact h
    | ty n => cases h0
    | ob n => cases h0
    | er n => cases h0
    | ab n => cases h0
    | _ =>
      walk_at "go"
      exact h
end
end DL

set_option maxHeartbeats 4000000
namespace DL
open PySem PySem.Spec PyProof.Rows L2
local macro_rules | `(tactic| walk_at "go1") => `(tactic| first
  | with_reducible refine r_seq ?_ | with_reducible refine r_asg ?_ | with_reducible refine r_ret ?_ | with_reducible refine r_ifS ?_ | with_reducible refine r_drop ?_ | with_reducible refine r_par ?_ | with_reducible refine r_next ?_ | with_reducible refine r_retN ?_
  | ((with_reducible refine' r_var ?hv ?_); (case hv => rfl)) | with_reducible refine r_c ?_ | with_reducible refine r_bin ?_ | with_reducible refine r_un ?_ | with_reducible refine r_as1 ?_ | with_reducible refine r_as0 ?_
  | with_reducible refine r_cb ?_ | with_reducible refine r_call ?_ | with_reducible refine r_B ?_ | with_reducible refine r_notT ?_ | with_reducible refine r_andT ?_ | with_reducible refine r_orT ?_
  | with_reducible refine r_andV ?_ | with_reducible refine r_orV ?_ | with_reducible refine r_notV ?_ | with_reducible refine r_if ?_ | with_reducible refine r_tup ?_ | with_reducible refine r_lst ?_ | with_reducible refine r_mu ?_
  | with_reducible refine r_cut ?_ | with_reducible refine r_p0 ?_ | with_reducible refine r_p1 ?_ | with_reducible refine r_gN ?_ | ((with_reducible refine r_gT ?hv ?_); (case hv => rfl)) | with_reducible refine r_gs1 ?_ | with_reducible refine r_gs0 ?_
  | ((with_reducible refine r_trueR ?hv ?_); (case hv => first | rfl | assumption)) | ((with_reducible refine r_falseR ?hv ?_); (case hv => first | rfl | assumption)) | with_reducible refine r_bl ?_ | with_reducible refine r_in ?_ | with_reducible refine r_two ?_
  | with_reducible refine r_addI ?_ | with_reducible refine r_subI ?_ | with_reducible refine r_mulI ?_ ?_ | with_reducible refine r_divI ?_ ?_ | with_reducible refine r_modI ?_ ?_ | with_reducible refine r_powI ?_ ?_ | with_reducible refine r_negI ?_
  | with_reducible refine r_lt ?_ | with_reducible refine r_le ?_ | with_reducible refine r_gt ?_ | with_reducible refine r_ge ?_ | with_reducible refine r_is ?_ | with_reducible refine r_isNot ?_ | with_reducible refine r_eqI ?_ | with_reducible refine r_neI ?_ | with_reducible refine r_eqS ?_ | with_reducible refine r_neS ?_
  | with_reducible refine r_ixP0 ?_ | with_reducible refine r_ixP1 ?_ | with_reducible refine r_ix0T ?_ | with_reducible refine r_ix1T ?_ | with_reducible refine r_lenT ?_ | with_reducible refine r_lenL ?_ | with_reducible refine r_lenC ?_
  | with_reducible refine r_abs ?_ | with_reducible refine r_max ?_ | with_reducible refine r_min ?_ | with_reducible refine r_intI ?_ | with_reducible refine r_intB ?_ | with_reducible refine r_tupL ?_ | with_reducible refine r_tupT ?_
  | with_reducible refine r_gcd ?_ | ((with_reducible refine r_isi ?hv ?_); (case hv => first | rfl | assumption)) | with_reducible refine r_sizeT ?_ | with_reducible refine r_sizeL ?_)
local macro_rules | `(tactic| walk_at "go") => `(tactic| repeat' walk_at "go1")
local macro_rules | `(tactic| walk_at "go1") => `(tactic| first
  | with_reducible refine r_lc ?_ | with_reducible refine r_wiT ?_ | with_reducible refine r_wiZ ?_ | with_reducible refine r_wiL ?_ | with_reducible refine r_wiR1 ?_ | with_reducible refine r_for ?_ | with_reducible refine r_yes ?_
  | with_reducible refine b_nm ?_ | with_reducible refine r_setD0 ?_ | with_reducible refine r_setD1 ?_ | ((with_reducible refine' r_setDT ?hv ?_); (case hv => rfl)) | with_reducible refine r_setsD ?_ | with_reducible refine r_setsCut ?_ | with_reducible refine b_tp2 ?_ | with_reducible refine r_trueL ?_ | with_reducible refine r_falseL ?_ )

local macro_rules | `(tactic| walk_at "go1") => `(tactic| first
  | with_reducible refine r_size0 ?_ | with_reducible refine r_size3 ?_ | with_reducible refine r_app ?_ | with_reducible refine r_setIx ?_ | ((with_reducible refine' r_sizeG ?hv ?_); (case hv => rfl)) | ((with_reducible refine' r_addG ?hv ?_); (case hv => rfl)) | ((with_reducible refine' r_addTG ?hv ?_); (case hv => rfl))
  | with_reducible refine r_bmL ?_ | with_reducible refine r_isL ?_ | with_reducible refine r_try ?_ | with_reducible refine r_emp ?_ | with_reducible refine r_raise ?_ | with_reducible refine r_chain ?_ | with_reducible refine r_mulGI ?_ ?_
  | with_reducible refine r_wiET ?_ | with_reducible refine r_telLen ?_ | with_reducible refine r_telsLen ?_ | with_reducible refine r_rowLen ?_ | ((with_reducible refine' r_telT ?hv ?_); (case hv => rfl)))

local macro_rules | `(tactic| walk_at "szs") => `(tactic| first
  | assumption
  | ((with_reducible apply Sz.add); walk_at "szs"; walk_at "szs")
  | ((with_reducible apply Sz.sub); walk_at "szs"; walk_at "szs")
  | ((with_reducible apply Sz.mul); walk_at "szs"; walk_at "szs")
  | ((with_reducible apply Sz.neg); walk_at "szs")
  | (apply Pz.sz; assumption) | exact sz0 | exact sz1 | exact sz24
  | ((with_reducible apply sz_abs); walk_at "szs"))
local macro_rules | `(tactic| walk_at "sz") => `(tactic| (apply Sz.mono; walk_at "szs"; exact Nat.le_of_ble_eq_true rfl))
local macro_rules | `(tactic| walk_at "pen") => `(tactic| first | assumption | (apply Stm.pen; assumption) | (apply stm_st; assumption) | (apply stm_st; apply Stm.pen; assumption))
local macro_rules | `(tactic| walk_at "stm") => `(tactic| first | assumption | exact Stm.of (by walk_at "pen") | (refine Stm.trans ?_ (by assumption); walk_at "stm") | (refine Stm.trans ?_ (Stm.new (by walk_at "pen")); walk_at "stm"))
local macro_rules | `(tactic| walk_at "side") => `(tactic| first | assumption | rfl | omega | decide | walk_at "sz" | walk_at "pen")
local macro_rules | `(tactic| walk_at "au") => `(tactic| repeat' walk_at "au1")
local macro_rules | `(tactic| walk_at "au1") => `(tactic| first
  | walk_at "go1"
  | (with_reducible refine i_next ?_; intro r _ _)
  | (with_reducible refine i_draw ?a ?b ?c ?_; (case a => walk_at "side"); (case b => walk_at "side"); (case c => walk_at "pen"); intro x S' _ _ _)
  | (with_reducible refine i_sum_of ?a ?b ?_; (case a => walk_at "sz"); (case b => walk_at "sz"))
  | (with_reducible refine i_difference_of ?a ?b ?_; (case a => walk_at "sz"); (case b => walk_at "sz"))
  | (with_reducible refine i_product_of ?a ?b ?_; (case a => walk_at "sz"); (case b => walk_at "sz"))
  | (with_reducible refine i_is_below ?a ?b ?_; (case a => walk_at "sz"); (case b => walk_at "sz"))
  | (with_reducible refine i_added ?a ?b ?_; (case a => walk_at "sz"); (case b => walk_at "sz"))
  | (with_reducible refine i_less ?a ?b ?_; (case a => walk_at "sz"); (case b => walk_at "sz"))
  | (with_reducible refine i_times ?a ?b ?_; (case a => walk_at "sz"); (case b => walk_at "sz"))
  | (with_reducible refine i_is_less ?a ?b ?_; (case a => walk_at "sz"); (case b => walk_at "sz"))
  | (with_reducible refine i_sum ?a ?b ?_; (case a => walk_at "sz"); (case b => walk_at "sz"))
  | (with_reducible refine i_rest ?a ?b ?_; (case a => walk_at "sz"); (case b => walk_at "sz"))
  | (with_reducible refine i_prod ?a ?b ?_; (case a => walk_at "sz"); (case b => walk_at "sz"))
  | (with_reducible refine i_under ?a ?b ?_; (case a => walk_at "sz"); (case b => walk_at "sz"))
  | with_reducible refine i_is_part_pt ?_
  | with_reducible refine r_intB ?_
  | (with_reducible refine r_rng1 ?a ?b ?_; (case a => decide); (case b => decide)) | with_reducible refine r_ix0L ?_ | with_reducible refine r_muE ?_ | with_reducible refine r_itL ?_ | with_reducible refine r_itT ?_
  | with_reducible refine r_par3 ?_ | with_reducible refine r_three ?_ | with_reducible refine r_gSub ?_ | with_reducible refine r_lstM ?_ | with_reducible refine r_lstT ?_ | with_reducible refine r_turn ?_ | with_reducible refine r_callK ?_
  | with_reducible refine i_opposite ?_
  | ((with_reducible refine' r_ixT ?hv ?_); (case hv => rfl))
  | ((with_reducible refine' r_ixL ?hv ?_); (case hv => rfl)) | fail)
local macro_rules | `(tactic| walk_at "au1") => `(tactic| first
  | (with_reducible refine r_modI ?a ?_; (case a => decide))
  | (with_reducible refine r_divI ?a ?_; (case a => exact ⟨by decide, by decide⟩))
  | (with_reducible refine r_powI ?a ?_; (case a => exact ⟨by decide, by decide, by decide⟩)) | fail)
local macro_rules | `(tactic| walk_at "br") => `(tactic| first
  | (with_reducible refine r_bothT ?_ ?_ <;> intro z)
  | (with_reducible refine r_bothF ?_ ?_ <;> intro z)
  | (with_reducible refine r_bothD ?_ ?_ <;> intro z)
  | (with_reducible refine r_bothN ?_ ?_ <;> intro z)
  | (with_reducible refine r_both ?_ ?_ <;> intro z) | fail)
local macro_rules | `(tactic| walk_at "ab") => `(tactic| repeat' first | walk_at "au1" | walk_at "br")

local macro_rules | `(tactic| walk_at "shd") => `(tactic| first
  | assumption | exact ShD.non | exact ShD.bl | exact ShD.lit (by decide) | exact ShD.str (by decide +kernel) (by decide +kernel)
  | (apply ShD.nat; omega)
  | (apply ShD.pt (by walk_at "szs"); exact (Nat.ble_eq_true_of_le (of_decide_eq_true rfl)))
  | (apply ShD.tup; walk_at "shds") | (apply ShD.lst; walk_at "shds"))
local macro_rules | `(tactic| walk_at "shds") => `(tactic| first
  | assumption | exact ShDs.nil | (apply ShDs.cons; walk_at "shd"; walk_at "shds"))

local macro_rules | `(tactic| walk_at "au1") => `(tactic| first
  | (with_reducible refine r_neSS rfl ?_)
  | ((with_reducible refine' r_reprD ?a ?b ?c ?_); (case a => walk_at "shd"); (case b => rfl); (case c => rfl)) | fail)
local macro_rules | `(tactic| walk_at "gs1") => `(tactic| first
  | with_reducible refine r_asg ?_ | with_reducible refine r_ret ?_ | with_reducible refine r_ifS ?_ | with_reducible refine r_drop ?_ | with_reducible refine r_par ?_ | with_reducible refine r_next ?_ | with_reducible refine r_retN ?_
  | ((with_reducible refine' r_var ?hv ?_); (case hv => rfl)) | with_reducible refine r_c ?_ | with_reducible refine r_bin ?_ | with_reducible refine r_un ?_ | with_reducible refine r_as1 ?_ | with_reducible refine r_as0 ?_
  | with_reducible refine r_cb ?_ | with_reducible refine r_call ?_ | with_reducible refine r_B ?_ | with_reducible refine r_notT ?_ | with_reducible refine r_andT ?_ | with_reducible refine r_orT ?_
  | with_reducible refine r_andV ?_ | with_reducible refine r_orV ?_ | with_reducible refine r_notV ?_ | with_reducible refine r_if ?_ | with_reducible refine r_tup ?_ | with_reducible refine r_lst ?_ | with_reducible refine r_mu ?_
  | with_reducible refine r_cut ?_ | with_reducible refine r_p0 ?_ | with_reducible refine r_p1 ?_ | with_reducible refine r_gN ?_ | ((with_reducible refine r_gT ?hv ?_); (case hv => rfl)) | with_reducible refine r_gs1 ?_ | with_reducible refine r_gs0 ?_
  | ((with_reducible refine r_trueR ?hv ?_); (case hv => first | rfl | assumption)) | ((with_reducible refine r_falseR ?hv ?_); (case hv => first | rfl | assumption)) | with_reducible refine r_bl ?_ | with_reducible refine r_in ?_ | with_reducible refine r_two ?_
  | with_reducible refine r_addI ?_ | with_reducible refine r_subI ?_ | with_reducible refine r_mulI ?_ ?_ | with_reducible refine r_divI ?_ ?_ | with_reducible refine r_modI ?_ ?_ | with_reducible refine r_powI ?_ ?_ | with_reducible refine r_negI ?_
  | with_reducible refine r_lt ?_ | with_reducible refine r_le ?_ | with_reducible refine r_gt ?_ | with_reducible refine r_ge ?_ | with_reducible refine r_is ?_ | with_reducible refine r_isNot ?_ | with_reducible refine r_eqI ?_ | with_reducible refine r_neI ?_ | with_reducible refine r_eqS ?_ | with_reducible refine r_neS ?_
  | with_reducible refine r_ixP0 ?_ | with_reducible refine r_ixP1 ?_ | with_reducible refine r_ix0T ?_ | with_reducible refine r_ix1T ?_ | with_reducible refine r_lenT ?_ | with_reducible refine r_lenL ?_ | with_reducible refine r_lenC ?_
  | with_reducible refine r_abs ?_ | with_reducible refine r_max ?_ | with_reducible refine r_min ?_ | with_reducible refine r_intI ?_ | with_reducible refine r_intB ?_ | with_reducible refine r_tupL ?_ | with_reducible refine r_tupT ?_
  | with_reducible refine r_gcd ?_ | ((with_reducible refine r_isi ?hv ?_); (case hv => first | rfl | assumption)) | with_reducible refine r_sizeT ?_ | with_reducible refine r_sizeL ?_)
local macro_rules | `(tactic| walk_at "gs") => `(tactic| repeat' walk_at "gs1")
local macro_rules | `(tactic| walk_at "gs1") => `(tactic| first
  | with_reducible refine r_lc ?_ | with_reducible refine r_wiT ?_ | with_reducible refine r_wiZ ?_ | with_reducible refine r_wiL ?_ | with_reducible refine r_wiR1 ?_ | with_reducible refine r_for ?_ | with_reducible refine r_yes ?_
  | with_reducible refine b_nm ?_ | with_reducible refine r_setD0 ?_ | with_reducible refine r_setD1 ?_ | ((with_reducible refine' r_setDT ?hv ?_); (case hv => rfl)) | with_reducible refine r_setsD ?_ | with_reducible refine r_setsCut ?_ | with_reducible refine b_tp2 ?_ | with_reducible refine r_trueL ?_ | with_reducible refine r_falseL ?_ )

local macro_rules | `(tactic| walk_at "gs1") => `(tactic| first
  | with_reducible refine r_size0 ?_ | with_reducible refine r_size3 ?_ | with_reducible refine r_app ?_ | with_reducible refine r_setIx ?_ | ((with_reducible refine' r_sizeG ?hv ?_); (case hv => rfl)) | ((with_reducible refine' r_addG ?hv ?_); (case hv => rfl)) | ((with_reducible refine' r_addTG ?hv ?_); (case hv => rfl))
  | with_reducible refine r_bmL ?_ | with_reducible refine r_isL ?_ | with_reducible refine r_try ?_ | with_reducible refine r_emp ?_ | with_reducible refine r_raise ?_ | with_reducible refine r_chain ?_ | with_reducible refine r_mulGI ?_ ?_
  | with_reducible refine r_wiET ?_ | with_reducible refine r_telLen ?_ | with_reducible refine r_telsLen ?_ | with_reducible refine r_rowLen ?_ | ((with_reducible refine' r_telT ?hv ?_); (case hv => rfl)))

local macro_rules | `(tactic| walk_at "as") => `(tactic| repeat' walk_at "as1")
local macro_rules | `(tactic| walk_at "as1") => `(tactic| first
  | walk_at "gs1"
  | (with_reducible refine i_next ?_; intro r _ _)
  | (with_reducible refine i_draw ?a ?b ?c ?_; (case a => walk_at "side"); (case b => walk_at "side"); (case c => walk_at "pen"); intro x S' _ _ _)
  | (with_reducible refine i_sum_of ?a ?b ?_; (case a => walk_at "sz"); (case b => walk_at "sz"))
  | (with_reducible refine i_difference_of ?a ?b ?_; (case a => walk_at "sz"); (case b => walk_at "sz"))
  | (with_reducible refine i_product_of ?a ?b ?_; (case a => walk_at "sz"); (case b => walk_at "sz"))
  | (with_reducible refine i_is_below ?a ?b ?_; (case a => walk_at "sz"); (case b => walk_at "sz"))
  | (with_reducible refine i_added ?a ?b ?_; (case a => walk_at "sz"); (case b => walk_at "sz"))
  | (with_reducible refine i_less ?a ?b ?_; (case a => walk_at "sz"); (case b => walk_at "sz"))
  | (with_reducible refine i_times ?a ?b ?_; (case a => walk_at "sz"); (case b => walk_at "sz"))
  | (with_reducible refine i_is_less ?a ?b ?_; (case a => walk_at "sz"); (case b => walk_at "sz"))
  | (with_reducible refine i_sum ?a ?b ?_; (case a => walk_at "sz"); (case b => walk_at "sz"))
  | (with_reducible refine i_rest ?a ?b ?_; (case a => walk_at "sz"); (case b => walk_at "sz"))
  | (with_reducible refine i_prod ?a ?b ?_; (case a => walk_at "sz"); (case b => walk_at "sz"))
  | (with_reducible refine i_under ?a ?b ?_; (case a => walk_at "sz"); (case b => walk_at "sz"))
  | with_reducible refine i_is_part_pt ?_
  | with_reducible refine r_intB ?_
  | (with_reducible refine r_rng1 ?a ?b ?_; (case a => decide); (case b => decide)) | with_reducible refine r_ix0L ?_ | with_reducible refine r_muE ?_ | with_reducible refine r_itL ?_ | with_reducible refine r_itT ?_
  | with_reducible refine r_par3 ?_ | with_reducible refine r_three ?_ | with_reducible refine r_gSub ?_ | with_reducible refine r_lstM ?_ | with_reducible refine r_lstT ?_ | with_reducible refine r_turn ?_ | with_reducible refine r_callK ?_
  | with_reducible refine i_opposite ?_
  | ((with_reducible refine' r_ixT ?hv ?_); (case hv => rfl))
  | ((with_reducible refine' r_ixL ?hv ?_); (case hv => rfl)) | fail)
local macro_rules | `(tactic| walk_at "as1") => `(tactic| first
  | (with_reducible refine r_modI ?a ?_; (case a => decide))
  | (with_reducible refine r_divI ?a ?_; (case a => exact ⟨by decide, by decide⟩))
  | (with_reducible refine r_powI ?a ?_; (case a => exact ⟨by decide, by decide, by decide⟩)) | fail)
local macro_rules | `(tactic| walk_at "as1") => `(tactic| first
  | (with_reducible refine r_neSS rfl ?_)
  | ((with_reducible refine' r_reprD ?a ?b ?c ?_); (case a => walk_at "shd"); (case b => rfl); (case c => rfl)) | fail)
section
variable {P : Program} {w : World} {K : PySem.W.Frag} {mg : Str → Option Value} {base : Heap} {T : List (Addr × Str)}

abbrev N_law_is_clock : List Str := ["_law_thing", "_law_ahead", "_law_one"]
theorem sc_law_is_clock : FnScope N_law_is_clock ["_law_thing"] (defScope s_law_is_clock) := ⟨rfl, rfl, rfl, by decide +kernel, rfl, by decide +kernel, by decide +kernel⟩
theorem ok_law_is_clock {f : Addr} {fd : FuncData} (F : FunD K "_law_is_clock" "_law_is_clock" (defArgs s_law_is_clock) (defBody s_law_is_clock) (defScope s_law_is_clock) [] [] f fd) (fr : Fr mg) (c_law_under : Cal false P w K mg base T "_law_under" 1 2 [] p_law_under) (c_law_is_part : Cal false P w K mg base T "_law_is_part" 2 1 [] p_law_is_part) : FnD false P w K mg base T 3 f fd ["_law_thing"] p_law_is_clockX := by
  refine fn_okD F sc_law_is_clock fun cdv A outer s H E hr hG0 cc => ?_
  have hG : GdOk false (cxOf (L2.CX P w) P w K mg base N_law_is_clock "_law_is_clock" (defScope s_law_is_clock) f cdv A outer s H E).A := hG0
  have tk : Takes (cxOf (L2.CX P w) P w K mg base N_law_is_clock "_law_is_clock" (defScope s_law_is_clock) f cdv A outer s H E) (fun cls d _ H' => E cls d H') := takes_of rfl rfl rfl rfl
  have po : PassesOwn (model P w) (cxOf (L2.CX P w) P w K mg base N_law_is_clock "_law_is_clock" (defScope s_law_is_clock) f cdv A outer s H E).A (cxOf (L2.CX P w) P w K mg base N_law_is_clock "_law_is_clock" (defScope s_law_is_clock) f cdv A outer s H E).env (cxOf (L2.CX P w) P w K mg base N_law_is_clock "_law_is_clock" (defScope s_law_is_clock) f cdv A outer s H E).xe := passes_of rfl
  refine ⟨_, (psd_cons (psd_if (ptd_w (pwd_or (ptd_not (ptd_val (pd_callB (cD_isi isi_tup) rfl fr.isinstance_ (by decide +kernel) (pad_cons (pd_var 0) (pad_cons (pd_ty (n := "tuple") rfl fr.tuple_ (by decide +kernel)) pad_nil))))) (pwd_or (ptd_cmp (opD_ne hr.units) (nobehind _ (by decide) (by decide)) (pd_callB cD_len rfl fr.len_ (by decide +kernel) (pad_cons (pd_var 0) pad_nil)) pd_int) (pwd_or (ptd_not (ptd_val (pd_own (c_law_is_part.up (by decide)) hr (hG.le (by decide)) rfl tk (pad_cons (pd_ix ixD (pd_var 0) pd_int) pad_nil)))) (pwd_or1 (ptd_not (ptd_val (pd_callB (cD_isi isi_tup) rfl fr.isinstance_ (by decide +kernel) (pad_cons (pd_ix ixD (pd_var 0) pd_int) (pad_cons (pd_ty (n := "tuple") rfl fr.tuple_ (by decide +kernel)) pad_nil)))))))))) (psd_one (psd_ret pd_bl)) psd_nil) (psd_cons (psd_if (ptd_w (pwd_or (ptd_val (pd_own (c_law_under.up (by decide)) hr (hG.le (by decide)) rfl tk (pad_cons (pd_tup (pad_cons pd_int (pad_cons pd_int pad_nil))) (pad_cons (pd_ix ixD (pd_var 0) pd_int) pad_nil)))) (pwd_or (ptd_val (pd_own (c_law_under.up (by decide)) hr (hG.le (by decide)) rfl tk (pad_cons (pd_ix ixD (pd_var 0) pd_int) (pad_cons (pd_tup (pad_cons (pd_un unD_neg pd_int) (pad_cons pd_int pad_nil))) pad_nil)))) (pwd_or1 (ptd_cmp opD_gt (nobehind _ (by decide) (by decide)) (pd_callB cD_len rfl fr.len_ (by decide +kernel) (pad_cons (pd_ix ixD (pd_var 0) pd_int) pad_nil)) pd_int))))) (psd_one (psd_ret pd_bl)) psd_nil) (psd_cons (psd_set 1 sc_law_is_clock.nd rfl (Or.inl rfl) (pd_tup (pad_cons (pd_un unD_neg pd_int) (pad_cons pd_int pad_nil)))) (psd_cons (psd_for po rfl (pid_tup (pd_ix ixD (pd_var 0) pd_int)) (pgd_name 2 sc_law_is_clock.nd rfl (Or.inl rfl)) (psd_cons (psd_if (ptd_w (pwd_or (ptd_not (ptd_val (pd_callB (cD_isi isi_tup) rfl fr.isinstance_ (by decide +kernel) (pad_cons (pd_var 2) (pad_cons (pd_ty (n := "tuple") rfl fr.tuple_ (by decide +kernel)) pad_nil))))) (pwd_or (ptd_cmp (opD_ne hr.units) (nobehind _ (by decide) (by decide)) (pd_callB cD_len rfl fr.len_ (by decide +kernel) (pad_cons (pd_var 2) pad_nil)) pd_int) (pwd_or (ptd_not (ptd_val (pd_own (c_law_is_part.up (by decide)) hr (hG.le (by decide)) rfl tk (pad_cons (pd_ix ixD (pd_var 2) pd_int) pad_nil)))) (pwd_or1 (ptd_not (ptd_val (pd_own (c_law_is_part.up (by decide)) hr (hG.le (by decide)) rfl tk (pad_cons (pd_ix ixD (pd_var 2) pd_int) pad_nil))))))))) (psd_one (psd_ret pd_bl)) psd_nil) (psd_cons (psd_if (ptd_w (pwd_or (ptd_cmp opD_lt (nobehind _ (by decide) (by decide)) (pd_ix ixD (pd_ix ixD (pd_var 2) pd_int) pd_int) pd_int) (pwd_or (ptd_not (ptd_val (pd_own (c_law_under.up (by decide)) hr (hG.le (by decide)) rfl tk (pad_cons (pd_var 1) (pad_cons (pd_ix ixD (pd_var 2) pd_int) pad_nil))))) (pwd_or1 (ptd_cmp (opD_eq hr.units) (nobehind _ (by decide) (by decide)) (pd_ix ixD (pd_ix ixD (pd_var 2) pd_int) pd_int) pd_int))))) (psd_one (psd_ret pd_bl)) psd_nil) (psd_one (psd_set 1 sc_law_is_clock.nd rfl (Or.inl rfl) (pd_ix ixD (pd_var 2) pd_int)))))) (psd_one (psd_ret pd_bl)))))), fun ds S R Rx hl hp => ?_⟩
  clear hG0 hG tk po hr cc; try clear fr c_law_under c_law_is_part
  obtain ⟨d, rfl, hz, h⟩ := hp
  rcases tup_2 d with ⟨g, s, rfl⟩ | hn
  · have zg := (hz.at (d := g) (by simp)).1
    have zs := (hz.at (d := s) (by simp)).2
    have h : R (.bl (isGn g && areSt s)) S := h
    clear hz
    walk_at "go"
    refine i_lpart_c (zg.mono (by decide)) (fun q e => ?_) (fun e => ?_)
    · subst e
      have hq := zg.sz
      rw [gn_pt] at h
      cases s with
      | tup xs =>
        have h : R (.bl ((!decide ((12 : Rat) < q) && !decide (q < -12)) && (decide (xs.length ≤ 6) && (xs.all isSet1 && riseB xs)))) S := h
        rw [← good_first (fun x hx => zs.at hx)] at h
        walk_at "go"
        refine i_under (p := 12) ⟨by decide, by decide⟩ hq ?_
        walk_at "go"
        refine r_bothD (fun z => ?_) (fun z1 => ?_)
        · rw [decide_eq_true z] at h
          walk_at "go"
          exact h
        walk_at "go"
        refine i_under (q := -12) hq ⟨by decide, by decide⟩ ?_
        walk_at "go"
        refine r_bothD (fun z => ?_) (fun z2 => ?_)
        · rw [decide_eq_true z, decide_eq_false z1] at h
          walk_at "go"
          exact h
        rw [decide_eq_false z1, decide_eq_false z2] at h
        walk_at "go"
        refine r_bothD (fun z => ?_) (fun z => ?_)
        · rw [decide_eq_false (by omega)] at h
          walk_at "go"
          exact h
        rw [decide_eq_true (by omega)] at h
        have h : R (.bl (goodL (-1) xs)) S := h
        walk_at "go"
        refine ⟨_, rfl, ?_⟩
        refine loop_by (fun k env S1 => S = S1 ∧ ∃ (a : Rat) (x2 : Option D), env = [some (.tup [pt q, .tup xs]), some (pt a), x2] ∧ Sz 4000 a ∧ goodL a (xs.drop k) = goodL (-1) xs) ⟨rfl, -1, _, rfl, ⟨by decide, by decide⟩, rfl⟩ ?_ ?_
        · intro k d env S1 N hd ⟨hS, a, x2, he, ha, hg⟩ hN
          subst hS he
          have hk : k < xs.length := (List.getElem?_eq_some_iff.mp hd).1
          have ed : xs.drop k = d :: xs.drop (k + 1) := by
            rw [List.drop_eq_getElem_cons hk]
            congr 1
            exact Option.some.inj ((List.getElem?_eq_getElem hk).symm.trans hd)
          rw [ed] at hg
          have hg : (isSet1 d && (ltQ (pt a) (headD d) && goodL (partR (headD d)) (xs.drop (k + 1)))) = goodL (-1) xs := hg
          have zd := zs.at (List.mem_of_getElem? hd)
          refine ⟨trivial, ?_⟩
          rcases tup_2 d with ⟨m, j, rfl⟩ | hn
          · have zm := zd.at (x := m) (by simp)
            have zj := zd.at (x := j) (by simp)
            have hg : ((isUp m && (isPart j && nzB j)) && (ltQ (pt a) m && goodL (partR m) (xs.drop (k + 1)))) = goodL (-1) xs := hg
            walk_at "go"
            refine i_lpart_c (zm.mono (by decide)) (fun u e => ?_) (fun e => ?_)
            rotate_left
            · rw [isUp_no e] at hg
              rw [← hg] at h
              walk_at "go"
              exact h
            subst e
            walk_at "go"
            refine i_lpart_c (zj.mono (by decide)) (fun v e => ?_) (fun e => ?_)
            rotate_left
            · rw [e, Bool.false_and, Bool.and_false] at hg
              rw [← hg] at h
              walk_at "go"
              exact h
            subst e
            rw [isUp_pt, isPart_pt, nzB_pt, ltQ_pt, partR_pt, Bool.true_and] at hg
            walk_at "go"
            refine r_bothD (fun z => ?_) (fun z1 => ?_)
            · rw [decide_eq_false (by omega)] at hg
              rw [← hg] at h
              walk_at "go"
              exact h
            rw [decide_eq_true (by omega), Bool.true_and] at hg
            walk_at "go"
            refine i_under ha zm.sz ?_
            walk_at "go"
            refine r_bothN (fun z => ?_) (fun z2 => ?_)
            · rw [decide_eq_false z, Bool.false_and, Bool.and_false] at hg
              rw [← hg] at h
              walk_at "go"
              exact h
            rw [decide_eq_true z2, Bool.true_and] at hg
            walk_at "go"
            refine r_bothD (fun z => ?_) (fun z3 => ?_)
            · rw [decide_eq_true z] at hg
              rw [← hg] at h
              walk_at "go"
              exact h
            rw [decide_eq_false z3] at hg
            walk_at "go"
            exact hN _ _ ⟨rfl, u, _, rfl, zm.sz, hg⟩
          · rw [isSet1_no hn] at hg
            rw [← hg] at h
            cases d with
            | tup ys =>
              have e := hn.ne
              walk_at "go"
              exact h
            | ty n => cases zd.1
            | ob n => cases zd.1
            | er n => cases zd.1
            | ab n => cases zd.1
            | _ =>
              walk_at "go"
              exact h
        · intro env S1 ⟨hS, a, x2, he, ha, hg⟩
          subst hS he
          refine ⟨trivial, ?_⟩
          rw [List.drop_length] at hg
          rw [← hg] at h
          walk_at "go"
          exact h
      | ty n => cases zs.1
      | ob n => cases zs.1
      | er n => cases zs.1
      | ab n => cases zs.1
      | _ =>
        have h : R (.bl ((!decide ((12 : Rat) < q) && !decide (q < -12)) && false)) S := h
        rw [Bool.and_false] at h
        walk_at "go"
        exact h
    · rw [isGn_no e, Bool.false_and] at h
      walk_at "go"
      exact h
  · rw [isClo_no hn] at h
    cases d with
    | tup xs =>
      have e := hn.ne
      walk_at "go"
      exact h
    | ty n => cases hz.1
    | ob n => cases hz.1
    | er n => cases hz.1
    | ab n => cases hz.1
    | _ =>
      walk_at "go"
      exact h
end
end DL

set_option maxHeartbeats 4000000
namespace DL
open PySem PySem.Spec PyProof.Rows L2
local macro_rules | `(tactic| walk_at "go1") => `(tactic| first
  | with_reducible refine r_seq ?_ | with_reducible refine r_asg ?_ | with_reducible refine r_ret ?_ | with_reducible refine r_ifS ?_ | with_reducible refine r_drop ?_ | with_reducible refine r_par ?_ | with_reducible refine r_next ?_ | with_reducible refine r_retN ?_
  | ((with_reducible refine' r_var ?hv ?_); (case hv => rfl)) | with_reducible refine r_c ?_ | with_reducible refine r_bin ?_ | with_reducible refine r_un ?_ | with_reducible refine r_as1 ?_ | with_reducible refine r_as0 ?_
  | with_reducible refine r_cb ?_ | with_reducible refine r_call ?_ | with_reducible refine r_B ?_ | with_reducible refine r_notT ?_ | with_reducible refine r_andT ?_ | with_reducible refine r_orT ?_
  | with_reducible refine r_andV ?_ | with_reducible refine r_orV ?_ | with_reducible refine r_notV ?_ | with_reducible refine r_if ?_ | with_reducible refine r_tup ?_ | with_reducible refine r_lst ?_ | with_reducible refine r_mu ?_
  | with_reducible refine r_cut ?_ | with_reducible refine r_p0 ?_ | with_reducible refine r_p1 ?_ | with_reducible refine r_gN ?_ | ((with_reducible refine r_gT ?hv ?_); (case hv => rfl)) | with_reducible refine r_gs1 ?_ | with_reducible refine r_gs0 ?_
  | ((with_reducible refine r_trueR ?hv ?_); (case hv => first | rfl | assumption)) | ((with_reducible refine r_falseR ?hv ?_); (case hv => first | rfl | assumption)) | with_reducible refine r_bl ?_ | with_reducible refine r_in ?_ | with_reducible refine r_two ?_
  | with_reducible refine r_addI ?_ | with_reducible refine r_subI ?_ | with_reducible refine r_mulI ?_ ?_ | with_reducible refine r_divI ?_ ?_ | with_reducible refine r_modI ?_ ?_ | with_reducible refine r_powI ?_ ?_ | with_reducible refine r_negI ?_
  | with_reducible refine r_lt ?_ | with_reducible refine r_le ?_ | with_reducible refine r_gt ?_ | with_reducible refine r_ge ?_ | with_reducible refine r_is ?_ | with_reducible refine r_isNot ?_ | with_reducible refine r_eqI ?_ | with_reducible refine r_neI ?_ | with_reducible refine r_eqS ?_ | with_reducible refine r_neS ?_
  | with_reducible refine r_ixP0 ?_ | with_reducible refine r_ixP1 ?_ | with_reducible refine r_ix0T ?_ | with_reducible refine r_ix1T ?_ | with_reducible refine r_lenT ?_ | with_reducible refine r_lenL ?_ | with_reducible refine r_lenC ?_
  | with_reducible refine r_abs ?_ | with_reducible refine r_max ?_ | with_reducible refine r_min ?_ | with_reducible refine r_intI ?_ | with_reducible refine r_intB ?_ | with_reducible refine r_tupL ?_ | with_reducible refine r_tupT ?_
  | with_reducible refine r_gcd ?_ | ((with_reducible refine r_isi ?hv ?_); (case hv => first | rfl | assumption)) | with_reducible refine r_sizeT ?_ | with_reducible refine r_sizeL ?_)
local macro_rules | `(tactic| walk_at "go") => `(tactic| repeat' walk_at "go1")
local macro_rules | `(tactic| walk_at "go1") => `(tactic| first
  | with_reducible refine r_lc ?_ | with_reducible refine r_wiT ?_ | with_reducible refine r_wiZ ?_ | with_reducible refine r_wiL ?_ | with_reducible refine r_wiR1 ?_ | with_reducible refine r_for ?_ | with_reducible refine r_yes ?_
  | with_reducible refine b_nm ?_ | with_reducible refine r_setD0 ?_ | with_reducible refine r_setD1 ?_ | ((with_reducible refine' r_setDT ?hv ?_); (case hv => rfl)) | with_reducible refine r_setsD ?_ | with_reducible refine r_setsCut ?_ | with_reducible refine b_tp2 ?_ | with_reducible refine r_trueL ?_ | with_reducible refine r_falseL ?_ )

local macro_rules | `(tactic| walk_at "go1") => `(tactic| first
  | with_reducible refine r_size0 ?_ | with_reducible refine r_size3 ?_ | with_reducible refine r_app ?_ | with_reducible refine r_setIx ?_ | ((with_reducible refine' r_sizeG ?hv ?_); (case hv => rfl)) | ((with_reducible refine' r_addG ?hv ?_); (case hv => rfl)) | ((with_reducible refine' r_addTG ?hv ?_); (case hv => rfl))
  | with_reducible refine r_bmL ?_ | with_reducible refine r_isL ?_ | with_reducible refine r_try ?_ | with_reducible refine r_emp ?_ | with_reducible refine r_raise ?_ | with_reducible refine r_chain ?_ | with_reducible refine r_mulGI ?_ ?_
  | with_reducible refine r_wiET ?_ | with_reducible refine r_telLen ?_ | with_reducible refine r_telsLen ?_ | with_reducible refine r_rowLen ?_ | ((with_reducible refine' r_telT ?hv ?_); (case hv => rfl)))

local macro_rules | `(tactic| walk_at "szs") => `(tactic| first
  | assumption
  | ((with_reducible apply Sz.add); walk_at "szs"; walk_at "szs")
  | ((with_reducible apply Sz.sub); walk_at "szs"; walk_at "szs")
  | ((with_reducible apply Sz.mul); walk_at "szs"; walk_at "szs")
  | ((with_reducible apply Sz.neg); walk_at "szs")
  | (apply Pz.sz; assumption) | exact sz0 | exact sz1 | exact sz24
  | ((with_reducible apply sz_abs); walk_at "szs"))
local macro_rules | `(tactic| walk_at "sz") => `(tactic| (apply Sz.mono; walk_at "szs"; exact Nat.le_of_ble_eq_true rfl))
local macro_rules | `(tactic| walk_at "pen") => `(tactic| first | assumption | (apply Stm.pen; assumption) | (apply stm_st; assumption) | (apply stm_st; apply Stm.pen; assumption))
local macro_rules | `(tactic| walk_at "stm") => `(tactic| first | assumption | exact Stm.of (by walk_at "pen") | (refine Stm.trans ?_ (by assumption); walk_at "stm") | (refine Stm.trans ?_ (Stm.new (by walk_at "pen")); walk_at "stm"))
local macro_rules | `(tactic| walk_at "side") => `(tactic| first | assumption | rfl | omega | decide | walk_at "sz" | walk_at "pen")
local macro_rules | `(tactic| walk_at "au") => `(tactic| repeat' walk_at "au1")
local macro_rules | `(tactic| walk_at "au1") => `(tactic| first
  | walk_at "go1"
  | (with_reducible refine i_next ?_; intro r _ _)
  | (with_reducible refine i_draw ?a ?b ?c ?_; (case a => walk_at "side"); (case b => walk_at "side"); (case c => walk_at "pen"); intro x S' _ _ _)
  | (with_reducible refine i_sum_of ?a ?b ?_; (case a => walk_at "sz"); (case b => walk_at "sz"))
  | (with_reducible refine i_difference_of ?a ?b ?_; (case a => walk_at "sz"); (case b => walk_at "sz"))
  | (with_reducible refine i_product_of ?a ?b ?_; (case a => walk_at "sz"); (case b => walk_at "sz"))
  | (with_reducible refine i_is_below ?a ?b ?_; (case a => walk_at "sz"); (case b => walk_at "sz"))
  | (with_reducible refine i_added ?a ?b ?_; (case a => walk_at "sz"); (case b => walk_at "sz"))
  | (with_reducible refine i_less ?a ?b ?_; (case a => walk_at "sz"); (case b => walk_at "sz"))
  | (with_reducible refine i_times ?a ?b ?_; (case a => walk_at "sz"); (case b => walk_at "sz"))
  | (with_reducible refine i_is_less ?a ?b ?_; (case a => walk_at "sz"); (case b => walk_at "sz"))
  | (with_reducible refine i_sum ?a ?b ?_; (case a => walk_at "sz"); (case b => walk_at "sz"))
  | (with_reducible refine i_rest ?a ?b ?_; (case a => walk_at "sz"); (case b => walk_at "sz"))
  | (with_reducible refine i_prod ?a ?b ?_; (case a => walk_at "sz"); (case b => walk_at "sz"))
  | (with_reducible refine i_under ?a ?b ?_; (case a => walk_at "sz"); (case b => walk_at "sz"))
  | with_reducible refine i_is_part_pt ?_
  | with_reducible refine r_intB ?_
  | (with_reducible refine r_rng1 ?a ?b ?_; (case a => decide); (case b => decide)) | with_reducible refine r_ix0L ?_ | with_reducible refine r_muE ?_ | with_reducible refine r_itL ?_ | with_reducible refine r_itT ?_
  | with_reducible refine r_par3 ?_ | with_reducible refine r_three ?_ | with_reducible refine r_gSub ?_ | with_reducible refine r_lstM ?_ | with_reducible refine r_lstT ?_ | with_reducible refine r_turn ?_ | with_reducible refine r_callK ?_
  | with_reducible refine i_opposite ?_
  | ((with_reducible refine' r_ixT ?hv ?_); (case hv => rfl))
  | ((with_reducible refine' r_ixL ?hv ?_); (case hv => rfl)) | fail)
local macro_rules | `(tactic| walk_at "au1") => `(tactic| first
  | (with_reducible refine r_modI ?a ?_; (case a => decide))
  | (with_reducible refine r_divI ?a ?_; (case a => exact ⟨by decide, by decide⟩))
  | (with_reducible refine r_powI ?a ?_; (case a => exact ⟨by decide, by decide, by decide⟩)) | fail)
local macro_rules | `(tactic| walk_at "br") => `(tactic| first
  | (with_reducible refine r_bothT ?_ ?_ <;> intro z)
  | (with_reducible refine r_bothF ?_ ?_ <;> intro z)
  | (with_reducible refine r_bothD ?_ ?_ <;> intro z)
  | (with_reducible refine r_bothN ?_ ?_ <;> intro z)
  | (with_reducible refine r_both ?_ ?_ <;> intro z) | fail)
local macro_rules | `(tactic| walk_at "ab") => `(tactic| repeat' first | walk_at "au1" | walk_at "br")

local macro_rules | `(tactic| walk_at "shd") => `(tactic| first
  | assumption | exact ShD.non | exact ShD.bl | exact ShD.lit (by decide) | exact ShD.str (by decide +kernel) (by decide +kernel)
  | (apply ShD.nat; omega)
  | (apply ShD.pt (by walk_at "szs"); exact (Nat.ble_eq_true_of_le (of_decide_eq_true rfl)))
  | (apply ShD.tup; walk_at "shds") | (apply ShD.lst; walk_at "shds"))
local macro_rules | `(tactic| walk_at "shds") => `(tactic| first
  | assumption | exact ShDs.nil | (apply ShDs.cons; walk_at "shd"; walk_at "shds"))

local macro_rules | `(tactic| walk_at "au1") => `(tactic| first
  | (with_reducible refine r_neSS rfl ?_)
  | ((with_reducible refine' r_reprD ?a ?b ?c ?_); (case a => walk_at "shd"); (case b => rfl); (case c => rfl)) | fail)
local macro_rules | `(tactic| walk_at "gs1") => `(tactic| first
  | with_reducible refine r_asg ?_ | with_reducible refine r_ret ?_ | with_reducible refine r_ifS ?_ | with_reducible refine r_drop ?_ | with_reducible refine r_par ?_ | with_reducible refine r_next ?_ | with_reducible refine r_retN ?_
  | ((with_reducible refine' r_var ?hv ?_); (case hv => rfl)) | with_reducible refine r_c ?_ | with_reducible refine r_bin ?_ | with_reducible refine r_un ?_ | with_reducible refine r_as1 ?_ | with_reducible refine r_as0 ?_
  | with_reducible refine r_cb ?_ | with_reducible refine r_call ?_ | with_reducible refine r_B ?_ | with_reducible refine r_notT ?_ | with_reducible refine r_andT ?_ | with_reducible refine r_orT ?_
  | with_reducible refine r_andV ?_ | with_reducible refine r_orV ?_ | with_reducible refine r_notV ?_ | with_reducible refine r_if ?_ | with_reducible refine r_tup ?_ | with_reducible refine r_lst ?_ | with_reducible refine r_mu ?_
  | with_reducible refine r_cut ?_ | with_reducible refine r_p0 ?_ | with_reducible refine r_p1 ?_ | with_reducible refine r_gN ?_ | ((with_reducible refine r_gT ?hv ?_); (case hv => rfl)) | with_reducible refine r_gs1 ?_ | with_reducible refine r_gs0 ?_
  | ((with_reducible refine r_trueR ?hv ?_); (case hv => first | rfl | assumption)) | ((with_reducible refine r_falseR ?hv ?_); (case hv => first | rfl | assumption)) | with_reducible refine r_bl ?_ | with_reducible refine r_in ?_ | with_reducible refine r_two ?_
  | with_reducible refine r_addI ?_ | with_reducible refine r_subI ?_ | with_reducible refine r_mulI ?_ ?_ | with_reducible refine r_divI ?_ ?_ | with_reducible refine r_modI ?_ ?_ | with_reducible refine r_powI ?_ ?_ | with_reducible refine r_negI ?_
  | with_reducible refine r_lt ?_ | with_reducible refine r_le ?_ | with_reducible refine r_gt ?_ | with_reducible refine r_ge ?_ | with_reducible refine r_is ?_ | with_reducible refine r_isNot ?_ | with_reducible refine r_eqI ?_ | with_reducible refine r_neI ?_ | with_reducible refine r_eqS ?_ | with_reducible refine r_neS ?_
  | with_reducible refine r_ixP0 ?_ | with_reducible refine r_ixP1 ?_ | with_reducible refine r_ix0T ?_ | with_reducible refine r_ix1T ?_ | with_reducible refine r_lenT ?_ | with_reducible refine r_lenL ?_ | with_reducible refine r_lenC ?_
  | with_reducible refine r_abs ?_ | with_reducible refine r_max ?_ | with_reducible refine r_min ?_ | with_reducible refine r_intI ?_ | with_reducible refine r_intB ?_ | with_reducible refine r_tupL ?_ | with_reducible refine r_tupT ?_
  | with_reducible refine r_gcd ?_ | ((with_reducible refine r_isi ?hv ?_); (case hv => first | rfl | assumption)) | with_reducible refine r_sizeT ?_ | with_reducible refine r_sizeL ?_)
local macro_rules | `(tactic| walk_at "gs") => `(tactic| repeat' walk_at "gs1")
local macro_rules | `(tactic| walk_at "gs1") => `(tactic| first
  | with_reducible refine r_lc ?_ | with_reducible refine r_wiT ?_ | with_reducible refine r_wiZ ?_ | with_reducible refine r_wiL ?_ | with_reducible refine r_wiR1 ?_ | with_reducible refine r_for ?_ | with_reducible refine r_yes ?_
  | with_reducible refine b_nm ?_ | with_reducible refine r_setD0 ?_ | with_reducible refine r_setD1 ?_ | ((with_reducible refine' r_setDT ?hv ?_); (case hv => rfl)) | with_reducible refine r_setsD ?_ | with_reducible refine r_setsCut ?_ | with_reducible refine b_tp2 ?_ | with_reducible refine r_trueL ?_ | with_reducible refine r_falseL ?_ )

local macro_rules | `(tactic| walk_at "gs1") => `(tactic| first
  | with_reducible refine r_size0 ?_ | with_reducible refine r_size3 ?_ | with_reducible refine r_app ?_ | with_reducible refine r_setIx ?_ | ((with_reducible refine' r_sizeG ?hv ?_); (case hv => rfl)) | ((with_reducible refine' r_addG ?hv ?_); (case hv => rfl)) | ((with_reducible refine' r_addTG ?hv ?_); (case hv => rfl))
  | with_reducible refine r_bmL ?_ | with_reducible refine r_isL ?_ | with_reducible refine r_try ?_ | with_reducible refine r_emp ?_ | with_reducible refine r_raise ?_ | with_reducible refine r_chain ?_ | with_reducible refine r_mulGI ?_ ?_
  | with_reducible refine r_wiET ?_ | with_reducible refine r_telLen ?_ | with_reducible refine r_telsLen ?_ | with_reducible refine r_rowLen ?_ | ((with_reducible refine' r_telT ?hv ?_); (case hv => rfl)))

local macro_rules | `(tactic| walk_at "as") => `(tactic| repeat' walk_at "as1")
local macro_rules | `(tactic| walk_at "as1") => `(tactic| first
  | walk_at "gs1"
  | (with_reducible refine i_next ?_; intro r _ _)
  | (with_reducible refine i_draw ?a ?b ?c ?_; (case a => walk_at "side"); (case b => walk_at "side"); (case c => walk_at "pen"); intro x S' _ _ _)
  | (with_reducible refine i_sum_of ?a ?b ?_; (case a => walk_at "sz"); (case b => walk_at "sz"))
  | (with_reducible refine i_difference_of ?a ?b ?_; (case a => walk_at "sz"); (case b => walk_at "sz"))
  | (with_reducible refine i_product_of ?a ?b ?_; (case a => walk_at "sz"); (case b => walk_at "sz"))
  | (with_reducible refine i_is_below ?a ?b ?_; (case a => walk_at "sz"); (case b => walk_at "sz"))
  | (with_reducible refine i_added ?a ?b ?_; (case a => walk_at "sz"); (case b => walk_at "sz"))
  | (with_reducible refine i_less ?a ?b ?_; (case a => walk_at "sz"); (case b => walk_at "sz"))
  | (with_reducible refine i_times ?a ?b ?_; (case a => walk_at "sz"); (case b => walk_at "sz"))
  | (with_reducible refine i_is_less ?a ?b ?_; (case a => walk_at "sz"); (case b => walk_at "sz"))
  | (with_reducible refine i_sum ?a ?b ?_; (case a => walk_at "sz"); (case b => walk_at "sz"))
  | (with_reducible refine i_rest ?a ?b ?_; (case a => walk_at "sz"); (case b => walk_at "sz"))
  | (with_reducible refine i_prod ?a ?b ?_; (case a => walk_at "sz"); (case b => walk_at "sz"))
  | (with_reducible refine i_under ?a ?b ?_; (case a => walk_at "sz"); (case b => walk_at "sz"))
  | with_reducible refine i_is_part_pt ?_
  | with_reducible refine r_intB ?_
  | (with_reducible refine r_rng1 ?a ?b ?_; (case a => decide); (case b => decide)) | with_reducible refine r_ix0L ?_ | with_reducible refine r_muE ?_ | with_reducible refine r_itL ?_ | with_reducible refine r_itT ?_
  | with_reducible refine r_par3 ?_ | with_reducible refine r_three ?_ | with_reducible refine r_gSub ?_ | with_reducible refine r_lstM ?_ | with_reducible refine r_lstT ?_ | with_reducible refine r_turn ?_ | with_reducible refine r_callK ?_
  | with_reducible refine i_opposite ?_
  | ((with_reducible refine' r_ixT ?hv ?_); (case hv => rfl))
  | ((with_reducible refine' r_ixL ?hv ?_); (case hv => rfl)) | fail)
local macro_rules | `(tactic| walk_at "as1") => `(tactic| first
  | (with_reducible refine r_modI ?a ?_; (case a => decide))
  | (with_reducible refine r_divI ?a ?_; (case a => exact ⟨by decide, by decide⟩))
  | (with_reducible refine r_powI ?a ?_; (case a => exact ⟨by decide, by decide, by decide⟩)) | fail)
local macro_rules | `(tactic| walk_at "as1") => `(tactic| first
  | (with_reducible refine r_neSS rfl ?_)
  | ((with_reducible refine' r_reprD ?a ?b ?c ?_); (case a => walk_at "shd"); (case b => rfl); (case c => rfl)) | fail)
section
variable {P : Program} {w : World} {K : PySem.W.Frag} {mg : Str → Option Value} {base : Heap} {T : List (Addr × Str)}

abbrev N_law_bent : List Str := ["_law_pen", "_law_clock", "_law_gain_here", "_law_sets_here", "_law_found", "_law_rows", "_law_long", "_law_at", "_law_when", "_law_jump", "_law_other", "_law_k"]
theorem sc_law_bent : FnScope N_law_bent ["_law_pen", "_law_clock"] (defScope s_law_bent) := ⟨rfl, rfl, rfl, by decide +kernel, rfl, by decide +kernel, by decide +kernel⟩
theorem ok_law_bent {f : Addr} {fd : FuncData} (F : FunD K "_law_bent" "_law_bent" (defArgs s_law_bent) (defBody s_law_bent) (defScope s_law_bent) [] [] f fd) (fr : Fr mg) (c_law_draw : Cal false P w K mg base T "_law_draw" 2 2 [] p_law_draw) : FnD false P w K mg base T 3 f fd ["_law_pen", "_law_clock"] p_law_bent := by
  refine fn_okD F sc_law_bent fun cdv A outer s H E hr hG0 cc => ?_
  have hG : GdOk false (cxOf (L2.CX P w) P w K mg base N_law_bent "_law_bent" (defScope s_law_bent) f cdv A outer s H E).A := hG0
  have tk : Takes (cxOf (L2.CX P w) P w K mg base N_law_bent "_law_bent" (defScope s_law_bent) f cdv A outer s H E) (fun cls d _ H' => E cls d H') := takes_of rfl rfl rfl rfl
  have po : PassesOwn (model P w) (cxOf (L2.CX P w) P w K mg base N_law_bent "_law_bent" (defScope s_law_bent) f cdv A outer s H E).A (cxOf (L2.CX P w) P w K mg base N_law_bent "_law_bent" (defScope s_law_bent) f cdv A outer s H E).env (cxOf (L2.CX P w) P w K mg base N_law_bent "_law_bent" (defScope s_law_bent) f cdv A outer s H E).xe := passes_of rfl
  refine ⟨_, (psd_cons (psd_asg (pd_var 1) (pgd_tup rfl (pgsd_cons (pgd_name 2 sc_law_bent.nd rfl (Or.inr rfl)) (pgsd_cons (pgd_name 3 sc_law_bent.nd rfl (Or.inr rfl)) pgsd_nil)))) (psd_cons (psd_setLc 4 (own := [("_law_other", 10)]) (b := (.nm 10)) rfl sc_law_bent.nd rfl rfl (sw_true rfl rfl rfl (by decide +kernel)) (pid_list (pd_lst (pad_cons (pd_tup (pad_cons pd_int (pad_cons pd_int pad_nil))) (pad_cons (pd_tup (pad_cons (pd_un unD_neg pd_int) (pad_cons pd_int pad_nil))) (pad_cons (pd_tup (pad_cons pd_int (pad_cons pd_int pad_nil))) (pad_cons (pd_tup (pad_cons (pd_un unD_neg pd_int) (pad_cons pd_int pad_nil))) (pad_cons (pd_tup (pad_cons pd_int (pad_cons pd_int pad_nil))) (pad_cons pd_non (pad_cons pd_int (pad_cons (pd_tup (pad_cons pd_int (pad_cons pd_bl pad_nil))) (pad_cons (pd_lst (pad_cons pd_int (pad_cons pd_int pad_nil))) (pad_cons pd_str pad_nil)))))))))))) (blkOk_by (own := [("_law_other", 10)]) (N := N_law_bent) (sc := defScope s_law_bent) (by decide +kernel)) (by intro i hi; simp [Bd.all] at hi ⊢; omega) (fun _ _ _ _ _ => pg_name (i := 10) sc_law_bent.nd rfl (Or.inl rfl)) (fun _ _ _ _ _ => ptsd_nil) (fun _ _ _ _ _ => (pd_tup (pad_cons (pd_var 10) (pad_cons (pd_var 3) pad_nil))))) (psd_cons (psd_set 5 sc_law_bent.nd rfl (Or.inl rfl) (pd_lst (pad_cons (pd_callTy cD_lst rfl fr.list_ (by decide +kernel) (pad_cons (pd_var 3) pad_nil)) (pad_cons pd_non (pad_cons pd_int (pad_cons (pd_tup (pad_cons (pd_var 3) pad_nil)) (pad_cons (pd_bin opD_mulH (pd_var 3) pd_int) (pad_cons (pd_tup (pad_cons (pd_tup (pad_cons pd_int (pad_cons pd_int pad_nil))) pad_nil)) (pad_cons (pd_tup (pad_cons (pd_tup (pad_cons (pd_tup (pad_cons pd_int (pad_cons pd_int pad_nil))) (pad_cons (pd_tup (pad_cons pd_int (pad_cons pd_int pad_nil))) (pad_cons pd_int pad_nil)))) pad_nil)) pad_nil))))))))) (psd_cons (psd_set 4 sc_law_bent.nd rfl (Or.inl rfl) (pd_bin opD_addM (pd_var 4) (pd_lc (own := [("_law_other", 10)]) (b := (.nm 10)) rfl sc_law_bent.nd (pid_list (pd_var 5)) (blkOk_by (own := [("_law_other", 10)]) (N := N_law_bent) (sc := defScope s_law_bent) (by decide +kernel)) (by intro i hi; simp [Bd.all] at hi ⊢; omega) (fun _ _ _ _ _ => pg_name (i := 10) sc_law_bent.nd rfl (Or.inl rfl)) (fun _ _ _ _ _ => ptsd_nil) (fun _ _ _ _ _ => (pd_tup (pad_cons (pd_var 2) (pad_cons (pd_var 10) pad_nil))))))) (psd_cons (psd_set 6 sc_law_bent.nd rfl (Or.inl rfl) (pd_callTy cD_tup rfl fr.tuple_ (by decide +kernel) (pad_cons (pd_lc (own := [("_law_k", 11)]) (b := (.nm 11)) rfl sc_law_bent.nd (pid_range1 rfl fr.range_ (pad_cons pd_int pad_nil)) (blkOk_by (own := [("_law_k", 11)]) (N := N_law_bent) (sc := defScope s_law_bent) (by decide +kernel)) (by intro i hi; simp [Bd.all] at hi ⊢; omega) (fun _ _ _ _ _ => pg_name (i := 11) sc_law_bent.nd rfl (Or.inl rfl)) (fun _ _ _ _ _ => ptsd_nil) (fun _ _ _ _ _ => (pd_tup (pad_cons (pd_tup (pad_cons (pd_var 11) (pad_cons pd_int pad_nil))) (pad_cons (pd_tup (pad_cons pd_int (pad_cons pd_int pad_nil))) pad_nil))))) pad_nil))) (psd_cons (psd_set 4 sc_law_bent.nd rfl (Or.inl rfl) (pd_bin opD_addM (pd_var 4) (pd_lst (pad_cons (pd_tup (pad_cons (pd_var 2) (pad_cons (pd_var 6) pad_nil))) (pad_cons (pd_tup (pad_cons (pd_var 2) (pad_cons (pd_cut (pd_var 6) (pod_some pd_int) pod_none) pad_nil))) (pad_cons (pd_cut (pd_var 1) pod_none (pod_some pd_int)) (pad_cons (pd_bin opD_add (pd_var 1) (pd_tup (pad_cons pd_int pad_nil))) (pad_cons (pd_callTy cD_lst rfl fr.list_ (by decide +kernel) (pad_cons (pd_var 1) pad_nil)) (pad_cons (pd_turn (pd_var 1)) pad_nil))))))))) (psd_cons (psd_set 4 sc_law_bent.nd rfl (Or.inl rfl) (pd_bin opD_addM (pd_var 4) (pd_lst (pad_cons (pd_tup pad_nil) (pad_cons pd_non (pad_cons pd_emp (pad_cons pd_str pad_nil))))))) (psd_cons (psd_if (ptd_cmp (opD_eq hr.units) (nobehind _ (by decide) (by decide)) (pd_var 3) (pd_tup pad_nil)) (psd_one (psd_ret (pd_var 4))) psd_nil) (psd_cons (psd_set 7 sc_law_bent.nd rfl (Or.inl rfl) (pd_own (c_law_draw.up (by decide)) hr (hG.le (by decide)) rfl tk (pad_cons (pd_var 0) (pad_cons (pd_callB cD_len rfl fr.len_ (by decide +kernel) (pad_cons (pd_var 3) pad_nil)) pad_nil)))) (psd_cons (psd_asg (pd_ix ixD (pd_var 3) (pd_var 7)) (pgd_tup rfl (pgsd_cons (pgd_name 8 sc_law_bent.nd rfl (Or.inl rfl)) (pgsd_cons (pgd_name 9 sc_law_bent.nd rfl (Or.inl rfl)) pgsd_nil)))) (psd_cons (psd_set 5 sc_law_bent.nd rfl (Or.inl rfl) (pd_lst (pad_cons (pd_tup (pad_cons (pd_var 8) (pad_cons (pd_tup (pad_cons pd_int (pad_cons pd_int pad_nil))) pad_nil))) (pad_cons (pd_tup (pad_cons (pd_var 9) (pad_cons (pd_var 8) pad_nil))) (pad_cons (pd_tup (pad_cons (pd_tup (pad_cons (pd_un unD_neg pd_int) (pad_cons pd_int pad_nil))) (pad_cons (pd_var 9) pad_nil))) (pad_cons (pd_tup (pad_cons (pd_var 8) (pad_cons pd_non pad_nil))) (pad_cons (pd_tup (pad_cons (pd_var 8) pad_nil)) (pad_cons (pd_lst (pad_cons (pd_var 8) (pad_cons (pd_var 9) pad_nil))) (pad_cons (pd_var 8) pad_nil))))))))) (psd_cons (psd_for po rfl (pid_list (pd_bin opD_add (pd_var 5) (pd_lst (pad_cons (pd_tup (pad_cons (pd_tup (pad_cons pd_int (pad_cons pd_int pad_nil))) (pad_cons (pd_var 9) pad_nil))) pad_nil)))) (pgd_name 10 sc_law_bent.nd rfl (Or.inl rfl)) (psd_one (psd_app (pd_var 4) (pd_tup (pad_cons (pd_var 2) (pad_cons (pd_bin opD_add (pd_bin opD_add (pd_cut (pd_var 3) pod_none (pod_some (pd_var 7))) (pd_tup (pad_cons (pd_var 10) pad_nil))) (pd_cut (pd_var 3) (pod_some (pd_bin opD_add (pd_var 7) pd_int)) pod_none)) pad_nil)))))) (psd_one (psd_ret (pd_bin opD_addM (pd_var 4) (pd_lst (pad_cons (pd_tup (pad_cons (pd_var 2) (pad_cons (pd_turn (pd_var 3)) pad_nil))) (pad_cons (pd_tup (pad_cons (pd_var 2) (pad_cons (pd_bin opD_add (pd_bin opD_add (pd_cut (pd_var 3) pod_none (pod_some (pd_var 7))) (pd_cut (pd_var 3) (pod_some (pd_var 7)) (pod_some (pd_bin opD_add (pd_var 7) pd_int)))) (pd_cut (pd_var 3) (pod_some (pd_var 7)) pod_none)) pad_nil))) (pad_cons (pd_tup (pad_cons (pd_var 2) (pad_cons (pd_cut (pd_var 3) (pod_some pd_int) pod_none) pad_nil))) pad_nil))))))))))))))))))), fun ds S R Rx hl hp => ?_⟩
  clear hG0 hG tk po hr cc; try clear fr c_law_draw
  obtain ⟨i, q, l, rfl, pen, hq, hl, h⟩ := hp
  have hlen := hl.1.len
  have tgq : Tg (pt q) := .pt (hq.mono (by decide))
  have tge : ∀ x ∈ l.map setD, Tg x := fun x hx => by
    obtain ⟨e, he, rfl⟩ := List.mem_map.mp hx
    exact tg_set ((hl.2 e he).1.mono (by decide)) ((hl.2 e he).2.mono (by decide))
  have tgl : Tg (setsD l) := tg_sets (by omega) fun e he => ⟨(hl.2 e he).1.mono (by decide), (hl.2 e he).2.mono (by decide)⟩
  have pair : ∀ {a b : D}, Tg a → Tg b → Cz 4000 (.tup [a, b]) := fun ha hb => Cz.tup (Nat.le_of_ble_eq_true rfl) fun x hx => by
    simp only [List.mem_cons, List.not_mem_nil, or_false] at hx
    rcases hx with rfl | rfl
    · exact ha
    · exact hb
  have app : ∀ {xs : List D} {d : D}, (∀ x ∈ xs, Cz 4000 x) → Cz 4000 d → ∀ x ∈ xs ++ [d], Cz 4000 x := fun h1 h2 x hx => by
    rcases List.mem_append.mp hx with hx | hx
    · exact h1 x hx
    · rw [List.mem_singleton.mp hx]
      exact h2
  walk_at "au"
  refine comp_by (fun k acc S1 => S = S1 ∧ (∀ x ∈ acc, Cz 4000 x) ∧ acc.length = k) ⟨rfl, fun x hx => (by cases hx), rfl⟩ ?_ ?_
  · intro k w acc S1 N hw ⟨hS, ha, hn⟩ hN
    subst hS
    have hk : k < 10 := (List.getElem?_eq_some_iff.mp hw).1
    have hm := List.mem_of_getElem? hw
    have ew : Tg w := Tg.of (List.all_eq_true.mp (show _ = true by decide +kernel) w hm) (List.all_eq_true.mp (show _ = true by decide +kernel) w hm) (List.all_eq_true.mp (show _ = true by decide +kernel) w hm)
    refine ⟨rfl, ?_⟩
    walk_at "au"
    exact ⟨Nat.lt_of_lt_of_le (show acc.length < 100 by omega) (by decide), hN _ _ ⟨rfl, app ha (pair ew tgl), by rw [List.length_append, hn]; rfl⟩⟩
  intro f1 S1 ⟨hS, hf1, hn1⟩
  subst hS
  have hn1 : f1.length = 10 := hn1
  refine ⟨rfl, ?_⟩
  walk_at "au"
  refine r_lstT ?_
  walk_at "au"
  have mul7 : ∀ {R : KR}, R (.tup (List.replicate 7 (l.map setD)).flatten) S → dMulH (setsD l) (.int 7) S R := fun {R} k => by
    cases l with
    | nil => exact r_mulH0 (by decide) (by decide) k
    | cons e l => exact r_mulH (r_mulGT (by simp) (by decide) (by decide) (by simpa using (show l.length + 1 ≤ 1000 by have := hlen; simp at this; omega)) k)
  refine mul7 ?_
  walk_at "au"
  have t7 : Tg (.tup (List.replicate 7 (l.map setD)).flatten) := Tg.tup (by
      rw [List.length_flatten, List.map_replicate, List.sum_replicate_nat, List.length_map]
      omega) (fun a b e => by
      cases l with
      | nil => cases e
      | cons x r => cases e) fun x hx => by
    obtain ⟨ys, hy, hx⟩ := List.mem_flatten.mp hx
    rw [(List.mem_replicate.mp hy).2] at hx
    exact tge x hx
  have t1 : Tg (.tup [setsD l]) := Tg.tup (Nat.le_of_ble_eq_true rfl) (fun a b e => by cases e) fun x hx => by
    rw [List.mem_singleton.mp hx]
    exact tgl
  have rows : ∀ w ∈ [D.lst (l.map setD), .non, .int 0, .tup [setsD l], .tup (List.replicate 7 (l.map setD)).flatten, .tup [.tup [.int 1, .int 1]], .tup [.tup [.tup [.int 1, .int 1], .tup [.int 1, .int 1], .int 0]]], Tg w := fun w hw => by
    simp only [List.mem_cons, List.not_mem_nil, or_false] at hw
    rcases hw with rfl | rfl | rfl | rfl | rfl | rfl | rfl
    · exact .no rfl rfl
    · exact .no rfl rfl
    · exact .no rfl rfl
    · exact t1
    · exact t7
    · exact .of (by decide +kernel) (by decide +kernel) (by decide +kernel)
    · exact .of (by decide +kernel) (by decide +kernel) (by decide +kernel)
  refine comp_by (fun k acc S1 => S = S1 ∧ (∀ x ∈ acc, Cz 4000 x) ∧ acc.length = k) ⟨rfl, fun x hx => (by cases hx), rfl⟩ ?_ ?_
  · intro k w acc S1 N hw ⟨hS, ha, hn⟩ hN
    subst hS
    have hk : k < 7 := (List.getElem?_eq_some_iff.mp hw).1
    refine ⟨rfl, ?_⟩
    walk_at "au"
    exact ⟨Nat.lt_of_lt_of_le (show acc.length < 100 by omega) (by decide), hN _ _ ⟨rfl, app ha (pair tgq (rows w (List.mem_of_getElem? hw))), by rw [List.length_append, hn]; rfl⟩⟩
  intro f2 S1 ⟨hS, hf2, hn2⟩
  subst hS
  have hn2 : f2.length = 7 := hn2
  refine ⟨rfl, ?_⟩
  walk_at "au"
  refine ⟨_, _, rfl, rfl, size100 (by omega), ?_⟩
  have hf12 : ∀ x ∈ f1 ++ f2, Cz 4000 x := fun x hx => (List.mem_append.mp hx).elim (hf1 x) (hf2 x)
  have hn12 : (f1 ++ f2).length = 17 := by rw [List.length_append, hn1, hn2]
  generalize f1 ++ f2 = g2 at hf12 hn12
  clear hf1 hf2
  walk_at "au"
  refine comp_by (fun k acc S1 => S1 = S ++ [g2] ∧ (∀ x ∈ acc, Tg x) ∧ acc.length = k) ⟨rfl, fun x hx => (by cases hx), rfl⟩ ?_ ?_
  · intro k w acc S1 N hw ⟨hS, ha, hn⟩ hN
    subst hS
    obtain ⟨rfl, hk⟩ := ints_at hw
    refine ⟨trivial, ?_⟩
    walk_at "au"
    refine ⟨Nat.lt_of_lt_of_le (show acc.length < 100 by omega) (by decide), hN _ _ ⟨rfl, fun x hx => ?_, by rw [List.length_append, hn]; rfl⟩⟩
    rcases List.mem_append.mp hx with hx | hx
    · exact ha x hx
    · rw [List.mem_singleton.mp hx]
      refine Tg.tup (Nat.le_of_ble_eq_true rfl) (fun a b e => by cases e) fun y hy => ?_
      simp only [List.mem_cons, List.not_mem_nil, or_false] at hy
      rcases hy with rfl | rfl
      · refine Tg.tup (Nat.le_of_ble_eq_true rfl) (fun a b e => ?_) fun y hy => ?_
        · cases e
          exact ⟨Nat.lt_of_lt_of_le (show Int.natAbs _ < 100 by omega) (by decide), by decide⟩
        · simp only [List.mem_cons, List.not_mem_nil, or_false] at hy
          rcases hy with rfl | rfl <;> exact .no rfl rfl
      · exact .of (by decide +kernel) (by decide +kernel) (by decide +kernel)
  intro lg S1 ⟨hS, hlg, hnl⟩
  subst hS
  have hnl : lg.length = 7 := hnl
  refine ⟨trivial, ?_⟩
  walk_at "au"
  have tlg : Tg (.tup lg) := Tg.tup (by omega) (fun a b e => by rw [e] at hnl; cases hnl) hlg
  have tcut : ∀ {xs : List D} {lo hi : Option Int}, xs.length ≤ 60 → (∀ x ∈ xs, Tg x) → Cz 4000 (.tup (cutD xs lo hi)) := fun hl hx => Cz.tup (Nat.le_trans cut_len (by omega)) fun x hm => hx x (cut_mem hm)
  have tlg1 : Tg (.tup (cutD lg (some 1) none)) := by
    have hc := cut_len (xs := lg) (lo := some 1) (hi := none)
    refine Tg.tup (by omega) (fun a b e => ?_) fun x hm => hlg x (cut_mem hm)
    have : (cutD lg (some 1) none).length = 6 := by
      unfold cutD
      rw [List.length_take, List.length_drop, hnl]
      rfl
    rw [e] at this
    cases this
  have tck : ∀ x ∈ [pt q, setsD l], Tg x := fun x hx => by
    simp only [List.mem_cons, List.not_mem_nil, or_false] at hx
    rcases hx with rfl | rfl
    · exact tgq
    · exact tgl
  refine r_cutT ?_
  walk_at "au"
  refine r_cutT ?_
  walk_at "au"
  refine ⟨_, _, sto_at, rfl, size100 (by rw [hn12]; exact Nat.le_of_ble_eq_true rfl), ?_⟩
  have hg3 : ∀ x ∈ g2 ++ [D.tup [pt q, D.tup lg], D.tup [pt q, D.tup (cutD lg (some 1) none)], D.tup (cutD [pt q, setsD l] none (some 1)), D.tup ([pt q, setsD l] ++ [D.int 0]), D.lst [pt q, setsD l], D.tup [pt q, setsD l].reverse], Cz 4000 x := fun x hx => by
    rcases List.mem_append.mp hx with hx | hx
    · exact hf12 x hx
    simp only [List.mem_cons, List.not_mem_nil, or_false] at hx
    rcases hx with rfl | rfl | rfl | rfl | rfl | rfl
    · exact pair tgq tlg
    · exact pair tgq tlg1
    · exact tcut (Nat.le_of_ble_eq_true rfl) tck
    · exact Cz.tup (Nat.le_of_ble_eq_true rfl) fun x hx => (List.mem_append.mp hx).elim (tck x) fun z => by
        rw [List.mem_singleton.mp z]
        exact .no rfl rfl
    · exact Cz.no rfl rfl
    · exact Cz.tup (Nat.le_of_ble_eq_true rfl) fun x hx => tck x (List.mem_reverse.mp hx)
  have hn3 : (g2 ++ [D.tup [pt q, D.tup lg], D.tup [pt q, D.tup (cutD lg (some 1) none)], D.tup (cutD [pt q, setsD l] none (some 1)), D.tup ([pt q, setsD l] ++ [D.int 0]), D.lst [pt q, setsD l], D.tup [pt q, setsD l].reverse]).length = 23 := by rw [List.length_append, hn12] <;> rfl
  generalize g2 ++ [D.tup [pt q, D.tup lg], D.tup [pt q, D.tup (cutD lg (some 1) none)], D.tup (cutD [pt q, setsD l] none (some 1)), D.tup ([pt q, setsD l] ++ [D.int 0]), D.lst [pt q, setsD l], D.tup [pt q, setsD l].reverse] = g3 at hg3 hn3
  walk_at "au"
  refine ⟨_, _, sto_at, rfl, size100 (by rw [hn3]; exact Nat.le_of_ble_eq_true rfl), ?_⟩
  have hg4 : ∀ x ∈ g3 ++ [D.tup [], D.non, D.emp, D.str "clock"], Cz 4000 x := fun x hx => by
    rcases List.mem_append.mp hx with hx | hx
    · exact hg3 x hx
    simp only [List.mem_cons, List.not_mem_nil, or_false] at hx
    rcases hx with rfl | rfl | rfl | rfl
    · exact Cz.tup (Nat.le_of_ble_eq_true rfl) fun x hx => by cases hx
    · exact Cz.no rfl rfl
    · exact Cz.no rfl rfl
    · exact Cz.no rfl rfl
  have hn4 : (g3 ++ [D.tup [], D.non, D.emp, D.str "clock"]).length = 27 := by rw [List.length_append, hn3] <;> rfl
  generalize g3 ++ [D.tup [], D.non, D.emp, D.str "clock"] = g4 at hg4 hn4
  walk_at "au"
  have st4 : Stm i S (S ++ [g2] ++ [g3] ++ [g4]) := ((Stm.new pen).trans (Stm.new (Stm.new pen).pen)).trans (Stm.new ((Stm.new pen).trans (Stm.new (Stm.new pen).pen)).pen)
  refine r_eqSets0 hlen (fun e => ?_) (fun e => ?_)
  · walk_at "au"
    exact h _ _ _ sto_at hg4 (by omega) st4
  walk_at "au"
  have hpos : 0 < l.length := List.length_pos_iff.mpr e
  refine i_draw (by rw [List.length_map]; omega) (by rw [List.length_map]; omega) st4.pen fun x S5 x0 x1 s5 => ?_
  rw [List.length_map] at x1
  obtain ⟨n, rfl⟩ := Int.eq_ofNat_of_zero_le x0
  have hn : n < l.length := by omega
  walk_at "au"
  refine r_ixSets (List.getElem?_eq_getElem hn) ?_
  generalize hE : l[n] = en
  have he : en ∈ l := hE ▸ List.getElem_mem hn
  have tw : Tg (pt en.1) := .pt ((hl.2 en he).1.mono (by decide))
  have tj : Tg (pt en.2) := .pt ((hl.2 en he).2.mono (by decide))
  walk_at "au"
  have rows : ∀ w ∈ [D.tup [pt en.fst, D.tup [D.int 0, D.int 1]], D.tup [pt en.snd, pt en.fst], D.tup [D.tup [D.int (-1), D.int 2], pt en.snd], D.tup [pt en.fst, D.non], D.tup [pt en.fst], D.lst [pt en.fst, pt en.snd], pt en.fst] ++ [D.tup [D.tup [D.int 2, D.int 2], pt en.snd]], Tg w ∧ ∀ a, w ≠ .int a := fun w hw => by
    have two : ∀ {a b : D}, Tg a → Tg b → (∀ c, a ≠ .int c) → Tg (.tup [a, b]) := fun ha hb hc => Tg.tup (Nat.le_of_ble_eq_true rfl) (fun x y e => by cases e; exact absurd rfl (hc _)) fun x hx => by
      simp only [List.mem_cons, List.not_mem_nil, or_false] at hx
      rcases hx with rfl | rfl
      · exact ha
      · exact hb
    simp only [List.cons_append, List.nil_append, List.mem_cons, List.not_mem_nil, or_false] at hw
    rcases hw with rfl | rfl | rfl | rfl | rfl | rfl | rfl | rfl
    · exact ⟨two tw (.of (by decide +kernel) (by decide +kernel) (by decide +kernel)) (fun c e => by cases e), fun c e => by cases e⟩
    · exact ⟨two tj tw (fun c e => by cases e), fun c e => by cases e⟩
    · exact ⟨two (.of (by decide +kernel) (by decide +kernel) (by decide +kernel)) tj (fun c e => by cases e), fun c e => by cases e⟩
    · exact ⟨two tw (.no rfl rfl) (fun c e => by cases e), fun c e => by cases e⟩
    · exact ⟨Tg.tup (Nat.le_of_ble_eq_true rfl) (fun x y e => by cases e) fun x hx => by rw [List.mem_singleton.mp hx]; exact tw, fun c e => by cases e⟩
    · exact ⟨.no rfl rfl, fun c e => by cases e⟩
    · exact ⟨tw, fun c e => by cases e⟩
    · exact ⟨two (.of (by decide +kernel) (by decide +kernel) (by decide +kernel)) tj (fun c e => by cases e), fun c e => by cases e⟩
  have ni : ∀ x ∈ l.map setD, ∀ a, x ≠ .int a := fun x hx a e => by
    obtain ⟨y, _, rfl⟩ := List.mem_map.mp hx
    cases e
  have many : ∀ {xs : List D}, xs.length ≤ 60 → (∀ x ∈ xs, Tg x ∧ ∀ a, x ≠ .int a) → Cz 4000 (.tup [pt q, .tup xs]) := fun h1 h2 => pair tgq (Tg.tup (by omega) (fun a b e => absurd rfl ((h2 (.int a) (by rw [e]; exact List.mem_cons_self)).2 a)) fun x hx => (h2 x hx).1)
  have cutl : ∀ (lo hi : Option Int), (cutD (l.map setD) lo hi).length ≤ 6 := fun lo hi => by
    have := cut_len (xs := l.map setD) (lo := lo) (hi := hi)
    rw [List.length_map] at this
    omega
  have cutt : ∀ (lo hi : Option Int), ∀ x ∈ cutD (l.map setD) lo hi, Tg x ∧ ∀ a, x ≠ .int a := fun lo hi x hx => ⟨tge x (cut_mem hx), ni x (cut_mem hx)⟩
  have nlt : S.length ≤ (S ++ [g2] ++ [g3]).length := by simp only [List.length_append]; omega
  have nne : (S ++ [g2] ++ [g3]).length ≠ i := by have := pen.lt; omega
  have s05 := st4.trans s5
  have at5 : S5[(S ++ [g2] ++ [g3]).length]? = some g4 := s5.at_ nne sto_at
  generalize hm0 : (S ++ [g2] ++ [g3]).length = m0 at nlt nne at5
  refine loop_by (fun k env S1 => Stm i S S1 ∧ ∃ (g : List D) (x5 x6 x10 x11 : Option D), env = [some (.mu i), some (ckD q l), some (pt q), some (setsD l), some (.mu m0), x5, x6, some (.int (n : Int)), some (pt en.1), some (pt en.2), x10, x11] ∧ S1[m0]? = some g ∧ (∀ x ∈ g, Cz 4000 x) ∧ g.length = 27 + k) ⟨s05, g4, _, _, _, _, rfl, at5, hg4, hn4⟩ ?_ ?_
  · intro k w env S1 N hw ⟨hs1, g, x5, x6, x10, x11, he, hg, hc, hlg⟩ hN
    subst he
    have hk : k < 8 := (List.getElem?_eq_some_iff.mp hw).1
    have ew := rows w (List.mem_of_getElem? hw)
    refine ⟨rfl, ?_⟩
    walk_at "au"
    refine r_cutT ?_
    walk_at "au"
    refine r_addT (size100 (by have := cutl none (some (n : Int)); simp only [List.length_singleton]; omega)) ?_
    walk_at "au"
    refine r_cutT ?_
    refine r_addT (size100 (by have h1 := cutl none (some (n : Int)); have h2 := cutl (some ((n : Int) + 1)) none; simp only [List.length_append, List.length_singleton]; omega)) ?_
    walk_at "au"
    have hv : Cz 4000 (D.tup [pt q, .tup (cutD (l.map setD) none (some (n : Int)) ++ [w] ++ cutD (l.map setD) (some ((n : Int) + 1)) none)]) := by
      refine many ?_ ?_
      · have h1 := cutl none (some (n : Int))
        have h2 := cutl (some ((n : Int) + 1)) none
        simp only [List.length_append, List.length_singleton]
        omega
      · intro y hy
        rcases List.mem_append.mp hy with hy | hy
        · rcases List.mem_append.mp hy with hy | hy
          · exact cutt _ _ y hy
          · rw [List.mem_singleton.mp hy]
            exact ew
        · exact cutt _ _ y hy
    refine ⟨g, hg, Nat.lt_of_lt_of_le (show g.length < 100 by omega) (size100 (Nat.le_refl _)), ?_⟩
    exact hN _ _ ⟨hs1.put nlt nne, g ++ [D.tup [pt q, .tup (cutD (l.map setD) none (some (n : Int)) ++ [w] ++ cutD (l.map setD) (some ((n : Int) + 1)) none)]], x5, x6, some w, x11, rfl, List.getElem?_set_self (List.getElem?_eq_some_iff.mp hg).1, app hc hv, by rw [List.length_append, hlg] <;> rfl⟩
  intro env S1 ⟨hs1, g, x5, x6, x10, x11, he, hg, hc, hlg⟩
  subst he
  have hlg : g.length = 35 := hlg
  refine ⟨rfl, ?_⟩
  walk_at "au"
  refine ⟨_, rfl, ?_⟩
  walk_at "au"
  refine r_cutT ?_
  walk_at "au"
  refine r_cutT ?_
  refine r_addT (size100 (by have h1 := cutl none (some (n : Int)); have h2 := cutl (some (n : Int)) (some ((n : Int) + 1)); omega)) ?_
  walk_at "au"
  refine r_cutT ?_
  refine r_addT (size100 (by have h1 := cutl none (some (n : Int)); have h2 := cutl (some (n : Int)) (some ((n : Int) + 1)); have h3 := cutl (some (n : Int)) none; rw [List.length_append]; omega)) ?_
  walk_at "au"
  refine ⟨_, _, hg, rfl, size100 (by rw [hlg]; exact Nat.le_of_ble_eq_true rfl), ?_⟩
  refine h _ _ _ sto_at (fun x hx => ?_) (by rw [List.length_append, hlg]; exact Nat.le_of_ble_eq_true rfl) (hs1.trans (Stm.new hs1.pen))
  rcases List.mem_append.mp hx with hx | hx
  · exact hc x hx
  simp only [List.mem_cons, List.not_mem_nil, or_false] at hx
  rcases hx with rfl | rfl | rfl
  · exact many (by rw [List.length_reverse, List.length_map]; omega) fun x hx => ⟨tge x (List.mem_reverse.mp hx), ni x (List.mem_reverse.mp hx)⟩
  · refine many ?_ fun x hx => ?_
    · have h1 := cutl none (some (n : Int))
      have h2 := cutl (some (n : Int)) (some ((n : Int) + 1))
      have h3 := cutl (some (n : Int)) none
      simp only [List.length_append]
      omega
    · rcases List.mem_append.mp hx with hx | hx
      · rcases List.mem_append.mp hx with hx | hx <;> exact cutt _ _ x hx
      · exact cutt _ _ x hx
  · exact many (by have h1 := cutl (some 1) none; omega) (cutt _ _)
end
end DL

set_option maxHeartbeats 4000000
namespace DL
open PySem PySem.Spec PyProof.Rows L2
local macro_rules | `(tactic| walk_at "go1") => `(tactic| first
  | with_reducible refine r_seq ?_ | with_reducible refine r_asg ?_ | with_reducible refine r_ret ?_ | with_reducible refine r_ifS ?_ | with_reducible refine r_drop ?_ | with_reducible refine r_par ?_ | with_reducible refine r_next ?_ | with_reducible refine r_retN ?_
  | ((with_reducible refine' r_var ?hv ?_); (case hv => rfl)) | with_reducible refine r_c ?_ | with_reducible refine r_bin ?_ | with_reducible refine r_un ?_ | with_reducible refine r_as1 ?_ | with_reducible refine r_as0 ?_
  | with_reducible refine r_cb ?_ | with_reducible refine r_call ?_ | with_reducible refine r_B ?_ | with_reducible refine r_notT ?_ | with_reducible refine r_andT ?_ | with_reducible refine r_orT ?_
  | with_reducible refine r_andV ?_ | with_reducible refine r_orV ?_ | with_reducible refine r_notV ?_ | with_reducible refine r_if ?_ | with_reducible refine r_tup ?_ | with_reducible refine r_lst ?_ | with_reducible refine r_mu ?_
  | with_reducible refine r_cut ?_ | with_reducible refine r_p0 ?_ | with_reducible refine r_p1 ?_ | with_reducible refine r_gN ?_ | ((with_reducible refine r_gT ?hv ?_); (case hv => rfl)) | with_reducible refine r_gs1 ?_ | with_reducible refine r_gs0 ?_
  | ((with_reducible refine r_trueR ?hv ?_); (case hv => first | rfl | assumption)) | ((with_reducible refine r_falseR ?hv ?_); (case hv => first | rfl | assumption)) | with_reducible refine r_bl ?_ | with_reducible refine r_in ?_ | with_reducible refine r_two ?_
  | with_reducible refine r_addI ?_ | with_reducible refine r_subI ?_ | with_reducible refine r_mulI ?_ ?_ | with_reducible refine r_divI ?_ ?_ | with_reducible refine r_modI ?_ ?_ | with_reducible refine r_powI ?_ ?_ | with_reducible refine r_negI ?_
  | with_reducible refine r_lt ?_ | with_reducible refine r_le ?_ | with_reducible refine r_gt ?_ | with_reducible refine r_ge ?_ | with_reducible refine r_is ?_ | with_reducible refine r_isNot ?_ | with_reducible refine r_eqI ?_ | with_reducible refine r_neI ?_ | with_reducible refine r_eqS ?_ | with_reducible refine r_neS ?_
  | with_reducible refine r_ixP0 ?_ | with_reducible refine r_ixP1 ?_ | with_reducible refine r_ix0T ?_ | with_reducible refine r_ix1T ?_ | with_reducible refine r_lenT ?_ | with_reducible refine r_lenL ?_ | with_reducible refine r_lenC ?_
  | with_reducible refine r_abs ?_ | with_reducible refine r_max ?_ | with_reducible refine r_min ?_ | with_reducible refine r_intI ?_ | with_reducible refine r_intB ?_ | with_reducible refine r_tupL ?_ | with_reducible refine r_tupT ?_
  | with_reducible refine r_gcd ?_ | ((with_reducible refine r_isi ?hv ?_); (case hv => first | rfl | assumption)) | with_reducible refine r_sizeT ?_ | with_reducible refine r_sizeL ?_)
local macro_rules | `(tactic| walk_at "go") => `(tactic| repeat' walk_at "go1")
local macro_rules | `(tactic| walk_at "go1") => `(tactic| first
  | with_reducible refine r_lc ?_ | with_reducible refine r_wiT ?_ | with_reducible refine r_wiZ ?_ | with_reducible refine r_wiL ?_ | with_reducible refine r_wiR1 ?_ | with_reducible refine r_for ?_ | with_reducible refine r_yes ?_
  | with_reducible refine b_nm ?_ | with_reducible refine r_setD0 ?_ | with_reducible refine r_setD1 ?_ | ((with_reducible refine' r_setDT ?hv ?_); (case hv => rfl)) | with_reducible refine r_setsD ?_ | with_reducible refine r_setsCut ?_ | with_reducible refine b_tp2 ?_ | with_reducible refine r_trueL ?_ | with_reducible refine r_falseL ?_ )

local macro_rules | `(tactic| walk_at "go1") => `(tactic| first
  | with_reducible refine r_size0 ?_ | with_reducible refine r_size3 ?_ | with_reducible refine r_app ?_ | with_reducible refine r_setIx ?_ | ((with_reducible refine' r_sizeG ?hv ?_); (case hv => rfl)) | ((with_reducible refine' r_addG ?hv ?_); (case hv => rfl)) | ((with_reducible refine' r_addTG ?hv ?_); (case hv => rfl))
  | with_reducible refine r_bmL ?_ | with_reducible refine r_isL ?_ | with_reducible refine r_try ?_ | with_reducible refine r_emp ?_ | with_reducible refine r_raise ?_ | with_reducible refine r_chain ?_ | with_reducible refine r_mulGI ?_ ?_
  | with_reducible refine r_wiET ?_ | with_reducible refine r_telLen ?_ | with_reducible refine r_telsLen ?_ | with_reducible refine r_rowLen ?_ | ((with_reducible refine' r_telT ?hv ?_); (case hv => rfl)))

local macro_rules | `(tactic| walk_at "szs") => `(tactic| first
  | assumption
  | ((with_reducible apply Sz.add); walk_at "szs"; walk_at "szs")
  | ((with_reducible apply Sz.sub); walk_at "szs"; walk_at "szs")
  | ((with_reducible apply Sz.mul); walk_at "szs"; walk_at "szs")
  | ((with_reducible apply Sz.neg); walk_at "szs")
  | (apply Pz.sz; assumption) | exact sz0 | exact sz1 | exact sz24
  | ((with_reducible apply sz_abs); walk_at "szs"))
local macro_rules | `(tactic| walk_at "sz") => `(tactic| (apply Sz.mono; walk_at "szs"; exact Nat.le_of_ble_eq_true rfl))
local macro_rules | `(tactic| walk_at "pen") => `(tactic| first | assumption | (apply Stm.pen; assumption) | (apply stm_st; assumption) | (apply stm_st; apply Stm.pen; assumption))
local macro_rules | `(tactic| walk_at "stm") => `(tactic| first | assumption | exact Stm.of (by walk_at "pen") | (refine Stm.trans ?_ (by assumption); walk_at "stm") | (refine Stm.trans ?_ (Stm.new (by walk_at "pen")); walk_at "stm"))
local macro_rules | `(tactic| walk_at "side") => `(tactic| first | assumption | rfl | omega | decide | walk_at "sz" | walk_at "pen")
local macro_rules | `(tactic| walk_at "au") => `(tactic| repeat' walk_at "au1")
local macro_rules | `(tactic| walk_at "au1") => `(tactic| first
  | walk_at "go1"
  | (with_reducible refine i_next ?_; intro r _ _)
  | (with_reducible refine i_draw ?a ?b ?c ?_; (case a => walk_at "side"); (case b => walk_at "side"); (case c => walk_at "pen"); intro x S' _ _ _)
  | (with_reducible refine i_sum_of ?a ?b ?_; (case a => walk_at "sz"); (case b => walk_at "sz"))
  | (with_reducible refine i_difference_of ?a ?b ?_; (case a => walk_at "sz"); (case b => walk_at "sz"))
  | (with_reducible refine i_product_of ?a ?b ?_; (case a => walk_at "sz"); (case b => walk_at "sz"))
  | (with_reducible refine i_is_below ?a ?b ?_; (case a => walk_at "sz"); (case b => walk_at "sz"))
  | (with_reducible refine i_added ?a ?b ?_; (case a => walk_at "sz"); (case b => walk_at "sz"))
  | (with_reducible refine i_less ?a ?b ?_; (case a => walk_at "sz"); (case b => walk_at "sz"))
  | (with_reducible refine i_times ?a ?b ?_; (case a => walk_at "sz"); (case b => walk_at "sz"))
  | (with_reducible refine i_is_less ?a ?b ?_; (case a => walk_at "sz"); (case b => walk_at "sz"))
  | (with_reducible refine i_sum ?a ?b ?_; (case a => walk_at "sz"); (case b => walk_at "sz"))
  | (with_reducible refine i_rest ?a ?b ?_; (case a => walk_at "sz"); (case b => walk_at "sz"))
  | (with_reducible refine i_prod ?a ?b ?_; (case a => walk_at "sz"); (case b => walk_at "sz"))
  | (with_reducible refine i_under ?a ?b ?_; (case a => walk_at "sz"); (case b => walk_at "sz"))
  | with_reducible refine i_is_part_pt ?_
  | with_reducible refine r_intB ?_
  | (with_reducible refine r_rng1 ?a ?b ?_; (case a => decide); (case b => decide)) | with_reducible refine r_ix0L ?_ | with_reducible refine r_muE ?_ | with_reducible refine r_itL ?_ | with_reducible refine r_itT ?_
  | with_reducible refine r_par3 ?_ | with_reducible refine r_three ?_ | with_reducible refine r_gSub ?_ | with_reducible refine r_lstM ?_ | with_reducible refine r_lstT ?_ | with_reducible refine r_turn ?_ | with_reducible refine r_callK ?_
  | with_reducible refine i_opposite ?_
  | ((with_reducible refine' r_ixT ?hv ?_); (case hv => rfl))
  | ((with_reducible refine' r_ixL ?hv ?_); (case hv => rfl)) | fail)
local macro_rules | `(tactic| walk_at "au1") => `(tactic| first
  | (with_reducible refine r_modI ?a ?_; (case a => decide))
  | (with_reducible refine r_divI ?a ?_; (case a => exact ⟨by decide, by decide⟩))
  | (with_reducible refine r_powI ?a ?_; (case a => exact ⟨by decide, by decide, by decide⟩)) | fail)
local macro_rules | `(tactic| walk_at "br") => `(tactic| first
  | (with_reducible refine r_bothT ?_ ?_ <;> intro z)
  | (with_reducible refine r_bothF ?_ ?_ <;> intro z)
  | (with_reducible refine r_bothD ?_ ?_ <;> intro z)
  | (with_reducible refine r_bothN ?_ ?_ <;> intro z)
  | (with_reducible refine r_both ?_ ?_ <;> intro z) | fail)
local macro_rules | `(tactic| walk_at "ab") => `(tactic| repeat' first | walk_at "au1" | walk_at "br")

local macro_rules | `(tactic| walk_at "shd") => `(tactic| first
  | assumption | exact ShD.non | exact ShD.bl | exact ShD.lit (by decide) | exact ShD.str (by decide +kernel) (by decide +kernel)
  | (apply ShD.nat; omega)
  | (apply ShD.pt (by walk_at "szs"); exact (Nat.ble_eq_true_of_le (of_decide_eq_true rfl)))
  | (apply ShD.tup; walk_at "shds") | (apply ShD.lst; walk_at "shds"))
local macro_rules | `(tactic| walk_at "shds") => `(tactic| first
  | assumption | exact ShDs.nil | (apply ShDs.cons; walk_at "shd"; walk_at "shds"))

local macro_rules | `(tactic| walk_at "au1") => `(tactic| first
  | (with_reducible refine r_neSS rfl ?_)
  | ((with_reducible refine' r_reprD ?a ?b ?c ?_); (case a => walk_at "shd"); (case b => rfl); (case c => rfl)) | fail)
local macro_rules | `(tactic| walk_at "gs1") => `(tactic| first
  | with_reducible refine r_asg ?_ | with_reducible refine r_ret ?_ | with_reducible refine r_ifS ?_ | with_reducible refine r_drop ?_ | with_reducible refine r_par ?_ | with_reducible refine r_next ?_ | with_reducible refine r_retN ?_
  | ((with_reducible refine' r_var ?hv ?_); (case hv => rfl)) | with_reducible refine r_c ?_ | with_reducible refine r_bin ?_ | with_reducible refine r_un ?_ | with_reducible refine r_as1 ?_ | with_reducible refine r_as0 ?_
  | with_reducible refine r_cb ?_ | with_reducible refine r_call ?_ | with_reducible refine r_B ?_ | with_reducible refine r_notT ?_ | with_reducible refine r_andT ?_ | with_reducible refine r_orT ?_
  | with_reducible refine r_andV ?_ | with_reducible refine r_orV ?_ | with_reducible refine r_notV ?_ | with_reducible refine r_if ?_ | with_reducible refine r_tup ?_ | with_reducible refine r_lst ?_ | with_reducible refine r_mu ?_
  | with_reducible refine r_cut ?_ | with_reducible refine r_p0 ?_ | with_reducible refine r_p1 ?_ | with_reducible refine r_gN ?_ | ((with_reducible refine r_gT ?hv ?_); (case hv => rfl)) | with_reducible refine r_gs1 ?_ | with_reducible refine r_gs0 ?_
  | ((with_reducible refine r_trueR ?hv ?_); (case hv => first | rfl | assumption)) | ((with_reducible refine r_falseR ?hv ?_); (case hv => first | rfl | assumption)) | with_reducible refine r_bl ?_ | with_reducible refine r_in ?_ | with_reducible refine r_two ?_
  | with_reducible refine r_addI ?_ | with_reducible refine r_subI ?_ | with_reducible refine r_mulI ?_ ?_ | with_reducible refine r_divI ?_ ?_ | with_reducible refine r_modI ?_ ?_ | with_reducible refine r_powI ?_ ?_ | with_reducible refine r_negI ?_
  | with_reducible refine r_lt ?_ | with_reducible refine r_le ?_ | with_reducible refine r_gt ?_ | with_reducible refine r_ge ?_ | with_reducible refine r_is ?_ | with_reducible refine r_isNot ?_ | with_reducible refine r_eqI ?_ | with_reducible refine r_neI ?_ | with_reducible refine r_eqS ?_ | with_reducible refine r_neS ?_
  | with_reducible refine r_ixP0 ?_ | with_reducible refine r_ixP1 ?_ | with_reducible refine r_ix0T ?_ | with_reducible refine r_ix1T ?_ | with_reducible refine r_lenT ?_ | with_reducible refine r_lenL ?_ | with_reducible refine r_lenC ?_
  | with_reducible refine r_abs ?_ | with_reducible refine r_max ?_ | with_reducible refine r_min ?_ | with_reducible refine r_intI ?_ | with_reducible refine r_intB ?_ | with_reducible refine r_tupL ?_ | with_reducible refine r_tupT ?_
  | with_reducible refine r_gcd ?_ | ((with_reducible refine r_isi ?hv ?_); (case hv => first | rfl | assumption)) | with_reducible refine r_sizeT ?_ | with_reducible refine r_sizeL ?_)
local macro_rules | `(tactic| walk_at "gs") => `(tactic| repeat' walk_at "gs1")
local macro_rules | `(tactic| walk_at "gs1") => `(tactic| first
  | with_reducible refine r_lc ?_ | with_reducible refine r_wiT ?_ | with_reducible refine r_wiZ ?_ | with_reducible refine r_wiL ?_ | with_reducible refine r_wiR1 ?_ | with_reducible refine r_for ?_ | with_reducible refine r_yes ?_
  | with_reducible refine b_nm ?_ | with_reducible refine r_setD0 ?_ | with_reducible refine r_setD1 ?_ | ((with_reducible refine' r_setDT ?hv ?_); (case hv => rfl)) | with_reducible refine r_setsD ?_ | with_reducible refine r_setsCut ?_ | with_reducible refine b_tp2 ?_ | with_reducible refine r_trueL ?_ | with_reducible refine r_falseL ?_ )

local macro_rules | `(tactic| walk_at "gs1") => `(tactic| first
  | with_reducible refine r_size0 ?_ | with_reducible refine r_size3 ?_ | with_reducible refine r_app ?_ | with_reducible refine r_setIx ?_ | ((with_reducible refine' r_sizeG ?hv ?_); (case hv => rfl)) | ((with_reducible refine' r_addG ?hv ?_); (case hv => rfl)) | ((with_reducible refine' r_addTG ?hv ?_); (case hv => rfl))
  | with_reducible refine r_bmL ?_ | with_reducible refine r_isL ?_ | with_reducible refine r_try ?_ | with_reducible refine r_emp ?_ | with_reducible refine r_raise ?_ | with_reducible refine r_chain ?_ | with_reducible refine r_mulGI ?_ ?_
  | with_reducible refine r_wiET ?_ | with_reducible refine r_telLen ?_ | with_reducible refine r_telsLen ?_ | with_reducible refine r_rowLen ?_ | ((with_reducible refine' r_telT ?hv ?_); (case hv => rfl)))

local macro_rules | `(tactic| walk_at "as") => `(tactic| repeat' walk_at "as1")
local macro_rules | `(tactic| walk_at "as1") => `(tactic| first
  | walk_at "gs1"
  | (with_reducible refine i_next ?_; intro r _ _)
  | (with_reducible refine i_draw ?a ?b ?c ?_; (case a => walk_at "side"); (case b => walk_at "side"); (case c => walk_at "pen"); intro x S' _ _ _)
  | (with_reducible refine i_sum_of ?a ?b ?_; (case a => walk_at "sz"); (case b => walk_at "sz"))
  | (with_reducible refine i_difference_of ?a ?b ?_; (case a => walk_at "sz"); (case b => walk_at "sz"))
  | (with_reducible refine i_product_of ?a ?b ?_; (case a => walk_at "sz"); (case b => walk_at "sz"))
  | (with_reducible refine i_is_below ?a ?b ?_; (case a => walk_at "sz"); (case b => walk_at "sz"))
  | (with_reducible refine i_added ?a ?b ?_; (case a => walk_at "sz"); (case b => walk_at "sz"))
  | (with_reducible refine i_less ?a ?b ?_; (case a => walk_at "sz"); (case b => walk_at "sz"))
  | (with_reducible refine i_times ?a ?b ?_; (case a => walk_at "sz"); (case b => walk_at "sz"))
  | (with_reducible refine i_is_less ?a ?b ?_; (case a => walk_at "sz"); (case b => walk_at "sz"))
  | (with_reducible refine i_sum ?a ?b ?_; (case a => walk_at "sz"); (case b => walk_at "sz"))
  | (with_reducible refine i_rest ?a ?b ?_; (case a => walk_at "sz"); (case b => walk_at "sz"))
  | (with_reducible refine i_prod ?a ?b ?_; (case a => walk_at "sz"); (case b => walk_at "sz"))
  | (with_reducible refine i_under ?a ?b ?_; (case a => walk_at "sz"); (case b => walk_at "sz"))
  | with_reducible refine i_is_part_pt ?_
  | with_reducible refine r_intB ?_
  | (with_reducible refine r_rng1 ?a ?b ?_; (case a => decide); (case b => decide)) | with_reducible refine r_ix0L ?_ | with_reducible refine r_muE ?_ | with_reducible refine r_itL ?_ | with_reducible refine r_itT ?_
  | with_reducible refine r_par3 ?_ | with_reducible refine r_three ?_ | with_reducible refine r_gSub ?_ | with_reducible refine r_lstM ?_ | with_reducible refine r_lstT ?_ | with_reducible refine r_turn ?_ | with_reducible refine r_callK ?_
  | with_reducible refine i_opposite ?_
  | ((with_reducible refine' r_ixT ?hv ?_); (case hv => rfl))
  | ((with_reducible refine' r_ixL ?hv ?_); (case hv => rfl)) | fail)
local macro_rules | `(tactic| walk_at "as1") => `(tactic| first
  | (with_reducible refine r_modI ?a ?_; (case a => decide))
  | (with_reducible refine r_divI ?a ?_; (case a => exact ⟨by decide, by decide⟩))
  | (with_reducible refine r_powI ?a ?_; (case a => exact ⟨by decide, by decide, by decide⟩)) | fail)
local macro_rules | `(tactic| walk_at "as1") => `(tactic| first
  | (with_reducible refine r_neSS rfl ?_)
  | ((with_reducible refine' r_reprD ?a ?b ?c ?_); (case a => walk_at "shd"); (case b => rfl); (case c => rfl)) | fail)
section
variable {P : Program} {w : World} {K : PySem.W.Frag} {mg : Str → Option Value} {base : Heap} {T : List (Addr × Str)}

abbrev N_law_refused : List Str := ["_law_thing", "_law_calls", "_law_call"]
theorem sc_law_refused : FnScope N_law_refused ["_law_thing"] (defScope s_law_refused) := ⟨rfl, rfl, rfl, by decide +kernel, rfl, by decide +kernel, by decide +kernel⟩
theorem ok_law_refused {fd : FuncData} (F : FunD K "_law_refused" "_law_refused" (defArgs s_law_refused) (defBody s_law_refused) (defScope s_law_refused) [] [] (He.ga K "_law_refused") fd) (fr : Fr mg) (c_drift : Cal false P w K mg base T "drift" 8 2 [] (p_driftX K)) (c_shown_at : Cal false P w K mg base T "shown_at" 8 3 [] (p_shown_atX K)) (c_moments_of : Cal false P w K mg base T "moments_of" 8 3 [] (p_moments_ofX K)) (c_turned_back : Cal false P w K mg base T "turned_back" 8 2 [] (p_turned_backX K)) (c_skipped : Cal false P w K mg base T "skipped" 8 2 [] (p_skippedX K)) (t_law_word : ∀ k, 2 ≤ k + 1 → TryD P w K mg base "_law_word" k (TTry K T (He.ga K "ClockError") (pfE K known) tellT)) (lam : LamF K base mg T "_law_refused") (e_NoPart : ErI K "NoPart") (e_NoMoment : ErI K "NoMoment") (e_NoHour : ErI K "NoHour") (e_NoClock : ErI K "NoClock") : FnD false P w K mg base T 11 (He.ga K "_law_refused") fd ["_law_thing"] (p_law_refused K) := by
  refine fn_okD F sc_law_refused fun cdv A outer s H E hr hG0 cc => ?_
  have hG : GdOk false (cxOf (L2.CX P w) P w K mg base N_law_refused "_law_refused" (defScope s_law_refused) (He.ga K "_law_refused") cdv A outer s H E).A := hG0
  have tk : Takes (cxOf (L2.CX P w) P w K mg base N_law_refused "_law_refused" (defScope s_law_refused) (He.ga K "_law_refused") cdv A outer s H E) (fun cls d _ H' => E cls d H') := takes_of rfl rfl rfl rfl
  have po : PassesOwn (model P w) (cxOf (L2.CX P w) P w K mg base N_law_refused "_law_refused" (defScope s_law_refused) (He.ga K "_law_refused") cdv A outer s H E).A (cxOf (L2.CX P w) P w K mg base N_law_refused "_law_refused" (defScope s_law_refused) (He.ga K "_law_refused") cdv A outer s H E).env (cxOf (L2.CX P w) P w K mg base N_law_refused "_law_refused" (defScope s_law_refused) (He.ga K "_law_refused") cdv A outer s H E).xe := passes_of rfl
  refine ⟨_, (pss_lams (i := 1) (fam := [(_, _), (_, _), (_, _), (_, _), (_, _)]) (cont_cmp (f := dEq)) wraps_T flE_ok (pss_lam0 (ps_lam0E sc_law_refused.nd rfl (Or.inl rfl) (pe_lamD (lam _ cc) rfl (LamX.lamS_by (sc := defScope s_law_refused) (by decide +kernel)))) (pss_lam1 (Nat.le_of_ble_eq_true rfl) (ps_lam1E (i := 1) rfl (Or.inl rfl) (pe_lamD (lam _ cc) rfl (LamX.lamS_by (sc := defScope s_law_refused) (by decide +kernel)))) (pss_lam1 (Nat.le_of_ble_eq_true rfl) (ps_lam1E (i := 1) rfl (Or.inl rfl) (pe_lamD (lam _ cc) rfl (LamX.lamS_by (sc := defScope s_law_refused) (by decide +kernel)))) (pss_lam1 (Nat.le_of_ble_eq_true rfl) (ps_lam1E (i := 1) rfl (Or.inl rfl) (pe_lamD (lam _ cc) rfl (LamX.lamS_by (sc := defScope s_law_refused) (by decide +kernel)))) (pss_lam1 (Nat.le_of_ble_eq_true rfl) (ps_lam1E (i := 1) rfl (Or.inl rfl) (pe_lamD (lam _ cc) rfl (LamX.lamS_by (sc := defScope s_law_refused) (by decide +kernel)))) (pss_lamE (pss_retOp (opD_eq hr.units) (nobehind _ (by decide) (by decide)) (pe_lamLcE (k := 8) (fam_cons (LamX.lamS_by (sc := defScope s_law_refused) (by decide +kernel)) (fun A2 o2 s2 H2 E2 f2 c2 hr2 => (pd_own (c_drift.up (by decide)) hr2 (fun h => nomatch h) rfl (takes_of rfl rfl rfl rfl) (pad_cons (pd_var 0) (pad_cons pd_non pad_nil)))) (fam_cons (LamX.lamS_by (sc := defScope s_law_refused) (by decide +kernel)) (fun A2 o2 s2 H2 E2 f2 c2 hr2 => (pd_own (c_shown_at.up (by decide)) hr2 (fun h => nomatch h) rfl (takes_of rfl rfl rfl rfl) (pad_cons (pd_var 0) (pad_cons pd_non (pad_cons pd_non pad_nil))))) (fam_cons (LamX.lamS_by (sc := defScope s_law_refused) (by decide +kernel)) (fun A2 o2 s2 H2 E2 f2 c2 hr2 => (pd_own (c_moments_of.up (by decide)) hr2 (fun h => nomatch h) rfl (takes_of rfl rfl rfl rfl) (pad_cons (pd_var 0) (pad_cons pd_non (pad_cons pd_int pad_nil))))) (fam_cons (LamX.lamS_by (sc := defScope s_law_refused) (by decide +kernel)) (fun A2 o2 s2 H2 E2 f2 c2 hr2 => (pd_own (c_turned_back.up (by decide)) hr2 (fun h => nomatch h) rfl (takes_of rfl rfl rfl rfl) (pad_cons (pd_var 0) (pad_cons pd_int pad_nil)))) (fam_cons (LamX.lamS_by (sc := defScope s_law_refused) (by decide +kernel)) (fun A2 o2 s2 H2 E2 f2 c2 hr2 => (pd_own (c_skipped.up (by decide)) hr2 (fun h => nomatch h) rfl (takes_of rfl rfl rfl rfl) (pad_cons (pd_var 0) (pad_cons pd_int pad_nil)))) fam_nil))))) (word_of (t_law_word 8 (by decide)) (hr.mono (by decide))) (hr.mono (by decide)) rfl rfl (Or.inl rfl) (by decide +kernel)) (pd_bin opD_mulG (pd_lst (pad_cons (pd_tup (pad_cons pd_str pad_nil)) pad_nil)) pd_int))))))))), fun ds S R Rx hl hp => ?_⟩
  clear hG0 hG tk po hr cc; try clear fr c_drift c_shown_at c_moments_of c_turned_back c_skipped t_law_word lam
  obtain ⟨d, rfl, hz, hc, h⟩ := hp
  have no : ∀ {S Rx more}, Rx (erO K "NoClock") S → NoClk K d S Rx more := fun x => ⟨hz, .inl ⟨hc, x⟩⟩
  refine ⟨Nat.le_of_ble_eq_true rfl, ?_⟩
  refine r_chC ?_
  walk_at "go"
  refine i_driftX (no (flE_at e_NoClock (by simp [known]) ?_))
  refine r_chC ?_
  walk_at "go"
  refine i_shownX (no (flE_at e_NoClock (by simp [known]) ?_))
  refine r_chC ?_
  walk_at "go"
  refine i_momsX (no (flE_at e_NoClock (by simp [known]) ?_))
  refine r_chC ?_
  walk_at "go"
  refine i_backX (no (flE_at e_NoClock (by simp [known]) ?_))
  refine r_chC ?_
  walk_at "go"
  refine i_skipX (no (flE_at e_NoClock (by simp [known]) ?_))
  refine r_chN rfl ?_
  walk_at "go"
  refine r_mulGL (by decide) (by decide) (by decide) ?_
  exact r_eqQ (.inl ⟨_, rfl⟩) rfl rfl (by decide +kernel) (by decide +kernel) (by decide +kernel) h
end
end DL

set_option maxHeartbeats 4000000
namespace DL
open PySem PySem.Spec PyProof.Rows L2
local macro_rules | `(tactic| walk_at "go1") => `(tactic| first
  | with_reducible refine r_seq ?_ | with_reducible refine r_asg ?_ | with_reducible refine r_ret ?_ | with_reducible refine r_ifS ?_ | with_reducible refine r_drop ?_ | with_reducible refine r_par ?_ | with_reducible refine r_next ?_ | with_reducible refine r_retN ?_
  | ((with_reducible refine' r_var ?hv ?_); (case hv => rfl)) | with_reducible refine r_c ?_ | with_reducible refine r_bin ?_ | with_reducible refine r_un ?_ | with_reducible refine r_as1 ?_ | with_reducible refine r_as0 ?_
  | with_reducible refine r_cb ?_ | with_reducible refine r_call ?_ | with_reducible refine r_B ?_ | with_reducible refine r_notT ?_ | with_reducible refine r_andT ?_ | with_reducible refine r_orT ?_
  | with_reducible refine r_andV ?_ | with_reducible refine r_orV ?_ | with_reducible refine r_notV ?_ | with_reducible refine r_if ?_ | with_reducible refine r_tup ?_ | with_reducible refine r_lst ?_ | with_reducible refine r_mu ?_
  | with_reducible refine r_cut ?_ | with_reducible refine r_p0 ?_ | with_reducible refine r_p1 ?_ | with_reducible refine r_gN ?_ | ((with_reducible refine r_gT ?hv ?_); (case hv => rfl)) | with_reducible refine r_gs1 ?_ | with_reducible refine r_gs0 ?_
  | ((with_reducible refine r_trueR ?hv ?_); (case hv => first | rfl | assumption)) | ((with_reducible refine r_falseR ?hv ?_); (case hv => first | rfl | assumption)) | with_reducible refine r_bl ?_ | with_reducible refine r_in ?_ | with_reducible refine r_two ?_
  | with_reducible refine r_addI ?_ | with_reducible refine r_subI ?_ | with_reducible refine r_mulI ?_ ?_ | with_reducible refine r_divI ?_ ?_ | with_reducible refine r_modI ?_ ?_ | with_reducible refine r_powI ?_ ?_ | with_reducible refine r_negI ?_
  | with_reducible refine r_lt ?_ | with_reducible refine r_le ?_ | with_reducible refine r_gt ?_ | with_reducible refine r_ge ?_ | with_reducible refine r_is ?_ | with_reducible refine r_isNot ?_ | with_reducible refine r_eqI ?_ | with_reducible refine r_neI ?_ | with_reducible refine r_eqS ?_ | with_reducible refine r_neS ?_
  | with_reducible refine r_ixP0 ?_ | with_reducible refine r_ixP1 ?_ | with_reducible refine r_ix0T ?_ | with_reducible refine r_ix1T ?_ | with_reducible refine r_lenT ?_ | with_reducible refine r_lenL ?_ | with_reducible refine r_lenC ?_
  | with_reducible refine r_abs ?_ | with_reducible refine r_max ?_ | with_reducible refine r_min ?_ | with_reducible refine r_intI ?_ | with_reducible refine r_intB ?_ | with_reducible refine r_tupL ?_ | with_reducible refine r_tupT ?_
  | with_reducible refine r_gcd ?_ | ((with_reducible refine r_isi ?hv ?_); (case hv => first | rfl | assumption)) | with_reducible refine r_sizeT ?_ | with_reducible refine r_sizeL ?_)
local macro_rules | `(tactic| walk_at "go") => `(tactic| repeat' walk_at "go1")
local macro_rules | `(tactic| walk_at "go1") => `(tactic| first
  | with_reducible refine r_lc ?_ | with_reducible refine r_wiT ?_ | with_reducible refine r_wiZ ?_ | with_reducible refine r_wiL ?_ | with_reducible refine r_wiR1 ?_ | with_reducible refine r_for ?_ | with_reducible refine r_yes ?_
  | with_reducible refine b_nm ?_ | with_reducible refine r_setD0 ?_ | with_reducible refine r_setD1 ?_ | ((with_reducible refine' r_setDT ?hv ?_); (case hv => rfl)) | with_reducible refine r_setsD ?_ | with_reducible refine r_setsCut ?_ | with_reducible refine b_tp2 ?_ | with_reducible refine r_trueL ?_ | with_reducible refine r_falseL ?_ )

local macro_rules | `(tactic| walk_at "go1") => `(tactic| first
  | with_reducible refine r_size0 ?_ | with_reducible refine r_size3 ?_ | with_reducible refine r_app ?_ | with_reducible refine r_setIx ?_ | ((with_reducible refine' r_sizeG ?hv ?_); (case hv => rfl)) | ((with_reducible refine' r_addG ?hv ?_); (case hv => rfl)) | ((with_reducible refine' r_addTG ?hv ?_); (case hv => rfl))
  | with_reducible refine r_bmL ?_ | with_reducible refine r_isL ?_ | with_reducible refine r_try ?_ | with_reducible refine r_emp ?_ | with_reducible refine r_raise ?_ | with_reducible refine r_chain ?_ | with_reducible refine r_mulGI ?_ ?_
  | with_reducible refine r_wiET ?_ | with_reducible refine r_telLen ?_ | with_reducible refine r_telsLen ?_ | with_reducible refine r_rowLen ?_ | ((with_reducible refine' r_telT ?hv ?_); (case hv => rfl)))

local macro_rules | `(tactic| walk_at "szs") => `(tactic| first
  | assumption
  | ((with_reducible apply Sz.add); walk_at "szs"; walk_at "szs")
  | ((with_reducible apply Sz.sub); walk_at "szs"; walk_at "szs")
  | ((with_reducible apply Sz.mul); walk_at "szs"; walk_at "szs")
  | ((with_reducible apply Sz.neg); walk_at "szs")
  | (apply Pz.sz; assumption) | exact sz0 | exact sz1 | exact sz24
  | ((with_reducible apply sz_abs); walk_at "szs"))
local macro_rules | `(tactic| walk_at "sz") => `(tactic| (apply Sz.mono; walk_at "szs"; exact Nat.le_of_ble_eq_true rfl))
local macro_rules | `(tactic| walk_at "pen") => `(tactic| first | assumption | (apply Stm.pen; assumption) | (apply stm_st; assumption) | (apply stm_st; apply Stm.pen; assumption))
local macro_rules | `(tactic| walk_at "stm") => `(tactic| first | assumption | exact Stm.of (by walk_at "pen") | (refine Stm.trans ?_ (by assumption); walk_at "stm") | (refine Stm.trans ?_ (Stm.new (by walk_at "pen")); walk_at "stm"))
local macro_rules | `(tactic| walk_at "side") => `(tactic| first | assumption | rfl | omega | decide | walk_at "sz" | walk_at "pen")
local macro_rules | `(tactic| walk_at "au") => `(tactic| repeat' walk_at "au1")
local macro_rules | `(tactic| walk_at "au1") => `(tactic| first
  | walk_at "go1"
  | (with_reducible refine i_next ?_; intro r _ _)
  | (with_reducible refine i_draw ?a ?b ?c ?_; (case a => walk_at "side"); (case b => walk_at "side"); (case c => walk_at "pen"); intro x S' _ _ _)
  | (with_reducible refine i_sum_of ?a ?b ?_; (case a => walk_at "sz"); (case b => walk_at "sz"))
  | (with_reducible refine i_difference_of ?a ?b ?_; (case a => walk_at "sz"); (case b => walk_at "sz"))
  | (with_reducible refine i_product_of ?a ?b ?_; (case a => walk_at "sz"); (case b => walk_at "sz"))
  | (with_reducible refine i_is_below ?a ?b ?_; (case a => walk_at "sz"); (case b => walk_at "sz"))
  | (with_reducible refine i_added ?a ?b ?_; (case a => walk_at "sz"); (case b => walk_at "sz"))
  | (with_reducible refine i_less ?a ?b ?_; (case a => walk_at "sz"); (case b => walk_at "sz"))
  | (with_reducible refine i_times ?a ?b ?_; (case a => walk_at "sz"); (case b => walk_at "sz"))
  | (with_reducible refine i_is_less ?a ?b ?_; (case a => walk_at "sz"); (case b => walk_at "sz"))
  | (with_reducible refine i_sum ?a ?b ?_; (case a => walk_at "sz"); (case b => walk_at "sz"))
  | (with_reducible refine i_rest ?a ?b ?_; (case a => walk_at "sz"); (case b => walk_at "sz"))
  | (with_reducible refine i_prod ?a ?b ?_; (case a => walk_at "sz"); (case b => walk_at "sz"))
  | (with_reducible refine i_under ?a ?b ?_; (case a => walk_at "sz"); (case b => walk_at "sz"))
  | with_reducible refine i_is_part_pt ?_
  | with_reducible refine r_intB ?_
  | (with_reducible refine r_rng1 ?a ?b ?_; (case a => decide); (case b => decide)) | with_reducible refine r_ix0L ?_ | with_reducible refine r_muE ?_ | with_reducible refine r_itL ?_ | with_reducible refine r_itT ?_
  | with_reducible refine r_par3 ?_ | with_reducible refine r_three ?_ | with_reducible refine r_gSub ?_ | with_reducible refine r_lstM ?_ | with_reducible refine r_lstT ?_ | with_reducible refine r_turn ?_ | with_reducible refine r_callK ?_
  | with_reducible refine i_opposite ?_
  | ((with_reducible refine' r_ixT ?hv ?_); (case hv => rfl))
  | ((with_reducible refine' r_ixL ?hv ?_); (case hv => rfl)) | fail)
local macro_rules | `(tactic| walk_at "au1") => `(tactic| first
  | (with_reducible refine r_modI ?a ?_; (case a => decide))
  | (with_reducible refine r_divI ?a ?_; (case a => exact ⟨by decide, by decide⟩))
  | (with_reducible refine r_powI ?a ?_; (case a => exact ⟨by decide, by decide, by decide⟩)) | fail)
local macro_rules | `(tactic| walk_at "br") => `(tactic| first
  | (with_reducible refine r_bothT ?_ ?_ <;> intro z)
  | (with_reducible refine r_bothF ?_ ?_ <;> intro z)
  | (with_reducible refine r_bothD ?_ ?_ <;> intro z)
  | (with_reducible refine r_bothN ?_ ?_ <;> intro z)
  | (with_reducible refine r_both ?_ ?_ <;> intro z) | fail)
local macro_rules | `(tactic| walk_at "ab") => `(tactic| repeat' first | walk_at "au1" | walk_at "br")

local macro_rules | `(tactic| walk_at "shd") => `(tactic| first
  | assumption | exact ShD.non | exact ShD.bl | exact ShD.lit (by decide) | exact ShD.str (by decide +kernel) (by decide +kernel)
  | (apply ShD.nat; omega)
  | (apply ShD.pt (by walk_at "szs"); exact (Nat.ble_eq_true_of_le (of_decide_eq_true rfl)))
  | (apply ShD.tup; walk_at "shds") | (apply ShD.lst; walk_at "shds"))
local macro_rules | `(tactic| walk_at "shds") => `(tactic| first
  | assumption | exact ShDs.nil | (apply ShDs.cons; walk_at "shd"; walk_at "shds"))

local macro_rules | `(tactic| walk_at "au1") => `(tactic| first
  | (with_reducible refine r_neSS rfl ?_)
  | ((with_reducible refine' r_reprD ?a ?b ?c ?_); (case a => walk_at "shd"); (case b => rfl); (case c => rfl)) | fail)
local macro_rules | `(tactic| walk_at "gs1") => `(tactic| first
  | with_reducible refine r_asg ?_ | with_reducible refine r_ret ?_ | with_reducible refine r_ifS ?_ | with_reducible refine r_drop ?_ | with_reducible refine r_par ?_ | with_reducible refine r_next ?_ | with_reducible refine r_retN ?_
  | ((with_reducible refine' r_var ?hv ?_); (case hv => rfl)) | with_reducible refine r_c ?_ | with_reducible refine r_bin ?_ | with_reducible refine r_un ?_ | with_reducible refine r_as1 ?_ | with_reducible refine r_as0 ?_
  | with_reducible refine r_cb ?_ | with_reducible refine r_call ?_ | with_reducible refine r_B ?_ | with_reducible refine r_notT ?_ | with_reducible refine r_andT ?_ | with_reducible refine r_orT ?_
  | with_reducible refine r_andV ?_ | with_reducible refine r_orV ?_ | with_reducible refine r_notV ?_ | with_reducible refine r_if ?_ | with_reducible refine r_tup ?_ | with_reducible refine r_lst ?_ | with_reducible refine r_mu ?_
  | with_reducible refine r_cut ?_ | with_reducible refine r_p0 ?_ | with_reducible refine r_p1 ?_ | with_reducible refine r_gN ?_ | ((with_reducible refine r_gT ?hv ?_); (case hv => rfl)) | with_reducible refine r_gs1 ?_ | with_reducible refine r_gs0 ?_
  | ((with_reducible refine r_trueR ?hv ?_); (case hv => first | rfl | assumption)) | ((with_reducible refine r_falseR ?hv ?_); (case hv => first | rfl | assumption)) | with_reducible refine r_bl ?_ | with_reducible refine r_in ?_ | with_reducible refine r_two ?_
  | with_reducible refine r_addI ?_ | with_reducible refine r_subI ?_ | with_reducible refine r_mulI ?_ ?_ | with_reducible refine r_divI ?_ ?_ | with_reducible refine r_modI ?_ ?_ | with_reducible refine r_powI ?_ ?_ | with_reducible refine r_negI ?_
  | with_reducible refine r_lt ?_ | with_reducible refine r_le ?_ | with_reducible refine r_gt ?_ | with_reducible refine r_ge ?_ | with_reducible refine r_is ?_ | with_reducible refine r_isNot ?_ | with_reducible refine r_eqI ?_ | with_reducible refine r_neI ?_ | with_reducible refine r_eqS ?_ | with_reducible refine r_neS ?_
  | with_reducible refine r_ixP0 ?_ | with_reducible refine r_ixP1 ?_ | with_reducible refine r_ix0T ?_ | with_reducible refine r_ix1T ?_ | with_reducible refine r_lenT ?_ | with_reducible refine r_lenL ?_ | with_reducible refine r_lenC ?_
  | with_reducible refine r_abs ?_ | with_reducible refine r_max ?_ | with_reducible refine r_min ?_ | with_reducible refine r_intI ?_ | with_reducible refine r_intB ?_ | with_reducible refine r_tupL ?_ | with_reducible refine r_tupT ?_
  | with_reducible refine r_gcd ?_ | ((with_reducible refine r_isi ?hv ?_); (case hv => first | rfl | assumption)) | with_reducible refine r_sizeT ?_ | with_reducible refine r_sizeL ?_)
local macro_rules | `(tactic| walk_at "gs") => `(tactic| repeat' walk_at "gs1")
local macro_rules | `(tactic| walk_at "gs1") => `(tactic| first
  | with_reducible refine r_lc ?_ | with_reducible refine r_wiT ?_ | with_reducible refine r_wiZ ?_ | with_reducible refine r_wiL ?_ | with_reducible refine r_wiR1 ?_ | with_reducible refine r_for ?_ | with_reducible refine r_yes ?_
  | with_reducible refine b_nm ?_ | with_reducible refine r_setD0 ?_ | with_reducible refine r_setD1 ?_ | ((with_reducible refine' r_setDT ?hv ?_); (case hv => rfl)) | with_reducible refine r_setsD ?_ | with_reducible refine r_setsCut ?_ | with_reducible refine b_tp2 ?_ | with_reducible refine r_trueL ?_ | with_reducible refine r_falseL ?_ )

local macro_rules | `(tactic| walk_at "gs1") => `(tactic| first
  | with_reducible refine r_size0 ?_ | with_reducible refine r_size3 ?_ | with_reducible refine r_app ?_ | with_reducible refine r_setIx ?_ | ((with_reducible refine' r_sizeG ?hv ?_); (case hv => rfl)) | ((with_reducible refine' r_addG ?hv ?_); (case hv => rfl)) | ((with_reducible refine' r_addTG ?hv ?_); (case hv => rfl))
  | with_reducible refine r_bmL ?_ | with_reducible refine r_isL ?_ | with_reducible refine r_try ?_ | with_reducible refine r_emp ?_ | with_reducible refine r_raise ?_ | with_reducible refine r_chain ?_ | with_reducible refine r_mulGI ?_ ?_
  | with_reducible refine r_wiET ?_ | with_reducible refine r_telLen ?_ | with_reducible refine r_telsLen ?_ | with_reducible refine r_rowLen ?_ | ((with_reducible refine' r_telT ?hv ?_); (case hv => rfl)))

local macro_rules | `(tactic| walk_at "as") => `(tactic| repeat' walk_at "as1")
local macro_rules | `(tactic| walk_at "as1") => `(tactic| first
  | walk_at "gs1"
  | (with_reducible refine i_next ?_; intro r _ _)
  | (with_reducible refine i_draw ?a ?b ?c ?_; (case a => walk_at "side"); (case b => walk_at "side"); (case c => walk_at "pen"); intro x S' _ _ _)
  | (with_reducible refine i_sum_of ?a ?b ?_; (case a => walk_at "sz"); (case b => walk_at "sz"))
  | (with_reducible refine i_difference_of ?a ?b ?_; (case a => walk_at "sz"); (case b => walk_at "sz"))
  | (with_reducible refine i_product_of ?a ?b ?_; (case a => walk_at "sz"); (case b => walk_at "sz"))
  | (with_reducible refine i_is_below ?a ?b ?_; (case a => walk_at "sz"); (case b => walk_at "sz"))
  | (with_reducible refine i_added ?a ?b ?_; (case a => walk_at "sz"); (case b => walk_at "sz"))
  | (with_reducible refine i_less ?a ?b ?_; (case a => walk_at "sz"); (case b => walk_at "sz"))
  | (with_reducible refine i_times ?a ?b ?_; (case a => walk_at "sz"); (case b => walk_at "sz"))
  | (with_reducible refine i_is_less ?a ?b ?_; (case a => walk_at "sz"); (case b => walk_at "sz"))
  | (with_reducible refine i_sum ?a ?b ?_; (case a => walk_at "sz"); (case b => walk_at "sz"))
  | (with_reducible refine i_rest ?a ?b ?_; (case a => walk_at "sz"); (case b => walk_at "sz"))
  | (with_reducible refine i_prod ?a ?b ?_; (case a => walk_at "sz"); (case b => walk_at "sz"))
  | (with_reducible refine i_under ?a ?b ?_; (case a => walk_at "sz"); (case b => walk_at "sz"))
  | with_reducible refine i_is_part_pt ?_
  | with_reducible refine r_intB ?_
  | (with_reducible refine r_rng1 ?a ?b ?_; (case a => decide); (case b => decide)) | with_reducible refine r_ix0L ?_ | with_reducible refine r_muE ?_ | with_reducible refine r_itL ?_ | with_reducible refine r_itT ?_
  | with_reducible refine r_par3 ?_ | with_reducible refine r_three ?_ | with_reducible refine r_gSub ?_ | with_reducible refine r_lstM ?_ | with_reducible refine r_lstT ?_ | with_reducible refine r_turn ?_ | with_reducible refine r_callK ?_
  | with_reducible refine i_opposite ?_
  | ((with_reducible refine' r_ixT ?hv ?_); (case hv => rfl))
  | ((with_reducible refine' r_ixL ?hv ?_); (case hv => rfl)) | fail)
local macro_rules | `(tactic| walk_at "as1") => `(tactic| first
  | (with_reducible refine r_modI ?a ?_; (case a => decide))
  | (with_reducible refine r_divI ?a ?_; (case a => exact ⟨by decide, by decide⟩))
  | (with_reducible refine r_powI ?a ?_; (case a => exact ⟨by decide, by decide, by decide⟩)) | fail)
local macro_rules | `(tactic| walk_at "as1") => `(tactic| first
  | (with_reducible refine r_neSS rfl ?_)
  | ((with_reducible refine' r_reprD ?a ?b ?c ?_); (case a => walk_at "shd"); (case b => rfl); (case c => rfl)) | fail)
section
variable {P : Program} {w : World} {K : PySem.W.Frag} {mg : Str → Option Value} {base : Heap} {T : List (Addr × Str)}

abbrev N_law : List Str := ["_law_script", "_law_cell", "_law_pen", "_law_clock", "_law_thing", "_law_due", "_law_bad", "_law_words"]
theorem sc_law : FnScope N_law ["_law_script"] (defScope s_law) := ⟨rfl, rfl, rfl, by decide +kernel, rfl, by decide +kernel, by decide +kernel⟩
theorem ok_law {fd : FuncData} (F : FunD K "law" "law" (defArgs s_law) (defBody s_law) (defScope s_law) [] [] (He.ga K "law") fd) (fr : Fr mg) (c_law_pen_of : Cal false P w K mg base T "_law_pen_of" 1 1 [] p_law_pen_of) (c_law_cell_at : Cal false P w K mg base T "_law_cell_at" 1 2 [] p_law_cell_at) (c_law_gain : Cal false P w K mg base T "_law_gain" 3 1 [] p_law_gain) (c_law_sets : Cal false P w K mg base T "_law_sets" 3 2 [] p_law_sets) (c_law_is_clock : Cal false P w K mg base T "_law_is_clock" 3 1 [] p_law_is_clockX) (c_law_bent : Cal false P w K mg base T "_law_bent" 3 2 [] p_law_bent) (c_law_refused : Cal false P w K mg base T "_law_refused" 11 1 [] (p_law_refused K)) (c_drift : Cal false P w K mg base T "drift" 8 2 [] (p_driftX K)) (c_shown_at : Cal false P w K mg base T "shown_at" 8 3 [] (p_shown_atX K)) (c_moments_of : Cal false P w K mg base T "moments_of" 8 3 [] (p_moments_ofX K)) (c_turned_back : Cal false P w K mg base T "turned_back" 8 2 [] (p_turned_backX K)) (c_skipped : Cal false P w K mg base T "skipped" 8 2 [] (p_skippedX K)) (c_is_clock : Cal false P w K mg base T "is_clock" 6 1 [] p_is_clockX) (t_law_word : ∀ k, 2 ≤ k + 1 → TryD P w K mg base "_law_word" k (TTry K T (He.ga K "ClockError") (pfE K known) tellT)) (lam : LamF K base mg T "law") (e_NoPart : ErI K "NoPart") (e_NoMoment : ErI K "NoMoment") (e_NoHour : ErI K "NoHour") (e_NoClock : ErI K "NoClock") : FnD true P w K mg base T 12 (He.ga K "law") fd ["_law_script"] p_law := by
  refine fn_okD F sc_law fun cdv A outer s H E hr hG0 cc => ?_
  have hG : GdOk true (cxOf (L2.CX P w) P w K mg base N_law "law" (defScope s_law) (He.ga K "law") cdv A outer s H E).A := hG0
  have tk : Takes (cxOf (L2.CX P w) P w K mg base N_law "law" (defScope s_law) (He.ga K "law") cdv A outer s H E) (fun cls d _ H' => E cls d H') := takes_of rfl rfl rfl rfl
  have po : PassesOwn (model P w) (cxOf (L2.CX P w) P w K mg base N_law "law" (defScope s_law) (He.ga K "law") cdv A outer s H E).A (cxOf (L2.CX P w) P w K mg base N_law "law" (defScope s_law) (He.ga K "law") cdv A outer s H E).env (cxOf (L2.CX P w) P w K mg base N_law "law" (defScope s_law) (He.ga K "law") cdv A outer s H E).xe := passes_of rfl
  refine ⟨_, (psd_cons (psd_for po rfl (pid_list (pd_bin opD_add (pd_lst (pad_cons (pd_own (c_law_cell_at.up (by decide)) hr (hG.le (by decide)) rfl tk (pad_cons (pd_var 0) (pad_cons pd_int pad_nil))) pad_nil)) (pd_cut (pd_var 0) (pod_some pd_int) (pod_some pd_int)))) (pgd_name 1 sc_law.nd rfl (Or.inl rfl)) (psd_cons (psd_set 2 sc_law.nd rfl (Or.inl rfl) (pd_own (c_law_pen_of.up (by decide)) hr (hG.le (by decide)) rfl tk (pad_cons (pd_var 1) pad_nil))) (psd_cons (psd_set 3 sc_law.nd rfl (Or.inr rfl) (pd_tup (pad_cons (pd_own (c_law_gain.up (by decide)) hr (hG.le (by decide)) rfl tk (pad_cons (pd_var 2) pad_nil)) (pad_cons (pd_own (c_law_sets.up (by decide)) hr (hG.le (by decide)) rfl tk (pad_cons (pd_var 2) (pad_cons pd_int pad_nil))) pad_nil)))) (psd_cons (psd_for po rfl (pid_list (pd_bin opD_add (pd_bin opD_add (pd_lst (pad_cons (pd_var 3) pad_nil)) (pd_own (c_law_bent.up (by decide)) hr (hG.le (by decide)) rfl tk (pad_cons (pd_var 2) (pad_cons (pd_var 3) pad_nil)))) (pd_lst (pad_cons (pd_var 3) pad_nil)))) (pgd_name 4 sc_law.nd rfl (Or.inl rfl)) (psd_cons (psd_set 5 sc_law.nd rfl (Or.inl rfl) (pd_own (c_law_is_clock.up (by decide)) hr (hG.le (by decide)) rfl tk (pad_cons (pd_var 4) pad_nil))) (psd_one (psd_if (ptd_w (pwd_or (ptd_cmp (opD_ne hr.units) (nobehind _ (by decide) (by decide)) (pd_callB (cD_repr (hG rfl) hr.units) rfl fr.repr_ (by decide +kernel) (pad_cons (pd_lst (pad_cons (pd_own (c_is_clock.up (by decide)) hr (hG.le (by decide)) rfl tk (pad_cons (pd_var 4) pad_nil)) (pad_cons (pd_own (c_is_clock.up (by decide)) hr (hG.le (by decide)) rfl tk (pad_cons (pd_var 4) pad_nil)) pad_nil))) pad_nil)) (pd_callB (cD_repr (hG rfl) hr.units) rfl fr.repr_ (by decide +kernel) (pad_cons (pd_lst (pad_cons (pd_var 5) (pad_cons (pd_var 5) pad_nil))) pad_nil))) (pwd_or1 (ptd_w (pwd_and (ptd_not (ptd_val (pd_var 5))) (pwd_and1 (ptd_not (ptd_val (pd_own (c_law_refused.up (by decide)) hr (hG.le (by decide)) rfl tk (pad_cons (pd_var 4) pad_nil)))))))))) (psd_one (psd_ret pd_bl)) psd_nil)))) (psd_cons (psd_for po rfl (pid_list (pd_lst (pad_cons pd_non (pad_cons (pd_tup (pad_cons (pd_un unD_neg pd_int) (pad_cons pd_int pad_nil))) (pad_cons (pd_tup (pad_cons pd_int (pad_cons pd_int pad_nil))) (pad_cons pd_int (pad_cons pd_bl (pad_cons (pd_tup (pad_cons pd_int (pad_cons pd_int pad_nil))) (pad_cons pd_str pad_nil))))))))) (pgd_name 6 sc_law.nd rfl (Or.inr rfl)) (psd_cons (psd_set 7 sc_law.nd rfl (Or.inl rfl) (pd_mu (pad_cons (pd_try (k := 8) (CS := He.ga K "ClockError") (t_law_word 8 (by decide)) wraps_T flE_ok rfl (lam _ cc) rfl (hr.mono (by decide)) (hr.mono (by decide)) (LamX.lamS_by (sc := defScope s_law) (by decide +kernel)) (fun A2 o2 s2 H2 E2 f2 c2 hr2 => (pd_own (c_drift.up (by decide)) hr2 (fun h => nomatch h) rfl (takes_of rfl rfl rfl rfl) (pad_cons (pd_var 3) (pad_cons (pd_var 6) pad_nil))))) pad_nil))) (psd_cons (psd_app (pd_var 7) (pd_try (k := 8) (CS := He.ga K "ClockError") (t_law_word 8 (by decide)) wraps_T flE_ok rfl (lam _ cc) rfl (hr.mono (by decide)) (hr.mono (by decide)) (LamX.lamS_by (sc := defScope s_law) (by decide +kernel)) (fun A2 o2 s2 H2 E2 f2 c2 hr2 => (pd_own (c_shown_at.up (by decide)) hr2 (fun h => nomatch h) rfl (takes_of rfl rfl rfl rfl) (pad_cons (pd_var 3) (pad_cons (pd_var 6) (pad_cons pd_int pad_nil))))))) (psd_one (psd_if (ptd_cmp (opD_ne hr.units) (nobehind _ (by decide) (by decide)) (pd_var 7) (pd_bin opD_mulG (pd_lst (pad_cons (pd_tup (pad_cons pd_str pad_nil)) pad_nil)) pd_int)) (psd_one (psd_ret pd_bl)) psd_nil))))) (psd_one (psd_for po rfl (pid_list (pd_lst (pad_cons (pd_tup (pad_cons pd_int (pad_cons pd_int pad_nil))) (pad_cons pd_int (pad_cons pd_bl (pad_cons pd_str (pad_cons (pd_tup (pad_cons pd_int (pad_cons pd_int pad_nil))) (pad_cons (pd_lst (pad_cons pd_int (pad_cons pd_int pad_nil))) (pad_cons pd_int (pad_cons pd_bl (pad_cons pd_str (pad_cons (pd_tup pad_nil) (pad_cons (pd_lst pad_nil) (pad_cons pd_emp pad_nil)))))))))))))) (pgd_name 6 sc_law.nd rfl (Or.inr rfl)) (psd_cons (psd_set 7 sc_law.nd rfl (Or.inl rfl) (pd_mu (pad_cons (pd_try (k := 8) (CS := He.ga K "ClockError") (t_law_word 8 (by decide)) wraps_T flE_ok rfl (lam _ cc) rfl (hr.mono (by decide)) (hr.mono (by decide)) (LamX.lamS_by (sc := defScope s_law) (by decide +kernel)) (fun A2 o2 s2 H2 E2 f2 c2 hr2 => (pd_own (c_shown_at.up (by decide)) hr2 (fun h => nomatch h) rfl (takes_of rfl rfl rfl rfl) (pad_cons (pd_var 3) (pad_cons (pd_tup (pad_cons pd_int (pad_cons pd_int pad_nil))) (pad_cons (pd_var 6) pad_nil)))))) pad_nil))) (psd_cons (psd_app (pd_var 7) (pd_try (k := 8) (CS := He.ga K "ClockError") (t_law_word 8 (by decide)) wraps_T flE_ok rfl (lam _ cc) rfl (hr.mono (by decide)) (hr.mono (by decide)) (LamX.lamS_by (sc := defScope s_law) (by decide +kernel)) (fun A2 o2 s2 H2 E2 f2 c2 hr2 => (pd_own (c_moments_of.up (by decide)) hr2 (fun h => nomatch h) rfl (takes_of rfl rfl rfl rfl) (pad_cons (pd_var 3) (pad_cons (pd_tup (pad_cons pd_int (pad_cons pd_int pad_nil))) (pad_cons (pd_var 6) pad_nil))))))) (psd_cons (psd_app (pd_var 7) (pd_try (k := 8) (CS := He.ga K "ClockError") (t_law_word 8 (by decide)) wraps_T flE_ok rfl (lam _ cc) rfl (hr.mono (by decide)) (hr.mono (by decide)) (LamX.lamS_by (sc := defScope s_law) (by decide +kernel)) (fun A2 o2 s2 H2 E2 f2 c2 hr2 => (pd_own (c_turned_back.up (by decide)) hr2 (fun h => nomatch h) rfl (takes_of rfl rfl rfl rfl) (pad_cons (pd_var 3) (pad_cons (pd_var 6) pad_nil)))))) (psd_cons (psd_app (pd_var 7) (pd_try (k := 8) (CS := He.ga K "ClockError") (t_law_word 8 (by decide)) wraps_T flE_ok rfl (lam _ cc) rfl (hr.mono (by decide)) (hr.mono (by decide)) (LamX.lamS_by (sc := defScope s_law) (by decide +kernel)) (fun A2 o2 s2 H2 E2 f2 c2 hr2 => (pd_own (c_skipped.up (by decide)) hr2 (fun h => nomatch h) rfl (takes_of rfl rfl rfl rfl) (pad_cons (pd_var 3) (pad_cons (pd_var 6) pad_nil)))))) (psd_one (psd_if (ptd_w (pwd_or (ptd_cmp (opD_ne hr.units) (nobehind _ (by decide) (by decide)) (pd_var 7) (pd_bin opD_mulG (pd_lst (pad_cons (pd_tup (pad_cons pd_str pad_nil)) pad_nil)) pd_int)) (pwd_or1 (ptd_cmp (opD_ne hr.units) (nobehind _ (by decide) (by decide)) (pd_try (k := 8) (CS := He.ga K "ClockError") (t_law_word 8 (by decide)) wraps_T flE_ok rfl (lam _ cc) rfl (hr.mono (by decide)) (hr.mono (by decide)) (LamX.lamS_by (sc := defScope s_law) (by decide +kernel)) (fun A2 o2 s2 H2 E2 f2 c2 hr2 => (pd_own (c_moments_of.up (by decide)) hr2 (fun h => nomatch h) rfl (takes_of rfl rfl rfl rfl) (pad_cons (pd_var 3) (pad_cons (pd_var 6) (pad_cons (pd_var 6) pad_nil)))))) (pd_tup (pad_cons pd_str pad_nil)))))) (psd_one (psd_ret pd_bl)) psd_nil))))))))))))) (psd_one (psd_ret pd_bl))), fun ds S R Rx hl hp => ?_⟩
  clear hG0 hG tk po hr cc; try clear fr c_law_pen_of c_law_cell_at c_law_gain c_law_sets c_law_is_clock c_law_bent c_law_refused c_drift c_shown_at c_moments_of c_turned_back c_skipped c_is_clock t_law_word lam
  obtain ⟨ns, rfl, hns, h⟩ := hp
  walk_at "go"
  refine i_cell_at fun z => ?_
  walk_at "go"
  refine ⟨_, rfl, ?_⟩
  refine r_addL ?_ ?_
  · have := cut_len (xs := ns.map D.int) (lo := some 1) (hi := some 3)
    rw [List.length_map] at this
    exact size100 (by simp only [List.length_cons, List.length_nil]; omega)
  refine ⟨_, rfl, ?_⟩
  refine loop_by (fun k env S1 => ∃ x1 x2 x3 x4 x5 x6 x7, env = [some (.scr (ns.map D.int)), x1, x2, x3, x4, x5, x6, x7]) ⟨_, _, _, _, _, _, _, rfl⟩ ?_ ?_
  rotate_left
  · intro env S1 hI
    obtain ⟨x1, x2, x3, x4, x5, x6, x7, rfl⟩ := hI
    refine ⟨rfl, ?_⟩
    walk_at "go"
    exact h _
  · intro k d env S1 N hd ⟨x1, x2, x3, x4, x5, x6, x7, henv⟩ hNx
    subst henv
    obtain ⟨c, rfl⟩ : ∃ c : Int, d = .int c := by
      rcases List.mem_append.mp (List.mem_of_getElem? hd) with hm | hm
      · exact ⟨z, List.mem_singleton.mp hm⟩
      · obtain ⟨c, _, e⟩ := List.mem_map.mp (cut_mem hm)
        exact ⟨c, e.symm⟩
    refine ⟨rfl, ?_⟩
    walk_at "go"
    refine i_pen_of fun pa pb pc => ?_
    generalize hp0 : S1.length = p
    have pen0 := pen_new (S := S1) (a := pa) (b := pb) (c := pc) hp0
    walk_at "go"
    refine i_gain pen0 fun q S2 hg hq s2 => ?_
    walk_at "go"
    refine i_sets s2.pen fun l S3 hl s3 => ?_
    walk_at "go"
    have hck : CkOk q l := ⟨hg, hq.mono (by decide), hl.1⟩
    have cck := cz_ck hck
    have ick := isClo_ck hck
    refine i_bentX s3.pen hq hl fun e xs S4 he hx hlx s4 => ?_
    refine ⟨_, _, rfl, he, size100 (by simp only [List.length_singleton]; omega), ?_⟩
    walk_at "go"
    refine r_addL (size100 (by simp only [List.length_append, List.length_singleton]; omega)) ?_
    have things : ∀ w ∈ [ckD q l] ++ xs ++ [ckD q l], Cz 4000 w := fun w hw => by
      rcases List.mem_append.mp hw with hw | hw
      · rcases List.mem_append.mp hw with hw | hw
        · rw [List.mem_singleton.mp hw]
          exact cck
        · exact hx w hw
      · rw [List.mem_singleton.mp hw]
        exact cck
    refine ⟨_, rfl, ?_⟩
    refine loop_by (fun k env S1 => ∃ x4 x5 x6 x7 : Option D, env = [some (.scr (ns.map D.int)), some (.int c), some (.mu p), some (ckD q l), x4, x5, x6, x7]) ⟨_, _, _, _, rfl⟩ ?_ ?_
    · intro k w env S5 N hw ⟨x4, x5, x6, x7, he⟩ hN
      subst he
      have cw := things w (List.mem_of_getElem? hw)
      refine ⟨rfl, ?_⟩
      walk_at "au"
      refine i_lclockX cw ?_
      walk_at "au"
      refine i_clockX cw ?_
      walk_at "au"
      refine i_clockX cw ?_
      walk_at "au"
      cases hc : isClo w with
      | true =>
        walk_at "au"
        exact hN _ _ ⟨_, _, _, _, rfl⟩
      | false =>
        walk_at "au"
        refine i_refusedX cw hc ?_
        walk_at "au"
        exact hN _ _ ⟨_, _, _, _, rfl⟩
    intro env S5 ⟨x4, x5, x6, x7, he⟩
    subst he
    refine ⟨rfl, ?_⟩
    walk_at "au"
    refine loop_by (fun k env S1 => ∃ x4 x5 x6 x7 : Option D, env = [some (.scr (ns.map D.int)), some (.int c), some (.mu p), some (ckD q l), x4, x5, x6, x7]) ⟨_, _, _, _, rfl⟩ ?_ ?_
    · intro k w env S6 N hw ⟨x4, x5, x6, x7, he⟩ hN
      subst he
      obtain ⟨zw, uw⟩ := bad1 (List.mem_of_getElem? hw)
      refine ⟨rfl, ?_⟩
      walk_at "au"
      refine i_driftX ⟨cck, .inr ⟨ick, zw, uw, flE_at e_NoMoment (by simp [known]) ?_⟩⟩
      walk_at "au"
      refine i_shownX ⟨cck, .inr ⟨ick, zw, .inl ⟨uw, flE_at e_NoMoment (by simp [known]) ?_⟩⟩⟩
      walk_at "au"
      refine ⟨_, sto_at, Nat.lt_of_lt_of_le (show 1 < 100 by decide) (size100 (Nat.le_refl _)), ?_⟩
      rw [sto_set]
      walk_at "au"
      refine r_mulGL (by decide) (by decide) (by decide) ?_
      refine r_neQ (.inr ⟨_, rfl⟩) (by show (_ : Option (List D)).bind _ = _; rw [sto_at]; rfl) rfl (by decide +kernel) (by decide +kernel) (by decide +kernel) ?_
      walk_at "au"
      exact hN _ _ ⟨_, _, _, _, rfl⟩
    intro env S6 ⟨x4, x5, x6, x7, he⟩
    subst he
    refine ⟨rfl, ?_⟩
    walk_at "au"
    refine loop_by (fun k env S1 => ∃ x4 x5 x6 x7 : Option D, env = [some (.scr (ns.map D.int)), some (.int c), some (.mu p), some (ckD q l), x4, x5, x6, x7]) ⟨_, _, _, _, rfl⟩ ?_ ?_
    · intro k w env S6 N hw ⟨x4, x5, x6, x7, he⟩ hN
      subst he
      have bw := bad2 (List.mem_of_getElem? hw)
      have z0 : Pz 4000 (D.tup [.int 0, .int 1]) := (pz_of (n := 200) (by decide +kernel)).mono (by decide)
      refine ⟨rfl, ?_⟩
      walk_at "au"
      refine i_shownX ⟨cck, .inr ⟨ick, z0, .inr ⟨by decide, bw, flE_at e_NoPart (by simp [known]) ?_⟩⟩⟩
      walk_at "au"
      refine i_momsX ⟨cck, .inr ⟨ick, z0, .inr ⟨by decide, bw, flE_at e_NoPart (by simp [known]) ?_⟩⟩⟩
      walk_at "au"
      refine ⟨_, sto_at, Nat.lt_of_lt_of_le (show 1 < 100 by decide) (size100 (Nat.le_refl _)), ?_⟩
      rw [sto_set]
      walk_at "au"
      refine i_backX ⟨cck, .inr ⟨ick, bw, flE_at e_NoPart (by simp [known]) ?_⟩⟩
      walk_at "au"
      refine ⟨_, sto_at, Nat.lt_of_lt_of_le (show 2 < 100 by decide) (size100 (Nat.le_refl _)), ?_⟩
      rw [sto_set]
      walk_at "au"
      refine i_skipX ⟨cck, .inr ⟨ick, bw, flE_at e_NoPart (by simp [known]) ?_⟩⟩
      walk_at "au"
      refine ⟨_, sto_at, Nat.lt_of_lt_of_le (show 3 < 100 by decide) (size100 (Nat.le_refl _)), ?_⟩
      rw [sto_set]
      walk_at "au"
      refine r_mulGL (by decide) (by decide) (by decide) ?_
      refine r_neQ (.inr ⟨_, rfl⟩) (by show (_ : Option (List D)).bind _ = _; rw [sto_at]; rfl) rfl (by decide +kernel) (by decide +kernel) (by decide +kernel) ?_
      walk_at "au"
      refine i_momsX ⟨cck, .inr ⟨ick, bw.1, .inl ⟨bw.2.2, flE_at e_NoHour (by simp [known]) ?_⟩⟩⟩
      walk_at "au"
      refine r_neWord rfl (by decide +kernel) ?_
      walk_at "au"
      exact hN _ _ ⟨_, _, _, _, rfl⟩
    intro env S7 ⟨x4, x5, x6, x7, he⟩
    subst he
    refine ⟨rfl, ?_⟩
    walk_at "au"
    exact hNx _ _ ⟨_, _, _, _, _, _, _, rfl⟩
end
end DL

set_option Elab.async false
set_option linter.all false
set_option maxRecDepth 100000
set_option maxHeartbeats 4000000
set_option exponentiation.threshold 20000
set_option maxHeartbeats 0
namespace DL
open PySem PySem.Spec PyProof.Rows L2
theorem facts {P : Program} {w : World} {K : PySem.W.Frag} {h : Heap} {mg : Str → Option Value} {f : Addr} (X : K.In h) (G : h.Ns mainGlobals mg) (hfa : mg ("law" : Str) = some (.ref f)) (c : He.SaysX fas fns [] tfs exs w h K) :
    ∃ fd : FuncData, (∀ (s : Shared) (v : Value), BindsTo s fd ⟨[v], []⟩ [("_law_script", v)]) ∧ ∀ base : Heap, K.In base → base.Ns mainGlobals mg → (∀ q ∈ tfs.map (He.cT K), LamX.TabB base mg q.1 q.2) → FnD true P w K mg base (tabT K tfs) 12 f fd ["_law_script"] p_law := by
  have cd := c.t.d
  obtain ⟨fd0, F0⟩ := cd.def_ 0 (d := d_is_whole) rfl
  obtain ⟨fd1, F1⟩ := cd.def_ 1 (d := d_is_part) rfl
  obtain ⟨fd2, F2⟩ := cd.def_ 2 (d := d_check_part) rfl
  obtain ⟨fd3, F3⟩ := cd.def_ 3 (d := d_is_less) rfl
  obtain ⟨fd4, F4⟩ := cd.def_ 4 (d := d_is_moment) rfl
  obtain ⟨fd5, F5⟩ := cd.def_ 5 (d := d_is_gain) rfl
  obtain ⟨fd6, F6⟩ := cd.def_ 6 (d := d_is_one_set) rfl
  obtain ⟨fd7, F7⟩ := cd.def_ 7 (d := d_are_sets) rfl
  obtain ⟨fd8, F8⟩ := cd.def_ 8 (d := d_is_clock) rfl
  obtain ⟨fd9, F9⟩ := cd.def_ 9 (d := d_check_clock) rfl
  obtain ⟨fd10, F10⟩ := cd.def_ 10 (d := d_check_moment) rfl
  obtain ⟨fd11, F11⟩ := cd.def_ 11 (d := d_check_hour) rfl
  obtain ⟨fd12, F12⟩ := cd.def_ 12 (d := d_error_told) rfl
  obtain ⟨fd13, F13⟩ := cd.def_ 13 (d := d_drift) rfl
  obtain ⟨fd14, F14⟩ := cd.def_ 14 (d := d_shown_at) rfl
  obtain ⟨fd15, F15⟩ := cd.def_ 15 (d := d_moments_of) rfl
  obtain ⟨fd16, F16⟩ := cd.def_ 16 (d := d_leaps_of) rfl
  obtain ⟨fd17, F17⟩ := cd.def_ 17 (d := d_turned_back) rfl
  obtain ⟨fd18, F18⟩ := cd.def_ 18 (d := d_skipped) rfl
  obtain ⟨fd19, F19⟩ := cd.def_ 19 (d := d_law_cell_at) rfl
  obtain ⟨fd20, F20⟩ := cd.def_ 20 (d := d_law_next) rfl
  obtain ⟨fd21, F21⟩ := cd.def_ 21 (d := d_law_pen_of) rfl
  obtain ⟨fd22, F22⟩ := cd.def_ 22 (d := d_law_draw) rfl
  obtain ⟨fd23, F23⟩ := cd.def_ 23 (d := d_law_made) rfl
  obtain ⟨fd24, F24⟩ := cd.def_ 24 (d := d_law_sum) rfl
  obtain ⟨fd25, F25⟩ := cd.def_ 25 (d := d_law_under) rfl
  obtain ⟨fd26, F26⟩ := cd.def_ 26 (d := d_law_gain) rfl
  obtain ⟨fd27, F27⟩ := cd.def_ 27 (d := d_law_sets) rfl
  obtain ⟨fd28, F28⟩ := cd.def_ 28 (d := d_law_flags) rfl
  obtain ⟨fd29, F29⟩ := cd.def_ 29 (d := d_law_word) rfl
  obtain ⟨fd30, F30⟩ := cd.def_ 30 (d := d_law_is_part) rfl
  obtain ⟨fd31, F31⟩ := cd.def_ 31 (d := d_law_is_clock) rfl
  obtain ⟨fd32, F32⟩ := cd.def_ 32 (d := d_law_bent) rfl
  obtain ⟨fd33, F33⟩ := cd.def_ 33 (d := d_law_refused) rfl
  obtain ⟨fd34, F34⟩ := cd.def_ 34 (d := d_law) rfl
  have e := hfa.symm.trans (He.glo_ok X G (cd.fact 34 (f := .glo "law") rfl))
  cases e
  have b := FunD.bindsA (ps := ["_law_script"]) F34 fun _ _ _ _ _ _ us hl => match us, hl with | [_], _ => rfl
  refine ⟨fd34, fun s v => b s [v] rfl, fun base _ _ TB => ?_⟩
  have fr : Fr mg := ⟨He.free_ok X G (cd.fact 55 (f := .free "len") rfl), He.free_ok X G (cd.fact 56 (f := .free "isinstance") rfl), He.free_ok X G (cd.fact 57 (f := .free "tuple") rfl), He.free_ok X G (cd.fact 58 (f := .free "int") rfl), He.free_ok X G (cd.fact 59 (f := .free "bool") rfl), He.free_ok X G (cd.fact 60 (f := .free "abs") rfl), He.free_ok X G (cd.fact 61 (f := .free "max") rfl), He.free_ok X G (cd.fact 62 (f := .free "min") rfl), He.free_ok X G (cd.fact 63 (f := .free "range") rfl), He.free_ok X G (cd.fact 64 (f := .free "all") rfl), He.free_ok X G (cd.fact 65 (f := .free "any") rfl), He.free_ok X G (cd.fact 66 (f := .free "zip") rfl), He.free_ok X G (cd.fact 67 (f := .free "list") rfl), He.free_ok X G (cd.fact 68 (f := .free "repr") rfl), He.free_ok X G (cd.fact 69 (f := .free "enumerate") rfl), He.free_ok X G (cd.fact 70 (f := .free "str") rfl), He.free_ok X G (cd.fact 71 (f := .free "LookupError") rfl), He.free_ok X G (cd.fact 72 (f := .free "TypeError") rfl), He.free_ok X G (cd.fact 73 (f := .free "ArithmeticError") rfl), He.free_ok X G (cd.fact 74 (f := .free "RuntimeError") rfl), He.free_ok X G (cd.fact 75 (f := .free "ValueError") rfl), He.free_ok X G (cd.fact 76 (f := .free "sum") rfl), He.free_ok X G (cd.fact 77 (f := .free "sorted") rfl), He.free_ok X G (cd.fact 78 (f := .free "set") rfl)⟩
  have k_MOST_GAIN : Con K mg "MOST_GAIN" v_MOST_GAIN := by
    obtain ⟨t, e⟩ := He.int_ok X G (cd.fact 79 (f := .int "MOST_GAIN" 12) rfl)
    exact ⟨_, .int 12, e, ⟨t, rfl⟩, fun _ _ => .int 12⟩
  have k_MOST_SETS : Con K mg "MOST_SETS" v_MOST_SETS := by
    obtain ⟨t, e⟩ := He.int_ok X G (cd.fact 80 (f := .int "MOST_SETS" 6) rfl)
    exact ⟨_, .int 6, e, ⟨t, rfl⟩, fun _ _ => .int 6⟩
  have k_NOUGHT : Con K mg "NOUGHT" v_NOUGHT := ⟨_, .ref (He.ga K "NOUGHT"), He.glo_ok X G (cd.fact 81 (f := .glo "NOUGHT") rfl), rfl, fun _ G2 => .tup (He.tupB_ok (x := "NOUGHT") (He.ba c.more).1 G2) (.cons (.int 0) (.cons (.int 1) .nil))⟩
  have m_gcd : mg "gcd" = some (.builtin "math.gcd") := PySem.W.mg_of X G (He.eqO_ok (He.ba (He.ba c.more).2).1)
  have o_NoPart := He.glo_ok X G (cd.fact 35 (f := .glo "NoPart") rfl)
  have o_NoNumber := He.glo_ok X G (cd.fact 36 (f := .glo "NoNumber") rfl)
  have o_NoMoment := He.glo_ok X G (cd.fact 37 (f := .glo "NoMoment") rfl)
  have o_NoClock := He.glo_ok X G (cd.fact 38 (f := .glo "NoClock") rfl)
  have o_NoHour := He.glo_ok X G (cd.fact 39 (f := .glo "NoHour") rfl)
  have o_NoTelling := He.glo_ok X G (cd.fact 40 (f := .glo "NoTelling") rfl)
  have o_NoTellings := He.glo_ok X G (cd.fact 41 (f := .glo "NoTellings") rfl)
  have o_NoRow := He.glo_ok X G (cd.fact 42 (f := .glo "NoRow") rfl)
  have o_Apart := He.glo_ok X G (cd.fact 43 (f := .glo "Apart") rfl)
  have o_Twice := He.glo_ok X G (cd.fact 44 (f := .glo "Twice") rfl)
  have o_Missing := He.glo_ok X G (cd.fact 45 (f := .glo "Missing") rfl)
  have o_NoDeed := He.glo_ok X G (cd.fact 46 (f := .glo "NoDeed") rfl)
  have o_NoAir := He.glo_ok X G (cd.fact 47 (f := .glo "NoAir") rfl)
  have o_NoSignal := He.glo_ok X G (cd.fact 48 (f := .glo "NoSignal") rfl)
  have o_NoQuarrel := He.glo_ok X G (cd.fact 49 (f := .glo "NoQuarrel") rfl)
  have o_NoCarriage := He.glo_ok X G (cd.fact 50 (f := .glo "NoCarriage") rfl)
  have o_NoLine := He.glo_ok X G (cd.fact 51 (f := .glo "NoLine") rfl)
  have o_TooMany := He.glo_ok X G (cd.fact 52 (f := .glo "TooMany") rfl)
  have o_NoText := He.glo_ok X G (cd.fact 53 (f := .glo "NoText") rfl)
  have o_ClockError := He.glo_ok X G (cd.fact 54 (f := .glo "ClockError") rfl)
  have x_NoPart : Xc K mg "NoPart" := xc_of X G (cd.fact 35 (f := .glo "NoPart") rfl) (cd.fact 82 (f := .exc "NoPart") rfl)
  have x_NoClock : Xc K mg "NoClock" := xc_of X G (cd.fact 38 (f := .glo "NoClock") rfl) (cd.fact 83 (f := .exc "NoClock") rfl)
  have x_NoMoment : Xc K mg "NoMoment" := xc_of X G (cd.fact 37 (f := .glo "NoMoment") rfl) (cd.fact 84 (f := .exc "NoMoment") rfl)
  have x_NoHour : Xc K mg "NoHour" := xc_of X G (cd.fact 39 (f := .glo "NoHour") rfl) (cd.fact 85 (f := .exc "NoHour") rfl)
  have e_NoPart : ErI K "NoPart" := errB_ok (He.ba (He.ba (He.ba c.more).2).2).1
  have e_NoMoment : ErI K "NoMoment" := errB_ok (He.ba (He.ba (He.ba (He.ba c.more).2).2).2).1
  have e_NoHour : ErI K "NoHour" := errB_ok (He.ba (He.ba (He.ba (He.ba (He.ba c.more).2).2).2).2).1
  have e_NoClock : ErI K "NoClock" := errB_ok (He.ba (He.ba (He.ba (He.ba (He.ba (He.ba c.more).2).2).2).2).2).1
  have lam_law_refused : LamF K base mg (tabT K tfs) "_law_refused" := lamF_of (He.ba (He.ba (He.ba (He.ba (He.ba (He.ba c.more).2).2).2).2).2).2 (by decide) TB
  have lam_law : LamF K base mg (tabT K tfs) "law" := lamF_of (He.ba (He.ba (He.ba (He.ba (He.ba (He.ba c.more).2).2).2).2).2).2 (by decide) TB
  have f_is_whole : FnD false P w K mg base (tabT K tfs) 1 (He.ga K "is_whole") fd0 ["thing"] p_is_whole := ok_is_whole F0 fr
  have c_is_whole : Cal false P w K mg base (tabT K tfs) "is_whole" 1 1 [] p_is_whole := ⟨_, fd0, ["thing"], [], [], f_is_whole, rfl, He.glo_ok X G (cd.fact 0 (f := .glo "is_whole") rfl), F0.kp, FunD.bindsN F0 (fun _ _ _ _ _ _ us hl => match us, hl with | [_], _ => rfl), .nil, fun _ _ => .nil⟩
  have f_law_cell_at : FnD false P w K mg base (tabT K tfs) 1 (He.ga K "_law_cell_at") fd19 ["_law_script", "_law_k"] p_law_cell_at := ok_law_cell_at F19 fr
  have c_law_cell_at : Cal false P w K mg base (tabT K tfs) "_law_cell_at" 1 2 [] p_law_cell_at := ⟨_, fd19, ["_law_script", "_law_k"], [], [], f_law_cell_at, rfl, He.glo_ok X G (cd.fact 19 (f := .glo "_law_cell_at") rfl), F19.kp, FunD.bindsN F19 (fun _ _ _ _ _ _ us hl => match us, hl with | [_, _], _ => rfl), .nil, fun _ _ => .nil⟩
  have f_law_next : FnD false P w K mg base (tabT K tfs) 1 (He.ga K "_law_next") fd20 ["_law_seed"] p_law_next := ok_law_next F20 fr
  have c_law_next : Cal false P w K mg base (tabT K tfs) "_law_next" 1 1 [] p_law_next := ⟨_, fd20, ["_law_seed"], [], [], f_law_next, rfl, He.glo_ok X G (cd.fact 20 (f := .glo "_law_next") rfl), F20.kp, FunD.bindsN F20 (fun _ _ _ _ _ _ us hl => match us, hl with | [_], _ => rfl), .nil, fun _ _ => .nil⟩
  have f_law_pen_of : FnD false P w K mg base (tabT K tfs) 1 (He.ga K "_law_pen_of") fd21 ["_law_cell"] p_law_pen_of := ok_law_pen_of F21 fr
  have c_law_pen_of : Cal false P w K mg base (tabT K tfs) "_law_pen_of" 1 1 [] p_law_pen_of := ⟨_, fd21, ["_law_cell"], [], [], f_law_pen_of, rfl, He.glo_ok X G (cd.fact 21 (f := .glo "_law_pen_of") rfl), F21.kp, FunD.bindsN F21 (fun _ _ _ _ _ _ us hl => match us, hl with | [_], _ => rfl), .nil, fun _ _ => .nil⟩
  have f_law_made : FnD false P w K mg base (tabT K tfs) 1 (He.ga K "_law_made") fd23 ["_law_top", "_law_bottom"] p_law_made := ok_law_made F23 fr
  have c_law_made : Cal false P w K mg base (tabT K tfs) "_law_made" 1 2 [] p_law_made := ⟨_, fd23, ["_law_top", "_law_bottom"], [], [], f_law_made, rfl, He.glo_ok X G (cd.fact 23 (f := .glo "_law_made") rfl), F23.kp, FunD.bindsN F23 (fun _ _ _ _ _ _ us hl => match us, hl with | [_, _], _ => rfl), .nil, fun _ _ => .nil⟩
  have f_law_under : FnD false P w K mg base (tabT K tfs) 1 (He.ga K "_law_under") fd25 ["_law_one", "_law_other"] p_law_under := ok_law_under F25 fr
  have c_law_under : Cal false P w K mg base (tabT K tfs) "_law_under" 1 2 [] p_law_under := ⟨_, fd25, ["_law_one", "_law_other"], [], [], f_law_under, rfl, He.glo_ok X G (cd.fact 25 (f := .glo "_law_under") rfl), F25.kp, FunD.bindsN F25 (fun _ _ _ _ _ _ us hl => match us, hl with | [_, _], _ => rfl), .nil, fun _ _ => .nil⟩
  have f_flags : FnS P w K mg base (tabT K tfs) 1 (He.ga K "_law_flags") fd28 ["_law_e"] (pfE K known) := ok_law_flags F28 fr (o_NoPart := o_NoPart) (o_NoNumber := o_NoNumber) (o_NoMoment := o_NoMoment) (o_NoClock := o_NoClock) (o_NoHour := o_NoHour) (o_NoTelling := o_NoTelling) (o_NoTellings := o_NoTellings) (o_NoRow := o_NoRow) (o_Apart := o_Apart) (o_Twice := o_Twice) (o_Missing := o_Missing) (o_NoDeed := o_NoDeed) (o_NoAir := o_NoAir) (o_NoSignal := o_NoSignal) (o_NoQuarrel := o_NoQuarrel) (o_NoCarriage := o_NoCarriage) (o_NoLine := o_NoLine) (o_TooMany := o_TooMany) (o_NoText := o_NoText) (by intro x hx; simp at hx; rcases hx with rfl | rfl | rfl | rfl; exact e_NoPart; exact e_NoMoment; exact e_NoHour; exact e_NoClock)
  have b_flags := FunD.bindsN F28 (ps := ["_law_e"]) (fun _ _ _ _ _ _ us hl => match us, hl with | [_], _ => rfl)
  have f_is_part : FnD false P w K mg base (tabT K tfs) 2 (He.ga K "is_part") fd1 ["thing"] p_is_part := ok_is_part F1 fr (c_is_whole := c_is_whole) (m_gcd := m_gcd)
  have c_is_part : Cal false P w K mg base (tabT K tfs) "is_part" 2 1 [] p_is_part := ⟨_, fd1, ["thing"], [], [], f_is_part, rfl, He.glo_ok X G (cd.fact 1 (f := .glo "is_part") rfl), F1.kp, FunD.bindsN F1 (fun _ _ _ _ _ _ us hl => match us, hl with | [_], _ => rfl), .nil, fun _ _ => .nil⟩
  have f_law_draw : FnD false P w K mg base (tabT K tfs) 2 (He.ga K "_law_draw") fd22 ["_law_pen", "_law_many"] p_law_draw := ok_law_draw F22 fr (c_law_next := c_law_next)
  have c_law_draw : Cal false P w K mg base (tabT K tfs) "_law_draw" 2 2 [] p_law_draw := ⟨_, fd22, ["_law_pen", "_law_many"], [], [], f_law_draw, rfl, He.glo_ok X G (cd.fact 22 (f := .glo "_law_draw") rfl), F22.kp, FunD.bindsN F22 (fun _ _ _ _ _ _ us hl => match us, hl with | [_, _], _ => rfl), .nil, fun _ _ => .nil⟩
  have f_law_sum : FnD false P w K mg base (tabT K tfs) 2 (He.ga K "_law_sum") fd24 ["_law_one", "_law_other"] p_law_sum := ok_law_sum F24 fr (c_law_made := c_law_made)
  have c_law_sum : Cal false P w K mg base (tabT K tfs) "_law_sum" 2 2 [] p_law_sum := ⟨_, fd24, ["_law_one", "_law_other"], [], [], f_law_sum, rfl, He.glo_ok X G (cd.fact 24 (f := .glo "_law_sum") rfl), F24.kp, FunD.bindsN F24 (fun _ _ _ _ _ _ us hl => match us, hl with | [_, _], _ => rfl), .nil, fun _ _ => .nil⟩
  have t_law_word := fun (k : Nat) (hk : 2 ≤ k + 1) => ok_law_word (T := tabT K tfs) (base := base) F29 (He.glo_ok X G (cd.fact 29 (f := .glo "_law_word") rfl)) f_flags (He.glo_ok X G (cd.fact 28 (f := .glo "_law_flags") rfl)) F28.kp b_flags o_ClockError k hk
  have f_law_is_part : FnD false P w K mg base (tabT K tfs) 2 (He.ga K "_law_is_part") fd30 ["_law_thing"] p_law_is_part := ok_law_is_part F30 fr (c_law_made := c_law_made)
  have c_law_is_part : Cal false P w K mg base (tabT K tfs) "_law_is_part" 2 1 [] p_law_is_part := ⟨_, fd30, ["_law_thing"], [], [], f_law_is_part, rfl, He.glo_ok X G (cd.fact 30 (f := .glo "_law_is_part") rfl), F30.kp, FunD.bindsN F30 (fun _ _ _ _ _ _ us hl => match us, hl with | [_], _ => rfl), .nil, fun _ _ => .nil⟩
  have f_check_part : FnD false P w K mg base (tabT K tfs) 3 (He.ga K "check_part") fd2 ["thing"] (p_check_part K) := ok_check_part F2 fr (c_is_part := c_is_part) (x_NoPart := x_NoPart)
  have c_check_part : Cal false P w K mg base (tabT K tfs) "check_part" 3 1 [] (p_check_part K) := ⟨_, fd2, ["thing"], [], [], f_check_part, rfl, He.glo_ok X G (cd.fact 2 (f := .glo "check_part") rfl), F2.kp, FunD.bindsN F2 (fun _ _ _ _ _ _ us hl => match us, hl with | [_], _ => rfl), .nil, fun _ _ => .nil⟩
  have f_is_moment : FnD false P w K mg base (tabT K tfs) 3 (He.ga K "is_moment") fd4 ["thing"] p_is_momentX := ok_is_moment F4 fr (c_is_part := c_is_part)
  have c_is_moment : Cal false P w K mg base (tabT K tfs) "is_moment" 3 1 [] p_is_momentX := ⟨_, fd4, ["thing"], [], [], f_is_moment, rfl, He.glo_ok X G (cd.fact 4 (f := .glo "is_moment") rfl), F4.kp, FunD.bindsN F4 (fun _ _ _ _ _ _ us hl => match us, hl with | [_], _ => rfl), .nil, fun _ _ => .nil⟩
  have f_is_gain : FnD false P w K mg base (tabT K tfs) 3 (He.ga K "is_gain") fd5 ["thing"] p_is_gainX := ok_is_gain F5 fr (c_is_part := c_is_part) (k_MOST_GAIN := k_MOST_GAIN)
  have c_is_gain : Cal false P w K mg base (tabT K tfs) "is_gain" 3 1 [] p_is_gainX := ⟨_, fd5, ["thing"], [], [], f_is_gain, rfl, He.glo_ok X G (cd.fact 5 (f := .glo "is_gain") rfl), F5.kp, FunD.bindsN F5 (fun _ _ _ _ _ _ us hl => match us, hl with | [_], _ => rfl), .nil, fun _ _ => .nil⟩
  have f_check_hour : FnD false P w K mg base (tabT K tfs) 3 (He.ga K "check_hour") fd11 ["thing"] (p_check_hourX K) := ok_check_hour F11 fr (c_is_part := c_is_part) (x_NoHour := x_NoHour)
  have c_check_hour : Cal false P w K mg base (tabT K tfs) "check_hour" 3 1 [] (p_check_hourX K) := ⟨_, fd11, ["thing"], [], [], f_check_hour, rfl, He.glo_ok X G (cd.fact 11 (f := .glo "check_hour") rfl), F11.kp, FunD.bindsN F11 (fun _ _ _ _ _ _ us hl => match us, hl with | [_], _ => rfl), .nil, fun _ _ => .nil⟩
  have f_law_gain : FnD false P w K mg base (tabT K tfs) 3 (He.ga K "_law_gain") fd26 ["_law_pen"] p_law_gain := ok_law_gain F26 fr (c_law_draw := c_law_draw) (c_law_made := c_law_made)
  have c_law_gain : Cal false P w K mg base (tabT K tfs) "_law_gain" 3 1 [] p_law_gain := ⟨_, fd26, ["_law_pen"], [], [], f_law_gain, rfl, He.glo_ok X G (cd.fact 26 (f := .glo "_law_gain") rfl), F26.kp, FunD.bindsN F26 (fun _ _ _ _ _ _ us hl => match us, hl with | [_], _ => rfl), .nil, fun _ _ => .nil⟩
  have f_law_sets : FnD false P w K mg base (tabT K tfs) 3 (He.ga K "_law_sets") fd27 ["_law_pen", "_law_most"] p_law_sets := ok_law_sets F27 fr (c_law_draw := c_law_draw) (c_law_made := c_law_made) (c_law_sum := c_law_sum)
  have c_law_sets : Cal false P w K mg base (tabT K tfs) "_law_sets" 3 2 [] p_law_sets := ⟨_, fd27, ["_law_pen", "_law_most"], [], [], f_law_sets, rfl, He.glo_ok X G (cd.fact 27 (f := .glo "_law_sets") rfl), F27.kp, FunD.bindsN F27 (fun _ _ _ _ _ _ us hl => match us, hl with | [_, _], _ => rfl), .nil, fun _ _ => .nil⟩
  have f_law_is_clock : FnD false P w K mg base (tabT K tfs) 3 (He.ga K "_law_is_clock") fd31 ["_law_thing"] p_law_is_clockX := ok_law_is_clock F31 fr (c_law_under := c_law_under) (c_law_is_part := c_law_is_part)
  have c_law_is_clock : Cal false P w K mg base (tabT K tfs) "_law_is_clock" 3 1 [] p_law_is_clockX := ⟨_, fd31, ["_law_thing"], [], [], f_law_is_clock, rfl, He.glo_ok X G (cd.fact 31 (f := .glo "_law_is_clock") rfl), F31.kp, FunD.bindsN F31 (fun _ _ _ _ _ _ us hl => match us, hl with | [_], _ => rfl), .nil, fun _ _ => .nil⟩
  have f_law_bent : FnD false P w K mg base (tabT K tfs) 3 (He.ga K "_law_bent") fd32 ["_law_pen", "_law_clock"] p_law_bent := ok_law_bent F32 fr (c_law_draw := c_law_draw)
  have c_law_bent : Cal false P w K mg base (tabT K tfs) "_law_bent" 3 2 [] p_law_bent := ⟨_, fd32, ["_law_pen", "_law_clock"], [], [], f_law_bent, rfl, He.glo_ok X G (cd.fact 32 (f := .glo "_law_bent") rfl), F32.kp, FunD.bindsN F32 (fun _ _ _ _ _ _ us hl => match us, hl with | [_, _], _ => rfl), .nil, fun _ _ => .nil⟩
  have f_is_less : FnD false P w K mg base (tabT K tfs) 4 (He.ga K "is_less") fd3 ["one", "other"] (p_is_less K) := ok_is_less F3 fr (c_check_part := c_check_part)
  have c_is_less : Cal false P w K mg base (tabT K tfs) "is_less" 4 2 [] (p_is_less K) := ⟨_, fd3, ["one", "other"], [], [], f_is_less, rfl, He.glo_ok X G (cd.fact 3 (f := .glo "is_less") rfl), F3.kp, FunD.bindsN F3 (fun _ _ _ _ _ _ us hl => match us, hl with | [_, _], _ => rfl), .nil, fun _ _ => .nil⟩
  have f_is_one_set : FnD false P w K mg base (tabT K tfs) 4 (He.ga K "is_one_set") fd6 ["thing"] p_is_one_setX := ok_is_one_set F6 fr (c_is_moment := c_is_moment) (c_is_part := c_is_part)
  have c_is_one_set : Cal false P w K mg base (tabT K tfs) "is_one_set" 4 1 [] p_is_one_setX := ⟨_, fd6, ["thing"], [], [], f_is_one_set, rfl, He.glo_ok X G (cd.fact 6 (f := .glo "is_one_set") rfl), F6.kp, FunD.bindsN F6 (fun _ _ _ _ _ _ us hl => match us, hl with | [_], _ => rfl), .nil, fun _ _ => .nil⟩
  have f_check_moment : FnD false P w K mg base (tabT K tfs) 4 (He.ga K "check_moment") fd10 ["thing"] (p_check_momentX K) := ok_check_moment F10 fr (c_is_moment := c_is_moment) (x_NoMoment := x_NoMoment)
  have c_check_moment : Cal false P w K mg base (tabT K tfs) "check_moment" 4 1 [] (p_check_momentX K) := ⟨_, fd10, ["thing"], [], [], f_check_moment, rfl, He.glo_ok X G (cd.fact 10 (f := .glo "check_moment") rfl), F10.kp, FunD.bindsN F10 (fun _ _ _ _ _ _ us hl => match us, hl with | [_], _ => rfl), .nil, fun _ _ => .nil⟩
  have f_error_told : FnD false P w K mg base (tabT K tfs) 4 (He.ga K "error_told") fd12 ["error"] (p_error_toldX K) := ok_error_told F12 fr (c_check_part := c_check_part) (k_NOUGHT := k_NOUGHT)
  have c_error_told : Cal false P w K mg base (tabT K tfs) "error_told" 4 1 [] (p_error_toldX K) := ⟨_, fd12, ["error"], [], [], f_error_told, rfl, He.glo_ok X G (cd.fact 12 (f := .glo "error_told") rfl), F12.kp, FunD.bindsN F12 (fun _ _ _ _ _ _ us hl => match us, hl with | [_], _ => rfl), .nil, fun _ _ => .nil⟩
  have f_are_sets : FnD false P w K mg base (tabT K tfs) 5 (He.ga K "are_sets") fd7 ["thing"] p_are_setsX := ok_are_sets F7 fr (c_is_less := c_is_less) (c_is_one_set := c_is_one_set) (k_MOST_SETS := k_MOST_SETS)
  have c_are_sets : Cal false P w K mg base (tabT K tfs) "are_sets" 5 1 [] p_are_setsX := ⟨_, fd7, ["thing"], [], [], f_are_sets, rfl, He.glo_ok X G (cd.fact 7 (f := .glo "are_sets") rfl), F7.kp, FunD.bindsN F7 (fun _ _ _ _ _ _ us hl => match us, hl with | [_], _ => rfl), .nil, fun _ _ => .nil⟩
  have f_leaps_of : FnD false P w K mg base (tabT K tfs) 5 (He.ga K "leaps_of") fd16 ["clock", "error", "are_ahead"] (p_leaps_ofX K) := ok_leaps_of F16 fr (c_error_told := c_error_told)
  have c_leaps_of : Cal false P w K mg base (tabT K tfs) "leaps_of" 5 3 [] (p_leaps_ofX K) := ⟨_, fd16, ["clock", "error", "are_ahead"], [], [], f_leaps_of, rfl, He.glo_ok X G (cd.fact 16 (f := .glo "leaps_of") rfl), F16.kp, FunD.bindsN F16 (fun _ _ _ _ _ _ us hl => match us, hl with | [_, _, _], _ => rfl), .nil, fun _ _ => .nil⟩
  have f_is_clock : FnD false P w K mg base (tabT K tfs) 6 (He.ga K "is_clock") fd8 ["thing"] p_is_clockX := ok_is_clock F8 fr (c_is_gain := c_is_gain) (c_are_sets := c_are_sets)
  have c_is_clock : Cal false P w K mg base (tabT K tfs) "is_clock" 6 1 [] p_is_clockX := ⟨_, fd8, ["thing"], [], [], f_is_clock, rfl, He.glo_ok X G (cd.fact 8 (f := .glo "is_clock") rfl), F8.kp, FunD.bindsN F8 (fun _ _ _ _ _ _ us hl => match us, hl with | [_], _ => rfl), .nil, fun _ _ => .nil⟩
  have f_check_clock : FnD false P w K mg base (tabT K tfs) 7 (He.ga K "check_clock") fd9 ["thing"] (p_check_clockX K) := ok_check_clock F9 fr (c_is_clock := c_is_clock) (x_NoClock := x_NoClock)
  have c_check_clock : Cal false P w K mg base (tabT K tfs) "check_clock" 7 1 [] (p_check_clockX K) := ⟨_, fd9, ["thing"], [], [], f_check_clock, rfl, He.glo_ok X G (cd.fact 9 (f := .glo "check_clock") rfl), F9.kp, FunD.bindsN F9 (fun _ _ _ _ _ _ us hl => match us, hl with | [_], _ => rfl), .nil, fun _ _ => .nil⟩
  have f_drift : FnD false P w K mg base (tabT K tfs) 8 (He.ga K "drift") fd13 ["clock", "moment"] (p_driftX K) := ok_drift F13 fr (c_check_clock := c_check_clock) (c_check_moment := c_check_moment)
  have c_drift : Cal false P w K mg base (tabT K tfs) "drift" 8 2 [] (p_driftX K) := ⟨_, fd13, ["clock", "moment"], [], [], f_drift, rfl, He.glo_ok X G (cd.fact 13 (f := .glo "drift") rfl), F13.kp, FunD.bindsN F13 (fun _ _ _ _ _ _ us hl => match us, hl with | [_, _], _ => rfl), .nil, fun _ _ => .nil⟩
  have f_shown_at : FnD false P w K mg base (tabT K tfs) 8 (He.ga K "shown_at") fd14 ["clock", "moment", "error"] (p_shown_atX K) := ok_shown_at F14 fr (c_check_clock := c_check_clock) (c_check_moment := c_check_moment) (c_error_told := c_error_told)
  obtain ⟨ds14_0, v14_0, b14_0⟩ := FunD.binds1 (ps := ["clock", "moment", "error"]) F14 3 1 (by intro h; cases h) (by rfl) (fun _ _ _ _ _ _ _ us its hu hi => match us, its, hu, hi with | [_, _, _], [_], _, _ => ⟨_, rfl, rfl⟩)
  have c_shown_at : Cal false P w K mg base (tabT K tfs) "shown_at" 8 3 [] (p_shown_atX K) := ⟨_, fd14, ["clock", "moment", "error"], [], ds14_0, f_shown_at, rfl, He.glo_ok X G (cd.fact 14 (f := .glo "shown_at") rfl), F14.kp, b14_0, v14_0, fun _ _ => .nil⟩
  obtain ⟨ds14_1, v14_1, b14_1⟩ := FunD.binds1 (ps := ["clock", "moment", "error"]) F14 2 0 (by intro h; cases h) (by rfl) (fun _ _ _ _ _ _ _ us its hu hi => match us, its, hu, hi with | [_, _], [_], _, _ => ⟨_, rfl, rfl⟩)
  have c_shown_at_2 : Cal false P w K mg base (tabT K tfs) "shown_at" 8 3 [.non] (p_shown_atX K) := ⟨_, fd14, ["clock", "moment", "error"], [V.non], ds14_1, f_shown_at, rfl, He.glo_ok X G (cd.fact 14 (f := .glo "shown_at") rfl), F14.kp, b14_1, v14_1, fun _ _ => (.cons .non .nil)⟩
  have f_moments_of : FnD false P w K mg base (tabT K tfs) 8 (He.ga K "moments_of") fd15 ["clock", "hour", "error"] (p_moments_ofX K) := ok_moments_of F15 fr (c_check_clock := c_check_clock) (c_check_hour := c_check_hour) (c_error_told := c_error_told)
  obtain ⟨ds15_0, v15_0, b15_0⟩ := FunD.binds1 (ps := ["clock", "hour", "error"]) F15 3 1 (by intro h; cases h) (by rfl) (fun _ _ _ _ _ _ _ us its hu hi => match us, its, hu, hi with | [_, _, _], [_], _, _ => ⟨_, rfl, rfl⟩)
  have c_moments_of : Cal false P w K mg base (tabT K tfs) "moments_of" 8 3 [] (p_moments_ofX K) := ⟨_, fd15, ["clock", "hour", "error"], [], ds15_0, f_moments_of, rfl, He.glo_ok X G (cd.fact 15 (f := .glo "moments_of") rfl), F15.kp, b15_0, v15_0, fun _ _ => .nil⟩
  obtain ⟨ds15_1, v15_1, b15_1⟩ := FunD.binds1 (ps := ["clock", "hour", "error"]) F15 2 0 (by intro h; cases h) (by rfl) (fun _ _ _ _ _ _ _ us its hu hi => match us, its, hu, hi with | [_, _], [_], _, _ => ⟨_, rfl, rfl⟩)
  have c_moments_of_2 : Cal false P w K mg base (tabT K tfs) "moments_of" 8 3 [.non] (p_moments_ofX K) := ⟨_, fd15, ["clock", "hour", "error"], [V.non], ds15_1, f_moments_of, rfl, He.glo_ok X G (cd.fact 15 (f := .glo "moments_of") rfl), F15.kp, b15_1, v15_1, fun _ _ => (.cons .non .nil)⟩
  have f_turned_back : FnD false P w K mg base (tabT K tfs) 8 (He.ga K "turned_back") fd17 ["clock", "error"] (p_turned_backX K) := ok_turned_back F17 fr (c_check_clock := c_check_clock) (c_leaps_of := c_leaps_of)
  obtain ⟨ds17_0, v17_0, b17_0⟩ := FunD.binds1 (ps := ["clock", "error"]) F17 2 1 (by intro h; cases h) (by rfl) (fun _ _ _ _ _ _ _ us its hu hi => match us, its, hu, hi with | [_, _], [_], _, _ => ⟨_, rfl, rfl⟩)
  have c_turned_back : Cal false P w K mg base (tabT K tfs) "turned_back" 8 2 [] (p_turned_backX K) := ⟨_, fd17, ["clock", "error"], [], ds17_0, f_turned_back, rfl, He.glo_ok X G (cd.fact 17 (f := .glo "turned_back") rfl), F17.kp, b17_0, v17_0, fun _ _ => .nil⟩
  obtain ⟨ds17_1, v17_1, b17_1⟩ := FunD.binds1 (ps := ["clock", "error"]) F17 1 0 (by intro h; cases h) (by rfl) (fun _ _ _ _ _ _ _ us its hu hi => match us, its, hu, hi with | [_], [_], _, _ => ⟨_, rfl, rfl⟩)
  have c_turned_back_1 : Cal false P w K mg base (tabT K tfs) "turned_back" 8 2 [.non] (p_turned_backX K) := ⟨_, fd17, ["clock", "error"], [V.non], ds17_1, f_turned_back, rfl, He.glo_ok X G (cd.fact 17 (f := .glo "turned_back") rfl), F17.kp, b17_1, v17_1, fun _ _ => (.cons .non .nil)⟩
  have f_skipped : FnD false P w K mg base (tabT K tfs) 8 (He.ga K "skipped") fd18 ["clock", "error"] (p_skippedX K) := ok_skipped F18 fr (c_check_clock := c_check_clock) (c_leaps_of := c_leaps_of)
  obtain ⟨ds18_0, v18_0, b18_0⟩ := FunD.binds1 (ps := ["clock", "error"]) F18 2 1 (by intro h; cases h) (by rfl) (fun _ _ _ _ _ _ _ us its hu hi => match us, its, hu, hi with | [_, _], [_], _, _ => ⟨_, rfl, rfl⟩)
  have c_skipped : Cal false P w K mg base (tabT K tfs) "skipped" 8 2 [] (p_skippedX K) := ⟨_, fd18, ["clock", "error"], [], ds18_0, f_skipped, rfl, He.glo_ok X G (cd.fact 18 (f := .glo "skipped") rfl), F18.kp, b18_0, v18_0, fun _ _ => .nil⟩
  obtain ⟨ds18_1, v18_1, b18_1⟩ := FunD.binds1 (ps := ["clock", "error"]) F18 1 0 (by intro h; cases h) (by rfl) (fun _ _ _ _ _ _ _ us its hu hi => match us, its, hu, hi with | [_], [_], _, _ => ⟨_, rfl, rfl⟩)
  have c_skipped_1 : Cal false P w K mg base (tabT K tfs) "skipped" 8 2 [.non] (p_skippedX K) := ⟨_, fd18, ["clock", "error"], [V.non], ds18_1, f_skipped, rfl, He.glo_ok X G (cd.fact 18 (f := .glo "skipped") rfl), F18.kp, b18_1, v18_1, fun _ _ => (.cons .non .nil)⟩
  have f_law_refused : FnD false P w K mg base (tabT K tfs) 11 (He.ga K "_law_refused") fd33 ["_law_thing"] (p_law_refused K) := ok_law_refused F33 fr (c_drift := c_drift) (c_shown_at := c_shown_at) (c_moments_of := c_moments_of) (c_turned_back := c_turned_back) (c_skipped := c_skipped) (t_law_word := t_law_word) (lam := lam_law_refused) (e_NoPart := e_NoPart) (e_NoMoment := e_NoMoment) (e_NoHour := e_NoHour) (e_NoClock := e_NoClock)
  have c_law_refused : Cal false P w K mg base (tabT K tfs) "_law_refused" 11 1 [] (p_law_refused K) := ⟨_, fd33, ["_law_thing"], [], [], f_law_refused, rfl, He.glo_ok X G (cd.fact 33 (f := .glo "_law_refused") rfl), F33.kp, FunD.bindsN F33 (fun _ _ _ _ _ _ us hl => match us, hl with | [_], _ => rfl), .nil, fun _ _ => .nil⟩
  have f_law : FnD true P w K mg base (tabT K tfs) 12 (He.ga K "law") fd34 ["_law_script"] p_law := ok_law F34 fr (c_law_pen_of := c_law_pen_of) (c_law_cell_at := c_law_cell_at) (c_law_gain := c_law_gain) (c_law_sets := c_law_sets) (c_law_is_clock := c_law_is_clock) (c_law_bent := c_law_bent) (c_law_refused := c_law_refused) (c_drift := c_drift) (c_shown_at := c_shown_at) (c_moments_of := c_moments_of) (c_turned_back := c_turned_back) (c_skipped := c_skipped) (c_is_clock := c_is_clock) (t_law_word := t_law_word) (lam := lam_law) (e_NoPart := e_NoPart) (e_NoMoment := e_NoMoment) (e_NoHour := e_NoHour) (e_NoClock := e_NoClock)
  exact f_law
end DL
open PySem PySem.W PySem.Calls PyProof.Rows
theorem PySem.Challenge.cw_gunclocks_k02_clocks_known_holds : PySem.Challenge.rw_gunclocks_k02_clocks_known.Holds := by
  refine DL.top ?hc
  case hc =>
    refine DL.walkT (l := PySem.Challenge.rw_gunclocks_k02_clocks_known) (n := 63) (k := 12) (x := "_law_script") rfl (by decide) (by kernel_rfl) ⟨rfl, by decide, by decide⟩ ?F
    intro w mg fa h Y G hmg0
    obtain ⟨K, KX, c⟩ := Y
    have hmg : mg ("law" : PySem.Str) = some (.ref fa) := by
      have e : (HandSHeadRun.topDef DL.Rw.prog 75).name = ("law" : PySem.Str) := by kernel_rfl
      rw [← e]
      exact hmg0
    obtain ⟨fd, hb, hF⟩ := DL.facts (P := (PySem.Challenge.rw_gunclocks_k02_clocks_known).prog) (w := w) KX G hmg c
    exact ⟨K, fd, DL.p_law, true, DL.tfs.map (He.cT K), DL.tabT K DL.tfs, KX, hb, DL.tab_emp c.empty, DL.tab_out c.out, DL.tab_hd KX c.hd, DL.tab_mem, fun ns hl hbit => ⟨ns, rfl, hl, fun _ => rfl⟩, hF⟩
