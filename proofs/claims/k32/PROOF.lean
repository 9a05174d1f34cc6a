import PyProof.Rows.All
import Wide.All
import OpenK.AllK
import Wide.FinOn
import HandS.ForExc
import HandS.ExcInit
import HandS.HotCalls
import HandS.Defaults
import HandS.Flow
import HandS.Wide
import HandS.TupAny
import HandS.Text
import HandS.Deep
import HandS.IsInst
import HandS.RaiseMore
import HandS.SetFor
import HandS.Style
import HandS.Comp
import HandS.ExcIs
import HandS.Dict
import HandS.Ends
import HandS.Walk
import HandS.Small
import KE.DataMinMax
import HandS.Strs
import KE.DatumOrd
import PyProof.ReprBulk
import HandS.ForSpec
import PySem.Challenge.RW_dimcellar_k32_crowded_stretches
set_option Elab.async false
set_option linter.all false
set_option maxRecDepth 100000
set_option maxHeartbeats 4000000
/-! Den: what a piece of the text is worth, as a Lean function over plain data; the store tells what may change. -/
namespace Den
open PySem L2

/-! ### data -/
inductive D where
  | non
  | bl (b : Bool)
  | int (i : Int)
  | str (x : Str)
  | ty (n : String)
  | cl (i : Nat)
  | fn (i : Nat)
  | lst (xs : List D)
  | ro (xs : List D)
  | tup (xs : List D)
  | dic (ks : List Key) (xs : List D)
  | ins (c : Nat) (xs : List D)
  | exc (c : Nat) (xs : List D)
  | err (c : Nat) (xs : List D)
  | box (k : Nat)

/-- what may change: a list, an instance; dead: handed out for good -/
inductive Cell where
  | lst (xs : List D)
  | ins (c : Nat) (xs : List D)
  | dic (ks : List Key) (xs : List D)
  | dead
def Cell.live : Cell → Bool
  | .dead => false
  | _ => true
abbrev Store := List Cell

/-- the text's classes and defs by number -/
structure Txt where
  K : PySem.W.Frag
  ca : Nat → Addr
  fa : Nat → Addr
  fl : Nat → List Str
/-- where the store's cells stand; what is hidden besides (a list on its way) -/
structure Io where
  ad : List Addr
  hd : List Addr
def Io.add (ι : Io) (p : Addr) : Io := ⟨ι.ad ++ [p], ι.hd⟩
theorem Io.add_at (ι : Io) (p : Addr) : (ι.add p).ad[ι.ad.length]? = some p := by
  unfold Io.add
  simp
abbrev XT := List (Addr × Nat × Option Addr)

mutual
inductive Rep (T : Txt) (xp : XT) (G : Hp) (ι : Io) : V → D → Prop
  | non : Rep T xp G ι .non .non
  | bl (b : Bool) : Rep T xp G ι (.bl b) (.bl b)
  | int (i : Int) : Rep T xp G ι (.int i) (.int i)
  | str (x : Str) : Rep T xp G ι (.str x) (.str x)
  | ty (n : String) : Rep T xp G ι (.ty n) (.ty n)
  | cl (i : Nat) : Rep T xp G ι (.ref (T.ca i)) (.cl i)
  | fn (i : Nat) : Rep T xp G ι (.ref (T.fa i)) (.fn i)
  | lst {a : Addr} {xs : List V} {ds : List D} : G a = some (.lst xs) → RepL T xp G ι xs ds → Rep T xp G ι (.ref a) (.lst ds)
  | ro {a : Addr} {xs : List V} {ds : List D} : SqL T.K G a xs → RepL T xp G ι xs ds → Rep T xp G ι (.ref a) (.ro ds)
  | tup {a : Addr} {xs : List V} {ds : List D} : SqT T.K G a xs → RepL T xp G ι xs ds → Rep T xp G ι (.ref a) (.tup ds)
  | dic {a : Addr} {o : Obj} {ks : List Key} {xs : List V} {ds : List D} : G a = some (.frz o (.dK (ks.zip xs))) → ks.length = xs.length → RepL T xp G ι xs ds → Rep T xp G ι (.ref a) (.dic ks ds)
  | ins {a dx : Addr} {c : Nat} {xs : List V} {ds : List D} : G a = some (.ins (T.ca c) dx ((T.fl c).zip xs)) → xs.length ≤ (T.fl c).length → RepL T xp G ι xs ds → Rep T xp G ι (.ref a) (.ins c ds)
  | exc {a : Addr} {c : Nat} {ds : List D} : (a, c, none) ∈ xp → ds = [] → Rep T xp G ι (.ref a) (.exc c ds)
  | excd {a d : Addr} {c : Nat} {xs : List V} {ds : List D} : (a, c, some d) ∈ xp → G d = some (.xd ((T.fl c).zip xs)) → xs.length ≤ (T.fl c).length → RepL T xp G ι xs ds → ds ≠ [] → Rep T xp G ι (.ref a) (.exc c ds)
  | err {a : Addr} {c : Nat} {ds : List D} : G a = some (exo a (T.ca c) none) → ds = [] → Rep T xp G ι (.ref a) (.err c ds)
  | errd {a d : Addr} {c : Nat} {fs : List (Str × V)} {xs : List V} {ds : List D} : G a = some (exo a (T.ca c) (some d)) → G d = some (exd d fs) → (∀ (i : Nat) (f : Str), (T.fl c)[i]? = some f → fs.lookup f = xs[i]?) → RepL T xp G ι xs ds → Rep T xp G ι (.ref a) (.err c ds)
  | box {k : Nat} {a : Addr} : ι.ad[k]? = some a → Rep T xp G ι (.ref a) (.box k)
inductive RepL (T : Txt) (xp : XT) (G : Hp) (ι : Io) : List V → List D → Prop
  | nil : RepL T xp G ι [] []
  | cons {v : V} {vs : List V} {d : D} {ds : List D} : Rep T xp G ι v d → RepL T xp G ι vs ds → RepL T xp G ι (v :: vs) (d :: ds)
end

/-- what stands stays -/
def Le (G G' : Hp) : Prop := ∀ a o, G a = some o → G' a = some o
structure Pre (ι ι' : Io) : Prop where
  ad : ∀ (k : Nat) (a : Addr), ι.ad[k]? = some a → ι'.ad[k]? = some a
  hd : ι'.hd = ι.hd
theorem Le.refl (G : Hp) : Le G G := fun _ _ h => h
theorem Le.trans {A B C : Hp} (h : Le A B) (g : Le B C) : Le A C := fun a o e => g a o (h a o e)
theorem Pre.refl (ι : Io) : Pre ι ι := ⟨fun _ _ h => h, rfl⟩
theorem Pre.trans {a b c : Io} (h : Pre a b) (g : Pre b c) : Pre a c := ⟨fun k x e => g.ad k x (h.ad k x e), g.hd.trans h.hd⟩
theorem le_rd {G G' : Hp} (e : Le G G') {a : Addr} {u : HO} (h : Rd G a u) : Rd G' a u := by
  rcases h with h | ⟨o, h⟩
  · exact .inl (e _ _ h)
  · exact .inr ⟨o, e _ _ h⟩
theorem le_l {K : PySem.W.Frag} {G G' : Hp} (e : Le G G') {a : Addr} {xs : List V} (h : SqL K G a xs) : SqL K G' a xs := h.elim (fun x => .inl (le_rd e x)) .inr
theorem le_t {K : PySem.W.Frag} {G G' : Hp} (e : Le G G') {a : Addr} {xs : List V} (h : SqT K G a xs) : SqT K G' a xs := h.elim (fun x => .inl (le_rd e x)) .inr

section
variable {T : Txt} {xp : XT} {G G' : Hp} {ι ι' : Io}
mutual
theorem Rep.monoA (e : Le G G') (p : ∀ (k : Nat) (a : Addr), ι.ad[k]? = some a → ι'.ad[k]? = some a) : ∀ {v : V} {d : D}, Rep T xp G ι v d → Rep T xp G' ι' v d
  | _, _, .non => .non
  | _, _, .bl b => .bl b
  | _, _, .int i => .int i
  | _, _, .str x => .str x
  | _, _, .ty n => .ty n
  | _, _, .cl i => .cl i
  | _, _, .fn i => .fn i
  | _, _, .lst h r => .lst (e _ _ h) (RepL.monoA e p r)
  | _, _, .ro h r => .ro (le_l e h) (RepL.monoA e p r)
  | _, _, .tup h r => .tup (le_t e h) (RepL.monoA e p r)
  | _, _, .dic h l r => .dic (e _ _ h) l (RepL.monoA e p r)
  | _, _, .ins h l r => .ins (e _ _ h) l (RepL.monoA e p r)
  | _, _, .exc h l => .exc h l
  | _, _, .excd h g l r n => .excd h (e _ _ g) l (RepL.monoA e p r) n
  | _, _, .err h l => .err (e _ _ h) l
  | _, _, .errd h g k r => .errd (e _ _ h) (e _ _ g) k (RepL.monoA e p r)
  | _, _, .box h => .box (p _ _ h)
theorem RepL.monoA (e : Le G G') (p : ∀ (k : Nat) (a : Addr), ι.ad[k]? = some a → ι'.ad[k]? = some a) : ∀ {v : List V} {d : List D}, RepL T xp G ι v d → RepL T xp G' ι' v d
  | _, _, .nil => .nil
  | _, _, .cons h r => .cons (Rep.monoA e p h) (RepL.monoA e p r)
end
theorem Rep.mono (e : Le G G') (p : Pre ι ι') {v : V} {d : D} (h : Rep T xp G ι v d) : Rep T xp G' ι' v d := h.monoA e p.ad
theorem RepL.mono (e : Le G G') (p : Pre ι ι') {v : List V} {d : List D} (h : RepL T xp G ι v d) : RepL T xp G' ι' v d := h.monoA e p.ad
theorem Rep.re (p : ι'.ad = ι.ad) {v : V} {d : D} (h : Rep T xp G ι v d) : Rep T xp G ι' v d := h.monoA (Le.refl _) fun k a e => by rw [p]; exact e
theorem RepL.re (p : ι'.ad = ι.ad) {v : List V} {d : List D} (h : RepL T xp G ι v d) : RepL T xp G ι' v d := h.monoA (Le.refl _) fun k a e => by rw [p]; exact e
theorem RepL.length : ∀ {v : List V} {d : List D}, RepL T xp G ι v d → v.length = d.length
  | _, _, .nil => rfl
  | _, _, .cons _ r => congrArg Nat.succ r.length
theorem RepL.append : ∀ {v w : List V} {d e : List D}, RepL T xp G ι v d → RepL T xp G ι w e → RepL T xp G ι (v ++ w) (d ++ e)
  | _, _, _, _, .nil, q => q
  | _, _, _, _, .cons h r, q => .cons h (r.append q)
theorem RepL.get : ∀ {v : List V} {d : List D} {i : Nat} {x : D}, RepL T xp G ι v d → d[i]? = some x → ∃ u, v[i]? = some u ∧ Rep T xp G ι u x
  | _, _, _, _, .nil, e => by simp at e
  | _, _, 0, _, .cons h _, e => by simp at e; exact ⟨_, by simp, e ▸ h⟩
  | _, _, i + 1, _, .cons _ r, e => by
    obtain ⟨u, h1, h2⟩ := r.get (i := i) (by simpa using e)
    exact ⟨u, by simpa using h1, h2⟩
theorem RepL.getV : ∀ {v : List V} {d : List D} {i : Nat} {u : V}, RepL T xp G ι v d → v[i]? = some u → ∃ x, d[i]? = some x ∧ Rep T xp G ι u x
  | _, _, _, _, .nil, e => by simp at e
  | _, _, 0, _, .cons h _, e => by simp at e; exact ⟨_, by simp, e ▸ h⟩
  | _, _, i + 1, _, .cons _ r, e => by
    obtain ⟨u, h1, h2⟩ := r.getV (i := i) (by simpa using e)
    exact ⟨u, by simpa using h1, h2⟩
theorem RepL.set : ∀ {v : List V} {d : List D} (i : Nat) {u : V} {x : D}, RepL T xp G ι v d → Rep T xp G ι u x → RepL T xp G ι (v.set i u) (d.set i x)
  | _, _, _, _, _, .nil, _ => .nil
  | _, _, 0, _, _, .cons _ r, q => .cons q r
  | _, _, i + 1, _, _, .cons h r, q => .cons h (r.set i q)
theorem RepL.take : ∀ {v : List V} {d : List D} (n : Nat), RepL T xp G ι v d → RepL T xp G ι (v.take n) (d.take n)
  | _, _, 0, _ => .nil
  | _, _, _ + 1, .nil => .nil
  | _, _, n + 1, .cons h r => .cons h (r.take n)
theorem RepL.drop : ∀ {v : List V} {d : List D} (n : Nat), RepL T xp G ι v d → RepL T xp G ι (v.drop n) (d.drop n)
  | _, _, 0, q => q
  | _, _, _ + 1, .nil => .nil
  | _, _, n + 1, .cons _ r => r.drop n
theorem RepL.reverse : ∀ {v : List V} {d : List D}, RepL T xp G ι v d → RepL T xp G ι v.reverse d.reverse
  | _, _, .nil => .nil
  | _, _, .cons h r => by
    rw [List.reverse_cons, List.reverse_cons]
    exact r.reverse.append (.cons h .nil)
theorem RepL.dropLast {v : List V} {d : List D} (h : RepL T xp G ι v d) : RepL T xp G ι v.dropLast d.dropLast := by
  rw [List.dropLast_eq_take, List.dropLast_eq_take, h.length]
  exact h.take _
end

/-! ### the store over the heap -/
def liveB (ι : Io) (st : Store) (a : Addr) : Bool := (ι.ad.zip st).any fun p => decide (p.1 = a) && p.2.live
def hidden (ι : Io) (st : Store) (a : Addr) : Bool := liveB ι st a || decide (a ∈ ι.hd)
def hide (ι : Io) (st : Store) (H : Hp) : Hp := fun a => if hidden ι st a = true then none else H a
theorem hide_sub {ι : Io} {st : Store} {H : Hp} {a : Addr} {o : HO} (h : hide ι st H a = some o) : H a = some o := by
  unfold hide at h
  split at h
  · cases h
  · exact h
def CellR (T : Txt) (xp : XT) (G : Hp) (ι : Io) (H : Hp) (a : Addr) : Cell → Prop
  | .lst ds => ∃ xs, H a = some (.lst xs) ∧ RepL T xp G ι xs ds
  | .ins c ds => ∃ dx xs, H a = some (.ins (T.ca c) dx ((T.fl c).zip xs)) ∧ xs.length ≤ (T.fl c).length ∧ RepL T xp G ι xs ds
  | .dic ks ds => ∃ xs, H a = some (.dK (ks.zip xs)) ∧ ks.length = xs.length ∧ RepL T xp G ι xs ds
  | .dead => True
structure RelSt (T : Txt) (xp : XT) (ι : Io) (st : Store) (H : Hp) : Prop where
  len : ι.ad.length = st.length
  nd : ι.ad.Nodup
  there : ∀ a ∈ ι.ad, ∃ o, H a = some o
  hdn : ∀ a ∈ ι.hd, (∃ o, H a = some o) ∧ a ∉ ι.ad
  ok : ∀ (k : Nat) (a : Addr) (c : Cell), ι.ad[k]? = some a → st[k]? = some c → CellR T xp (hide ι st H) ι H a c
structure Step (ι : Io) (st : Store) (H : Hp) (ι' : Io) (st' : Store) (H' : Hp) : Prop where
  pre : Pre ι ι'
  ex : Le (hide ι st H) (hide ι' st' H')
  hd : ∀ a ∈ ι.hd, H' a = H a
theorem Step.refl (ι : Io) (st : Store) (H : Hp) : Step ι st H ι st H := ⟨Pre.refl _, Le.refl _, fun _ _ => rfl⟩
theorem Step.trans {a b c : Io} {s t u : Store} {H1 H2 H3 : Hp} (h : Step a s H1 b t H2) (g : Step b t H2 c u H3) : Step a s H1 c u H3 := ⟨h.pre.trans g.pre, h.ex.trans g.ex, fun x hx => (g.hd x (by rw [h.pre.hd]; exact hx)).trans (h.hd x hx)⟩

/-! ### results -/
inductive Res (α : Type) where
  | ok (a : α) (st : Store)
  | exc (c : Nat) (xs : List D) (st : Store)
  | bad
def Res.bind {α β : Type} (m : Res α) (k : α → Store → Res β) : Res β := match m with
  | .ok a st => k a st
  | .exc c xs st => .exc c xs st
  | .bad => .bad
@[simp] theorem bind_ok {α β : Type} (a : α) (st : Store) (k : α → Store → Res β) : (Res.ok a st).bind k = k a st := rfl
@[simp] theorem bind_exc {α β : Type} (c : Nat) (xs : List D) (st : Store) (k : α → Store → Res β) : (Res.exc c xs st).bind k = .exc c xs st := rfl
@[simp] theorem bind_bad {α β : Type} (k : α → Store → Res β) : (Res.bad : Res α).bind k = .bad := rfl

/-- an exception's own dict -/
def XdR (T : Txt) (xp : XT) (ι : Io) (st : Store) (H : Hp) (dx : Option Addr) (c : Nat) (ds : List D) : Prop :=
  (dx = none ∧ ds = []) ∨ ∃ d xs, dx = some d ∧ H d = some (.xd ((T.fl c).zip xs)) ∧ hide ι st H d = H d ∧ xs.length ≤ (T.fl c).length ∧ RepL T xp (hide ι st H) ι xs ds ∧ ds ≠ []

section
variable (T : Txt) (xp : XT) (W : Value → Option Addr → Hp → Prop) (ι : Io) (st : Store) (H : Hp)
def Post {α β : Type} (R : Hp → Io → β → α → Prop) (Q : β → Hp → Prop) : Res α → Prop
  | .ok d st' => ∀ v ι' H', Step ι st H ι' st' H' → RelSt T xp ι' st' H' → R (hide ι' st' H') ι' v d → Q v H'
  | .exc c ds st' => ∀ ι' H' dx, Step ι st H ι' st' H' → RelSt T xp ι' st' H' → XdR T xp ι' st' H' dx c ds → W (.ref (T.ca c)) dx H'
  | .bad => False
end
section
variable {T : Txt} {xp : XT} {W : Value → Option Addr → Hp → Prop} {ι ι1 : Io} {st st1 : Store} {H H1 : Hp}
theorem Post.step {α β : Type} {R : Hp → Io → β → α → Prop} {Q : β → Hp → Prop} {r : Res α} (h : Post T xp W ι st H R Q r) (s : Step ι st H ι1 st1 H1) : Post T xp W ι1 st1 H1 R Q r := by
  cases r with
  | ok d st' => exact fun v ι' H' s1 => h v ι' H' (s.trans s1)
  | exc c ds st' => exact fun ι' H' dx s1 => h ι' H' dx (s.trans s1)
  | bad => exact h
theorem post_bind {α β γ δ : Type} {m : Res α} {k : α → Store → Res γ} {R : Hp → Io → β → α → Prop} {Q : β → Hp → Prop} {R2 : Hp → Io → δ → γ → Prop} {Q2 : δ → Hp → Prop} (h : Post T xp W ι st H R2 Q2 (m.bind k))
    (hk : ∀ d s1 v ι1 H1, Step ι st H ι1 s1 H1 → RelSt T xp ι1 s1 H1 → R (hide ι1 s1 H1) ι1 v d → Post T xp W ι1 s1 H1 R2 Q2 (k d s1) → Q v H1) : Post T xp W ι st H R Q m := by
  cases m with
  | ok d s1 => exact fun v ι1 H1 s r e => hk d s1 v ι1 H1 s r e (Post.step h s)
  | exc c ds s1 => exact h
  | bad => exact h
end

/-! ### a def's slots -/
abbrev Rho := List (Option D)
structure EnvR (T : Txt) (xp : XT) (G : Hp) (ι : Io) (ρ : Rho) (σ : St) : Prop where
  len : ρ.length = σ.length
  at_ : ∀ (i : Nat) (d : D), ρ[i]? = some (some d) → ∃ v, σ[i]? = some (some v) ∧ Rep T xp G ι v d
theorem EnvR.mono {T : Txt} {xp : XT} {G G' : Hp} {ι ι' : Io} {ρ : Rho} {σ : St} (h : EnvR T xp G ι ρ σ) (e : Le G G') (p : Pre ι ι') : EnvR T xp G' ι' ρ σ :=
  ⟨h.len, fun i d q => let ⟨v, a, b⟩ := h.at_ i d q; ⟨v, a, b.mono e p⟩⟩
theorem EnvR.step {T : Txt} {xp : XT} {ι ι' : Io} {st st' : Store} {H H' : Hp} {ρ : Rho} {σ : St} (h : EnvR T xp (hide ι st H) ι ρ σ) (s : Step ι st H ι' st' H') : EnvR T xp (hide ι' st' H') ι' ρ σ := h.mono s.ex s.pre
theorem EnvR.set {T : Txt} {xp : XT} {G : Hp} {ι : Io} {ρ : Rho} {σ : St} (h : EnvR T xp G ι ρ σ) (i : Nat) {v : V} {d : D} (r : Rep T xp G ι v d) : EnvR T xp G ι (ρ.set i (some d)) (σ.set i (some v)) := by
  refine ⟨by simp [h.len], fun j e q => ?_⟩
  rw [List.getElem?_set] at q ⊢
  split at q
  · rename_i hij
    subst hij
    split at q
    · rename_i hl
      cases q
      exact ⟨v, by rw [if_pos rfl, if_pos (by rw [← h.len]; exact hl)], r⟩
    · cases q
  · rename_i hij
    rw [if_neg hij]
    exact h.at_ j e q

abbrev DE := Rho → Store → Res D
abbrev DA := Rho → Store → Res (List D)
abbrev DT := Rho → Store → Res Bool

/-! ### readings -/
section
variable (T : Txt) (xp : XT) (W : WX)
def tD (m : DE) : TE := fun σ H Q => ∃ ρ st ι, EnvR T xp (hide ι st H) ι ρ σ ∧ RelSt T xp ι st H ∧ Post T xp (fun c d H => W c d σ H) ι st H (Rep T xp) Q (m ρ st)
def tDA (m : DA) : TA := fun σ H Q => ∃ ρ st ι, EnvR T xp (hide ι st H) ι ρ σ ∧ RelSt T xp ι st H ∧ Post T xp (fun c d H => W c d σ H) ι st H (RepL T xp) Q (m ρ st)
def tDT (m : DT) : TT := fun σ H Q => ∃ ρ st ι, EnvR T xp (hide ι st H) ι ρ σ ∧ RelSt T xp ι st H ∧ Post T xp (fun c d H => W c d σ H) ι st H (fun _ _ (a b : Bool) => a = b) Q (m ρ st)
end
theorem PE.imp {X : Cx} {e : Expr} {t t' : TE} (h : PE X e t) (i : ∀ σ H Q, t' σ H Q → t σ H Q) : PE X e t' := ⟨fun pins s σ H Q I q => h.run pins s σ H Q I (i σ H Q q)⟩
theorem PA.imp {X : Cx} {e : List Expr} {t t' : TA} (h : PA X e t) (i : ∀ σ H Q, t' σ H Q → t σ H Q) : PA X e t' := ⟨fun p pins s σ H Q I q => h.run p pins s σ H Q I (i σ H Q q)⟩
theorem PT.imp {X : Cx} {e : Expr} {t t' : TT} (h : PT X e t) (i : ∀ σ H Q, t' σ H Q → t σ H Q) : PT X e t' := ⟨fun pins s σ H Q I q => h.run pins s σ H Q I (i σ H Q q)⟩
theorem PS.imp {X : Cx} {e : Stmt} {t t' : TS} (h : PS X e t) (i : ∀ D σ H, t' D σ H → t D σ H) : PS X e t' := ⟨fun pins s σ H D I q => h.run pins s σ H D I (i D σ H q)⟩
theorem PSs.imp {X : Cx} {e : List Stmt} {t t' : TS} (h : PSs X e t) (i : ∀ D σ H, t' D σ H → t D σ H) : PSs X e t' := ⟨fun pins s σ H D I q => h.run pins s σ H D I (i D σ H q)⟩
/-- a piece and what it is worth -/
structure Ctx where
  X : Cx
  T : Txt
  xp : XT
  W : WX
  hK : X.K = T.K
abbrev PD (C : Ctx) (e : Expr) (m : DE) : Prop := PE C.X e (tD C.T C.xp C.W m)
abbrev PDA (C : Ctx) (e : List Expr) (m : DA) : Prop := PA C.X e (tDA C.T C.xp C.W m)
abbrev PDT (C : Ctx) (e : Expr) (m : DT) : Prop := PT C.X e (tDT C.T C.xp C.W m)

/-! ### names, constants -/
def dVar (i : Nat) : DE := fun ρ st => match ρ[i]? with
  | some (some d) => .ok d st
  | _ => .bad
def dC (d : D) : DE := fun _ st => .ok d st
section
variable {C : Ctx}
theorem pd_var {i : Nat} {x : Str} {pos : Pos} (hN : C.X.N[i]? = some x) (hv : Vis C.X.env.scope x) (hd : (x == ("__debug__" : Str)) = false := by decide) (hcd : (x == ("__classdict__" : Str)) = false := by decide) : PD C (.Name x pos) (dVar i) := by
  refine PE.imp (pe_var hN hv hd hcd) fun σ H Q ⟨ρ, st, ι, e, r, p⟩ => ?_
  unfold dVar at p
  split at p
  · rename_i d hd
    obtain ⟨v, hv, rv⟩ := e.at_ i d hd
    exact ⟨v, hv, p v ι H (Step.refl _ _ _) r rv⟩
  · exact p.elim
theorem pd_c {e : Expr} {v : V} {d : D} (h : PE C.X e (tC v)) (r : ∀ G ι, Rep C.T C.xp G ι v d) : PD C e (dC d) :=
  PE.imp h fun σ H Q ⟨ρ, st, ι, _, rl, p⟩ => p v ι H (Step.refl _ _ _) rl (r _ _)
theorem pd_int {i j pos} : PD C (.Constant (.int i) j pos) (dC (.int i)) := pd_c pe_int fun _ _ => .int i
theorem pd_bl {b j pos} : PD C (.Constant (.bool b) j pos) (dC (.bl b)) := pd_c pe_bl fun _ _ => .bl b
theorem pd_non {j pos} : PD C (.Constant .none j pos) (dC .non) := pd_c pe_non fun _ _ => .non
theorem pd_str {x j pos} : PD C (.Constant (.str x) j pos) (dC (.str x)) := pd_c pe_str fun _ _ => .str x

/-! ### two-place operations -/
def dOp2 (f : D → D → Option D) (a b : DE) : DE := fun ρ st => (a ρ st).bind fun x s1 => (b ρ s1).bind fun y s2 => match f x y with
  | some z => .ok z s2
  | none => .bad
/-- an operation on values that is worth f -/
def OpD (C : Ctx) (r : R2) (f : D → D → Option D) : Prop := ∀ ι st H x y dx dy dz (Q : VK), RelSt C.T C.xp ι st H → Rep C.T C.xp (hide ι st H) ι x dx → Rep C.T C.xp (hide ι st H) ι y dy → f dx dy = some dz →
  (∀ v ι' H', Step ι st H ι' st H' → RelSt C.T C.xp ι' st H' → Rep C.T C.xp (hide ι' st H') ι' v dz → Q v H') → r x y H Q
theorem tOp_of {r : R2} {f : D → D → Option D} {ma mb : DE} (hr : OpD C r f) : ∀ σ H Q, tD C.T C.xp C.W (dOp2 f ma mb) σ H Q → tOp r (tD C.T C.xp C.W ma) (tD C.T C.xp C.W mb) σ H Q := fun σ H Q ⟨ρ, st, ι, e, rl, p⟩ => by
  refine ⟨ρ, st, ι, e, rl, post_bind p fun d s1 v ι1 H1 st1 rl1 rv p1 => ?_⟩
  refine ⟨ρ, s1, ι1, e.step st1, rl1, post_bind p1 fun d2 s2 v2 ι2 H2 st2 rl2 rv2 p2 => ?_⟩
  cases hf : f d d2 with
  | none =>
    rw [hf] at p2
    exact p2.elim
  | some z =>
    rw [hf] at p2
    exact hr ι2 s2 H2 v v2 d d2 z Q rl2 (rv.mono st2.ex st2.pre) rv2 hf fun v' ι' H' s' r' e' => p2 v' ι' H' s' r' e'
theorem pd_op {op : Operator} {r : R2} {f : D → D → Option D} {a b : Expr} {ma mb : DE} {pos : Pos} (ho : OpR C.X (binaryOp op) r) (hr : OpD C r f) (ha : PD C a ma) (hb : PD C b mb) : PD C (.BinOp a op b pos) (dOp2 f ma mb) :=
  PE.imp (pe_op ho ha hb) (tOp_of hr)
theorem pd_cmp {op : CmpOp} {r : R2} {f : D → D → Option D} {a b : Expr} {ma mb : DE} {pos : Pos} (ho : OpR C.X (compareOp op) r) (hr : OpD C r f) (ha : PD C a ma) (hb : PD C b mb) (hm : behindInMarks op b = false) : PD C (.Compare a [op] [b] pos) (dOp2 f ma mb) :=
  PE.imp (pe_cmpR ho ha hb hm) (tOp_of hr)
theorem OpR.or {g : Value → Value → Sem Value} {r r' : R2} (h : OpR C.X g r) (h' : OpR C.X g r') : OpR C.X g (fun x y H Q => r x y H Q ∨ r' x y H Q) := by
  intro pins s σ H x y v u Q I rx ry q
  rcases q with q | q
  · exact h pins s σ H x y v u Q I rx ry q
  · exact h' pins s σ H x y v u Q I rx ry q
end
end Den

set_option maxRecDepth 100000
set_option maxHeartbeats 4000000
namespace Den
open PySem L2

section
variable {T : Txt} {xp : XT} {ι : Io} {st : Store} {H : Hp} {p : Addr} {o : HO}
theorem live_mem {a : Addr} (h : liveB ι st a = true) : a ∈ ι.ad := by
  unfold liveB at h
  obtain ⟨q, hq, e⟩ := List.any_eq_true.mp h
  have e1 : q.1 = a := by
    have := (Bool.and_eq_true _ _ ▸ e : _ ∧ _).1
    exact of_decide_eq_true this
  rw [← e1]
  exact (List.of_mem_zip hq).1
theorem live_at {a : Addr} {k : Nat} {c : Cell} (hk : ι.ad[k]? = some a) (hs : st[k]? = some c) (hc : c.live = true) : liveB ι st a = true := by
  unfold liveB
  refine List.any_eq_true.mpr ⟨(a, c), ?_, by simp [hc]⟩
  refine List.mem_of_getElem? (i := k) ?_
  rw [List.getElem?_zip_eq_some]
  exact ⟨hk, hs⟩
theorem live_get {a : Addr} (h : liveB ι st a = true) : ∃ (k : Nat) (c : Cell), ι.ad[k]? = some a ∧ st[k]? = some c ∧ c.live = true := by
  unfold liveB at h
  obtain ⟨q, hq, e⟩ := List.any_eq_true.mp h
  obtain ⟨e1, e2⟩ : decide (q.1 = a) = true ∧ q.2.live = true := by simpa using e
  obtain ⟨k, hk⟩ := List.getElem?_of_mem hq
  rw [List.getElem?_zip_eq_some] at hk
  exact ⟨k, q.2, by rw [hk.1, of_decide_eq_true e1], hk.2, e2⟩
theorem nodup_at {a : Addr} {i j : Nat} (nd : ι.ad.Nodup) (hi : ι.ad[i]? = some a) (hj : ι.ad[j]? = some a) : i = j := by
  obtain ⟨h1, e1⟩ := List.getElem?_eq_some_iff.mp hi
  obtain ⟨h2, e2⟩ := List.getElem?_eq_some_iff.mp hj
  exact (List.getElem_inj nd).mp (e1.trans e2.symm)
theorem CellR.mono {G G' : Hp} {ι' : Io} {H' : Hp} {a : Addr} {c : Cell} (h : CellR T xp G ι H a c) (e : Le G G') (q : Pre ι ι') (hh : H' a = H a) : CellR T xp G' ι' H' a c := by
  cases c with
  | lst ds =>
    obtain ⟨xs, h1, h2⟩ := h
    exact ⟨xs, hh.trans h1, h2.mono e q⟩
  | ins c ds =>
    obtain ⟨dx, xs, h1, h2, h3⟩ := h
    exact ⟨dx, xs, hh.trans h1, h2, h3.mono e q⟩
  | dic ks ds =>
    obtain ⟨xs, h1, h2, h3⟩ := h
    exact ⟨xs, hh.trans h1, h2, h3.mono e q⟩
  | dead => trivial
theorem RelSt.ne (r : RelSt T xp ι st H) (hp : H p = none) : p ∉ ι.ad := fun h => by
  obtain ⟨o, e⟩ := r.there p h
  rw [hp] at e
  cases e
theorem RelSt.neh (r : RelSt T xp ι st H) (hp : H p = none) : p ∉ ι.hd := fun h => by
  obtain ⟨⟨o, e⟩, _⟩ := r.hdn p h
  rw [hp] at e
  cases e
theorem RelSt.nolive (r : RelSt T xp ι st H) (hp : H p = none) : hidden ι st p = false := by
  unfold hidden
  rw [Bool.or_eq_false_iff]
  exact ⟨Bool.eq_false_iff.mpr fun h => r.ne hp (live_mem h), decide_eq_false (r.neh hp)⟩
theorem hide_no {a : Addr} (h : ¬ hidden ι st a = true) : hide ι st H a = H a := if_neg h
theorem hide_at {a : Addr} {u : HO} (h : hide ι st H a = some u) : ¬ hidden ι st a = true := fun z => by
  unfold hide at h
  rw [if_pos z] at h
  cases h
theorem hide_upd (hp : H p = none) : Le (hide ι st H) (hide ι st (upd H p o)) := fun a u h => by
  have h' := hide_sub h
  have ne : a ≠ p := ne_of_none h' hp
  rw [hide_no (hide_at h), upd_ne ne]
  exact h'
/-- a new object that nobody changes -/
theorem RelSt.new (r : RelSt T xp ι st H) (hp : H p = none) : RelSt T xp ι st (upd H p o) ∧ Step ι st H ι st (upd H p o) ∧ hide ι st (upd H p o) p = some o := by
  have hl : Le (hide ι st H) (hide ι st (upd H p o)) := hide_upd hp
  refine ⟨⟨r.len, r.nd, fun a ha => ?_, fun a ha => ?_, fun k a c hk hc => ?_⟩, ⟨Pre.refl _, hl, fun a ha => upd_ne fun e => r.neh hp (e ▸ ha)⟩, ?_⟩
  · obtain ⟨u, e⟩ := r.there a ha
    exact ⟨u, by rw [upd_ne (ne_of_none e hp)]; exact e⟩
  · obtain ⟨⟨u, e⟩, n⟩ := r.hdn a ha
    exact ⟨⟨u, by rw [upd_ne (ne_of_none e hp)]; exact e⟩, n⟩
  · obtain ⟨u, e⟩ := r.there a (List.mem_of_getElem? hk)
    exact (r.ok k a c hk hc).mono hl (Pre.refl _) (upd_ne (ne_of_none e hp))
  · rw [hide_no (by rw [r.nolive hp]; decide), upd_same]
theorem live_app {a : Addr} {c : Cell} (r : ι.ad.length = st.length) : liveB (ι.add p) (st ++ [c]) a = (liveB ι st a || (decide (p = a) && c.live)) := by
  unfold liveB Io.add
  rw [List.zip_append r, List.any_append]
  simp
/-- a new object that may change -/
theorem RelSt.newMut {c : Cell} (r : RelSt T xp ι st H) (hp : H p = none) (hc : c.live = true) (ho : ∀ ι', Pre ι ι' → CellR T xp (hide ι st H) ι' (upd H p o) p c) :
    RelSt T xp (ι.add p) (st ++ [c]) (upd H p o) ∧ Step ι st H (ι.add p) (st ++ [c]) (upd H p o) := by
  have hpre : Pre ι (ι.add p) := ⟨fun k a e => by
    unfold Io.add
    dsimp only
    rw [List.getElem?_append_left (List.getElem?_eq_some_iff.mp e).1]
    exact e, rfl⟩
  have hl : Le (hide ι st H) (hide (ι.add p) (st ++ [c]) (upd H p o)) := fun a u h => by
    have h' := hide_sub h
    have ne : a ≠ p := ne_of_none h' hp
    have hn := hide_at h
    rw [hide_no, upd_ne ne]
    · exact h'
    · intro z
      apply hn
      unfold hidden at z ⊢
      rw [live_app r.len, decide_eq_false (Ne.symm ne), Bool.false_and, Bool.or_false] at z
      exact z
  refine ⟨⟨by simp [r.len, Io.add], ?_, fun a ha => ?_, fun a ha => ?_, fun k a d hk hd => ?_⟩, ⟨hpre, hl, fun a ha => upd_ne fun e => r.neh hp (e ▸ ha)⟩⟩
  · refine List.nodup_append.mpr ⟨r.nd, by simp, fun a ha b hb e => ?_⟩
    have : b = p := by simpa using hb
    exact r.ne hp (by rw [← this, ← e]; exact ha)
  · by_cases e : a = p
    · exact ⟨o, by rw [e, upd_same]⟩
    · have ha' : a ∈ ι.ad := by
        rcases List.mem_append.mp ha with h | h
        · exact h
        · exact absurd (by simpa using h) e
      obtain ⟨u, q⟩ := r.there a ha'
      exact ⟨u, by rw [upd_ne e]; exact q⟩
  · obtain ⟨⟨u, e⟩, n⟩ := r.hdn a ha
    have ne : a ≠ p := ne_of_none e hp
    refine ⟨⟨u, by rw [upd_ne ne]; exact e⟩, fun z => ?_⟩
    rcases List.mem_append.mp z with h | h
    · exact n h
    · exact ne (by simpa using h)
  · by_cases hlt : k < ι.ad.length
    · have hk' : ι.ad[k]? = some a := by
        unfold Io.add at hk
        dsimp only at hk
        rw [List.getElem?_append_left hlt] at hk
        exact hk
      rw [List.getElem?_append_left (by rw [← r.len]; exact hlt)] at hd
      obtain ⟨u, q⟩ := r.there a (List.mem_of_getElem? hk')
      exact (r.ok k a d hk' hd).mono hl hpre (upd_ne (ne_of_none q hp))
    · unfold Io.add at hk
      dsimp only at hk
      have hk' := (List.getElem?_eq_some_iff.mp hk).1
      rw [List.length_append, List.length_singleton] at hk'
      have ek : k = ι.ad.length := by omega
      rw [ek, List.getElem?_append_right (Nat.le_refl _)] at hk
      rw [ek, r.len, List.getElem?_append_right (Nat.le_refl _)] at hd
      have ea : p = a := by simpa using hk
      have ed : c = d := by simpa using hd
      rw [← ea, ← ed]
      exact (ho _ hpre).mono hl (Pre.refl _) rfl
theorem live_set {k : Nat} {c c' : Cell} {a : Addr} (nd : ι.ad.Nodup) (hs : st[k]? = some c) (hc : c.live = c'.live) : liveB ι (st.set k c') a = liveB ι st a := by
  have key : ∀ (x y : Store) (cx cy : Cell), x[k]? = some cx → y = x.set k cy → cx.live = cy.live → liveB ι x a = true → liveB ι y a = true := by
    intro x y cx cy hx hy hl h
    obtain ⟨j, d, h1, h2, h3⟩ := live_get h
    by_cases e : j = k
    · have : d = cx := by rw [e, hx] at h2; exact (Option.some.inj h2).symm
      refine live_at (k := j) (c := cy) h1 ?_ (by rw [← hl, ← this]; exact h3)
      rw [hy, e, List.getElem?_set_self (List.getElem?_eq_some_iff.mp hx).1]
    · refine live_at (k := j) (c := d) h1 ?_ h3
      rw [hy, List.getElem?_set_ne (Ne.symm e)]
      exact h2
  have lt := (List.getElem?_eq_some_iff.mp hs).1
  rw [Bool.eq_iff_iff]
  constructor
  · refine key (st.set k c') st c' c ?_ ?_ hc.symm
    · rw [List.getElem?_set_self lt]
    · rw [List.set_set]
      obtain ⟨_, e⟩ := List.getElem?_eq_some_iff.mp hs
      rw [← e, List.set_getElem_self]
  · exact key st (st.set k c') c c' hs rfl hc
theorem RelSt.nohd (r : RelSt T xp ι st H) {a : Addr} (h : a ∈ ι.ad) : a ∉ ι.hd := fun z => (r.hdn a z).2 h
/-- what may change is changed -/
theorem RelSt.write {k : Nat} {a : Addr} {c c' : Cell} (r : RelSt T xp ι st H) (hk : ι.ad[k]? = some a) (hs : st[k]? = some c) (hc : c.live = true) (hc' : c'.live = true) (ho : CellR T xp (hide ι st H) ι (upd H a o) a c') :
    RelSt T xp ι (st.set k c') (upd H a o) ∧ Step ι st H ι (st.set k c') (upd H a o) := by
  have ha := List.mem_of_getElem? hk
  have hl : hide ι (st.set k c') (upd H a o) = hide ι st H := by
    funext b
    unfold hide hidden
    rw [live_set r.nd hs (hc.trans hc'.symm)]
    split
    · rfl
    · rename_i hn
      refine upd_ne fun e => hn ?_
      rw [e, live_at hk hs hc]
      rfl
  have lt := (List.getElem?_eq_some_iff.mp hs).1
  refine ⟨⟨by simp [r.len], r.nd, fun b hb => ?_, fun b hb => ?_, fun j b d hj hd => ?_⟩, ⟨Pre.refl _, by rw [hl]; exact Le.refl _, fun b hb => upd_ne fun e => r.nohd ha (e ▸ hb)⟩⟩
  · by_cases e : b = a
    · exact ⟨o, by rw [e, upd_same]⟩
    · obtain ⟨u, q⟩ := r.there b hb
      exact ⟨u, by rw [upd_ne e]; exact q⟩
  · obtain ⟨⟨u, q⟩, n⟩ := r.hdn b hb
    exact ⟨⟨u, by rw [upd_ne fun e => n (by rw [e]; exact ha)]; exact q⟩, n⟩
  · rw [hl]
    by_cases e : j = k
    · subst e
      rw [List.getElem?_set_self lt] at hd
      have eb : a = b := by rw [hk] at hj; exact Option.some.inj hj
      rw [← eb, ← Option.some.inj hd]
      exact ho
    · rw [List.getElem?_set_ne (Ne.symm e)] at hd
      refine (r.ok j b d hj hd).mono (Le.refl _) (Pre.refl _) (upd_ne fun z => e ?_)
      exact nodup_at r.nd (z ▸ hj) hk
/-- what might change is handed out: it changes no more -/
theorem RelSt.freeze {k : Nat} {a : Addr} {c : Cell} (r : RelSt T xp ι st H) (hk : ι.ad[k]? = some a) (hs : st[k]? = some c) :
    RelSt T xp ι (st.set k .dead) H ∧ Step ι st H ι (st.set k .dead) H ∧ hide ι (st.set k .dead) H a = H a := by
  have lt := (List.getElem?_eq_some_iff.mp hs).1
  have nl : liveB ι (st.set k .dead) a = false := Bool.eq_false_iff.mpr fun h => by
    obtain ⟨j, d, h1, h2, h3⟩ := live_get h
    have e : j = k := nodup_at r.nd h1 hk
    rw [e, List.getElem?_set_self lt] at h2
    cases h2
    cases h3
  have hl : Le (hide ι st H) (hide ι (st.set k .dead) H) := fun b u h => by
    have hn := hide_at h
    rw [hide_no]
    · exact hide_sub h
    · intro z
      apply hn
      unfold hidden at z ⊢
      rw [Bool.or_eq_true] at z ⊢
      rcases z with z | z
      · obtain ⟨j, d, h1, h2, h3⟩ := live_get z
        by_cases e : j = k
        · rw [e, List.getElem?_set_self lt] at h2
          cases h2
          cases h3
        · rw [List.getElem?_set_ne (Ne.symm e)] at h2
          exact .inl (live_at h1 h2 h3)
      · exact .inr z
  refine ⟨⟨by simp [r.len], r.nd, r.there, r.hdn, fun j b d hj hd => ?_⟩, ⟨Pre.refl _, hl, fun _ _ => rfl⟩, ?_⟩
  · by_cases e : j = k
    · rw [e, List.getElem?_set_self lt] at hd
      cases hd
      trivial
    · rw [List.getElem?_set_ne (Ne.symm e)] at hd
      exact (r.ok j b d hj hd).mono hl (Pre.refl _) rfl
  · refine hide_no ?_
    unfold hidden
    rw [nl, Bool.false_or, decide_eq_true_eq]
    exact r.nohd (List.mem_of_getElem? hk)
/-- a cell that is told for good as something else -/
theorem RelSt.freezeW {k : Nat} {a : Addr} {c : Cell} {o : HO} (r : RelSt T xp ι st H) (hk : ι.ad[k]? = some a) (hs : st[k]? = some c) (hc : c.live = true) :
    RelSt T xp ι (st.set k .dead) (upd H a o) ∧ Step ι st H ι (st.set k .dead) (upd H a o) ∧ hide ι (st.set k .dead) (upd H a o) a = some o := by
  obtain ⟨r1, s1, e1⟩ := r.freeze hk hs
  have ha : a ∈ ι.ad := List.mem_of_getElem? hk
  have same : ∀ b, b ≠ a → hide ι (st.set k .dead) (upd H a o) b = hide ι (st.set k .dead) H b := fun b hb => by
    unfold hide
    rw [upd_ne hb]
  have vis : ¬ hidden ι (st.set k .dead) a = true := by
    obtain ⟨u, hu⟩ := r.there a ha
    exact hide_at (e1.trans hu)
  have hl : Le (hide ι st H) (hide ι (st.set k .dead) (upd H a o)) := fun b u h => by
    have hb : b ≠ a := fun z => by
      have hn := hide_at h
      apply hn
      unfold hidden
      rw [z, live_at hk hs hc]
      rfl
    rw [same b hb]
    exact s1.ex b u h
  refine ⟨⟨r1.len, r1.nd, fun b hb => ?_, fun b hb => ?_, fun j b d hj hd => ?_⟩, ⟨Pre.refl _, hl, fun b hb => ?_⟩, ?_⟩
  · by_cases e : b = a
    · exact ⟨o, by rw [e, upd_same]⟩
    · obtain ⟨u, hu⟩ := r1.there b hb
      exact ⟨u, by rw [upd_ne e]; exact hu⟩
  · obtain ⟨⟨u, hu⟩, hn⟩ := r1.hdn b hb
    have e : b ≠ a := fun z => hn (z ▸ ha)
    exact ⟨⟨u, by rw [upd_ne e]; exact hu⟩, hn⟩
  · by_cases e : j = k
    · have lt := (List.getElem?_eq_some_iff.mp hs).1
      rw [e, List.getElem?_set_self lt] at hd
      cases hd
      trivial
    · have hb : b ≠ a := fun z => e (nodup_at r.nd (by rw [hj, z]) hk)
      rw [List.getElem?_set_ne (Ne.symm e)] at hd
      exact (r.ok j b d hj hd).mono hl (Pre.refl _) (upd_ne hb)
  · exact upd_ne fun z => r.nohd ha (z ▸ hb)
  · rw [hide_no vis, upd_same]
/-- a list on its way: hidden while it is made -/
def Io.under (ι : Io) (p : Addr) : Io := ⟨ι.ad, p :: ι.hd⟩
theorem hide_under (hp : H p = none) : hide (ι.under p) st (upd H p o) = hide ι st H := by
  funext a
  unfold hide hidden
  show (if (liveB ι st a || decide (a ∈ p :: ι.hd)) = true then none else upd H p o a) = _
  by_cases e : a = p
  · subst e
    rw [if_pos (by simp), hp]
    split <;> rfl
  · rw [upd_ne e]
    simp [e]
theorem RelSt.under (r : RelSt T xp ι st H) (hp : H p = none) : RelSt T xp (ι.under p) st (upd H p o) := by
  refine ⟨r.len, r.nd, fun a ha => ?_, fun a ha => ?_, fun k a c hk hc => ?_⟩
  · obtain ⟨u, e⟩ := r.there a ha
    exact ⟨u, by rw [upd_ne (ne_of_none e hp)]; exact e⟩
  · rcases List.mem_cons.mp ha with rfl | ha
    · exact ⟨⟨o, upd_same⟩, r.ne hp⟩
    · obtain ⟨⟨u, e⟩, n⟩ := r.hdn a ha
      exact ⟨⟨u, by rw [upd_ne (ne_of_none e hp)]; exact e⟩, n⟩
  · obtain ⟨u, e⟩ := r.there a (List.mem_of_getElem? hk)
    rw [hide_under hp]
    have := r.ok k a c hk hc
    have hh : upd H p o a = H a := upd_ne (ne_of_none e hp)
    cases c with
    | lst ds =>
      obtain ⟨xs, h1, h2⟩ := this
      exact ⟨xs, hh.trans h1, RepL.re (ι := ι) (ι' := ι.under p) rfl h2⟩
    | ins c ds =>
      obtain ⟨dx, xs, h1, h2, h3⟩ := this
      exact ⟨dx, xs, hh.trans h1, h2, RepL.re (ι := ι) (ι' := ι.under p) rfl h3⟩
    | dic ks ds =>
      obtain ⟨xs, h1, h2, h3⟩ := this
      exact ⟨xs, hh.trans h1, h2, RepL.re (ι := ι) (ι' := ι.under p) rfl h3⟩
    | dead => trivial
end

/-! ### arguments, displays -/
def dNil : DA := fun _ st => .ok [] st
def dCons (a : DE) (r : DA) : DA := fun ρ st => (a ρ st).bind fun x s1 => (r ρ s1).bind fun xs s2 => .ok (x :: xs) s2
def dTup (a : DA) : DE := fun ρ st => (a ρ st).bind fun xs s1 => if xs.length ≤ 100000 then .ok (.tup xs) s1 else .bad
def dLst (a : DA) : DE := fun ρ st => (a ρ st).bind fun xs s1 => if xs.length ≤ 100000 then .ok (.lst xs) s1 else .bad
/-- a display that is changed later -/
def dNew (a : DA) : DE := fun ρ st => (a ρ st).bind fun xs s1 => if xs.length ≤ 100000 then .ok (.box s1.length) (s1 ++ [.lst xs]) else .bad
theorem line_ok {n : Nat} (h : n ≤ 100000) : n ≤ sizeLine := Nat.le_trans h (by decide)
theorem line_lt {n : Nat} (h : n < 100000) : n < sizeLine := Nat.lt_of_lt_of_le h (by decide)
section
variable {C : Ctx}
theorem pda_nil : PDA C [] dNil := PA.imp pa_nil fun σ H Q ⟨ρ, st, ι, _, rl, p⟩ => p [] ι H (Step.refl _ _ _) rl .nil
theorem pda_cons {e : Expr} {es : List Expr} {m : DE} {r : DA} (he : PD C e m) (hr : PDA C es r) (hs : starEach (e :: es) C.X.env = (false, eval e C.X.env) :: starEach es C.X.env := by rfl) : PDA C (e :: es) (dCons m r) :=
  PA.imp (pa_cons he hr hs) fun σ H Q ⟨ρ, st, ι, e, rl, p⟩ => by
    refine ⟨ρ, st, ι, e, rl, post_bind p fun d s1 v ι1 H1 st1 rl1 rv p1 => ?_⟩
    refine ⟨ρ, s1, ι1, e.step st1, rl1, post_bind p1 fun ds s2 vs ι2 H2 st2 rl2 rv2 p2 => ?_⟩
    exact p2 (v :: vs) ι2 H2 (Step.refl _ _ _) rl2 (.cons (rv.mono st2.ex st2.pre) rv2)
theorem pd_tup {es : List Expr} {m : DA} {x1 pos} (h : PDA C es m) : PD C (.Tuple es x1 pos) (dTup m) :=
  PE.imp (pe_tup h) fun σ H Q ⟨ρ, st, ι, e, rl, p⟩ => by
    refine ⟨ρ, st, ι, e, rl, post_bind p fun ds s1 vs ι1 H1 st1 rl1 rv p1 => ?_⟩
    split at p1
    · rename_i hl
      refine ⟨line_ok (by rw [rv.length]; exact hl), fun a ha => ?_⟩
      obtain ⟨r1, s1', h1⟩ := rl1.new (o := .tup vs) ha
      exact p1 _ ι1 _ s1' r1 (.tup (SqT.of h1) (rv.mono s1'.ex s1'.pre))
    · exact p1.elim
theorem pd_lst {es : List Expr} {m : DA} {pos} (h : PDA C es m) : PD C (.List es pos) (dLst m) :=
  PE.imp (pe_lst h) fun σ H Q ⟨ρ, st, ι, e, rl, p⟩ => by
    refine ⟨ρ, st, ι, e, rl, post_bind p fun ds s1 vs ι1 H1 st1 rl1 rv p1 => ?_⟩
    split at p1
    · rename_i hl
      refine ⟨line_ok (by rw [rv.length]; exact hl), fun a ha => ?_⟩
      obtain ⟨r1, s1', h1⟩ := rl1.new (o := .lst vs) ha
      exact p1 _ ι1 _ s1' r1 (.lst h1 (rv.mono s1'.ex s1'.pre))
    · exact p1.elim
theorem pd_new {es : List Expr} {m : DA} {pos} (h : PDA C es m) : PD C (.List es pos) (dNew m) :=
  PE.imp (pe_lst h) fun σ H Q ⟨ρ, st, ι, e, rl, p⟩ => by
    refine ⟨ρ, st, ι, e, rl, post_bind p fun ds s1 vs ι1 H1 st1 rl1 rv p1 => ?_⟩
    split at p1
    · rename_i hl
      refine ⟨line_ok (by rw [rv.length]; exact hl), fun a ha => ?_⟩
      obtain ⟨r1, s1'⟩ := rl1.newMut (o := .lst vs) (c := .lst ds) ha rfl fun ι' hp => ⟨vs, upd_same, rv.mono (Le.refl _) hp⟩
      refine p1 _ _ _ s1' r1 (.box ?_)
      rw [← rl1.len]
      exact Io.add_at _ _
    · exact p1.elim
end
end Den

set_option maxRecDepth 100000
set_option maxHeartbeats 4000000
/-! Den, the calls: a def's promise where no repr runs around it (the guards are told). -/
namespace Den
open PySem PySem.Spec PyProof.Rows L2

structure RoomG (k : Nat) (A : Around) : Prop where
  room : Room k A
  gd : A.guards = some []
theorem RoomG.mono {j k : Nat} {A : Around} (r : RoomG k A) (h : j ≤ k) : RoomG j A := ⟨r.room.mono h, r.gd⟩
theorem RoomG.deeper {k : Nat} {A : Around} (r : RoomG (k + 1) A) (env : Env) : RoomG k (A.deeper env) := ⟨r.room.deeper env, r.gd⟩
theorem make_guards {A : Around} {C : Addr} {us : List Value} {kw : List (Str × Value)} : (A.under (.builtin "type.__call__" ⟨.ref C :: us, kw⟩)).guards = A.guards := by
  have h : (Code.builtin "type.__call__" ⟨.ref C :: us, kw⟩).guards = [] := by
    unfold Code.guards
    rw [if_neg]
    simp [Code.isGuard, guardIds]
  show pushGuards (Code.guards (.builtin "type.__call__" ⟨.ref C :: us, kw⟩)) A.guards = A.guards
  rw [h]
  cases A.guards <;> rfl
theorem RoomG.make {k : Nat} {A : Around} (r : RoomG (k + 1) A) (C : Addr) (us : List Value) (kw : List (Str × Value)) : RoomG k (A.under (.builtin "type.__call__" ⟨.ref C :: us, kw⟩)) := ⟨r.room.make C us kw, make_guards.trans r.gd⟩

structure FnG (P : Program) (w : World) (K : PySem.W.Frag) (mg : Str → Option Value) (base : Heap) (k : Nat) (f : Addr) (fd : FuncData) (ps : List Str) (sp : Sp) : Prop where
  len : ∀ vs H Q E, sp vs H Q E → vs.length = ps.length
  run : ∀ (A : Around) (outer : List Env) (s : Shared) (H : Hp) (args : Args) (us : List Value) (vs : List V) (Q : VK) (E : XK), RoomG k A → Env0 P w K mg base A outer s H → BindsTo s fd args (ps.zip us) →
    Vals vs us → sp vs H Q E → codeAny (model P w) A (.call (.ref f) args) (CR (L2N.CX P w) outer P w H s Q E) s

theorem FnG.mono {P : Program} {w : World} {K : PySem.W.Frag} {mg : Str → Option Value} {base : Heap} {j k : Nat} {f : Addr} {fd : FuncData} {ps : List Str} {sp : Sp} (F : FnG P w K mg base j f fd ps sp) (h : j ≤ k) : FnG P w K mg base k f fd ps sp :=
  ⟨F.len, fun A outer s H args us vs Q E hr => F.run A outer s H args us vs Q E (hr.mono h)⟩

section
variable {X : Cx} {k : Nat} {f C : Addr} {fd : FuncData} {ps : List Str} {sp : Sp} {pins : List (Addr × Obj)} {σ : L2.St} {H : Hp} {s : Shared} {Q : VK} {E : XK} {W : WX}
def Ended (X : Cx) (pins : List (Addr × Obj)) (σ : L2.St) (Q : VK) (r : Result) (s' : Shared) : Prop := match r with
  | .ok (.ret u) => EP X pins σ Q u s'
  | .ok _ => False
  | .error e => X.xe e s'
/-- behind a call, whichever way it ends -/
theorem ends_of {r : Result} {s' : Shared} (I : Inv X pins σ H s) (tk : L2N.Takes X W) (hW : ∀ cls d H', E cls d H' → W cls d σ H') (q : CR (L2N.CX X.prog X.w) X.stack X.prog X.w H s Q E r s') :
    Ended X pins σ Q r s' := by
  match r, q with
  | .error e, q => exact tk e s' (L2N.XE.of_call I hW q)
  | .ok (.ret u), q => exact I.after q
  | .ok .next, q => exact q
  | .ok .brk, q => exact q
  | .ok .cont, q => exact q
theorem run_fnG {us us' : List Value} {vs : List V} (F : FnG X.prog X.w X.K X.mg X.base k f fd ps sp) (hr : RoomG k X.A) (tk : L2N.Takes X W) (hW : ∀ cls d H', E cls d H' → W cls d σ H')
    (I : Inv X pins σ H s) (hb : BindsTo s fd ⟨us, []⟩ (ps.zip us')) (r : Vals vs us') (h : sp vs H Q E) : wpAny (model X.prog X.w) X.A (call (.ref f) us) (EP X pins σ Q) X.xe s := by
  have z := F.run X.A X.stack s H ⟨us, []⟩ us' vs Q E hr I.env0 hb r h
  refine wpAny_call (codeAny_mono z fun res s' q => ?_)
  have e : Ended X pins σ Q res s' := ends_of I tk hW q
  clear q
  match res, e with
  | .error e', q' => exact q'
  | .ok (.ret u), q' => exact q'
  | .ok .next, q' => exact False.elim q'
  | .ok .brk, q' => exact False.elim q'
  | .ok .cont, q' => exact False.elim q'
/-- C(..) by C's __init__ -/
theorem run_makeG {us us' : List Value} {vs : List V} (M : Mk X.K C f) (F : FnG X.prog X.w X.K X.mg X.base k f fd ps sp) (hr : RoomG (k + 1) X.A) (tk : L2N.Takes X W) (hW : ∀ cls d H', E cls d H' → W cls d σ H')
    (I : Inv X pins σ H s) (hb : ∀ s' x, X.K.In s'.heap → BindsTo s' fd ⟨.ref x :: us, []⟩ (ps.zip (.ref x :: us'))) (r : Vals vs us')
    (h : ∀ x dx, H x = none → H dx = none → dx ≠ x → sp (.ref x :: vs) (upd (upd H dx (.own x)) x (.ins C dx [])) (fun v H2 => v = .non ∧ Q (.ref x) H2) E) :
    wpAny (model X.prog X.w) X.A (call (.ref C) us) (EP X pins σ Q) X.xe s := by
  have n0 : H s.heap.objs.size = none := I.hok.fresh (Nat.le_refl _)
  have n1 : H (s.heap.objs.size + 1) = none := I.hok.fresh (Nat.le_succ _)
  have hq := h (s.heap.objs.size + 1) s.heap.objs.size n1 n0 (Nat.ne_of_lt (Nat.lt_succ_self _))
  have I2 := Inv.made (C := C) I
  have rr : Vals (V.ref (s.heap.objs.size + 1) :: vs) (Value.ref (s.heap.objs.size + 1) :: us') := .cons rfl r
  have run := F.run _ X.stack _ _ ⟨Value.ref (s.heap.objs.size + 1) :: us, []⟩ _ _ _ E (hr.make C us []) (I2.env0.make C us []) (hb _ (s.heap.objs.size + 1) I2.kIn) rr hq
  refine wpAny_call (make_map (f := f) I.kIn M.makes M.init (beq_iff_eq.mp M.fn) (codeAny_mono run fun res s' q => ?_))
  have e : Ended X pins σ (fun v H2 => v = .non ∧ Q (.ref (s.heap.objs.size + 1)) H2) res s' := ends_of I2 tk (E := E) hW q
  clear q
  match res, e with
  | .error e', q' => exact q'
  | .ok (.ret u), ⟨v, H', I3, rv, ev, q3⟩ =>
    subst ev
    exact ⟨rv, ⟨V.ref (s.heap.objs.size + 1), H', I3, rfl, q3⟩⟩
  | .ok .next, q' => exact False.elim q'
  | .ok .brk, q' => exact False.elim q'
  | .ok .cont, q' => exact False.elim q'
end

/-! ### a def by its body -/
section
variable {P : Program} {w : World} {K : PySem.W.Frag} {mg : Str → Option Value} {base : Heap}
theorem fnG_of {x qual : Str} {st : Stmt} {f : Addr} {fd : FuncData} {N ps : List Str} {k : Nat} {sp : Sp} (F : Fun K x qual st f fd) (S : FnScope N ps (defScope st)) (len : ∀ vs H Q E, sp vs H Q E → vs.length = ps.length)
    (hbody : ∀ (cdv : Value) (A : Around) (outer : List Env) (s : Shared) (H : Hp) (vs : List V) (Q : VK) (E : XK), RoomG k (A.deeper (envOfC qual (defScope st) s.heap.objs.size f cdv)) → sp vs H Q E →
      ∃ t, PSs (cxOf (L2N.CX P w) P w K mg base N qual (defScope st) f cdv A outer s H E) (defBody st) t ∧ t { nx := fun _ H' => Q .non H', rt := Q } (start N vs) H) :
    FnG P w K mg base (k + 1) f fd ps sp := by
  obtain ⟨oc, od, kV, doc, pm, an, cdv, ct, osl, efd, lk, hcd⟩ := F.ex
  subst efd
  refine ⟨len, fun A outer s H args us vs Q E hr e0 hb r hsp => ?_⟩
  have hl := len _ _ _ _ hsp
  have kin : K.In s.heap := e0.mod.kin.keeps fun b o q => (e0.bs b o q).1
  have nol : s.heap.NoLimit := e0.mod.nolimit.keeps fun b o q => (e0.bs b o q).1
  refine codeAny_call_function hr.room.depth (kin _ _ lk) rfl S.co S.gen rfl (PySem.W.codeRec_of kin hcd) (hb _ _ _ _ ?_)
  refine wpAny_newFunctionEnv_cells S.kind (fun y hy => ?_) fun env he s1 x => ?_
  · obtain ⟨n, v⟩ := y
    refine (S.par n (List.of_mem_zip hy).1).elim .inl fun q => .inr ⟨q, ?_⟩
    exact PySem.W.cellsFrom_some _ _ _ (.inl q)
  · subst he
    refine ⟨nol.keeps x.toInCall.keep, codeAny_func ?_⟩
    obtain ⟨t, ht, hq⟩ := hbody cdv A outer s H vs Q E (hr.deeper _) hsp
    have I := inv_start (CX := L2N.CX P w) (E := E) S hr.room.hd e0 hl r x
    refine wpAny_mono (ht.run [] s1 (start N vs) H _ I hq) (fun fl s' hs => ?_) fun e s' hs => hs
    match fl, hs with
    | .ret u, ⟨v, σ', H', J, rv, q⟩ => exact ⟨v, H', J.os, J.bare, J.base, J.hok, rv, q⟩
    | .next, ⟨σ', H', J, q⟩ => exact ⟨V.non, H', J.os, J.bare, J.base, J.hok, rfl, q⟩
    | .brk, ⟨_, _, _, q⟩ => exact q.elim
    | .cont, ⟨_, _, _, q⟩ => exact q.elim
end
end Den

set_option maxRecDepth 100000
set_option maxHeartbeats 4000000
/-! Den: defs called, instances made, methods called. -/
namespace Den
open PySem PySem.Spec L2

/-- a def that is worth m: its arguments as data, the store ahead; the answer, the store behind -/
abbrev DF := List D → Store → Res D
def spM (T : Txt) (n : Nat) (m : DF) : Sp := fun vs H Q E => vs.length = n ∧ ∃ xp ds st ι, RepL T xp (hide ι st H) ι vs ds ∧ RelSt T xp ι st H ∧ Post T xp (fun c d H => E c d H) ι st H (Rep T xp) Q (m ds st)

/-- how a call binds, at the data -/
def Bd (T : Txt) (fd : FuncData) (ps : List Str) (n : Nat) (ks : List Str) (gD : List D → List D → List D) : Prop := ∃ g gV, KBn T.K fd ps n ks g gV ∧
  (∀ vs zs, vs.length = n → zs.length = ks.length → (gV vs zs).length = ps.length) ∧
  ∀ xp G ι vs ds zs es, RepL T xp G ι vs ds → RepL T xp G ι zs es → RepL T xp G ι (gV vs zs) (gD ds es)

def dCall (n m : Nat) (gD : List D → List D → List D) (f : DF) (a k : DA) : DE := fun ρ st => (a ρ st).bind fun ds s1 => (k ρ s1).bind fun es s2 => if ds.length = n ∧ es.length = m then f (gD ds es) s2 else .bad
/-- an instance that changes later -/
def dMakeM (c n m : Nat) (gD : List D → List D → List D) (f : DF) (a k : DA) : DE := fun ρ st => (a ρ st).bind fun ds s1 => (k ρ s1).bind fun es s2 => if ds.length = n ∧ es.length = m then
  (f (gD (.box s2.length :: ds) es) (s2 ++ [.ins c []])).bind fun r s3 => match r with
    | .non => .ok (.box s2.length) s3
    | _ => .bad
  else .bad
/-- what might change changes no more -/
def frzAt (k : Nat) : Store → Res D := fun st => match st[k]? with
  | some (.ins c xs) => .ok (.ins c xs) (st.set k .dead)
  | some (.lst xs) => .ok (.lst xs) (st.set k .dead)
  | _ => .bad
def dFrz (a : DE) : DE := fun ρ st => (a ρ st).bind fun d s1 => match d with
  | .box k => frzAt k s1
  | _ => .bad
/-- an instance that is as __init__ leaves it, for good -/
def dMake (c n m : Nat) (gD : List D → List D → List D) (f : DF) (a k : DA) : DE := dFrz (dMakeM c n m gD f a k)

section
variable {C : Ctx}
abbrev PDK (C : Ctx) (kws : List Keyword) (m : DA) : Prop := PK C.X kws (tDA C.T C.xp C.W m)
theorem PK.imp {X : Cx} {e : List Keyword} {t t' : TA} (h : PK X e t) (i : ∀ σ H Q, t' σ H Q → t σ H Q) : PK X e t' := ⟨fun p pins s σ H Q I q => h.run p pins s σ H Q I (i σ H Q q)⟩
theorem pdk_nil : PDK C [] dNil := PK.imp pk_nil fun σ H Q ⟨ρ, st, ι, _, rl, p⟩ => p [] ι H (Step.refl _ _ _) rl .nil
theorem pdk_cons {e : Expr} {es : List Keyword} {nm : Option Str} {kpos : Pos} {m : DE} {r : DA} (he : PD C e m) (hr : PDK C es r) : PDK C (⟨nm, e, kpos⟩ :: es) (dCons m r) :=
  PK.imp (pk_cons he hr) fun σ H Q ⟨ρ, st, ι, e, rl, p⟩ => by
    refine ⟨ρ, st, ι, e, rl, post_bind p fun d s1 v ι1 H1 st1 rl1 rv p1 => ?_⟩
    refine ⟨ρ, s1, ι1, e.step st1, rl1, post_bind p1 fun ds s2 vs ι2 H2 st2 rl2 rv2 p2 => ?_⟩
    exact p2 (v :: vs) ι2 H2 (Step.refl _ _ _) rl2 (.cons (rv.mono st2.ex st2.pre) rv2)

/-- the arguments of a call, then the call: the function value fv is one that stays -/
theorem args_call {pos : Pos} {pins : List (Addr × Obj)} {s : Shared} {σ : L2.St} {H : Hp} {fv : Value} {first : List Value} {e : Expr} {es : List Expr} {kws : List Keyword} {ks : List Str} {ma mk : DA} {Q : Value → Shared → Prop} (ha : PDA C (e :: es) ma) (hkw : PDK C kws mk)
    (I : Inv C.X pins σ H s) (hk : PySem.W.keepIn C.X.K fv = true) (h : tDA C.T C.xp C.W ma σ H fun vs H1 => tDA C.T C.xp C.W mk σ H1 fun zs H2 => ∀ us ws s2, Inv C.X pins σ H2 s2 → Vals vs us → Vals zs ws → wpAny (model C.X.prog C.X.w) C.X.A (call fv (first ++ us) (ks.zip ws)) Q C.X.xe s2)
    (hall : (backToKw pos (keywordEach kws C.X.env)).all (·.1.isSome) = true) (hks : (backToKw pos (keywordEach kws C.X.env)).filterMap (·.1) = ks) (he : starEach (e :: es) C.X.env = (false, eval e C.X.env) :: starEach es C.X.env)
    (hpl : ((backTo pos (starEach (e :: es) C.X.env)).any (·.1) || (backToKw pos (keywordEach kws C.X.env)).any (·.1.isNone)) = false) :
    wpAny (model C.X.prog C.X.w) C.X.A (callWith pos fv first (backTo pos (starEach (e :: es) C.X.env)) (backToKw pos (keywordEach kws C.X.env))) Q C.X.xe s := by
  refine PySem.W.callWith_KW (h₀ := C.X.base) I.ok.mod.kin hk hall (thn (ha.run pos pins s σ H _ I h) fun us s1 ⟨vs, H1, I1, r, q⟩ => ?_) hpl he
  refine thn (hkw.run pos pins s1 σ H1 _ I1 q) fun ws s2 ⟨zs, H2, I2, rz, q2⟩ => ⟨I2.kIn, ?_⟩
  rw [hks]
  exact q2 us ws s2 I2 r rz
theorem args_call0 {pos : Pos} {pins : List (Addr × Obj)} {s : Shared} {σ : L2.St} {H : Hp} {fv : Value} {first : List Value} {kws : List Keyword} {ks : List Str} {mk : DA} {Q : Value → Shared → Prop} (hkw : PDK C kws mk)
    (I : Inv C.X pins σ H s) (hk : PySem.W.keepIn C.X.K fv = true) (h : tDA C.T C.xp C.W mk σ H fun zs H2 => ∀ ws s2, Inv C.X pins σ H2 s2 → Vals zs ws → wpAny (model C.X.prog C.X.w) C.X.A (call fv (first ++ []) (ks.zip ws)) Q C.X.xe s2)
    (hall : (backToKw pos (keywordEach kws C.X.env)).all (·.1.isSome) = true) (hks : (backToKw pos (keywordEach kws C.X.env)).filterMap (·.1) = ks)
    (hpl : ((backTo pos (starEach [] C.X.env)).any (·.1) || (backToKw pos (keywordEach kws C.X.env)).any (·.1.isNone)) = false) :
    wpAny (model C.X.prog C.X.w) C.X.A (callWith pos fv first (backTo pos (starEach [] C.X.env)) (backToKw pos (keywordEach kws C.X.env))) Q C.X.xe s := by
  refine PySem.W.callWith_KW0 (h₀ := C.X.base) I.ok.mod.kin hk hall ?_ hpl
  refine thn (hkw.run pos pins s σ H _ I h) fun ws s2 ⟨zs, H2, I2, rz, q2⟩ => ⟨I2.kIn, ?_⟩
  rw [hks]
  exact q2 ws s2 I2 rz

variable {f : Addr} {fd : FuncData} {ps ks : List Str} {k n : Nat} {gD : List D → List D → List D} {m : DF} {x : Str} {p pos : Pos} {e : Expr} {es : List Expr} {kws : List Keyword} {ma mk : DA}
abbrev FnD (C : Ctx) (k : Nat) (f : Addr) (fd : FuncData) (ps : List Str) (m : DF) : Prop := FnG C.X.prog C.X.w C.X.K C.X.mg C.X.base k f fd ps (spM C.T ps.length m)

/-- the callee, its arguments known -/
theorem call_den {pins : List (Addr × Obj)} {s : Shared} {σ : L2.St} {H : Hp} {us ws : List Value} {vs zs : List V} {ds es : List D} {st : Store} {ι : Io} {Q : VK} (F : FnD C k f fd ps m) (hr : RoomG k C.X.A) (tk : L2N.Takes C.X C.W) (hb : Bd C.T fd ps n ks gD)
    (I : Inv C.X pins σ H s) (r : Vals vs us) (rz : Vals zs ws) (l1 : vs.length = n) (l2 : zs.length = ks.length) (rd : RepL C.T C.xp (hide ι st H) ι vs ds) (re : RepL C.T C.xp (hide ι st H) ι zs es) (rl : RelSt C.T C.xp ι st H)
    (h : Post C.T C.xp (fun c d H => C.W c d σ H) ι st H (Rep C.T C.xp) Q (m (gD ds es) st)) : wpAny (model C.X.prog C.X.w) C.X.A (call (.ref f) us (ks.zip ws)) (EP C.X pins σ Q) C.X.xe s := by
  obtain ⟨g, gV, b, bl, bD⟩ := hb
  have z := F.run C.X.A C.X.stack s H ⟨us, ks.zip ws⟩ (g us ws) (gV vs zs) Q (fun c d H' => C.W c d σ H') hr I.env0 (b.to s us ws (by rw [← C.hK]; exact I.kIn) (r.length.symm.trans l1) (rz.length.symm.trans l2)) (b.rel r rz)
    ⟨bl vs zs l1 l2, C.xp, gD ds es, st, ι, bD _ _ _ _ _ _ _ rd re, rl, h⟩
  refine wpAny_call (codeAny_mono z fun res s' q => ?_)
  have e : Ended C.X pins σ Q res s' := ends_of I tk (fun _ _ _ h => h) q
  clear q
  match res, e with
  | .error e', q' => exact q'
  | .ok (.ret u), q' => exact q'
  | .ok .next, q' => exact False.elim q'
  | .ok .brk, q' => exact False.elim q'
  | .ok .cont, q' => exact False.elim q'
theorem pd_call (F : FnD C k f fd ps m) (hr : RoomG k C.X.A) (tk : L2N.Takes C.X C.W) (hb : Bd C.T fd ps n ks gD) (hg : Gl C.X x) (hm : C.X.mg x = some (.ref f)) (hk : PySem.W.keepIn C.X.K (.ref f) = true) (ha : PDA C (e :: es) ma) (hkw : PDK C kws mk)
    (hall : (backToKw pos (keywordEach kws C.X.env)).all (·.1.isSome) = true := by rfl) (hks : (backToKw pos (keywordEach kws C.X.env)).filterMap (·.1) = ks := by rfl) (hdb : (x == ("__debug__" : Str)) = false := by decide)
    (he : starEach (e :: es) C.X.env = (false, eval e C.X.env) :: starEach es C.X.env := by rfl) (hpl : ((backTo pos (starEach (e :: es) C.X.env)).any (·.1) || (backToKw pos (keywordEach kws C.X.env)).any (·.1.isNone)) = false := by rfl) :
    PD C (.Call (.Name x p) (e :: es) kws pos) (dCall n ks.length gD m ma mk) := by
  refine ⟨fun pins s σ H Q I ⟨ρ, st, ι, er, rl, h⟩ => ?_⟩
  refine wpAny_Call_Name_kw (ld_glob I hg hm ?_ hdb)
  refine args_call (ks := ks) ha hkw I hk ⟨ρ, st, ι, er, rl, post_bind h fun ds s1 vs ι1 H1 st1 rl1 rv p1 => ⟨ρ, s1, ι1, er.step st1, rl1, post_bind p1 fun es s2 zs ι2 H2 st2 rl2 rv2 p2 => ?_⟩⟩ hall hks he hpl
  intro us ws s3 I3 r rz
  split at p2
  · rename_i hl
    exact call_den F hr tk hb I3 r rz (rv.length.trans hl.1) (rv2.length.trans hl.2) (rv.mono st2.ex st2.pre) rv2 rl2 p2
  · exact p2.elim
theorem pd_call0 (F : FnD C k f fd ps m) (hr : RoomG k C.X.A) (tk : L2N.Takes C.X C.W) (hb : Bd C.T fd ps 0 ks gD) (hg : Gl C.X x) (hm : C.X.mg x = some (.ref f)) (hk : PySem.W.keepIn C.X.K (.ref f) = true) (hkw : PDK C kws mk)
    (hall : (backToKw pos (keywordEach kws C.X.env)).all (·.1.isSome) = true := by rfl) (hks : (backToKw pos (keywordEach kws C.X.env)).filterMap (·.1) = ks := by rfl) (hdb : (x == ("__debug__" : Str)) = false := by decide)
    (hpl : ((backTo pos (starEach [] C.X.env)).any (·.1) || (backToKw pos (keywordEach kws C.X.env)).any (·.1.isNone)) = false := by rfl) :
    PD C (.Call (.Name x p) [] kws pos) (dCall 0 ks.length gD m dNil mk) := by
  refine ⟨fun pins s σ H Q I ⟨ρ, st, ι, er, rl, h⟩ => ?_⟩
  refine wpAny_Call_Name_kw (ld_glob I hg hm ?_ hdb)
  refine args_call0 (ks := ks) hkw I hk ⟨ρ, st, ι, er, rl, post_bind (k := fun es s2 => if ([] : List D).length = 0 ∧ es.length = ks.length then m (gD [] es) s2 else .bad) h fun es s2 zs ι2 H2 st2 rl2 rv2 p2 => ?_⟩ hall hks hpl
  intro ws s3 I3 rz
  split at p2
  · rename_i hl
    exact call_den (vs := []) F hr tk hb I3 .nil rz rfl (rv2.length.trans hl.2) .nil rv2 rl2 p2
  · exact p2.elim

/-! ### instances -/
theorem frz_den {xp : XT} {T : Txt} {W : Value → Option Addr → Hp → Prop} {ι : Io} {st : Store} {H : Hp} {i : Nat} {a : Addr} {Q : VK} (rl : RelSt T xp ι st H) (hi : ι.ad[i]? = some a) (h : Post T xp W ι st H (Rep T xp) Q (frzAt i st)) : Q (.ref a) H := by
  unfold frzAt at h
  split at h
  · rename_i c xs hs
    obtain ⟨dx, ys, h1, h2, h3⟩ := rl.ok i a _ hi hs
    obtain ⟨r, s, e⟩ := rl.freeze hi hs
    exact h _ ι H s r (.ins (e.trans h1) h2 (h3.mono s.ex s.pre))
  · rename_i xs hs
    obtain ⟨ys, h1, h3⟩ := rl.ok i a _ hi hs
    obtain ⟨r, s, e⟩ := rl.freeze hi hs
    exact h _ ι H s r (.lst (e.trans h1) (h3.mono s.ex s.pre))
  · exact h.elim
theorem pd_frz {e : Expr} {me : DE} (h : PD C e me) : PD C e (dFrz me) := PE.imp h fun σ H Q ⟨ρ, st, ι, er, rl, p⟩ => by
  refine ⟨ρ, st, ι, er, rl, post_bind p fun d s1 v ι1 H1 st1 rl1 rv p1 => ?_⟩
  cases rv with
  | box hk => exact frz_den rl1 hk p1
  | _ => exact p1.elim
theorem make_den {c : Nat} {pins : List (Addr × Obj)} {s : Shared} {σ : L2.St} {H : Hp} {us ws : List Value} {vs zs : List V} {ds es : List D} {st : Store} {ι : Io} {Q : VK} (M : Mk C.X.K (C.T.ca c) f) (F : FnD C k f fd ps m) (hr : RoomG (k + 1) C.X.A) (tk : L2N.Takes C.X C.W)
    (hb : Bd C.T fd ps (n + 1) ks gD) (I : Inv C.X pins σ H s) (r : Vals vs us) (rz : Vals zs ws) (l1 : vs.length = n) (l2 : zs.length = ks.length) (rd : RepL C.T C.xp (hide ι st H) ι vs ds) (re : RepL C.T C.xp (hide ι st H) ι zs es) (rl : RelSt C.T C.xp ι st H)
    (h : Post C.T C.xp (fun c d H => C.W c d σ H) ι st H (Rep C.T C.xp) Q ((m (gD (.box st.length :: ds) es) (st ++ [.ins c []])).bind fun r s3 => match r with
      | .non => .ok (.box st.length) s3
      | _ => .bad)) : wpAny (model C.X.prog C.X.w) C.X.A (call (.ref (C.T.ca c)) us (ks.zip ws)) (EP C.X pins σ Q) C.X.xe s := by
  obtain ⟨g, gV, b, bl, bD⟩ := hb
  have n0 : H s.heap.objs.size = none := I.hok.fresh (Nat.le_refl _)
  have n1 : H (s.heap.objs.size + 1) = none := I.hok.fresh (Nat.le_succ _)
  have ne : s.heap.objs.size + 1 ≠ s.heap.objs.size := Nat.succ_ne_self _
  obtain ⟨ra, sa, _⟩ := rl.new (o := .own (s.heap.objs.size + 1)) n0
  obtain ⟨rb, sb⟩ := ra.newMut (p := s.heap.objs.size + 1) (o := .ins (C.T.ca c) s.heap.objs.size []) (c := .ins c []) (by rw [upd_ne ne]; exact n1) rfl fun ι' _ => ⟨s.heap.objs.size, [], by rw [upd_same]; simp, Nat.zero_le _, .nil⟩
  have sab := sa.trans sb
  have I2 := Inv.made (C := C.T.ca c) I
  have r1 : Vals (V.ref (s.heap.objs.size + 1) :: vs) (Value.ref (s.heap.objs.size + 1) :: us) := .cons rfl r
  have e1 : (Value.ref (s.heap.objs.size + 1) :: us).length = n + 1 := r1.length.symm.trans (congrArg Nat.succ l1)
  have rself : Rep C.T C.xp (hide (ι.add (s.heap.objs.size + 1)) (st ++ [.ins c []]) (upd (upd H s.heap.objs.size (.own (s.heap.objs.size + 1))) (s.heap.objs.size + 1) (.ins (C.T.ca c) s.heap.objs.size []))) (ι.add (s.heap.objs.size + 1)) (.ref (s.heap.objs.size + 1)) (.box st.length) := by
    refine .box ?_
    rw [← rl.len]
    exact Io.add_at _ _
  have hp := post_bind (R := Rep C.T C.xp) (Q := fun v H2 => v = V.non ∧ Q (.ref (s.heap.objs.size + 1)) H2) (Post.step h sab) fun d s1 v ι1 H1 st1 rl1 rv p1 => by
    cases rv with
    | non =>
      refine ⟨rfl, ?_⟩
      refine p1 _ ι1 H1 (Step.refl _ _ _) rl1 (.box (st1.pre.ad _ _ ?_))
      rw [← rl.len]
      exact Io.add_at _ _
    | _ => exact p1.elim
  have z := F.run _ C.X.stack _ _ ⟨Value.ref (s.heap.objs.size + 1) :: us, ks.zip ws⟩ _ _ _ (fun c d H' => C.W c d σ H') (hr.make (C.T.ca c) us (ks.zip ws)) (I2.env0.make (C.T.ca c) us (ks.zip ws))
    (b.to _ (Value.ref (s.heap.objs.size + 1) :: us) ws (by rw [← C.hK]; exact I2.kIn) e1 (rz.length.symm.trans l2)) (b.rel r1 rz)
    ⟨bl _ _ (congrArg Nat.succ l1) l2, C.xp, _, _, _, bD _ _ _ _ _ _ _ (.cons rself (rd.mono sab.ex sab.pre)) (re.mono sab.ex sab.pre), rb, hp⟩
  refine wpAny_call (make_map (f := f) I.kIn M.makes M.init (beq_iff_eq.mp M.fn) (codeAny_mono z fun res s' q => ?_))
  have e : Ended C.X pins σ (fun v H2 => v = .non ∧ Q (.ref (s.heap.objs.size + 1)) H2) res s' := ends_of I2 tk (fun _ _ _ h => h) q
  clear q
  match res, e with
  | .error e', q' => exact q'
  | .ok (.ret u), ⟨v, H', I3, rv, ev, q3⟩ =>
    subst ev
    exact ⟨rv, ⟨V.ref (s.heap.objs.size + 1), H', I3, rfl, q3⟩⟩
  | .ok .next, q' => exact False.elim q'
  | .ok .brk, q' => exact False.elim q'
  | .ok .cont, q' => exact False.elim q'
theorem pd_makeM {c : Nat} (M : Mk C.X.K (C.T.ca c) f) (F : FnD C k f fd ps m) (hr : RoomG (k + 1) C.X.A) (tk : L2N.Takes C.X C.W) (hb : Bd C.T fd ps (n + 1) ks gD) (hg : Gl C.X x) (hm : C.X.mg x = some (.ref (C.T.ca c))) (ha : PDA C (e :: es) ma) (hkw : PDK C kws mk)
    (hall : (backToKw pos (keywordEach kws C.X.env)).all (·.1.isSome) = true := by rfl) (hks : (backToKw pos (keywordEach kws C.X.env)).filterMap (·.1) = ks := by rfl) (hdb : (x == ("__debug__" : Str)) = false := by decide)
    (he : starEach (e :: es) C.X.env = (false, eval e C.X.env) :: starEach es C.X.env := by rfl) (hpl : ((backTo pos (starEach (e :: es) C.X.env)).any (·.1) || (backToKw pos (keywordEach kws C.X.env)).any (·.1.isNone)) = false := by rfl) :
    PD C (.Call (.Name x p) (e :: es) kws pos) (dMakeM c n ks.length gD m ma mk) := by
  refine ⟨fun pins s σ H Q I ⟨ρ, st, ι, er, rl, h⟩ => ?_⟩
  refine wpAny_Call_Name_kw (ld_glob I hg hm ?_ hdb)
  refine args_call (ks := ks) ha hkw I M.kp ⟨ρ, st, ι, er, rl, post_bind h fun ds s1 vs ι1 H1 st1 rl1 rv p1 => ⟨ρ, s1, ι1, er.step st1, rl1, post_bind p1 fun es s2 zs ι2 H2 st2 rl2 rv2 p2 => ?_⟩⟩ hall hks he hpl
  intro us ws s3 I3 r rz
  split at p2
  · rename_i hl
    exact make_den M F hr tk hb I3 r rz (rv.length.trans hl.1) (rv2.length.trans hl.2) (rv.mono st2.ex st2.pre) rv2 rl2 p2
  · exact p2.elim
def mkBody (c j : Nat) (gD : List D → List D → List D) (m : DF) (es : List D) (s2 : Store) : Res D := if ([] : List D).length = 0 ∧ es.length = j then
    (m (gD (.box s2.length :: []) es) (s2 ++ [.ins c []])).bind fun r s3 => match r with
      | .non => .ok (.box s2.length) s3
      | _ => .bad else .bad
theorem pd_makeM0 {c : Nat} (M : Mk C.X.K (C.T.ca c) f) (F : FnD C k f fd ps m) (hr : RoomG (k + 1) C.X.A) (tk : L2N.Takes C.X C.W) (hb : Bd C.T fd ps 1 ks gD) (hg : Gl C.X x) (hm : C.X.mg x = some (.ref (C.T.ca c))) (hkw : PDK C kws mk)
    (hall : (backToKw pos (keywordEach kws C.X.env)).all (·.1.isSome) = true := by rfl) (hks : (backToKw pos (keywordEach kws C.X.env)).filterMap (·.1) = ks := by rfl) (hdb : (x == ("__debug__" : Str)) = false := by decide)
    (hpl : ((backTo pos (starEach [] C.X.env)).any (·.1) || (backToKw pos (keywordEach kws C.X.env)).any (·.1.isNone)) = false := by rfl) :
    PD C (.Call (.Name x p) [] kws pos) (dMakeM c 0 ks.length gD m dNil mk) := by
  refine ⟨fun pins s σ H Q I ⟨ρ, st, ι, er, rl, h⟩ => ?_⟩
  refine wpAny_Call_Name_kw (ld_glob I hg hm ?_ hdb)
  have h' : Post C.T C.xp (fun c d H => C.W c d σ H) ι st H (Rep C.T C.xp) Q ((mk ρ st).bind fun es s2 => mkBody c ks.length gD m es s2) := h
  refine args_call0 (ks := ks) hkw I M.kp ⟨ρ, st, ι, er, rl, post_bind h' fun es s2 zs ι2 H2 st2 rl2 rv2 p2 => ?_⟩ hall hks hpl
  unfold mkBody at p2
  intro ws s3 I3 rz
  split at p2
  · rename_i hl
    exact make_den (n := 0) (vs := []) M F hr tk hb I3 .nil rz rfl (rv2.length.trans hl.2) .nil rv2 rl2 p2
  · exact p2.elim

/-! ### a def's promise from its body -/
end
end Den

set_option maxRecDepth 100000
set_option maxHeartbeats 4000000
/-! Den: attributes and methods of instances, statements, blocks. -/
namespace Den
open PySem PySem.Spec L2

/-! ### names beside values -/
theorem lookup_zip {α : Type} {f : Str} : ∀ {ns : List Str} {xs : List α} {i : Nat}, ns.Nodup → ns[i]? = some f → (ns.zip xs).lookup f = xs[i]?
  | [], _, _, _, h => by simp at h
  | _ :: _, [], _, _, _ => by simp
  | n :: ns, x :: xs, 0, _, h => by
    simp at h
    subst h
    simp [List.lookup]
  | n :: ns, x :: xs, i + 1, nd, h => by
    have h' : ns[i]? = some f := by simpa using h
    have ne : (f == n) = false := beq_eq_false_iff_ne.mpr fun e => (List.nodup_cons.mp nd).1 (e ▸ List.mem_of_getElem? h')
    show List.lookup f ((n, x) :: ns.zip xs) = _
    simp only [List.lookup, ne]
    rw [lookup_zip (List.nodup_cons.mp nd).2 h']
    simp
theorem lookup_zip_no {α : Type} {f : Str} : ∀ {ns : List Str} {xs : List α}, f ∉ ns → (ns.zip xs).lookup f = none
  | [], _, _ => by simp
  | _ :: _, [], _ => by simp
  | n :: ns, x :: xs, h => by
    have ne : (f == n) = false := beq_eq_false_iff_ne.mpr fun e => h (e ▸ List.mem_cons_self)
    show List.lookup f ((n, x) :: ns.zip xs) = _
    simp only [List.lookup, ne]
    exact lookup_zip_no fun z => h (List.mem_cons_of_mem _ z)
theorem putF_set {f : Str} {y : V} : ∀ {ns : List Str} {xs : List V} {i : Nat}, ns.Nodup → ns[i]? = some f → i < xs.length → putF f y (ns.zip xs) = ns.zip (xs.set i y)
  | [], _, _, _, h, _ => by simp at h
  | _ :: _, [], _, _, _, h => by simp at h
  | n :: ns, x :: xs, 0, _, h, _ => by
    simp at h
    subst h
    show putF n y ((n, x) :: ns.zip xs) = (n, y) :: ns.zip xs
    unfold putF
    rw [if_pos rfl]
  | n :: ns, x :: xs, i + 1, nd, h, hl => by
    have h' : ns[i]? = some f := by simpa using h
    have ne : n ≠ f := fun e => (List.nodup_cons.mp nd).1 (e ▸ List.mem_of_getElem? h')
    show putF f y ((n, x) :: ns.zip xs) = (n, x) :: ns.zip (xs.set i y)
    unfold putF
    rw [if_neg ne, putF_set (List.nodup_cons.mp nd).2 h' (by simpa using hl)]
theorem putF_new {f : Str} {y : V} : ∀ {ns : List Str} {xs : List V}, ns.Nodup → ns[xs.length]? = some f → putF f y (ns.zip xs) = ns.zip (xs ++ [y])
  | [], _, _, h => by simp at h
  | n :: ns, [], _, h => by
    simp at h
    subst h
    simp [putF]
  | n :: ns, x :: xs, nd, h => by
    have h' : ns[xs.length]? = some f := by simpa using h
    have ne : n ≠ f := fun e => (List.nodup_cons.mp nd).1 (e ▸ List.mem_of_getElem? h')
    show putF f y ((n, x) :: ns.zip xs) = (n, x) :: ns.zip (xs ++ [y])
    unfold putF
    rw [if_neg ne, putF_new (List.nodup_cons.mp nd).2 h']

/-- a class of the text whose instances are plain -/
structure ClsD (T : Txt) (c : Nat) : Prop where
  cl : Cls T.K (T.ca c)
  na : ∀ f ∈ T.fl c, NoAttr T.K (T.ca c) f
  nd : (T.fl c).Nodup
  few : (T.fl c).length < 900

/-- the fields of an instance of c, wherever it is told -/
def fieldsOf (c : Nat) (d : D) (st : Store) : Option (List D) := match d with
  | .ins c' xs => if c' = c then some xs else none
  | .box k => match st[k]? with
    | some (.ins c' xs) => if c' = c then some xs else none
    | _ => none
  | _ => none
section
variable {T : Txt} {xp : XT} {ι : Io} {st : Store} {H : Hp} {c : Nat}
theorem inst_of {v : V} {d : D} {ds : List D} (rl : RelSt T xp ι st H) (r : Rep T xp (hide ι st H) ι v d) (h : fieldsOf c d st = some ds) :
    ∃ a dx xs, v = .ref a ∧ H a = some (.ins (T.ca c) dx ((T.fl c).zip xs)) ∧ xs.length ≤ (T.fl c).length ∧ RepL T xp (hide ι st H) ι xs ds := by
  unfold fieldsOf at h
  cases r with
  | ins h1 h2 h3 =>
    dsimp only at h
    split at h
    · rename_i e
      subst e
      cases h
      exact ⟨_, _, _, rfl, hide_sub h1, h2, h3⟩
    · cases h
  | box hk =>
    dsimp only at h
    split at h
    · rename_i c' xs hs
      split at h
      · rename_i e
        subst e
        cases h
        obtain ⟨dx, ys, h1, h2, h3⟩ := rl.ok _ _ _ hk hs
        exact ⟨_, _, _, rfl, h1, h2, h3⟩
      · cases h
    · cases h
  | _ => cases h
end
def dFld (c i : Nat) (o : DE) : DE := fun ρ st => (o ρ st).bind fun d s1 => match (fieldsOf c d s1).bind (·[i]?) with
  | some x => .ok x s1
  | none => .bad
def dMeth (c n m : Nat) (gD : List D → List D → List D) (f : DF) (o : DE) (a k : DA) : DE := fun ρ st => (o ρ st).bind fun d s0 => if (fieldsOf c d s0).isSome = true then
  (a ρ s0).bind fun ds s1 => (k ρ s1).bind fun es s2 => if ds.length = n ∧ es.length = m then f (gD (d :: ds) es) s2 else .bad
  else .bad
section
variable {C : Ctx} {c i n k : Nat} {f : Addr} {fd : FuncData} {ps ks : List Str} {gD : List D → List D → List D} {m : DF} {x : Str} {p pos apos : Pos} {e o : Expr} {es : List Expr} {kws : List Keyword} {ma mk : DA} {mo : DE}
theorem pd_fld {fn : Str} (hc : ClsD C.T c) (hi : (C.T.fl c)[i]? = some fn) (ho : PD C o mo) (hb : attributeBase o fn C.X.env (eval o C.X.env) = eval o C.X.env := by rfl) : PD C (.Attribute o fn pos) (dFld c i mo) :=
  PE.imp (pe_fld ho hb) fun σ H Q ⟨ρ, st, ι, er, rl, p⟩ => by
    refine ⟨ρ, st, ι, er, rl, post_bind p fun d s1 v ι1 H1 st1 rl1 rv p1 => ?_⟩
    cases hf : fieldsOf c d s1 with
    | none =>
      rw [hf] at p1
      exact p1.elim
    | some ds =>
      rw [hf] at p1
      cases hx : ds[i]? with
      | none =>
        simp only [Option.bind_some, hx] at p1
        exact p1.elim
      | some y =>
        simp only [Option.bind_some, hx] at p1
        obtain ⟨a, dx, xs, ev, ha, hl, rx⟩ := inst_of rl1 rv hf
        obtain ⟨u, hu, ru⟩ := rx.get hx
        refine ⟨a, C.T.ca c, dx, _, u, ev, ha, by rw [C.hK]; exact hc.cl, by rw [C.hK]; exact hc.na fn (List.mem_of_getElem? hi), ?_, p1 u ι1 H1 (Step.refl _ _ _) rl1 ru⟩
        rw [lookup_zip hc.nd hi]
        exact hu
theorem meth_first {fn : Str} {pl : Sem Bool} {A : Around} {E : Value → Shared → Prop} {pins : List (Addr × Obj)} {s : Shared} {σ : L2.St} {H : Hp} {v : V} {u : Value} {d : D} {st : Store} {ι : Io} {Q : Value × List Value → Shared → Prop} (I : Inv C.X pins σ H s) (hc : ClsD C.T c) (hm : Meth C.X.K (C.T.ca c) fn f) (hn : fn ∉ C.T.fl c)
    (rl : RelSt C.T C.xp ι st H) (rv : Rep C.T C.xp (hide ι st H) ι v d) (ru : RelV v u) (hf : (fieldsOf c d st).isSome = true) (h : ∀ a, v = .ref a → Q (.ref f, [.ref a]) s) : wpAny (model C.X.prog C.X.w) A (getMethod u fn pl) Q E s := by
  obtain ⟨ds, hds⟩ := Option.isSome_iff_exists.mp hf
  obtain ⟨a, dx, xs, ev, ha, hl, rx⟩ := inst_of rl rv hds
  subst ev
  obtain rfl : u = Value.ref a := ru
  exact getmeth_ok I ha (by rw [C.hK]; exact hc.cl) hm (lookup_zip_no hn) (h a rfl)
theorem pd_meth {fn : Str} {pl : Sem Bool} (hc : ClsD C.T c) (hm : Meth C.X.K (C.T.ca c) fn f) (hn : fn ∉ C.T.fl c) (F : FnD C k f fd ps m) (hr : RoomG k C.X.A) (tk : L2N.Takes C.X C.W) (hb : Bd C.T fd ps (n + 1) ks gD) (ho : PD C o mo) (ha : PDA C (e :: es) ma) (hkw : PDK C kws mk)
    (hall : (backToKw pos (keywordEach kws C.X.env)).all (·.1.isSome) = true := by rfl) (hks : (backToKw pos (keywordEach kws C.X.env)).filterMap (·.1) = ks := by rfl)
    (he : starEach (e :: es) C.X.env = (false, eval e C.X.env) :: starEach es C.X.env := by rfl) (hpl : ((backTo pos (starEach (e :: es) C.X.env)).any (·.1) || (backToKw pos (keywordEach kws C.X.env)).any (·.1.isNone)) = false := by rfl)
    (ht : eval (.Call (.Attribute o fn apos) (e :: es) kws pos) C.X.env = (do
      let ov ← eval o C.X.env
      standAt apos.atName
      let (f, first) ← holding [ov] (getMethod ov fn pl)
      callWith pos f first (backTo pos (starEach (e :: es) C.X.env)) (backToKw pos (keywordEach kws C.X.env))) := by rfl) :
    PD C (.Call (.Attribute o fn apos) (e :: es) kws pos) (dMeth c n ks.length gD m mo ma mk) := by
  refine ⟨fun pins s σ H Q I ⟨ρ, st, ι, er, rl, h⟩ => ?_⟩
  refine PySem.W.methodCall_KW (pl := pl) (thn (ho.run pins s σ H _ I ⟨ρ, st, ι, er, rl, post_bind (Q := fun v H1 => ∃ d s0 ι0, Rep C.T C.xp (hide ι0 s0 H1) ι0 v d ∧ RelSt C.T C.xp ι0 s0 H1 ∧ EnvR C.T C.xp (hide ι0 s0 H1) ι0 ρ σ ∧ (fieldsOf c d s0).isSome = true ∧
    Post C.T C.xp (fun c d H => C.W c d σ H) ι0 s0 H1 (Rep C.T C.xp) Q ((ma ρ s0).bind fun ds s1 => (mk ρ s1).bind fun es s2 => if ds.length = n ∧ es.length = ks.length then m (gD (d :: ds) es) s2 else .bad)) h
      fun d s0 v ι0 H0 st0 rl0 rv p0 => ?_⟩) fun u s1 ⟨v, H1, I1, ru, d, s0, ι0, rv, rl0, er0, hf, p0⟩ => ?_) ht
  · split at p0
    · rename_i hf
      exact ⟨d, s0, ι0, rv, rl0, er.step st0, hf, p0⟩
    · exact p0.elim
  · refine meth_first I1 hc hm hn rl0 rv ru hf fun a ea => ?_
    subst ea
    refine args_call (ks := ks) (first := [.ref a]) ha hkw I1 hm.kp ⟨ρ, s0, ι0, er0, rl0, post_bind p0 fun ds s1 vs ι1 H1 st1 rl1 rv1 p1 => ⟨ρ, s1, ι1, er0.step st1, rl1, post_bind p1 fun es s2 zs ι2 H2 st2 rl2 rv2 p2 => ?_⟩⟩ hall hks he hpl
    intro us ws s3 I3 r rz
    split at p2
    · rename_i hl
      exact call_den (n := n + 1) (us := .ref a :: us) (vs := .ref a :: _) F hr tk hb I3 (.cons rfl r) rz (congrArg Nat.succ (rv1.length.trans hl.1)) (rv2.length.trans hl.2) (.cons (rv.mono (st1.ex.trans st2.ex) (st1.pre.trans st2.pre)) (rv1.mono st2.ex st2.pre)) rv2 rl2 p2
    · exact p2.elim
theorem pd_meth0 {fn : Str} {pl : Sem Bool} (hc : ClsD C.T c) (hm : Meth C.X.K (C.T.ca c) fn f) (hn : fn ∉ C.T.fl c) (F : FnD C k f fd ps m) (hr : RoomG k C.X.A) (tk : L2N.Takes C.X C.W) (hb : Bd C.T fd ps 1 ks gD) (ho : PD C o mo) (hkw : PDK C kws mk)
    (hall : (backToKw pos (keywordEach kws C.X.env)).all (·.1.isSome) = true := by rfl) (hks : (backToKw pos (keywordEach kws C.X.env)).filterMap (·.1) = ks := by rfl)
    (hpl : ((backTo pos (starEach [] C.X.env)).any (·.1) || (backToKw pos (keywordEach kws C.X.env)).any (·.1.isNone)) = false := by rfl)
    (ht : eval (.Call (.Attribute o fn apos) [] kws pos) C.X.env = (do
      let ov ← eval o C.X.env
      standAt apos.atName
      let (f, first) ← holding [ov] (getMethod ov fn pl)
      callWith pos f first (backTo pos (starEach [] C.X.env)) (backToKw pos (keywordEach kws C.X.env))) := by rfl) :
    PD C (.Call (.Attribute o fn apos) [] kws pos) (dMeth c 0 ks.length gD m mo dNil mk) := by
  refine ⟨fun pins s σ H Q I ⟨ρ, st, ι, er, rl, h⟩ => ?_⟩
  refine PySem.W.methodCall_KW (pl := pl) (thn (ho.run pins s σ H _ I ⟨ρ, st, ι, er, rl, post_bind (Q := fun v H1 => ∃ d s0 ι0, Rep C.T C.xp (hide ι0 s0 H1) ι0 v d ∧ RelSt C.T C.xp ι0 s0 H1 ∧ EnvR C.T C.xp (hide ι0 s0 H1) ι0 ρ σ ∧ (fieldsOf c d s0).isSome = true ∧
    Post C.T C.xp (fun c d H => C.W c d σ H) ι0 s0 H1 (Rep C.T C.xp) Q ((mk ρ s0).bind fun es s2 => if ([] : List D).length = 0 ∧ es.length = ks.length then m (gD [d] es) s2 else .bad)) h
      fun d s0 v ι0 H0 st0 rl0 rv p0 => ?_⟩) fun u s1 ⟨v, H1, I1, ru, d, s0, ι0, rv, rl0, er0, hf, p0⟩ => ?_) ht
  · split at p0
    · rename_i hf
      exact ⟨d, s0, ι0, rv, rl0, er.step st0, hf, p0⟩
    · exact p0.elim
  · refine meth_first I1 hc hm hn rl0 rv ru hf fun a ea => ?_
    subst ea
    refine args_call0 (ks := ks) (first := [.ref a]) hkw I1 hm.kp ⟨ρ, s0, ι0, er0, rl0, post_bind p0 fun es s2 zs ι2 H2 st2 rl2 rv2 p2 => ?_⟩ hall hks hpl
    intro ws s3 I3 rz
    split at p2
    · rename_i hl
      exact call_den (n := 1) (us := [.ref a]) (vs := [.ref a]) F hr tk hb I3 (.cons rfl .nil) rz rfl (rv2.length.trans hl.2) (.cons (rv.mono st2.ex st2.pre) .nil) rv2 rl2 p2
    · exact p2.elim
end

/-! ### statements -/
inductive SRes where
  | nx (ρ : Rho) (st : Store)
  | ret (d : D) (st : Store)
  | brk (ρ : Rho) (st : Store)
  | cnt (ρ : Rho) (st : Store)
  | exc (c : Nat) (xs : List D) (ρ : Rho) (st : Store)
  | bad
abbrev DS := Rho → Store → SRes
/-- a piece's answer, then a statement's end; what is raised leaves the slots as they are -/
def Res.into {α : Type} (m : Res α) (ρ : Rho) (k : α → Store → SRes) : SRes := match m with
  | .ok a st => k a st
  | .exc c xs st => .exc c xs ρ st
  | .bad => .bad
@[simp] theorem into_ok {α : Type} (a : α) (st : Store) (ρ : Rho) (k : α → Store → SRes) : (Res.ok a st).into ρ k = k a st := rfl
@[simp] theorem into_exc {α : Type} (c : Nat) (xs : List D) (st : Store) (ρ : Rho) (k : α → Store → SRes) : (Res.exc c xs st : Res α).into ρ k = .exc c xs ρ st := rfl
@[simp] theorem into_bad {α : Type} (ρ : Rho) (k : α → Store → SRes) : (Res.bad : Res α).into ρ k = .bad := rfl
/-- then what follows -/
def SRes.then (r : SRes) (k : Rho → Store → SRes) : SRes := match r with
  | .nx ρ st => k ρ st
  | r => r
@[simp] theorem then_nx (ρ : Rho) (st : Store) (k : Rho → Store → SRes) : (SRes.nx ρ st).then k = k ρ st := rfl
@[simp] theorem then_ret (d : D) (st : Store) (k : Rho → Store → SRes) : (SRes.ret d st).then k = .ret d st := rfl
@[simp] theorem then_exc (c : Nat) (xs : List D) (ρ : Rho) (st : Store) (k : Rho → Store → SRes) : (SRes.exc c xs ρ st).then k = .exc c xs ρ st := rfl

section
variable (T : Txt) (xp : XT) (W : WX) (ι : Io) (st : Store) (H : Hp) (E : Ends)
def PostS : SRes → Prop
  | .nx ρ st' => ∀ σ ι' H', Step ι st H ι' st' H' → RelSt T xp ι' st' H' → EnvR T xp (hide ι' st' H') ι' ρ σ → E.nx σ H'
  | .ret d st' => ∀ v ι' H', Step ι st H ι' st' H' → RelSt T xp ι' st' H' → Rep T xp (hide ι' st' H') ι' v d → E.rt v H'
  | .brk ρ st' => ∀ σ ι' H', Step ι st H ι' st' H' → RelSt T xp ι' st' H' → EnvR T xp (hide ι' st' H') ι' ρ σ → E.bk σ H'
  | .cnt ρ st' => ∀ σ ι' H', Step ι st H ι' st' H' → RelSt T xp ι' st' H' → EnvR T xp (hide ι' st' H') ι' ρ σ → E.ct σ H'
  | .exc c ds ρ st' => ∀ σ ι' H' dx, Step ι st H ι' st' H' → RelSt T xp ι' st' H' → EnvR T xp (hide ι' st' H') ι' ρ σ → XdR T xp ι' st' H' dx c ds → W (.ref (T.ca c)) dx σ H'
  | .bad => False
end
section
variable {T : Txt} {xp : XT} {W : WX} {ι ι1 : Io} {st st1 : Store} {H H1 : Hp} {E : Ends}
theorem PostS.step {r : SRes} (h : PostS T xp W ι st H E r) (s : Step ι st H ι1 st1 H1) : PostS T xp W ι1 st1 H1 E r := by
  cases r with
  | nx ρ st' => exact fun σ ι' H' s1 => h σ ι' H' (s.trans s1)
  | ret d st' => exact fun v ι' H' s1 => h v ι' H' (s.trans s1)
  | brk ρ st' => exact fun σ ι' H' s1 => h σ ι' H' (s.trans s1)
  | cnt ρ st' => exact fun σ ι' H' s1 => h σ ι' H' (s.trans s1)
  | exc c ds ρ st' => exact fun σ ι' H' dx s1 => h σ ι' H' dx (s.trans s1)
  | bad => exact h
/-- an expression's end, then the statement's -/
theorem post_into {α β : Type} {m : Res α} {ρ : Rho} {σ : L2.St} {k : α → Store → SRes} {R : Hp → Io → β → α → Prop} {Q : β → Hp → Prop} (h : PostS T xp W ι st H E (m.into ρ k)) (er : EnvR T xp (hide ι st H) ι ρ σ)
    (hk : ∀ d s1 v ι1 H1, Step ι st H ι1 s1 H1 → RelSt T xp ι1 s1 H1 → EnvR T xp (hide ι1 s1 H1) ι1 ρ σ → R (hide ι1 s1 H1) ι1 v d → PostS T xp W ι1 s1 H1 E (k d s1) → Q v H1) : Post T xp (fun c d H => W c d σ H) ι st H R Q m := by
  cases m with
  | ok d s1 => exact fun v ι1 H1 s r e => hk d s1 v ι1 H1 s r (er.step s) e (PostS.step h s)
  | exc c ds s1 => exact fun ι1 H1 dx s r e => h σ ι1 H1 dx s r (er.step s) e
  | bad => exact h
end
def tDS (T : Txt) (xp : XT) (W : WX) (m : DS) : TS := fun D σ H => ∃ ρ st ι, EnvR T xp (hide ι st H) ι ρ σ ∧ RelSt T xp ι st H ∧ PostS T xp W ι st H D (m ρ st)
abbrev PDS (C : Ctx) (s : Stmt) (m : DS) : Prop := PS C.X s (tDS C.T C.xp C.W m)
abbrev PDSs (C : Ctx) (s : List Stmt) (m : DS) : Prop := PSs C.X s (tDS C.T C.xp C.W m)

def sNext : DS := fun ρ st => .nx ρ st
def sSeq (a b : DS) : DS := fun ρ st => (a ρ st).then b
def sSet (i : Nat) (a : DE) : DS := fun ρ st => (a ρ st).into ρ fun d s1 => .nx (ρ.set i (some d)) s1
def sRet (a : DE) : DS := fun ρ st => (a ρ st).into ρ fun d s1 => .ret d s1
def sDrop (a : DE) : DS := fun ρ st => (a ρ st).into ρ fun _ s1 => .nx ρ s1
def sIf (t : DT) (a b : DS) : DS := fun ρ st => (t ρ st).into ρ fun x s1 => match x with
  | true => a ρ s1
  | false => b ρ s1
def sRetN : DS := fun _ st => .ret .non st
section
variable {C : Ctx} {s : Stmt} {rest : List Stmt} {m mr : DS} {e : Expr} {me : DE} {pos pos' : Pos}
theorem pds_nil : PDSs C [] sNext := PSs.imp pss_nil fun D σ H ⟨ρ, st, ι, er, rl, p⟩ => p σ ι H (Step.refl _ _ _) rl er
theorem pds_cons (h : PDS C s m) (hr : PDSs C rest mr) : PDSs C (s :: rest) (sSeq m mr) := PSs.imp (pss_cons h hr) fun D σ H ⟨ρ, st, ι, er, rl, p⟩ => by
  refine ⟨ρ, st, ι, er, rl, ?_⟩
  unfold sSeq at p
  cases hm : m ρ st with
  | nx ρ1 s1 =>
    rw [hm] at p
    exact fun σ1 ι1 H1 st1 rl1 er1 => ⟨ρ1, s1, ι1, er1, rl1, PostS.step p st1⟩
  | ret d s1 =>
    rw [hm] at p
    exact p
  | brk ρ1 s1 =>
    rw [hm] at p
    exact p
  | cnt ρ1 s1 =>
    rw [hm] at p
    exact p
  | exc c ds ρ1 s1 =>
    rw [hm] at p
    exact p
  | bad =>
    rw [hm] at p
    exact p
theorem pds_one (h : PDS C s m) : PDSs C [s] m := pss_one h
theorem pds_pass : PDS C (.Pass pos) sNext := PS.imp ps_pass fun D σ H ⟨ρ, st, ι, er, rl, p⟩ => p σ ι H (Step.refl _ _ _) rl er
theorem pds_set {i : Nat} {x : Str} (hN : C.X.N.Nodup) (hi : C.X.N[i]? = some x) (hx : Loc C.X.env.scope x) (he : PD C e me) (hs : swapsWith e (some (.Name x pos')) pos.line C.X.env = pure false := by rfl)
    (hf : C.X.fn x = true ∨ C.X.env.scope.names.lookup x = some .local := by first | exact .inl rfl | exact .inr rfl | assumption) : PDS C (.Assign [.Name x pos'] e pos) (sSet i me) :=
  PS.imp (ps_set hN hi hx he hs hf) fun D σ H ⟨ρ, st, ι, er, rl, p⟩ => by
    refine ⟨ρ, st, ι, er, rl, post_into p er fun d s1 v ι1 H1 st1 rl1 er1 rv p1 => ?_⟩
    exact p1 _ ι1 H1 (Step.refl _ _ _) rl1 (er1.set i rv)
theorem pds_ret (he : PD C e me) : PDS C (.Return (some e) pos) (sRet me) :=
  PS.imp (ps_ret he) fun D σ H ⟨ρ, st, ι, er, rl, p⟩ => ⟨ρ, st, ι, er, rl, post_into p er fun d s1 v ι1 H1 st1 rl1 er1 rv p1 => p1 v ι1 H1 (Step.refl _ _ _) rl1 rv⟩
theorem pds_retN : PDS C (.Return none pos) sRetN := PS.imp ps_retN fun D σ H ⟨ρ, st, ι, er, rl, p⟩ => p .non ι H (Step.refl _ _ _) rl .non
theorem pds_drop (he : PD C e me) (hs : swapsWith e none pos.line C.X.env = pure false := by rfl) : PDS C (.Expr e pos) (sDrop me) :=
  PS.imp (ps_expr he hs) fun D σ H ⟨ρ, st, ι, er, rl, p⟩ => ⟨ρ, st, ι, er, rl, post_into p er fun d s1 v ι1 H1 st1 rl1 er1 rv p1 => p1 σ ι1 H1 (Step.refl _ _ _) rl1 er1⟩
theorem pds_if {t : DT} {a b : List Stmt} {ma mb : DS} (ht : PDT C e t) (ha : PDSs C a ma) (hb : PDSs C b mb) : PDS C (.If e a b pos) (sIf t ma mb) :=
  PS.imp (ps_if ht ha hb) fun D σ H ⟨ρ, st, ι, er, rl, p⟩ => ⟨ρ, st, ι, er, rl, post_into (R := fun _ _ (a b : Bool) => a = b) p er fun d s1 v ι1 H1 st1 rl1 er1 rv p1 => by
    have e : v = d := rv
    subst e
    cases v with
    | true => exact iteT ⟨ρ, s1, ι1, er1, rl1, p1⟩
    | false => exact iteF ⟨ρ, s1, ι1, er1, rl1, p1⟩⟩
end

/-! ### a def's promise -/
/-- what a body is worth as a def -/
def body (N n : Nat) (m : DS) : DF := fun ds st => if ds.length = n then (match m (ds.map some ++ List.replicate (N - n) none) st with
  | .nx _ st' => .ok .non st'
  | .ret d st' => .ok d st'
  | .exc c xs _ st' => .exc c xs st'
  | _ => .bad) else .bad
theorem start_env {T : Txt} {xp : XT} {G : Hp} {ι : Io} {N : List Str} {vs : List V} {ds : List D} (r : RepL T xp G ι vs ds) : EnvR T xp G ι (ds.map some ++ List.replicate (N.length - ds.length) none) (L2.start N vs) := by
  unfold L2.start
  refine ⟨by simp [r.length], fun i d h => ?_⟩
  by_cases hi : i < ds.length
  · rw [List.getElem?_append_left (by simpa using hi), List.getElem?_map] at h
    cases hd : ds[i]? with
    | none => rw [hd] at h; cases h
    | some y =>
      rw [hd] at h
      cases h
      obtain ⟨u, hu, ru⟩ := r.get hd
      exact ⟨u, by rw [List.getElem?_append_left (by simpa [r.length] using hi), List.getElem?_map, hu]; rfl, ru⟩
  · rw [List.getElem?_append_right (by simpa using hi), List.getElem?_replicate] at h
    split at h <;> cases h
/-- THE RULE: a def by its body -/
theorem fnD_of {P : Program} {w : World} {mg : Str → Option Value} {base : Heap} {T : Txt} {x qual : Str} {st : Stmt} {f : Addr} {fd : FuncData} {N ps : List Str} {k : Nat} {m : DS} (F : Fun T.K x qual st f fd) (S : FnScope N ps (defScope st))
    (h : ∀ (cdv : Value) (A : Around) (outer : List Env) (s : Shared) (H : Hp) (E : XK) (xp : XT), RoomG k (A.deeper (PyProof.Rows.envOfC qual (defScope st) s.heap.objs.size f cdv)) →
      PDSs ⟨cxOf (L2N.CX P w) P w T.K mg base N qual (defScope st) f cdv A outer s H E, T, xp, fun c d _ H' => E c d H', rfl⟩ (defBody st) m) :
    FnG P w T.K mg base (k + 1) f fd ps (spM T ps.length (body N.length ps.length m)) := by
  refine fnG_of F S (fun vs H Q E h => h.1) fun cdv A outer s H vs Q E hr hsp => ?_
  obtain ⟨hl, xp, ds, st0, ι, rd, rl, hp⟩ := hsp
  refine ⟨_, h cdv A outer s H E xp hr, _, st0, ι, start_env rd, rl, ?_⟩
  have hl' : ds.length = ps.length := rd.length.symm.trans hl
  unfold body at hp
  rw [if_pos hl'] at hp
  rw [hl']
  cases hm : m (ds.map some ++ List.replicate (N.length - ps.length) none) st0 with
  | nx ρ s1 =>
    rw [hm] at hp
    exact fun σ ι1 H1 s r _ => hp .non ι1 H1 s r .non
  | ret d s1 =>
    rw [hm] at hp
    exact hp
  | exc c xs ρ s1 =>
    rw [hm] at hp
    exact fun σ ι1 H1 dx s r _ xd => hp ι1 H1 dx s r xd
  | _ =>
    rw [hm] at hp
    exact hp.elim
end Den

set_option maxRecDepth 100000
set_option maxHeartbeats 4000000
/-! Den: operators, tests, subscripts. -/
namespace Den
open PySem PySem.Spec L2

theorem hide_le (ι : Io) (st : Store) (H : Hp) : Le (hide ι st H) H := fun _ _ h => hide_sub h
section
variable {C : Ctx}
theorem OpD.or {r r' : R2} {f f' : D → D → Option D} (h : OpD C r f) (h' : OpD C r' f') : OpD C (fun x y H Q => r x y H Q ∨ r' x y H Q) (fun x y => (f x y).or (f' x y)) := fun ι st H x y dx dy dz Q rl rx ry e k => by
  dsimp only at e
  cases hf : f dx dy with
  | some z =>
    rw [hf] at e
    exact .inl (h ι st H x y dx dy dz Q rl rx ry (hf.trans e) k)
  | none =>
    rw [hf] at e
    exact .inr (h' ι st H x y dx dy dz Q rl rx ry e k)
/-- an operation on ints alone -/
def onI (c : Int → Int → Bool) (g : Int → Int → D) : D → D → Option D
  | .int i, .int j => if c i j = true then some (g i j) else none
  | _, _ => none
theorem onI_some {c : Int → Int → Bool} {g : Int → Int → D} {x y z : D} (h : onI c g x y = some z) : ∃ i j, x = .int i ∧ y = .int j ∧ c i j = true ∧ z = g i j := by
  cases x <;> first | (cases h; done) | skip
  cases y <;> first | (cases h; done) | skip
  rename_i i j
  dsimp only [onI] at h
  by_cases hc : c i j = true
  · rw [if_pos hc] at h
    exact ⟨i, j, rfl, rfl, hc, (Option.some.inj h).symm⟩
  · rw [if_neg hc] at h
    cases h
theorem OpD.ints {Cd : Int → Int → Prop} {c : Int → Int → Bool} {gv : Int → Int → V} {g : Int → Int → D} (hc : ∀ i j, c i j = true → Cd i j) (hg : ∀ xp G ι i j, Rep C.T xp G ι (gv i j) (g i j)) : OpD C (rI Cd gv) (onI c g) := fun ι st H x y dx dy dz Q rl rx ry e k => by
  obtain ⟨i, j, rfl, rfl, h, rfl⟩ := onI_some e
  cases rx
  cases ry
  exact ⟨i, j, rfl, rfl, hc i j h, k _ ι H (Step.refl _ _ _) rl (hg _ _ _ i j)⟩
theorem OpD.ints0 {gv : Int → Int → V} {g : Int → Int → D} (hg : ∀ xp G ι i j, Rep C.T xp G ι (gv i j) (g i j)) : OpD C (rI0 gv) (onI (fun _ _ => true) g) := fun ι st H x y dx dy dz Q rl rx ry e k => by
  obtain ⟨i, j, rfl, rfl, h, rfl⟩ := onI_some e
  cases rx
  cases ry
  exact ⟨i, j, rfl, rfl, k _ ι H (Step.refl _ _ _) rl (hg _ _ _ i j)⟩
/-- an operation on texts alone -/
def onS (c : Str → Str → Bool) (g : Str → Str → D) : D → D → Option D
  | .str i, .str j => if c i j = true then some (g i j) else none
  | _, _ => none
theorem onS_some {c : Str → Str → Bool} {g : Str → Str → D} {x y z : D} (h : onS c g x y = some z) : ∃ i j, x = .str i ∧ y = .str j ∧ c i j = true ∧ z = g i j := by
  cases x <;> first | (cases h; done) | skip
  cases y <;> first | (cases h; done) | skip
  rename_i i j
  dsimp only [onS] at h
  by_cases hc : c i j = true
  · rw [if_pos hc] at h
    exact ⟨i, j, rfl, rfl, hc, (Option.some.inj h).symm⟩
  · rw [if_neg hc] at h
    cases h
def fCatS : D → D → Option D := onS (fun i j => decide (i.length + j.length ≤ 1000000)) fun i j => .str (i ++ j)
theorem cat_str : OpD C (fun x y H Q => ∃ i j, x = .str i ∧ y = .str j ∧ i.length + j.length ≤ sizeLine ∧ Q (.str (i ++ j)) H) fCatS := fun ι st H x y dx dy dz Q rl rx ry e k => by
  obtain ⟨i, j, rfl, rfl, h, rfl⟩ := onS_some e
  cases rx
  cases ry
  exact ⟨i, j, rfl, rfl, Nat.le_trans (of_decide_eq_true h) (by decide), k _ ι H (Step.refl _ _ _) rl (.str _)⟩
def fCatL : D → D → Option D
  | .lst xs, .lst ys => if xs.length + ys.length ≤ 100000 then some (.lst (xs ++ ys)) else none
  | _, _ => none
theorem fCatL_some {x y z : D} (h : fCatL x y = some z) : ∃ a b, x = .lst a ∧ y = .lst b ∧ a.length + b.length ≤ 100000 ∧ z = .lst (a ++ b) := by
  cases x <;> first | (cases h; done) | skip
  cases y <;> first | (cases h; done) | skip
  rename_i a b
  dsimp only [fCatL] at h
  by_cases hc : a.length + b.length ≤ 100000
  · rw [if_pos hc] at h
    exact ⟨a, b, rfl, rfl, hc, (Option.some.inj h).symm⟩
  · rw [if_neg hc] at h
    cases h
theorem cat_lst : OpD C rCat fCatL := fun ι st H x y dx dy dz Q rl rx ry e k => by
  obtain ⟨a, b, rfl, rfl, hl, rfl⟩ := fCatL_some e
  cases rx with
  | lst h1 r1 =>
    cases ry with
    | lst h2 r2 =>
      refine ⟨_, _, _, _, rfl, rfl, hide_sub h1, hide_sub h2, line_ok (by rw [r1.length, r2.length]; exact hl), fun p hp => ?_⟩
      obtain ⟨ra, sa, ea⟩ := rl.new (o := .lst _) hp
      exact k _ ι _ sa ra (.lst ea ((r1.append r2).mono sa.ex sa.pre))
def fCatT : D → D → Option D
  | .tup xs, .tup ys => if xs.length + ys.length ≤ 100000 then some (.tup (xs ++ ys)) else none
  | _, _ => none
theorem fCatT_some {x y z : D} (h : fCatT x y = some z) : ∃ a b, x = .tup a ∧ y = .tup b ∧ a.length + b.length ≤ 100000 ∧ z = .tup (a ++ b) := by
  cases x <;> first | (cases h; done) | skip
  cases y <;> first | (cases h; done) | skip
  rename_i a b
  dsimp only [fCatT] at h
  by_cases hc : a.length + b.length ≤ 100000
  · rw [if_pos hc] at h
    exact ⟨a, b, rfl, rfl, hc, (Option.some.inj h).symm⟩
  · rw [if_neg hc] at h
    cases h
theorem cat_tup : OpD C (rCatA C.X.K) fCatT := fun ι st H x y dx dy dz Q rl rx ry e k => by
  obtain ⟨ds, es, rfl, rfl, hl, rfl⟩ := fCatT_some e
  cases rx with
  | @tup a xs _ h1 r1 =>
    cases ry with
    | @tup b ys _ h2 r2 =>
      rw [C.hK]
      have t1 := le_t (hide_le ι st H) h1
      have t2 := le_t (hide_le ι st H) h2
      refine ⟨a, b, xs, ys, rfl, rfl, t1, t2, line_ok (by rw [r1.length, r2.length]; exact hl), fun h => ?_, fun h h' => ?_, fun _ _ p hp => ?_⟩
      · subst h
        cases r1
        exact k _ ι H (Step.refl _ _ _) rl (.tup h2 r2)
      · subst h'
        cases r2
        rw [List.append_nil] at k
        exact k _ ι H (Step.refl _ _ _) rl (.tup h1 r1)
      · obtain ⟨ra, sa, ea⟩ := rl.new (o := .tup (xs ++ ys)) hp
        exact k _ ι _ sa ra (.tup (SqT.of ea) ((r1.append r2).mono sa.ex sa.pre))
def fAdd (x y : D) : Option D := (onI (fun _ _ => true) (fun i j => .int (i + j)) x y).or ((fCatS x y).or ((fCatL x y).or (fCatT x y)))
def dAdd : DE → DE → DE := dOp2 fAdd
theorem pd_add {a b : Expr} {ma mb : DE} {pos : Pos} (ha : PD C a ma) (hb : PD C b mb) : PD C (.BinOp a .Add b pos) (dAdd ma mb) :=
  pd_op (op_add.or (op_add_str.or (op_cat.or op_catA))) ((OpD.ints0 fun _ _ _ i j => .int _).or (cat_str.or (cat_lst.or cat_tup))) ha hb
def fSub : D → D → Option D := onI (fun _ _ => true) fun i j => .int (i - j)
def dSub : DE → DE → DE := dOp2 fSub
theorem pd_sub {a b : Expr} {ma mb : DE} {pos : Pos} (ha : PD C a ma) (hb : PD C b mb) : PD C (.BinOp a .Sub b pos) (dSub ma mb) := pd_op op_sub (OpD.ints0 fun _ _ _ i j => .int _) ha hb
def fRepL : D → D → Option D
  | .lst xs, .int k => if xs.length * k.toNat ≤ 100000 ∧ -1000000 ≤ k ∧ k ≤ 1000000 then some (.lst (List.replicate k.toNat xs).flatten) else none
  | _, _ => none
theorem RepL.rep {T : Txt} {xp : XT} {G : Hp} {ι : Io} {v : List V} {d : List D} (h : RepL T xp G ι v d) : ∀ n : Nat, RepL T xp G ι (List.replicate n v).flatten (List.replicate n d).flatten
  | 0 => .nil
  | n + 1 => by
    rw [List.replicate_succ, List.replicate_succ, List.flatten_cons, List.flatten_cons]
    exact h.append (h.rep n)
theorem fRepL_some {x y z : D} (h : fRepL x y = some z) : ∃ a k, x = .lst a ∧ y = .int k ∧ (a.length * k.toNat ≤ 100000 ∧ -1000000 ≤ k ∧ k ≤ 1000000) ∧ z = .lst (List.replicate k.toNat a).flatten := by
  cases x <;> first | (cases h; done) | skip
  cases y <;> first | (cases h; done) | skip
  rename_i a k
  dsimp only [fRepL] at h
  split at h
  · rename_i hc
    exact ⟨a, k, rfl, rfl, hc, (Option.some.inj h).symm⟩
  · cases h
theorem rep_lst : OpD C rRep fRepL := fun ι st H x y dx dy dz Q rl rx ry e k => by
  obtain ⟨ds, i, rfl, rfl, hl, rfl⟩ := fRepL_some e
  cases rx with
  | lst h1 r1 =>
    cases ry
    refine ⟨_, i, _, rfl, rfl, hide_sub h1, by omega, by omega, line_ok (by rw [r1.length]; exact hl.1), fun p hp => ?_⟩
    obtain ⟨ra, sa, ea⟩ := rl.new (o := .lst _) hp
    exact k _ ι _ sa ra (.lst ea ((r1.rep _).mono sa.ex sa.pre))
def fMul (x y : D) : Option D := (onI (fun i j => decide (i.natAbs.log2 + j.natAbs.log2 < 1000000)) (fun i j => .int (i * j)) x y).or (fRepL x y)
def dMul : DE → DE → DE := dOp2 fMul
theorem pd_mul {a b : Expr} {ma mb : DE} {pos : Pos} (ha : PD C a ma) (hb : PD C b mb) : PD C (.BinOp a .Mult b pos) (dMul ma mb) :=
  pd_op (op_mulW.or op_rep) ((OpD.ints (fun i j h => show i.natAbs.log2 + j.natAbs.log2 < 1000000 from of_decide_eq_true h) fun _ _ _ i j => .int _).or rep_lst) ha hb
def fDiv : D → D → Option D := onI (fun _ j => decide (0 < j ∧ j.natAbs.log2 < 9000)) fun i j => .int (i / j)
def dDiv : DE → DE → DE := dOp2 fDiv
theorem pd_div {a b : Expr} {ma mb : DE} {pos : Pos} (ha : PD C a ma) (hb : PD C b mb) : PD C (.BinOp a .FloorDiv b pos) (dDiv ma mb) := pd_op op_fdivW (OpD.ints (fun i j h => show 0 < j ∧ j.natAbs.log2 < 9000 from of_decide_eq_true h) fun _ _ _ i j => .int _) ha hb
def fMod : D → D → Option D := onI (fun _ j => decide (0 < j)) fun i j => .int (i % j)
def dMod : DE → DE → DE := dOp2 fMod
theorem pd_mod {a b : Expr} {ma mb : DE} {pos : Pos} (ha : PD C a ma) (hb : PD C b mb) : PD C (.BinOp a .Mod b pos) (dMod ma mb) := pd_op op_mod (OpD.ints (fun _ _ h => of_decide_eq_true h) fun _ _ _ i j => .int _) ha hb
def fPow : D → D → Option D := onI (fun i j => decide (0 ≤ j ∧ j ≤ 1000000 ∧ i.natAbs < 2 ^ 64)) fun i j => .int (i ^ j.toNat)
def dPow : DE → DE → DE := dOp2 fPow
theorem pd_pow {a b : Expr} {ma mb : DE} {pos : Pos} (ha : PD C a ma) (hb : PD C b mb) : PD C (.BinOp a .Pow b pos) (dPow ma mb) := pd_op op_pow (OpD.ints (fun i j h => show 0 ≤ j ∧ j ≤ 1000000 ∧ i.natAbs < 2 ^ 64 from of_decide_eq_true h) fun _ _ _ i j => .int _) ha hb

/-! ### order -/
theorem str_rel {r : R2} {gv : Str → Str → V} {g : Str → Str → D} (hr : ∀ i j H (Q : VK), Q (gv i j) H → r (.str i) (.str j) H Q) (hg : ∀ xp G ι i j, Rep C.T xp G ι (gv i j) (g i j)) : OpD C r (onS (fun _ _ => true) g) := fun ι st H x y dx dy dz Q rl rx ry e k => by
  obtain ⟨i, j, rfl, rfl, h, rfl⟩ := onS_some e
  cases rx
  cases ry
  exact hr i j H Q (k _ ι H (Step.refl _ _ _) rl (hg _ _ _ i j))
def bI (p : Int → Int → Bool) : D → D → Option D := onI (fun _ _ => true) fun i j => .bl (p i j)
def bS (p : Str → Str → Bool) : D → D → Option D := onS (fun _ _ => true) fun i j => .bl (p i j)
def fLt (x y : D) : Option D := (bI (fun i j => decide (i < j)) x y).or (bS (fun i j => decide (i.cps.toList < j.cps.toList)) x y)
def fLe (x y : D) : Option D := (bI (fun i j => decide (i ≤ j)) x y).or (bS (fun i j => !decide (j.cps.toList < i.cps.toList)) x y)
def fGt (x y : D) : Option D := (bI (fun i j => decide (j < i)) x y).or (bS (fun i j => decide (j.cps.toList < i.cps.toList)) x y)
def fGe (x y : D) : Option D := (bI (fun i j => decide (j ≤ i)) x y).or (bS (fun i j => !decide (i.cps.toList < j.cps.toList)) x y)
/-- an operator of a comparison that is worth f -/
structure CmpD (C : Ctx) (op : CmpOp) (f : D → D → Option D) : Prop where
  ex : ∃ r, OpR C.X (compareOp op) r ∧ OpD C r f
theorem cmp_lt : CmpD C .Lt fLt := ⟨_, op_lt.or op_lt_str, (OpD.ints0 fun _ _ _ i j => .bl _).or (str_rel (fun i j H Q q => ⟨i, j, rfl, rfl, q⟩) fun _ _ _ i j => .bl _)⟩
theorem cmp_le : CmpD C .LtE fLe := ⟨_, op_le.or op_le_str, (OpD.ints0 fun _ _ _ i j => .bl _).or (str_rel (fun i j H Q q => ⟨i, j, rfl, rfl, q⟩) fun _ _ _ i j => .bl _)⟩
theorem cmp_gt : CmpD C .Gt fGt := ⟨_, op_gt.or op_gt_str, (OpD.ints0 fun _ _ _ i j => .bl _).or (str_rel (fun i j H Q q => ⟨i, j, rfl, rfl, q⟩) fun _ _ _ i j => .bl _)⟩
theorem cmp_ge : CmpD C .GtE fGe := ⟨_, op_ge.or op_ge_str, (OpD.ints0 fun _ _ _ i j => .bl _).or (str_rel (fun i j H Q q => ⟨i, j, rfl, rfl, q⟩) fun _ _ _ i j => .bl _)⟩
theorem pd_cmpD {op : CmpOp} {f : D → D → Option D} {a b : Expr} {ma mb : DE} {pos : Pos} (h : CmpD C op f) (ha : PD C a ma) (hb : PD C b mb) (hm : behindInMarks op b = false) : PD C (.Compare a [op] [b] pos) (dOp2 f ma mb) := by
  obtain ⟨r, h1, h2⟩ := h.ex
  exact pd_cmp h1 h2 ha hb hm
/-- a < b < c -/
def dChain (f g : D → D → Option D) (a b c : DE) : DE := fun ρ st => (a ρ st).bind fun x s1 => (b ρ s1).bind fun y s2 => match f x y with
  | some (.bl true) => (c ρ s2).bind fun z s3 => match g y z with
    | some w => .ok w s3
    | none => .bad
  | some (.bl false) => .ok (.bl false) s2
  | _ => .bad
theorem pd_chain {op op' : CmpOp} {f g : D → D → Option D} {a b c : Expr} {ma mb mc : DE} {pos : Pos} (h : CmpD C op f) (h' : CmpD C op' g) (ha : PD C a ma) (hb : PD C b mb) (hc : PD C c mc)
    (hm : lastMarks [op, op'] [b, c] = false := by with_unfolding_all rfl) : PD C (.Compare a [op, op'] [b, c] pos) (dChain f g ma mb mc) := by
  obtain ⟨r, h1, h2⟩ := h.ex
  obtain ⟨r', h3, h4⟩ := h'.ex
  refine PE.imp (pe_chain h1 h3 ha hb hc hm) fun σ H Q ⟨ρ, st, ι, er, rl, p⟩ => ?_
  refine ⟨ρ, st, ι, er, rl, post_bind p fun d s1 v ι1 H1 st1 rl1 rv p1 => ?_⟩
  refine ⟨ρ, s1, ι1, er.step st1, rl1, post_bind p1 fun d2 s2 v2 ι2 H2 st2 rl2 rv2 p2 => ?_⟩
  split at p2
  · rename_i hf
    refine h2 ι2 s2 H2 v v2 d d2 _ _ rl2 (rv.mono st2.ex st2.pre) rv2 hf fun w ι3 H3 st3 rl3 rw3 => ?_
    cases rw3
    refine ⟨true, rfl, iteT ?_⟩
    refine ⟨ρ, s2, ι3, (er.step (st1.trans st2)).step st3, rl3, post_bind (Post.step p2 st3) fun d3 s3 v3 ι4 H4 st4 rl4 rv4 p4 => ?_⟩
    split at p4
    · rename_i z hz
      exact h4 ι4 s3 H4 v2 v3 d2 d3 z _ rl4 (rv2.mono (st3.ex.trans st4.ex) (st3.pre.trans st4.pre)) rv4 hz fun w ι5 H5 st5 rl5 rw5 => p4 w ι5 H5 st5 rl5 rw5
    · exact p4.elim
  · rename_i hf
    refine h2 ι2 s2 H2 v v2 d d2 _ _ rl2 (rv.mono st2.ex st2.pre) rv2 hf fun w ι3 H3 st3 rl3 rw3 => ?_
    cases rw3
    exact ⟨false, rfl, iteF (p2 _ ι3 H3 st3 rl3 (.bl false))⟩
  · exact p2.elim

/-! ### truth, and, or, not -/
def truth : D → Option Bool
  | .non => some false
  | .bl b => some b
  | .int i => some (i != 0)
  | .str x => if x.length ≤ 1000000 then some ((x.length : Int) != 0) else none
  | .lst xs => some (!xs.isEmpty)
  | .ro xs => some (!xs.isEmpty)
  | .tup xs => some (!xs.isEmpty)
  | _ => none
theorem RepL.empty {T : Txt} {xp : XT} {G : Hp} {ι : Io} {v : List V} {d : List D} (h : RepL T xp G ι v d) : v.isEmpty = d.isEmpty := by cases h <;> rfl
theorem truth_v {K : PySem.W.Frag} {T : Txt} {xp : XT} {ι : Io} {st : Store} {H : Hp} {v : V} {d : D} {b : Bool} (hK : K = T.K) (r : Rep T xp (hide ι st H) ι v d) (h : truth d = some b) : TruV K v H b := by
  subst hK
  cases r with
  | non => cases h; rfl
  | bl => cases h; rfl
  | int => cases h; rfl
  | str x =>
    unfold truth at h
    dsimp only at h
    split at h
    · rename_i hl
      cases h
      exact ⟨Nat.le_trans hl (by decide), rfl⟩
    · cases h
  | lst h1 h2 =>
    cases h
    exact .inl ⟨_, SqL.of (hide_sub h1), by rw [h2.empty]⟩
  | ro h1 h2 =>
    cases h
    exact .inl ⟨_, le_l (hide_le _ _ _) h1, by rw [h2.empty]⟩
  | tup h1 h2 =>
    cases h
    exact .inr (.inl ⟨_, le_t (hide_le _ _ _) h1, by rw [h2.empty]⟩)
  | _ => cases h
def dAnd (a b : DE) : DE := fun ρ st => (a ρ st).bind fun x s1 => match truth x with
  | some true => b ρ s1
  | some false => .ok x s1
  | none => .bad
def dOr (a b : DE) : DE := fun ρ st => (a ρ st).bind fun x s1 => match truth x with
  | some true => .ok x s1
  | some false => b ρ s1
  | none => .bad
def dNot (a : DE) : DE := fun ρ st => (a ρ st).bind fun x s1 => match truth x with
  | some t => .ok (.bl (!t)) s1
  | none => .bad
def dTruth (a : DE) : DT := fun ρ st => (a ρ st).bind fun x s1 => match truth x with
  | some t => .ok t s1
  | none => .bad
def dIte (t : DT) (a b : DE) : DE := fun ρ st => (t ρ st).bind fun x s1 => match x with
  | true => a ρ s1
  | false => b ρ s1
section
variable {a b e : Expr} {ma mb : DE} {mt : DT} {pos : Pos} {rest : List Expr}
theorem pd_and (ha : PD C a ma) (hb : PD C (.BoolOp .And (b :: rest) pos) mb) : PD C (.BoolOp .And (a :: b :: rest) pos) (dAnd ma mb) :=
  PE.imp (pe_andT ha hb) fun σ H Q ⟨ρ, st, ι, er, rl, p⟩ => by
    refine ⟨ρ, st, ι, er, rl, post_bind p fun d s1 v ι1 H1 st1 rl1 rv p1 => ?_⟩
    split at p1
    · rename_i h
      exact ⟨true, truth_v C.hK rv h, iteT ⟨ρ, s1, ι1, er.step st1, rl1, p1⟩⟩
    · rename_i h
      exact ⟨false, truth_v C.hK rv h, iteF (p1 v ι1 H1 (Step.refl _ _ _) rl1 rv)⟩
    · exact p1.elim
theorem pd_or (ha : PD C a ma) (hb : PD C (.BoolOp .Or (b :: rest) pos) mb) : PD C (.BoolOp .Or (a :: b :: rest) pos) (dOr ma mb) :=
  PE.imp (pe_orT ha hb) fun σ H Q ⟨ρ, st, ι, er, rl, p⟩ => by
    refine ⟨ρ, st, ι, er, rl, post_bind p fun d s1 v ι1 H1 st1 rl1 rv p1 => ?_⟩
    split at p1
    · rename_i h
      exact ⟨true, truth_v C.hK rv h, iteT (p1 v ι1 H1 (Step.refl _ _ _) rl1 rv)⟩
    · rename_i h
      exact ⟨false, truth_v C.hK rv h, iteF ⟨ρ, s1, ι1, er.step st1, rl1, p1⟩⟩
    · exact p1.elim
theorem pd_last {op : BoolOp} (ha : PD C a ma) : PD C (.BoolOp op [a] pos) ma := pe_one ha
theorem pd_not (ha : PD C a ma) : PD C (.UnaryOp .Not a pos) (dNot ma) :=
  PE.imp (pe_notT ha) fun σ H Q ⟨ρ, st, ι, er, rl, p⟩ => by
    refine ⟨ρ, st, ι, er, rl, post_bind p fun d s1 v ι1 H1 st1 rl1 rv p1 => ?_⟩
    split at p1
    · rename_i t h
      exact ⟨t, truth_v C.hK rv h, p1 _ ι1 H1 (Step.refl _ _ _) rl1 (.bl _)⟩
    · exact p1.elim
end
end
end Den

set_option maxRecDepth 100000
set_option maxHeartbeats 4000000
/-! Den: tests, choices, subscripts, equality, membership, len. -/
namespace Den
open PySem PySem.Spec L2

/-! ### tests -/
/-- a value that must be a truth -/
def asB (a : DE) : DT := fun ρ st => (a ρ st).bind fun x s1 => match x with
  | .bl t => .ok t s1
  | _ => .bad
def tAndD (a b : DT) : DT := fun ρ st => (a ρ st).bind fun x s1 => match x with
  | true => b ρ s1
  | false => .ok false s1
def tOrD (a b : DT) : DT := fun ρ st => (a ρ st).bind fun x s1 => match x with
  | true => .ok true s1
  | false => b ρ s1
def tNotD (a : DT) : DT := fun ρ st => (a ρ st).bind fun x s1 => .ok (!x) s1
section
variable {C : Ctx} {a b c e : Expr} {ma mb mc : DE} {ta tb : DT} {pos : Pos} {rest : List Expr}
abbrev PDW (C : Ctx) (e : Expr) (m : DT) : Prop := PW C.X e (tDT C.T C.xp C.W m)
theorem PW.imp {X : Cx} {e : Expr} {t t' : TT} (h : PW X e t) (i : ∀ σ H Q, t' σ H Q → t σ H Q) : PW X e t' := ⟨fun w pins s σ H Q I q => h.run w pins s σ H Q I (i σ H Q q)⟩
theorem asB_of {t : TE} {m : DE} (h : ∀ σ H Q, tD C.T C.xp C.W m σ H Q → t σ H Q) : ∀ σ H Q, tDT C.T C.xp C.W (asB m) σ H Q → tTest t σ H Q := fun σ H Q ⟨ρ, st, ι, er, rl, p⟩ => by
  refine h σ H _ ⟨ρ, st, ι, er, rl, post_bind p fun d s1 v ι1 H1 st1 rl1 rv p1 => ?_⟩
  cases rv with
  | bl t => exact ⟨t, rfl, p1 t ι1 H1 (Step.refl _ _ _) rl1 rfl⟩
  | _ => exact p1.elim
theorem pdt_cmp {op : CmpOp} {f : D → D → Option D} (h : CmpD C op f) (ha : PD C a ma) (hb : PD C b mb) (hm : behindInMarks op b = false) : PDT C (.Compare a [op] [b] pos) (asB (dOp2 f ma mb)) := by
  obtain ⟨r, h1, h2⟩ := h.ex
  exact PT.imp (pt_cmpR h1 ha hb hm) (asB_of (tOp_of h2))
theorem chain_of {op op' : CmpOp} {r r' : R2} {f g : D → D → Option D} (h2 : OpD C r f) (h4 : OpD C r' g) : ∀ σ H Q, tD C.T C.xp C.W (dChain f g ma mb mc) σ H Q → tChain r r' (tD C.T C.xp C.W ma) (tD C.T C.xp C.W mb) (tD C.T C.xp C.W mc) σ H Q := fun σ H Q ⟨ρ, st, ι, er, rl, p⟩ => by
  refine ⟨ρ, st, ι, er, rl, post_bind p fun d s1 v ι1 H1 st1 rl1 rv p1 => ?_⟩
  refine ⟨ρ, s1, ι1, er.step st1, rl1, post_bind p1 fun d2 s2 v2 ι2 H2 st2 rl2 rv2 p2 => ?_⟩
  split at p2
  · rename_i hf
    refine h2 ι2 s2 H2 v v2 d d2 _ _ rl2 (rv.mono st2.ex st2.pre) rv2 hf fun w ι3 H3 st3 rl3 rw3 => ?_
    cases rw3
    refine ⟨true, rfl, iteT ?_⟩
    refine ⟨ρ, s2, ι3, (er.step (st1.trans st2)).step st3, rl3, post_bind (Post.step p2 st3) fun d3 s3 v3 ι4 H4 st4 rl4 rv4 p4 => ?_⟩
    split at p4
    · rename_i z hz
      exact h4 ι4 s3 H4 v2 v3 d2 d3 z _ rl4 (rv2.mono (st3.ex.trans st4.ex) (st3.pre.trans st4.pre)) rv4 hz fun w ι5 H5 st5 rl5 rw5 => p4 w ι5 H5 st5 rl5 rw5
    · exact p4.elim
  · rename_i hf
    refine h2 ι2 s2 H2 v v2 d d2 _ _ rl2 (rv.mono st2.ex st2.pre) rv2 hf fun w ι3 H3 st3 rl3 rw3 => ?_
    cases rw3
    exact ⟨false, rfl, iteF (p2 _ ι3 H3 st3 rl3 (.bl false))⟩
  · exact p2.elim
theorem pdt_chain {op op' : CmpOp} {f g : D → D → Option D} (h : CmpD C op f) (h' : CmpD C op' g) (ha : PD C a ma) (hb : PD C b mb) (hc : PD C c mc) (hm : lastMarks [op, op'] [b, c] = false := by with_unfolding_all rfl) :
    PDT C (.Compare a [op, op'] [b, c] pos) (asB (dChain f g ma mb mc)) := by
  obtain ⟨r, h1, h2⟩ := h.ex
  obtain ⟨r', h3, h4⟩ := h'.ex
  exact PT.imp (pt_chain h1 h3 ha hb hc hm) (asB_of (chain_of (op := op) (op' := op') h2 h4))
theorem pdt_truth (ha : PD C a ma) (he : ∀ whole, isTrue a C.X.env whole = (do let v ← whole; standAt a.pos; holding [v] (truthy v)) := by intro _; rfl) : PDT C a (dTruth ma) :=
  PT.imp (pt_truth ha he) fun σ H Q ⟨ρ, st, ι, er, rl, p⟩ => by
    refine ⟨ρ, st, ι, er, rl, post_bind p fun d s1 v ι1 H1 st1 rl1 rv p1 => ?_⟩
    split at p1
    · rename_i t h
      exact ⟨t, truth_v C.hK rv h, p1 t ι1 H1 (Step.refl _ _ _) rl1 rfl⟩
    · exact p1.elim
theorem pdt_not (ha : PDT C a ta) : PDT C (.UnaryOp .Not a pos) (tNotD ta) :=
  PT.imp (pt_not ha) fun σ H Q ⟨ρ, st, ι, er, rl, p⟩ => by
    refine ⟨ρ, st, ι, er, rl, post_bind p fun d s1 v ι1 H1 st1 rl1 rv p1 => ?_⟩
    have e : v = d := rv
    subst e
    exact p1 _ ι1 H1 (Step.refl _ _ _) rl1 rfl
theorem pdw_and1 (ha : PDT C a ta) : PDW C (.BoolOp .And [a] pos) ta := pw_and1 ha
theorem pdw_or1 (ha : PDT C a ta) : PDW C (.BoolOp .Or [a] pos) ta := pw_or1 ha
theorem pdw_and (ha : PDT C a ta) (hb : PDW C (.BoolOp .And (b :: rest) pos) tb) : PDW C (.BoolOp .And (a :: b :: rest) pos) (tAndD ta tb) :=
  PW.imp (pw_and ha hb) fun σ H Q ⟨ρ, st, ι, er, rl, p⟩ => by
    refine ⟨ρ, st, ι, er, rl, post_bind p fun d s1 v ι1 H1 st1 rl1 rv p1 => ?_⟩
    have e : v = d := rv
    subst e
    cases v with
    | true => exact iteT ⟨ρ, s1, ι1, er.step st1, rl1, p1⟩
    | false => exact iteF (p1 false ι1 H1 (Step.refl _ _ _) rl1 rfl)
theorem pdw_or (ha : PDT C a ta) (hb : PDW C (.BoolOp .Or (b :: rest) pos) tb) : PDW C (.BoolOp .Or (a :: b :: rest) pos) (tOrD ta tb) :=
  PW.imp (pw_or ha hb) fun σ H Q ⟨ρ, st, ι, er, rl, p⟩ => by
    refine ⟨ρ, st, ι, er, rl, post_bind p fun d s1 v ι1 H1 st1 rl1 rv p1 => ?_⟩
    have e : v = d := rv
    subst e
    cases v with
    | true => exact iteT (p1 true ι1 H1 (Step.refl _ _ _) rl1 rfl)
    | false => exact iteF ⟨ρ, s1, ι1, er.step st1, rl1, p1⟩
theorem pdt_w (h : PDW C e ta) : PDT C e ta := h.pt
theorem pd_ite {t : DT} (ht : PDT C c t) (ha : PD C a ma) (hb : PD C b mb) : PD C (.IfExp c a b pos) (dIte t ma mb) :=
  PE.imp (pe_ifExp ht ha hb) fun σ H Q ⟨ρ, st, ι, er, rl, p⟩ => by
    refine ⟨ρ, st, ι, er, rl, post_bind p fun d s1 v ι1 H1 st1 rl1 rv p1 => ?_⟩
    have e : v = d := rv
    subst e
    cases v with
    | true => exact iteT ⟨ρ, s1, ι1, er.step st1, rl1, p1⟩
    | false => exact iteF ⟨ρ, s1, ι1, er.step st1, rl1, p1⟩
end

/-! ### plain data: == != in -/
mutual
def toPy : D → Option PyData
  | .non => some .none
  | .bl b => some (.bool b)
  | .int i => some (.int i)
  | .str x => some (.str x)
  | .lst xs => (toPyL xs).map .list
  | .ro xs => (toPyL xs).map .list
  | .tup xs => (toPyL xs).map .tuple
  | _ => none
def toPyL : List D → Option (List PyData)
  | [] => some []
  | x :: xs => match toPy x, toPyL xs with
    | some p, some ps => some (p :: ps)
    | _, _ => none
end
section
variable {T : Txt} {xp : XT} {G H : Hp} {ι : Io}
mutual
theorem dp_of (l : Le G H) : ∀ {v : V} {d : D} {p : PyData}, Rep T xp G ι v d → toPy d = some p → Dp T.K H v p
  | _, _, _, .non, h => by simp only [toPy] at h; cases h; exact .non
  | _, _, _, .bl b, h => by simp only [toPy] at h; cases h; exact .bl b
  | _, _, _, .int i, h => by simp only [toPy] at h; cases h; exact .int i
  | _, _, _, .str x, h => by simp only [toPy] at h; cases h; exact .str x
  | _, _, _, .lst h1 r, h => by
    simp only [toPy, Option.map_eq_some_iff] at h
    obtain ⟨ps, h2, rfl⟩ := h
    exact .lst (SqL.of (l _ _ h1)) (dp_ofL l r h2)
  | _, _, _, .ro h1 r, h => by
    simp only [toPy, Option.map_eq_some_iff] at h
    obtain ⟨ps, h2, rfl⟩ := h
    exact .lst (le_l l h1) (dp_ofL l r h2)
  | _, _, _, .tup h1 r, h => by
    simp only [toPy, Option.map_eq_some_iff] at h
    obtain ⟨ps, h2, rfl⟩ := h
    exact .tup (le_t l h1) (dp_ofL l r h2)
  | _, _, _, .ty _, h => by simp only [toPy] at h; cases h
  | _, _, _, .cl _, h => by simp only [toPy] at h; cases h
  | _, _, _, .fn _, h => by simp only [toPy] at h; cases h
  | _, _, _, .dic _ _ _, h => by simp only [toPy] at h; cases h
  | _, _, _, .ins _ _ _, h => by simp only [toPy] at h; cases h
  | _, _, _, .exc _ _, h => by simp only [toPy] at h; cases h
  | _, _, _, .excd _ _ _ _ _, h => by simp only [toPy] at h; cases h
  | _, _, _, .err _ _, h => by simp only [toPy] at h; cases h
  | _, _, _, .errd _ _ _ _, h => by simp only [toPy] at h; cases h
  | _, _, _, .box _, h => by simp only [toPy] at h; cases h
theorem dp_ofL (l : Le G H) : ∀ {v : List V} {d : List D} {p : List PyData}, RepL T xp G ι v d → toPyL d = some p → DpAll T.K H v p
  | _, _, _, .nil, h => by simp only [toPyL] at h; cases h; exact .nil
  | _, _, _, .cons r rs, h => by
    simp only [toPyL] at h
    split at h
    · rename_i h1 h2
      cases h
      exact .cons (dp_of l r h1) (dp_ofL l rs h2)
    · cases h
end
end
def eqD (x y : D) : Option Bool := match toPy x, toPy y with
  | some p, some q => if SeqAt.shaped p = true ∧ SeqAt.shaped q = true then some (PyData.eqv p q) else none
  | _, _ => none
theorem eqD_some {x y : D} {b : Bool} (h : eqD x y = some b) : ∃ p q, toPy x = some p ∧ toPy y = some q ∧ SeqAt.shaped p = true ∧ SeqAt.shaped q = true ∧ b = PyData.eqv p q := by
  unfold eqD at h
  split at h
  · rename_i p q hp hq
    split at h
    · rename_i hs
      exact ⟨p, q, hp, hq, hs.1, hs.2, (Option.some.inj h).symm⟩
    · cases h
  · cases h
/-- two texts, of any kind -/
def strEq : D → D → Option Bool
  | .str a, .str b => some (a == b)
  | _, _ => none
theorem strEq_some {x y : D} {b : Bool} (h : strEq x y = some b) : ∃ i j, x = .str i ∧ y = .str j ∧ b = (i == j) := by
  unfold strEq at h
  split at h
  · exact ⟨_, _, rfl, rfl, (Option.some.inj h).symm⟩
  · cases h
def fEq (x y : D) : Option D := ((strEq x y).map D.bl).or ((eqD x y).map D.bl)
def fNe (x y : D) : Option D := ((strEq x y).map fun b => D.bl (!b)).or ((eqD x y).map fun b => D.bl (!b))
section
variable {C : Ctx}
theorem cmp_eq (hu : C.X.A.units + 64 < cLine) : CmpD C .Eq fEq := ⟨_, op_eq.or (op_eqD hu), OpD.or (fun ι st H x y dx dy dz Q rl rx ry e k => by
  obtain ⟨b, hb, rfl⟩ := Option.map_eq_some_iff.mp e
  obtain ⟨i, j, rfl, rfl, rfl⟩ := strEq_some hb
  cases rx
  cases ry
  refine ⟨rfl, ?_⟩
  rw [dec_str]
  exact k _ ι H (Step.refl _ _ _) rl (.bl _)) fun ι st H x y dx dy dz Q rl rx ry e k => by
  obtain ⟨b, hb, rfl⟩ := Option.map_eq_some_iff.mp e
  obtain ⟨p, q, hp, hq, s1, s2, rfl⟩ := eqD_some hb
  refine ⟨p, q, ?_, ?_, s1, s2, k _ ι H (Step.refl _ _ _) rl (.bl _)⟩
  · rw [C.hK]; exact dp_of (hide_le _ _ _) rx hp
  · rw [C.hK]; exact dp_of (hide_le _ _ _) ry hq⟩
theorem cmp_ne (hu : C.X.A.units + 64 < cLine) : CmpD C .NotEq fNe := ⟨_, op_ne.or (op_neD hu), OpD.or (fun ι st H x y dx dy dz Q rl rx ry e k => by
  obtain ⟨b, hb, rfl⟩ := Option.map_eq_some_iff.mp e
  obtain ⟨i, j, rfl, rfl, rfl⟩ := strEq_some hb
  cases rx
  cases ry
  refine ⟨rfl, ?_⟩
  rw [dec_str]
  exact k _ ι H (Step.refl _ _ _) rl (.bl _)) fun ι st H x y dx dy dz Q rl rx ry e k => by
  obtain ⟨b, hb, rfl⟩ := Option.map_eq_some_iff.mp e
  obtain ⟨p, q, hp, hq, s1, s2, rfl⟩ := eqD_some hb
  refine ⟨p, q, ?_, ?_, s1, s2, k _ ι H (Step.refl _ _ _) rl (.bl _)⟩
  · rw [C.hK]; exact dp_of (hide_le _ _ _) rx hp
  · rw [C.hK]; exact dp_of (hide_le _ _ _) ry hq⟩
/-- is it the None? -/
def fIsN : D → D → Option D
  | .non, .non => some (.bl true)
  | .bl _, .non => some (.bl false)
  | .int _, .non => some (.bl false)
  | .str _, .non => some (.bl false)
  | .lst _, .non => some (.bl false)
  | .ro _, .non => some (.bl false)
  | .tup _, .non => some (.bl false)
  | .dic _ _, .non => some (.bl false)
  | .ins _ _, .non => some (.bl false)
  | .box _, .non => some (.bl false)
  | _, _ => none
def fNotN (x y : D) : Option D := (fIsN x y).map fun d => match d with
  | .bl b => .bl (!b)
  | d => d
theorem fIsN_some {T : Txt} {xp : XT} {G : Hp} {ι : Io} {v w : V} {x y z : D} (r : Rep T xp G ι v x) (r' : Rep T xp G ι w y) (h : fIsN x y = some z) : w = .non ∧ z = .bl (decide (v = .non)) := by
  cases r' with
  | non =>
    refine ⟨rfl, ?_⟩
    cases r <;> first | (cases h; simp; done) | (cases h; done)
  | _ => cases r <;> cases h
theorem cmp_is : CmpD C .Is fIsN := ⟨_, op_isN, fun ι st H x y dx dy dz Q rl rx ry e k => by
  obtain ⟨h1, rfl⟩ := fIsN_some rx ry e
  exact ⟨h1, k _ ι H (Step.refl _ _ _) rl (.bl _)⟩⟩
theorem cmp_isnot : CmpD C .IsNot fNotN := ⟨_, op_notN, fun ι st H x y dx dy dz Q rl rx ry e k => by
  obtain ⟨d, hd, rfl⟩ := Option.map_eq_some_iff.mp e
  obtain ⟨h1, rfl⟩ := fIsN_some rx ry hd
  exact ⟨h1, k _ ι H (Step.refl _ _ _) rl (.bl _)⟩⟩
/-- x in a list, a tuple of flat things; a sign in a text -/
def flatD : D → Bool
  | .non | .bl _ | .int _ | .str _ => true
  | _ => false
def flatV' : D → V
  | .bl b => .bl b
  | .int i => .int i
  | .str x => .str x
  | _ => .non
theorem flat_rep {T : Txt} {xp : XT} {G : Hp} {ι : Io} {v : V} {d : D} (r : Rep T xp G ι v d) (h : flatD d = true) : v = flatV' d ∧ flatV v = true := by
  cases r <;> first | exact ⟨rfl, rfl⟩ | (cases h; done)
theorem flat_repL {T : Txt} {xp : XT} {G : Hp} {ι : Io} : ∀ {v : List V} {d : List D}, RepL T xp G ι v d → d.all flatD = true → v = d.map flatV' ∧ v.all flatV = true
  | _, _, .nil, _ => ⟨rfl, rfl⟩
  | _, _, .cons r rs, h => by
    rw [List.all_cons, Bool.and_eq_true] at h
    obtain ⟨e1, e2⟩ := flat_rep r h.1
    obtain ⟨e3, e4⟩ := flat_repL rs h.2
    exact ⟨by rw [e1, e3]; rfl, by rw [List.all_cons, e2, e4]; rfl⟩
def seqOf : D → Option (List D)
  | .lst xs => some xs
  | .ro xs => some xs
  | .tup xs => some xs
  | _ => none
theorem seq_rep {T : Txt} {xp : XT} {G H : Hp} {ι : Io} {v : V} {d : D} {ds : List D} (l : Le G H) (r : Rep T xp G ι v d) (h : seqOf d = some ds) : ∃ a xs, v = .ref a ∧ (SqL T.K H a xs ∨ SqT T.K H a xs) ∧ RepL T xp G ι xs ds := by
  cases r with
  | lst h1 h2 => cases h; exact ⟨_, _, rfl, .inl (SqL.of (l _ _ h1)), h2⟩
  | ro h1 h2 => cases h; exact ⟨_, _, rfl, .inl (le_l l h1), h2⟩
  | tup h1 h2 => cases h; exact ⟨_, _, rfl, .inr (le_t l h1), h2⟩
  | _ => cases h
def inD (x y : D) : Option Bool := match seqOf y with
  | some ys => if flatD x = true ∧ ys.all flatD = true then some (inV (flatV' x) (ys.map flatV')) else none
  | none => none
theorem inD_some {x y : D} {b : Bool} (h : inD x y = some b) : ∃ ys, seqOf y = some ys ∧ flatD x = true ∧ ys.all flatD = true ∧ b = inV (flatV' x) (ys.map flatV') := by
  unfold inD at h
  split at h
  · rename_i ys hy
    split at h
    · rename_i hs
      exact ⟨ys, hy, hs.1, hs.2, (Option.some.inj h).symm⟩
    · cases h
  · cases h
theorem in_seq {neg : Bool} : OpD C (rIn C.X.K neg) (fun x y => (inD x y).map fun b => D.bl (if neg = true then !b else b)) := fun ι st H x y dx dy dz Q rl rx ry e k => by
  obtain ⟨b, hb, rfl⟩ := Option.map_eq_some_iff.mp e
  obtain ⟨ys, hy, f1, f2, rfl⟩ := inD_some hb
  obtain ⟨a, xs, rfl, hs, rs⟩ := seq_rep (hide_le ι st H) ry hy
  obtain ⟨e1, e2⟩ := flat_rep rx f1
  obtain ⟨e3, e4⟩ := flat_repL rs f2
  refine ⟨a, xs, rfl, by rw [C.hK]; exact hs, e2, e4, ?_⟩
  rw [e1, e3]
  cases neg with
  | true => exact k _ ι H (Step.refl _ _ _) rl (.bl _)
  | false => exact k _ ι H (Step.refl _ _ _) rl (.bl _)
/-- one sign in a text -/
def signIn : D → D → Option Bool
  | .str x, .str z => if x.cps.size = 1 then some (decide (x.cps.getD 0 0 ∈ z.cps.toList)) else none
  | _, _ => none
theorem one_sign {x : Str} (h : x.cps.size = 1) : x = ⟨#[x.cps.getD 0 0]⟩ := by
  obtain ⟨⟨l⟩⟩ := x
  match l, h with
  | [a], _ => rfl
theorem signIn_some {x y : D} {b : Bool} (h : signIn x y = some b) : ∃ c z, x = .str ⟨#[c]⟩ ∧ y = .str z ∧ b = decide (c ∈ z.cps.toList) := by
  cases x <;> first | (cases h; done) | skip
  cases y <;> first | (cases h; done) | skip
  rename_i x z
  dsimp only [signIn] at h
  split at h
  · rename_i hs
    exact ⟨_, z, congrArg D.str (one_sign hs), rfl, (Option.some.inj h).symm⟩
  · cases h
def fIn (x y : D) : Option D := ((inD x y).map fun b => D.bl (if false = true then !b else b)).or ((signIn x y).map D.bl)
def fNotIn (x y : D) : Option D := ((inD x y).map fun b => D.bl (if true = true then !b else b)).or ((signIn x y).map fun b => D.bl (!b))
theorem cmp_in : CmpD C .In fIn := ⟨_, op_in_seq.or op_in_sign, in_seq.or fun ι st H x y dx dy dz Q rl rx ry e k => by
  obtain ⟨b, hb, rfl⟩ := Option.map_eq_some_iff.mp e
  obtain ⟨c, z, rfl, rfl, rfl⟩ := signIn_some hb
  cases rx
  cases ry
  exact ⟨c, z, rfl, rfl, k _ ι H (Step.refl _ _ _) rl (.bl _)⟩⟩
theorem cmp_notin : CmpD C .NotIn fNotIn := ⟨_, op_notIn_seq.or op_notIn_sign, in_seq.or fun ι st H x y dx dy dz Q rl rx ry e k => by
  obtain ⟨b, hb, rfl⟩ := Option.map_eq_some_iff.mp e
  obtain ⟨c, z, rfl, rfl, rfl⟩ := signIn_some hb
  cases rx
  cases ry
  exact ⟨c, z, rfl, rfl, k _ ι H (Step.refl _ _ _) rl (.bl _)⟩⟩
end
end Den

set_option maxRecDepth 100000
set_option maxHeartbeats 4000000
/-! Den: subscripts, slices, built-ins by name, methods of built-in types. -/
namespace Den
open PySem PySem.Spec L2

/-- a list's items, wherever it is told -/
def itemsOf (d : D) (st : Store) : Option (List D) := match d with
  | .lst xs => some xs
  | .ro xs => some xs
  | .tup xs => some xs
  | .box k => match st[k]? with
    | some (.lst xs) => some xs
    | _ => none
  | _ => none
theorem items_rep {T : Txt} {xp : XT} {ι : Io} {st : Store} {H : Hp} {v : V} {d : D} {ds : List D} (rl : RelSt T xp ι st H) (r : Rep T xp (hide ι st H) ι v d) (h : itemsOf d st = some ds) :
    ∃ a xs, v = .ref a ∧ (SqL T.K H a xs ∨ SqT T.K H a xs) ∧ RepL T xp (hide ι st H) ι xs ds := by
  cases r with
  | lst h1 h2 => cases h; exact ⟨_, _, rfl, .inl (SqL.of (hide_sub h1)), h2⟩
  | ro h1 h2 => cases h; exact ⟨_, _, rfl, .inl (le_l (hide_le _ _ _) h1), h2⟩
  | tup h1 h2 => cases h; exact ⟨_, _, rfl, .inr (le_t (hide_le _ _ _) h1), h2⟩
  | box hk =>
    unfold itemsOf at h
    dsimp only at h
    split at h
    · rename_i xs hs
      cases h
      obtain ⟨ys, h1, h2⟩ := rl.ok _ _ _ hk hs
      exact ⟨_, _, rfl, .inl (SqL.of h1), h2⟩
    · cases h
  | _ => cases h
/-- the same, no tuple -/
def litemsOf (d : D) (st : Store) : Option (List D) := match d with
  | .lst xs => some xs
  | .ro xs => some xs
  | .box k => match st[k]? with
    | some (.lst xs) => some xs
    | _ => none
  | _ => none
theorem litems_rep {T : Txt} {xp : XT} {ι : Io} {st : Store} {H : Hp} {v : V} {d : D} {ds : List D} (rl : RelSt T xp ι st H) (r : Rep T xp (hide ι st H) ι v d) (h : litemsOf d st = some ds) :
    ∃ a xs, v = .ref a ∧ SqL T.K H a xs ∧ RepL T xp (hide ι st H) ι xs ds := by
  cases r with
  | lst h1 h2 => cases h; exact ⟨_, _, rfl, SqL.of (hide_sub h1), h2⟩
  | ro h1 h2 => cases h; exact ⟨_, _, rfl, le_l (hide_le _ _ _) h1, h2⟩
  | box hk =>
    unfold litemsOf at h
    dsimp only at h
    split at h
    · rename_i xs hs
      cases h
      obtain ⟨ys, h1, h2⟩ := rl.ok _ _ _ hk hs
      exact ⟨_, _, rfl, SqL.of h1, h2⟩
    · cases h
  | _ => cases h
theorem atI_rep {T : Txt} {xp : XT} {G : Hp} {ι : Io} {xs : List V} {ds : List D} {i : Int} {d : D} (r : RepL T xp G ι xs ds) (h : atI ds i = some d) : ∃ v, atI xs i = some v ∧ Rep T xp G ι v d := by
  unfold atI at h ⊢
  rw [r.length]
  cases hj : ixN ds.length i with
  | none => rw [hj] at h; cases h
  | some j =>
    rw [hj] at h
    simp only [Option.bind_some] at h ⊢
    obtain ⟨u, h1, h2⟩ := r.get h
    exact ⟨u, h1, h2⟩
/-- x[i] -/
def ixD (x : D) (i : D) (st : Store) : Option D := match i with
  | .int j => match x with
    | .str z => if z.length ≤ 1000000 then (atI z.cps.toList j).map fun c => D.str ⟨#[c]⟩ else none
    | x => (itemsOf x st).bind fun xs => atI xs j
  | _ => none
def dIx (a b : DE) : DE := fun ρ st => (a ρ st).bind fun x s1 => (b ρ s1).bind fun y s2 => match ixD x y s2 with
  | some z => .ok z s2
  | none => .bad
section
variable {C : Ctx} {a b e : Expr} {es : List Expr} {ma mb : DE} {pos apos : Pos}
theorem pd_ix (ha : PD C a ma) (hb : PD C b mb) (hs : PlainIx b := by intro _ _; rfl) : PD C (.Subscript a b pos) (dIx ma mb) :=
  PE.imp (pe_ix ix_seq ha hb hs) fun σ H Q ⟨ρ, st, ι, er, rl, p⟩ => by
    refine ⟨ρ, st, ι, er, rl, post_bind p fun d s1 v ι1 H1 st1 rl1 rv p1 => ?_⟩
    refine ⟨ρ, s1, ι1, er.step st1, rl1, post_bind p1 fun d2 s2 v2 ι2 H2 st2 rl2 rv2 p2 => ?_⟩
    split at p2
    · rename_i z hz
      have rv' := rv.mono st2.ex st2.pre
      have fin : ∀ w, Rep C.T C.xp (hide ι2 s2 H2) ι2 w z → Q w H2 := fun w rw => p2 w ι2 H2 (Step.refl _ _ _) rl2 rw
      unfold ixD at hz
      split at hz
      · rename_i i
        cases rv2
        split at hz
        · rename_i z'
          cases rv'
          split at hz
          · rename_i hl
            obtain ⟨c, hc, rfl⟩ := Option.map_eq_some_iff.mp hz
            exact .inr (.inr ⟨z', i, c, rfl, rfl, Nat.le_trans hl (by decide), hc, fin _ (.str _)⟩)
          · cases hz
        · obtain ⟨xs, hx, hz⟩ := Option.bind_eq_some_iff.mp hz
          obtain ⟨p, ys, rfl, hs, rs⟩ := items_rep rl2 rv' hx
          obtain ⟨w, hw, rw⟩ := atI_rep rs hz
          rcases hs with hs | hs
          · exact .inl ⟨p, ys, i, w, rfl, rfl, by rw [C.hK]; exact hs, hw, fin _ rw⟩
          · exact .inr (.inl ⟨p, ys, i, w, rfl, rfl, by rw [C.hK]; exact hs, hw, fin _ rw⟩)
      · cases hz
    · exact p2.elim

/-! ### slices -/
abbrev DO := Rho → Store → Res (Option Int)
def tDO (T : Txt) (xp : XT) (W : WX) (m : DO) : TO := fun σ H Q => ∃ ρ st ι, EnvR T xp (hide ι st H) ι ρ σ ∧ RelSt T xp ι st H ∧ Post T xp (fun c d H => W c d σ H) ι st H (fun _ _ (a b : Option Int) => a = b) Q (m ρ st)
abbrev PDO (C : Ctx) (e : Option Expr) (m : DO) : Prop := PO C.X e (tDO C.T C.xp C.W m)
theorem PO.imp {X : Cx} {e : Option Expr} {t t' : TO} (h : PO X e t) (i : ∀ σ H Q, t' σ H Q → t σ H Q) : PO X e t' := ⟨fun pins s σ H Q I q => h.run pins s σ H Q I (i σ H Q q)⟩
def oNone : DO := fun _ st => .ok none st
def oSome (a : DE) : DO := fun ρ st => (a ρ st).bind fun x s1 => match x with
  | .int i => .ok (some i) s1
  | _ => .bad
theorem pdo_none : PDO C none oNone := PO.imp po_none fun σ H Q ⟨ρ, st, ι, er, rl, p⟩ => p none ι H (Step.refl _ _ _) rl rfl
theorem pdo_some (h : PD C e ma) : PDO C (some e) (oSome ma) := PO.imp (po_some h) fun σ H Q ⟨ρ, st, ι, er, rl, p⟩ => by
  refine ⟨ρ, st, ι, er, rl, post_bind p fun d s1 v ι1 H1 st1 rl1 rv p1 => ?_⟩
  cases rv with
  | int i => exact ⟨i, rfl, p1 _ ι1 H1 (Step.refl _ _ _) rl1 rfl⟩
  | _ => exact p1.elim
def cutD (xs : List D) (lo hi : Option Int) : List D := (xs.drop (HT.sIx xs.length 0 lo)).take (HT.sIx xs.length xs.length hi - HT.sIx xs.length 0 lo)
theorem cut_rep {T : Txt} {xp : XT} {G : Hp} {ι : Io} {xs : List V} {ds : List D} (r : RepL T xp G ι xs ds) (lo hi : Option Int) : RepL T xp G ι (cutV xs lo hi) (cutD ds lo hi) := by
  unfold cutV cutD
  rw [r.length]
  exact (r.drop _).take _
def slD (x : D) (lo hi : Option Int) (st : Store) : Option D := match x with
  | .str z => if z.length ≤ 1000000 then some (.str (cutS z lo hi)) else none
  | .tup xs => some (.tup (cutD xs lo hi))
  | x => (litemsOf x st).map fun xs => .lst (cutD xs lo hi)
def dSl (a : DE) (l h : DO) : DE := fun ρ st => (a ρ st).bind fun x s1 => (l ρ s1).bind fun lo s2 => (h ρ s2).bind fun hi s3 => match slD x lo hi s3 with
  | some z => .ok z s3
  | none => .bad
theorem cut_whole (xs : List D) (lo hi : Option Int) (h : HT.sIx xs.length 0 lo = 0 ∧ HT.sIx xs.length xs.length hi = xs.length) : cutD xs lo hi = xs := by
  unfold cutD
  rw [h.1, h.2]
  simp
theorem pd_slice {lo hi : Option Expr} {ml mh : DO} {p2 : Pos} (ha : PD C a ma) (hl : PDO C lo ml) (hh : PDO C hi mh) : PD C (.Subscript a (.Slice lo hi none p2) pos) (dSl ma ml mh) :=
  PE.imp (pe_slice (sl_str.or (sl_tupA.or sl_list)) ha hl hh) fun σ H Q ⟨ρ, st, ι, er, rl, p⟩ => by
    refine ⟨ρ, st, ι, er, rl, post_bind p fun d s1 v ι1 H1 st1 rl1 rv p1 => ?_⟩
    refine ⟨ρ, s1, ι1, er.step st1, rl1, post_bind p1 fun d2 s2 v2 ι2 H2 st2 rl2 rv2 p2 => ?_⟩
    refine ⟨ρ, s2, ι2, er.step (st1.trans st2), rl2, post_bind p2 fun d3 s3 v3 ι3 H3 st3 rl3 rv3 p3 => ?_⟩
    have e2 : v2 = d2 := rv2
    have e3 : v3 = d3 := rv3
    subst e2 e3
    have rv' := rv.mono (st2.ex.trans st3.ex) (st2.pre.trans st3.pre)
    split at p3
    · rename_i z hz
      unfold slD at hz
      split at hz
      · rename_i z'
        cases rv'
        split at hz
        · rename_i hl
          cases hz
          exact .inl ⟨z', rfl, Nat.le_trans hl (by decide), p3 _ ι3 H3 (Step.refl _ _ _) rl3 (.str _)⟩
        · cases hz
      · cases hz
        cases rv' with
        | @tup q ys ds h1 r1 =>
          refine .inr (.inl ⟨q, ys, rfl, by rw [C.hK]; exact le_t (hide_le _ _ _) h1, fun hw => ?_, fun _ pp hp => ?_⟩)
          · rw [r1.length] at hw
            rw [cut_whole _ _ _ hw] at p3
            exact p3 _ ι3 H3 (Step.refl _ _ _) rl3 (.tup h1 r1)
          · obtain ⟨ra, sa, ea⟩ := rl3.new (o := .tup (cutV ys v2 v3)) hp
            exact p3 _ ι3 _ sa ra (.tup (SqT.of ea) ((cut_rep r1 _ _).mono sa.ex sa.pre))
      · obtain ⟨xs, hx, rfl⟩ := Option.map_eq_some_iff.mp hz
        obtain ⟨q, ys, rfl, hl, rs⟩ := litems_rep rl3 rv' hx
        refine .inr (.inr ⟨q, ys, rfl, by rw [C.hK]; exact hl, fun pp hp => ?_⟩)
        obtain ⟨ra, sa, ea⟩ := rl3.new (o := .lst (cutV ys v2 v3)) hp
        exact p3 _ ι3 _ sa ra (.lst ea ((cut_rep rs _ _).mono sa.ex sa.pre))
    · exact p3.elim
end
end Den

set_option maxRecDepth 100000
set_option maxHeartbeats 4000000
/-! Den: built-ins by name, methods of built-in types, stores. -/
namespace Den
open PySem PySem.Spec PyProof.Rows L2

abbrev FB := List D → Store → Option (D × Store)
def ofO (o : Option (D × Store)) : Res D := match o with
  | some (d, st) => .ok d st
  | none => .bad
/-- a call by values is worth f -/
def CallD (C : Ctx) (r : List V → Hp → VK → Prop) (f : FB) : Prop := ∀ ι st H xs ds d st' (Q : VK), RelSt C.T C.xp ι st H → RepL C.T C.xp (hide ι st H) ι xs ds → f ds st = some (d, st') →
  (∀ v ι' H', Step ι st H ι' st' H' → RelSt C.T C.xp ι' st' H' → Rep C.T C.xp (hide ι' st' H') ι' v d → Q v H') → r xs H Q
/-- a built-in that is worth f -/
structure BltD (C : Ctx) (id : String) (f : FB) : Prop where
  ex : ∃ r, CallR C.X (.builtin id) r ∧ CallD C r f
structure TyD (C : Ctx) (t : String) (f : FB) : Prop where
  ex : ∃ r, CallR C.X (.type t) r ∧ CallD C r f
def orB (f g : FB) : FB := fun ds st => (f ds st).or (g ds st)
section
variable {C : Ctx}
theorem CallR.or {g : Value} {r r' : List V → Hp → VK → Prop} (h : CallR C.X g r) (h' : CallR C.X g r') : CallR C.X g (fun xs H Q => r xs H Q ∨ r' xs H Q) := by
  intro pins s σ H xs us Q I rx q
  rcases q with q | q
  · exact h pins s σ H xs us Q I rx q
  · exact h' pins s σ H xs us Q I rx q
theorem CallD.or {r r' : List V → Hp → VK → Prop} {f f' : FB} (h : CallD C r f) (h' : CallD C r' f') : CallD C (fun xs H Q => r xs H Q ∨ r' xs H Q) (orB f f') := fun ι st H xs ds d st' Q rl rx e k => by
  unfold orB at e
  cases hf : f ds st with
  | some z =>
    rw [hf] at e
    exact .inl (h ι st H xs ds d st' Q rl rx (hf.trans e) k)
  | none =>
    rw [hf] at e
    exact .inr (h' ι st H xs ds d st' Q rl rx e k)
theorem BltD.or {id : String} {f f' : FB} (h : BltD C id f) (h' : BltD C id f') : BltD C id (orB f f') := by
  obtain ⟨r, a, b⟩ := h.ex
  obtain ⟨r', a', b'⟩ := h'.ex
  exact ⟨_, a.or a', b.or b'⟩
theorem TyD.or {id : String} {f f' : FB} (h : TyD C id f) (h' : TyD C id f') : TyD C id (orB f f') := by
  obtain ⟨r, a, b⟩ := h.ex
  obtain ⟨r', a', b'⟩ := h'.ex
  exact ⟨_, a.or a', b.or b'⟩
def dCB (f : FB) (a : DA) : DE := fun ρ st => (a ρ st).bind fun ds s1 => ofO (f ds s1)
theorem cb_of {r : List V → Hp → VK → Prop} {f : FB} {ma : DA} (h : CallD C r f) : ∀ σ H Q, tD C.T C.xp C.W (dCB f ma) σ H Q → tCB r (tDA C.T C.xp C.W ma) σ H Q := fun σ H Q ⟨ρ, st, ι, er, rl, p⟩ => by
  refine ⟨ρ, st, ι, er, rl, post_bind p fun ds s1 vs ι1 H1 st1 rl1 rv p1 => ?_⟩
  cases hf : f ds s1 with
  | none =>
    rw [hf] at p1
    exact p1.elim
  | some z =>
    rw [hf] at p1
    exact h ι1 s1 H1 vs ds z.1 z.2 Q rl1 rv hf p1
variable {x : Str} {p pos : Pos} {e : Expr} {es : List Expr} {ma : DA} {f : FB}
theorem pd_blt {id : String} (h : BltD C id f) (hg : Gl C.X x) (hm : C.X.mg x = none) (hv : bootBuiltins x = some (.builtin id)) (ha : PDA C (e :: es) ma) (hn : x ≠ "__name__" := by decide) (hdb : (x == ("__debug__" : Str)) = false := by decide)
    (he : starEach (e :: es) C.X.env = (false, eval e C.X.env) :: starEach es C.X.env := by rfl) (hpl : (backTo pos (starEach es C.X.env)).any (·.1) = false := by rfl) : PD C (.Call (.Name x p) (e :: es) [] pos) (dCB f ma) := by
  obtain ⟨r, a, b⟩ := h.ex
  exact PE.imp (pe_callB a hg hm hv ha hn hdb he hpl) (cb_of b)
theorem pd_ty {id : String} (h : TyD C id f) (hg : Gl C.X x) (hm : C.X.mg x = none) (hv : bootBuiltins x = some (.type id)) (ha : PDA C (e :: es) ma) (hn : x ≠ "__name__" := by decide) (hdb : (x == ("__debug__" : Str)) = false := by decide)
    (he : starEach (e :: es) C.X.env = (false, eval e C.X.env) :: starEach es C.X.env := by rfl) (hpl : (backTo pos (starEach es C.X.env)).any (·.1) = false := by rfl) : PD C (.Call (.Name x p) (e :: es) [] pos) (dCB f ma) := by
  obtain ⟨r, a, b⟩ := h.ex
  exact PE.imp (pe_callTy a hg hm hv ha hn hdb he hpl) (cb_of b)

/-! ### len, all, max, min, str, int, list, tuple -/
def one (g : D → Store → Option D) : FB := fun ds st => match ds with
  | [x] => (g x st).map fun z => (z, st)
  | _ => none
theorem one_some {g : D → Store → Option D} {ds : List D} {st st' : Store} {d : D} (h : one g ds st = some (d, st')) : ∃ x, ds = [x] ∧ g x st = some d ∧ st' = st := by
  unfold one at h
  split at h
  · rename_i x
    obtain ⟨z, h1, h2⟩ := Option.map_eq_some_iff.mp h
    cases h2
    exact ⟨x, rfl, h1, rfl⟩
  · cases h
theorem repL_one {T : Txt} {xp : XT} {G : Hp} {ι : Io} {xs : List V} {x : D} (r : RepL T xp G ι xs [x]) : ∃ v, xs = [v] ∧ Rep T xp G ι v x := by
  cases r with
  | cons r1 r2 =>
    cases r2
    exact ⟨_, rfl, r1⟩
def gLen (x : D) (st : Store) : Option D := match x with
  | .str z => if z.length ≤ 1000000 then some (.int z.length) else none
  | x => (itemsOf x st).map fun xs => .int xs.length
theorem blt_len : BltD C "len" (one gLen) := ⟨_, call_len, fun ι st H xs ds d st' Q rl rx e k => by
  obtain ⟨x, rfl, hg, rfl⟩ := one_some e
  obtain ⟨v, rfl, rv⟩ := repL_one rx
  unfold gLen at hg
  split at hg
  · rename_i z
    cases rv
    split at hg
    · rename_i hl
      cases hg
      exact ⟨_, _, rfl, ⟨Nat.le_trans hl (by decide), rfl⟩, k _ ι H (Step.refl _ _ _) rl (.int _)⟩
    · cases hg
  · obtain ⟨ys, hy, rfl⟩ := Option.map_eq_some_iff.mp hg
    obtain ⟨a, zs, rfl, hs, rs⟩ := items_rep rl rv hy
    refine ⟨.ref a, zs.length, rfl, ?_, k _ ι H (Step.refl _ _ _) rl ?_⟩
    · rw [C.hK]
      rcases hs with hs | hs
      · exact .inl ⟨zs, hs, rfl⟩
      · exact .inr ⟨zs, hs, rfl⟩
    · rw [rs.length]
      exact .int _⟩
def boolsOf : List D → Option (List Bool)
  | [] => some []
  | .bl b :: r => (boolsOf r).map (b :: ·)
  | _ :: _ => none
theorem bools_rep {T : Txt} {xp : XT} {G : Hp} {ι : Io} : ∀ {xs : List V} {ds : List D} {bs : List Bool}, RepL T xp G ι xs ds → boolsOf ds = some bs → xs = bs.map V.bl
  | _, _, _, .nil, h => by cases h; rfl
  | _, _, _, .cons r rs, h => by
    cases r with
    | bl b =>
      simp only [boolsOf, Option.map_eq_some_iff] at h
      obtain ⟨r', h1, rfl⟩ := h
      rw [bools_rep rs h1]
      rfl
    | _ => simp [boolsOf] at h
def gAll (x : D) (st : Store) : Option D := (litemsOf x st).bind fun xs => (boolsOf xs).map fun bs => .bl (bs.all id)
theorem blt_all (hc : C.X.calm = true) : BltD C "all" (one gAll) := ⟨_, cr_all hc, fun ι st H xs ds d st' Q rl rx e k => by
  obtain ⟨x, rfl, hg, rfl⟩ := one_some e
  obtain ⟨v, rfl, rv⟩ := repL_one rx
  obtain ⟨ys, hy, hg⟩ := Option.bind_eq_some_iff.mp hg
  obtain ⟨bs, hb, rfl⟩ := Option.map_eq_some_iff.mp hg
  obtain ⟨a, zs, rfl, hs, rs⟩ := litems_rep rl rv hy
  refine ⟨a, bs, rfl, ?_, k _ ι H (Step.refl _ _ _) rl (.bl _)⟩
  rw [C.hK, ← bools_rep rs hb]
  exact hs⟩
def gAny (x : D) (st : Store) : Option D := (litemsOf x st).bind fun xs => (boolsOf xs).map fun bs => .bl (bs.any id)
theorem blt_any (hc : C.X.calm = true) : BltD C "any" (one gAny) := ⟨_, cr_any hc, fun ι st H xs ds d st' Q rl rx e k => by
  obtain ⟨x, rfl, hg, rfl⟩ := one_some e
  obtain ⟨v, rfl, rv⟩ := repL_one rx
  obtain ⟨ys, hy, hg⟩ := Option.bind_eq_some_iff.mp hg
  obtain ⟨bs, hb, rfl⟩ := Option.map_eq_some_iff.mp hg
  obtain ⟨a, zs, rfl, hs, rs⟩ := litems_rep rl rv hy
  refine ⟨a, bs, rfl, ?_, k _ ι H (Step.refl _ _ _) rl (.bl _)⟩
  rw [C.hK, ← bools_rep rs hb]
  exact hs⟩
def two (g : Int → Int → Int) : FB := fun ds st => match ds with
  | [.int i, .int j] => some (.int (g i j), st)
  | _ => none
theorem two_some {g : Int → Int → Int} {ds : List D} {st st' : Store} {d : D} (h : two g ds st = some (d, st')) : ∃ i j, ds = [.int i, .int j] ∧ d = .int (g i j) ∧ st' = st := by
  unfold two at h
  split at h
  · cases h
    exact ⟨_, _, rfl, rfl, rfl⟩
  · cases h
theorem repL_ints {T : Txt} {xp : XT} {G : Hp} {ι : Io} {xs : List V} {i j : Int} (r : RepL T xp G ι xs [.int i, .int j]) : xs = [.int i, .int j] := by
  cases r with
  | cons r1 r2 =>
    cases r2 with
    | cons r2 r3 =>
      cases r3
      cases r1
      cases r2
      rfl
theorem blt_max2 (hc : C.X.calm = true) : BltD C "max" (two fun i j => if j > i then j else i) := ⟨_, call_max2 hc, fun ι st H xs ds d st' Q rl rx e k => by
  obtain ⟨i, j, rfl, rfl, rfl⟩ := two_some e
  exact ⟨i, j, repL_ints rx, k _ ι H (Step.refl _ _ _) rl (.int _)⟩⟩
theorem blt_min2 (hc : C.X.calm = true) : BltD C "min" (two fun i j => if j < i then j else i) := ⟨_, call_min2 hc, fun ι st H xs ds d st' Q rl rx e k => by
  obtain ⟨i, j, rfl, rfl, rfl⟩ := two_some e
  exact ⟨i, j, repL_ints rx, k _ ι H (Step.refl _ _ _) rl (.int _)⟩⟩
def gInt (x : D) (_ : Store) : Option D := match x with
  | .int i => some (.int i)
  | .bl k => some (.int (if k then 1 else 0))
  | _ => none
theorem ty_int : TyD C "int" (one gInt) := ⟨_, call_int1, fun ι st H xs ds d st' Q rl rx e k => by
  obtain ⟨x, rfl, hg, rfl⟩ := one_some e
  obtain ⟨v, rfl, rv⟩ := repL_one rx
  cases rv with
  | int i => cases hg; exact .inl ⟨i, rfl, k _ ι H (Step.refl _ _ _) rl (.int _)⟩
  | bl b => cases hg; exact .inr ⟨b, rfl, k _ ι H (Step.refl _ _ _) rl (.int _)⟩
  | _ => cases hg⟩
def gStr (x : D) (_ : Store) : Option D := match x with
  | .int i => if i.natAbs.log2 < 1920 then some (.str (toString i)) else none
  | .str z => some (.str z)
  | _ => none
theorem ty_str : TyD C "str" (one gStr) := ⟨_, CallR.or L2.call_str_int SkE.call_str_str, fun ι st H xs ds d st' Q rl rx e k => by
  obtain ⟨x, rfl, hg, rfl⟩ := one_some e
  obtain ⟨v, rfl, rv⟩ := repL_one rx
  cases rv with
  | int i =>
    unfold gStr at hg
    dsimp only at hg
    split at hg
    · rename_i hl
      cases hg
      exact .inl ⟨i, rfl, hl, k _ ι H (Step.refl _ _ _) rl (.str _)⟩
    · cases hg
  | str z => cases hg; exact .inr ⟨z, rfl, k _ ι H (Step.refl _ _ _) rl (.str _)⟩
  | _ => cases hg⟩
def gList (x : D) (st : Store) : Option D := (itemsOf x st).map D.lst
theorem ty_list : TyD C "list" (one gList) := ⟨_, call_list_of, fun ι st H xs ds d st' Q rl rx e k => by
  obtain ⟨x, rfl, hg, rfl⟩ := one_some e
  obtain ⟨v, rfl, rv⟩ := repL_one rx
  obtain ⟨ys, hy, rfl⟩ := Option.map_eq_some_iff.mp hg
  obtain ⟨a, zs, rfl, hs, rs⟩ := items_rep rl rv hy
  refine ⟨a, zs, rfl, by rw [C.hK]; exact hs, fun l hl => ?_⟩
  obtain ⟨ra, sa, ea⟩ := rl.new (o := .lst zs) hl
  exact k _ ι _ sa ra (.lst ea (rs.mono sa.ex sa.pre))⟩
def gTuple (x : D) (st : Store) : Option D := match x with
  | .tup xs => some (.tup xs)
  | x => (litemsOf x st).map D.tup
theorem ty_tuple : TyD C "tuple" (one gTuple) := ⟨_, call_tuple_of, fun ι st H xs ds d st' Q rl rx e k => by
  obtain ⟨x, rfl, hg, rfl⟩ := one_some e
  obtain ⟨v, rfl, rv⟩ := repL_one rx
  unfold gTuple at hg
  split at hg
  · cases hg
    cases rv with
    | tup h1 r1 => exact ⟨_, _, rfl, .inr ⟨by rw [C.hK]; exact le_t (hide_le _ _ _) h1, k _ ι H (Step.refl _ _ _) rl (.tup h1 r1)⟩⟩
  · obtain ⟨ys, hy, rfl⟩ := Option.map_eq_some_iff.mp hg
    obtain ⟨a, zs, rfl, hs, rs⟩ := litems_rep rl rv hy
    refine ⟨a, zs, rfl, .inl ⟨by rw [C.hK]; exact hs, fun l hl => ?_⟩⟩
    obtain ⟨ra, sa, ea⟩ := rl.new (o := .tup zs) hl
    exact k _ ι _ sa ra (.tup (SqT.of ea) (rs.mono sa.ex sa.pre))⟩

/-! ### methods of built-in types -/
/-- of which built-in type it is -/
def tyD (T : String) (d : D) (st : Store) : Bool := match d with
  | .str _ => T == "str"
  | d => T == "list" && (litemsOf d st).isSome
theorem tyD_v {K : PySem.W.Frag} {T : Txt} {xp : XT} {ι : Io} {st : Store} {H : Hp} {v : V} {d : D} {t : String} (hK : K = T.K) (rl : RelSt T xp ι st H) (r : Rep T xp (hide ι st H) ι v d) (h : tyD t d st = true) : tyV K t v H := by
  subst hK
  unfold tyD at h
  split at h
  · cases r
    exact beq_iff_eq.mp h
  · rw [Bool.and_eq_true] at h
    obtain ⟨ys, hy⟩ := Option.isSome_iff_exists.mp h.2
    obtain ⟨a, zs, rfl, hs, _⟩ := litems_rep rl r hy
    exact .inl ⟨beq_iff_eq.mp h.1, zs, hs⟩
abbrev FM := D → List D → Store → Option (D × Store)
def MethD (C : Ctx) (r : V → List V → Hp → VK → Prop) (f : FM) : Prop := ∀ ι st H x xs dx ds d st' (Q : VK), RelSt C.T C.xp ι st H → Rep C.T C.xp (hide ι st H) ι x dx → RepL C.T C.xp (hide ι st H) ι xs ds → f dx ds st = some (d, st') →
  (∀ v ι' H', Step ι st H ι' st' H' → RelSt C.T C.xp ι' st' H' → Rep C.T C.xp (hide ι' st' H') ι' v d → Q v H') → r x xs H Q
structure MtD (C : Ctx) (t : String) (name : Str) (f : FM) : Prop where
  ex : ∃ id r, PlainAttrs t ∧ Slot t name id ∧ typeOf (.builtin id) = pure (.type "method_descriptor") ∧ MtR C.X id r ∧ MethD C r f
def dBm (t : String) (f : FM) (o : DE) (a : DA) : DE := fun ρ st => (o ρ st).bind fun d s0 => if tyD t d s0 = true then (a ρ s0).bind fun ds s1 => ofO (f d ds s1) else .bad
section
variable {o : Expr} {mo : DE} {name : Str} {apos cpos : Pos} {t : String} {fm : FM}
theorem pd_bm (h : MtD C t name fm) (ho : PD C o mo) (ha : PDA C (e :: es) ma) (hbase : attributeBase o name C.X.env (eval o C.X.env) = eval o C.X.env := by rfl)
    (hfew : ((backTo cpos (starEach (e :: es) C.X.env)).all (fun x => !x.1) && (backToKw cpos (keywordEach [] C.X.env)).all (fun x => x.1.isSome)
      && decide ((e :: es).length + ([] : List Keyword).length + (if ([] : List Keyword).isEmpty then 0 else 1) < 30)) = true := by rfl)
    (hline : (apos.endLine == cpos.line) = true := by rfl) (hs : starEach (e :: es) C.X.env = (false, eval e C.X.env) :: starEach es C.X.env := by rfl) (hplain : (backTo cpos (starEach es C.X.env)).any (·.1) = false := by rfl) :
    PD C (.Call (.Attribute o name apos) (e :: es) [] cpos) (dBm t fm mo ma) := by
  obtain ⟨id, r, h1, h2, h3, h4, h5⟩ := h.ex
  refine PE.imp (pe_bm h1 h2 h3 h4 ho ha hbase hfew hline hs hplain) fun σ H Q ⟨ρ, st, ι, er, rl, p⟩ => ?_
  refine ⟨ρ, st, ι, er, rl, post_bind p fun d s1 v ι1 H1 st1 rl1 rv p1 => ?_⟩
  split at p1
  · rename_i ht
    refine ⟨tyD_v C.hK rl1 rv ht, ρ, s1, ι1, er.step st1, rl1, post_bind p1 fun ds s2 vs ι2 H2 st2 rl2 rvs p2 => ?_⟩
    cases hf : fm d ds s2 with
    | none =>
      rw [hf] at p2
      exact p2.elim
    | some z =>
      rw [hf] at p2
      exact h5 ι2 s2 H2 v vs d ds z.1 z.2 Q rl2 (rv.mono st2.ex st2.pre) rvs hf p2
  · exact p1.elim
theorem pd_bm0 (h : MtD C t name fm) (ho : PD C o mo) (hbase : attributeBase o name C.X.env (eval o C.X.env) = eval o C.X.env := by rfl) (hline : (apos.endLine == cpos.line) = true := by rfl) :
    PD C (.Call (.Attribute o name apos) [] [] cpos) (dBm t fm mo dNil) := by
  obtain ⟨id, r, h1, h2, h3, h4, h5⟩ := h.ex
  refine PE.imp (pe_bm0 h1 h2 h3 h4 ho hbase hline) fun σ H Q ⟨ρ, st, ι, er, rl, p⟩ => ?_
  refine ⟨ρ, st, ι, er, rl, post_bind p fun d s1 v ι1 H1 st1 rl1 rv p1 => ?_⟩
  split at p1
  · rename_i ht
    refine ⟨tyD_v C.hK rl1 rv ht, ?_⟩
    change Post _ _ _ _ _ _ _ _ (ofO (fm d [] s1)) at p1
    cases hf : fm d [] s1 with
    | none =>
      rw [hf] at p1
      exact p1.elim
    | some z =>
      rw [hf] at p1
      exact h5 ι1 s1 H1 v [] d [] z.1 z.2 Q rl1 rv .nil hf p1
  · exact p1.elim
end
/-- xs.append(x), a list that may change -/
def mApp : FM := fun d ds st => match d, ds with
  | .box k, [x] => match st[k]? with
    | some (.lst xs) => if xs.length < 100000 then some (.non, st.set k (.lst (xs ++ [x]))) else none
    | _ => none
  | _, _ => none
theorem mt_app : MtD C "list" "append" mApp := ⟨_, _, PySem.F.plainAttrs_list, PySem.F.slot_list_append, PySem.F.type_list_append, mt_append, fun ι st H x xs dx ds d st' Q rl rx rs e k => by
  unfold mApp at e
  split at e
  · rename_i i y
    split at e
    · rename_i zs hz
      split at e
      · rename_i hl
        cases e
        obtain ⟨v, rfl, rv⟩ := repL_one rs
        cases rx with
        | box hi =>
          obtain ⟨ws, hw, rw'⟩ := rl.ok _ _ _ hi hz
          refine ⟨_, ws, v, rfl, rfl, hw, line_lt (by rw [rw'.length]; exact hl), ?_⟩
          obtain ⟨r2, s2⟩ := rl.write (o := .lst (ws ++ [v])) (c' := .lst (zs ++ [y])) hi hz rfl rfl ⟨_, upd_same, rw'.append (.cons rv .nil)⟩
          exact k _ ι _ s2 r2 .non
      · cases e
    · cases e
  · cases e⟩
/-- xs.pop() -/
def mPop : FM := fun d ds st => match d, ds with
  | .box k, [] => match st[k]? with
    | some (.lst xs) => match xs[xs.length - 1]? with
      | some y => some (y, st.set k (.lst xs.dropLast))
      | none => none
    | _ => none
  | _, _ => none
theorem mt_popD : MtD C "list" "pop" mPop := ⟨_, _, PySem.F.plainAttrs_list, PySem.F.slot_list_pop, PySem.F.type_list_pop, mt_pop, fun ι st H x xs dx ds d st' Q rl rx rs e k => by
  unfold mPop at e
  split at e
  · rename_i i
    split at e
    · rename_i zs hz
      split at e
      · rename_i y hy
        cases e
        cases rs
        cases rx with
        | box hi =>
          obtain ⟨ws, hw, rw'⟩ := rl.ok _ _ _ hi hz
          obtain ⟨u, hu, ru⟩ := rw'.get hy
          refine ⟨_, ws, u, rfl, rfl, hw, by rw [rw'.length]; exact hu, ?_⟩
          obtain ⟨r2, s2⟩ := rl.write (o := .lst ws.dropLast) (c' := .lst zs.dropLast) hi hz rfl rfl ⟨_, upd_same, rw'.dropLast⟩
          exact k _ ι _ s2 r2 (ru.mono s2.ex s2.pre)
      · cases e
    · cases e
  · cases e⟩
def mRev : FM := fun d ds st => match d, ds with
  | .box k, [] => match st[k]? with
    | some (.lst xs) => some (.non, st.set k (.lst xs.reverse))
    | _ => none
  | _, _ => none
theorem mt_revD : MtD C "list" "reverse" mRev := ⟨_, _, PySem.F.plainAttrs_list, PySem.F.slot_list_reverse, PySem.F.type_list_reverse, mt_reverse, fun ι st H x xs dx ds d st' Q rl rx rs e k => by
  unfold mRev at e
  split at e
  · rename_i i
    split at e
    · rename_i zs hz
      cases e
      cases rs
      cases rx with
      | box hi =>
        obtain ⟨ws, hw, rw'⟩ := rl.ok _ _ _ hi hz
        refine ⟨_, ws, rfl, rfl, hw, ?_⟩
        obtain ⟨r2, s2⟩ := rl.write (o := .lst ws.reverse) (c' := .lst zs.reverse) hi hz rfl rfl ⟨_, upd_same, rw'.reverse⟩
        exact k _ ι _ s2 r2 .non
    · cases e
  · cases e⟩
/-- '..'.join of texts -/
def strsOf : List D → Option (List Str)
  | [] => some []
  | .str x :: r => (strsOf r).map (x :: ·)
  | _ :: _ => none
theorem strs_rep {T : Txt} {xp : XT} {G : Hp} {ι : Io} : ∀ {xs : List V} {ds : List D} {bs : List Str}, RepL T xp G ι xs ds → strsOf ds = some bs → xs = bs.map V.str
  | _, _, _, .nil, h => by cases h; rfl
  | _, _, _, .cons r rs, h => by
    cases r with
    | str b =>
      simp only [strsOf, Option.map_eq_some_iff] at h
      obtain ⟨r', h1, rfl⟩ := h
      rw [strs_rep rs h1]
      rfl
    | _ => simp [strsOf] at h
def mJoin : FM := fun d ds st => match d, ds with
  | .str a, [x] => match (itemsOf x st).bind strsOf with
    | some ys => if (ys.map (·.length)).sum + ys.length * a.length ≤ 1000000 then some (.str (PySem.Txt.join a ys), st) else none
    | none => none
  | _, _ => none
theorem mt_joinD : MtD C "str" "join" mJoin := ⟨_, _, PySem.F.plainAttrs_str, PySem.F.slot_str_join, PySem.F.type_str_join, mt_join, fun ι st H x xs dx ds d st' Q rl rx rs e k => by
  unfold mJoin at e
  split at e
  · rename_i a y
    split at e
    · rename_i ys hy
      split at e
      · rename_i hl
        cases e
        obtain ⟨v, rfl, rv⟩ := repL_one rs
        obtain ⟨zs, hz, hy⟩ := Option.bind_eq_some_iff.mp hy
        obtain ⟨b, ws, rfl, hs, rw'⟩ := items_rep rl rv hz
        cases rx
        have ew := strs_rep rw' hy
        subst ew
        exact ⟨a, b, ys, rfl, rfl, by rw [C.hK]; exact hs, Nat.le_trans hl (by decide), k _ ι H (Step.refl _ _ _) rl (.str _)⟩
      · cases e
    · cases e
  · cases e⟩
/-- text.split(sep): a new list -/
def mSplit : FM := fun d ds st => match d, ds with
  | .str a, [.str b] => if b.length ≠ 0 ∧ a.length ≤ 1000000 then some (.lst ((PySem.Txt.split a b).map D.str), st) else none
  | _, _ => none
theorem rep_strs {T : Txt} {xp : XT} {G : Hp} {ι : Io} : ∀ ys : List Str, RepL T xp G ι (ys.map V.str) (ys.map D.str)
  | [] => .nil
  | y :: ys => .cons (.str y) (rep_strs ys)
theorem mt_splitD : MtD C "str" "split" mSplit := ⟨_, _, PySem.F.plainAttrs_str, PySem.F.slot_str_split, PySem.F.type_str_split, mt_split, fun ι st H x xs dx ds d st' Q rl rx rs e k => by
  unfold mSplit at e
  split at e
  · rename_i a b
    split at e
    · rename_i hl
      cases e
      obtain ⟨v, rfl, rv⟩ := repL_one rs
      cases rx
      cases rv
      refine ⟨a, b, rfl, rfl, by simp [hl.1], Nat.le_trans (Nat.add_le_add_right hl.2 2) (by decide), fun p hp => ?_⟩
      obtain ⟨ra, sa, ea⟩ := rl.new (o := .lst ((PySem.Txt.split a b).map V.str)) hp
      exact k _ ι _ sa ra (.lst ea (rep_strs _))
    · cases e
  · cases e⟩
/-- xs.count(x), flat items -/
def rCntF (K : PySem.W.Frag) : V → List V → Hp → VK → Prop := fun x xs H Q => ∃ (p : Addr) (ys : List V) (y : V), x = .ref p ∧ xs = [y] ∧ SqL K H p ys ∧ flatV y = true ∧ ys.all flatV = true ∧ Q (.int (ys.countP (fun z => eqV z y) : Nat)) H
theorem count_eqU {x : V} : ∀ {xs : List V} {us : List Value}, Vals xs us → xs.all flatV = true → us.countP (eqU x) = xs.countP fun y => eqV y x
  | _, _, .nil, _ => rfl
  | y :: xs, u :: us, .cons r t, f => by
    rw [List.all_cons, Bool.and_eq_true] at f
    rw [List.countP_cons, List.countP_cons, eqU_of r f.1, count_eqU t f.2]
theorem mt_cntF {X : Cx} : MtR X "list.count" (rCntF X.K) := by
  intro pins s σ H x xs v us Q I rx rxs h
  obtain ⟨p, ys, y, rfl, rfl, hs, fy, fys, q⟩ := h
  cases rx
  obtain ⟨u, rfl, ru⟩ := rxs.one
  obtain ⟨its, rv, ⟨⟨cls, dd, data, sl⟩, n, ho, hc, hdn, hd⟩, hlen⟩ := I.list hs
  simp only at hc hd
  subst hc hd
  have ec : its.toArray.toList.countP (eqU y) = ys.countP fun z => eqV z y := by
    rw [List.toList_toArray]
    exact count_eqU rv fys
  refine call_meets PySem.F.slot_list_count ⟨_, ho, rfl⟩ PySem.F.entry_list_count (PySem.F.args_list_count_2 _ _) (SeqAt.list_countAt p its.toArray n dd sl u (eqU y)) ⟨ho, fun z hz => mem_eqAt ru fy rv fys z (by simpa using hz), ?_⟩
  refine ⟨.int _, H, I.tok _, ⟨s.toks, ?_⟩, q⟩
  rw [ec]
def mCount : FM := fun d ds st => match ds with
  | [x] => match litemsOf d st with
    | some ys => if flatD x = true ∧ ys.all flatD = true then some (.int (((ys.map flatV').countP fun z => eqV z (flatV' x)) : Nat), st) else none
    | none => none
  | _ => none
theorem mt_countD : MtD C "list" "count" mCount := ⟨_, _, PySem.F.plainAttrs_list, PySem.F.slot_list_count, PySem.F.type_list_count, mt_cntF, fun ι st H x xs dx ds d st' Q rl rx rs e k => by
  unfold mCount at e
  split at e
  · rename_i y
    split at e
    · rename_i ys hy
      split at e
      · rename_i hf
        cases e
        obtain ⟨v, rfl, rv⟩ := repL_one rs
        obtain ⟨a, zs, rfl, hs, rw'⟩ := litems_rep rl rx hy
        obtain ⟨e1, e2⟩ := flat_rep rv hf.1
        obtain ⟨e3, e4⟩ := flat_repL rw' hf.2
        refine ⟨a, zs, v, rfl, rfl, by rw [C.hK]; exact hs, e2, e4, ?_⟩
        rw [e1, e3]
        exact k _ ι H (Step.refl _ _ _) rl (.int _)
      · cases e
    · cases e
  · cases e⟩
/-- xs.index(x), flat items, x among them -/
def idxOf (p : V → Bool) : List V → Nat → Option Nat
  | [], _ => none
  | y :: ys, i => if p y = true then some i else idxOf p ys (i + 1)
theorem idxOf_some {p : V → Bool} : ∀ {ys : List V} {i j : Nat}, idxOf p ys i = some j → i ≤ j ∧ (∃ z, ys[j - i]? = some z ∧ p z = true) ∧ ∀ m z, m < j - i → ys[m]? = some z → p z = false
  | [], _, _, h => by cases h
  | y :: ys, i, j, h => by
    unfold idxOf at h
    split at h
    · rename_i hp
      cases h
      refine ⟨Nat.le_refl _, ⟨y, by simp, hp⟩, fun m z hm => by omega⟩
    · rename_i hp
      obtain ⟨h1, ⟨z, h2, h3⟩, h4⟩ := idxOf_some h
      refine ⟨by omega, ⟨z, ?_, h3⟩, fun m w hm hw => ?_⟩
      · have e : j - i = (j - (i + 1)) + 1 := by omega
        rw [e, List.getElem?_cons_succ]
        exact h2
      · cases m with
        | zero =>
          have e : y = w := by simpa using hw
          rw [← e]
          exact Bool.eq_false_iff.mpr hp
        | succ m => exact h4 m w (by omega) (by simpa using hw)
def mIndex : FM := fun d ds st => match ds with
  | [x] => match litemsOf d st with
    | some ys => if flatD x = true ∧ ys.all flatD = true then (idxOf (fun z => eqV z (flatV' x)) (ys.map flatV') 0).map fun j => (.int (j : Nat), st) else none
    | none => none
  | _ => none
theorem mt_indexD' : MtD C "list" "index" mIndex := ⟨_, _, PySem.F.plainAttrs_list, PySem.F.slot_list_index, PySem.F.type_list_index, mt_index, fun ι st H x xs dx ds d st' Q rl rx rs e k => by
  unfold mIndex at e
  split at e
  · rename_i y
    split at e
    · rename_i ys hy
      split at e
      · rename_i hf
        obtain ⟨j, hj, e'⟩ := Option.map_eq_some_iff.mp e
        cases e'
        obtain ⟨v, rfl, rv⟩ := repL_one rs
        obtain ⟨a, zs, rfl, hs, rw'⟩ := litems_rep rl rx hy
        obtain ⟨e1, e2⟩ := flat_rep rv hf.1
        obtain ⟨e3, e4⟩ := flat_repL rw' hf.2
        obtain ⟨_, ⟨z, h2, h3⟩, h4⟩ := idxOf_some hj
        rw [← e3] at h2 h4
        rw [← e1] at h3 h4
        rw [Nat.sub_zero] at h2 h4
        exact ⟨a, zs, v, j, z, rfl, rfl, by rw [C.hK]; exact hs, e2, e4, h2, h3, h4, k _ ι H (Step.refl _ _ _) rl (.int _)⟩
      · cases e
    · cases e
  · cases e⟩

/-! ### stores -/
def sSetIx (o i a : DE) : DS := fun ρ st => (a ρ st).into ρ fun x s1 => (o ρ s1).into ρ fun d s2 => (i ρ s2).into ρ fun y s3 => match d, y with
  | .box k, .int j => match s3[k]? with
    | some (.lst xs) => match ixN xs.length j with
      | some n => .nx ρ (s3.set k (.lst (xs.set n x)))
      | none => .bad
    | _ => .bad
  | _, _ => .bad
end
end Den

set_option maxRecDepth 100000
set_option maxHeartbeats 4000000
/-! Den: targets, stores, loops, comprehensions. -/
namespace Den
open PySem PySem.Spec PyProof.Rows L2

/-! ### targets -/
abbrev GD := D → Rho → Option Rho
def g1 (i : Nat) : GD := fun d ρ => some (ρ.set i (some d))
def gsD : List Nat → List D → Rho → Option Rho
  | [], [], ρ => some ρ
  | i :: is, d :: ds, ρ => gsD is ds (ρ.set i (some d))
  | _, _, _ => none
def gT (is : List Nat) : GD := fun d ρ => match d with
  | .tup ds => gsD is ds ρ
  | _ => none
structure TgD (T : Txt) (K : PySem.W.Frag) (g : TG) (gd : GD) (is : List Nat) : Prop where
  ok : ∀ xp ι st H x d ρ ρ' σ Q, EnvR T xp (hide ι st H) ι ρ σ → Rep T xp (hide ι st H) ι x d → gd d ρ = some ρ' → (∀ σ', EnvR T xp (hide ι st H) ι ρ' σ' → (∀ vs : List Nat, (∀ i ∈ is, i ∈ vs) → wipe σ' vs = wipe σ vs) → Q σ' H) → g x σ H Q
theorem wipe_set {σ : L2.St} {i : Nat} {x : Option V} : ∀ {vs : List Nat}, i ∈ vs → wipe (σ.set i x) vs = wipe σ vs
  | [], h => by cases h
  | v :: vs, h => by
    unfold wipe
    by_cases e : i ∈ vs
    · rw [wipe_set e]
    · have ev : i = v := (List.mem_cons.mp h).elim id fun z => absurd z e
      subst ev
      have key : ∀ {ws : List Nat}, i ∉ ws → (wipe (σ.set i x) ws).set i none = (wipe σ ws).set i none := by
        intro ws
        induction ws with
        | nil => intro _; simp [wipe]
        | cons w ws ih =>
          intro hw
          have h1 : i ≠ w := fun z => hw (z ▸ List.mem_cons_self)
          have h2 := ih fun z => hw (List.mem_cons_of_mem _ z)
          show ((wipe (σ.set i x) ws).set w none).set i none = ((wipe σ ws).set w none).set i none
          rw [List.set_comm _ _ (Ne.symm h1), List.set_comm _ _ (Ne.symm h1), h2]
      exact key e
section
variable {T : Txt} {K : PySem.W.Frag}
theorem tg_one (i : Nat) : TgD T K (gName i) (g1 i) [i] := ⟨fun xp ι st H x d ρ ρ' σ Q er rx e k => by
  cases e
  exact k _ (er.set i rx) fun vs hv => wipe_set (hv i List.mem_cons_self)⟩
def gNames : List Nat → TGs
  | [] => gNil
  | i :: is => gCons (gName i) (gNames is)
theorem tg_names {xp : XT} {ι : Io} {G H : Hp} {Q : L2.St → Hp → Prop} : ∀ {is : List Nat} {xs : List V} {ds : List D} {ρ ρ' : Rho} {σ : L2.St}, EnvR T xp G ι ρ σ → RepL T xp G ι xs ds → gsD is ds ρ = some ρ' →
    (∀ σ', EnvR T xp G ι ρ' σ' → (∀ vs : List Nat, (∀ i ∈ is, i ∈ vs) → wipe σ' vs = wipe σ vs) → Q σ' H) → gNames is xs σ H Q
  | [], xs, ds, ρ, ρ', σ, er, rx, e, k => by
    cases rx with
    | nil =>
      cases e
      exact ⟨rfl, k σ er fun _ _ => rfl⟩
    | cons _ _ => cases e
  | i :: is, xs, ds, ρ, ρ', σ, er, rx, e, k => by
    cases rx with
    | nil => cases e
    | cons r rs =>
      refine ⟨_, _, rfl, tg_names (is := is) (er.set i r) rs e fun σ' er' hw => k σ' er' fun vs hv => ?_⟩
      rw [hw vs fun j hj => hv j (List.mem_cons_of_mem _ hj)]
      exact wipe_set (hv i List.mem_cons_self)
theorem gsD_len : ∀ {is : List Nat} {ds : List D} {ρ ρ' : Rho}, gsD is ds ρ = some ρ' → ds.length = is.length
  | [], [], _, _, _ => rfl
  | _ :: is, _ :: ds, _, _, e => congrArg Nat.succ (gsD_len (is := is) (ds := ds) e)
  | [], _ :: _, _, _, e => by cases e
  | _ :: _, [], _, _, e => by cases e
theorem tg_tup (hK : K = T.K) (is : List Nat) {n : Nat} (hn : n = is.length) : TgD T K (gTup K n (gNames is)) (gT is) is := ⟨fun xp ι st H x d ρ ρ' σ Q er rx e k => by
  subst hn hK
  cases rx with
  | tup h1 r1 => exact ⟨_, _, rfl, le_t (hide_le _ _ _) h1, r1.length.trans (gsD_len e), tg_names er r1 e k⟩
  | _ => cases e⟩
end
def sAsg (g : GD) (a : DE) : DS := fun ρ st => (a ρ st).into ρ fun d s1 => match g d ρ with
  | some ρ' => .nx ρ' s1
  | none => .bad
def sPar (i j : Nat) (a : DA) : DS := fun ρ st => (a ρ st).into ρ fun ds s1 => match ds with
  | [x, y] => .nx ((ρ.set i (some x)).set j (some y)) s1
  | _ => .bad
def sSetF (c i : Nat) (o a : DE) : DS := fun ρ st => (a ρ st).into ρ fun x s1 => (o ρ s1).into ρ fun d s2 => match d with
  | .box k => match s2[k]? with
    | some (.ins c' xs) => if c' = c then (if i < xs.length then .nx ρ (s2.set k (.ins c (xs.set i x))) else if i = xs.length then .nx ρ (s2.set k (.ins c (xs ++ [x]))) else .bad) else .bad
    | _ => .bad
  | _ => .bad
section
variable {C : Ctx} {e o ix tg : Expr} {me mo mi : DE} {pos pos' : Pos} {g : TG} {gd : GD} {is : List Nat}
theorem pds_asg (hg : PG C.X tg g) (hd : TgD C.T C.X.K g gd is) (he : PD C e me) (hs : swapsWithSole [tg] e pos.line C.X.env = pure false := by rfl) (hw : swappedStores [tg] e C.X.env = pure none := by rfl)
    (h1 : (assignEach [tg] C.X.env).map (·.2) = [assign tg C.X.env] := by rfl) : PDS C (.Assign [tg] e pos) (sAsg gd me) :=
  PS.imp (ps_asg he hg hs hw h1) fun D σ H ⟨ρ, st, ι, er, rl, p⟩ => by
    refine ⟨ρ, st, ι, er, rl, post_into p er fun d s1 v ι1 H1 st1 rl1 er1 rv p1 => ?_⟩
    split at p1
    · rename_i ρ' hr
      exact hd.ok _ _ _ _ _ _ _ _ _ _ er1 rv hr fun σ' er' _ => p1 σ' ι1 H1 (Step.refl _ _ _) rl1 er'
    · exact p1.elim
theorem pds_setIx (he : PD C e me) (ho : PD C o mo) (hi : PD C ix mi) (hg : ∀ t t', PE C.X o t → PE C.X ix t' → PG C.X (.Subscript o ix pos') (gSub t t' rSetL)) (hs : swapsWithSole [.Subscript o ix pos'] e pos.line C.X.env = pure false := by rfl)
    (hw : swappedStores [.Subscript o ix pos'] e C.X.env = pure none := by rfl) (h1 : (assignEach [.Subscript o ix pos'] C.X.env).map (·.2) = [assign (.Subscript o ix pos') C.X.env] := by rfl) : PDS C (.Assign [.Subscript o ix pos'] e pos) (sSetIx mo mi me) :=
  PS.imp (ps_asg he (hg _ _ ho hi) hs hw h1) fun D σ H ⟨ρ, st, ι, er, rl, p⟩ => by
    refine ⟨ρ, st, ι, er, rl, post_into p er fun d s1 v ι1 H1 st1 rl1 er1 rv p1 => ?_⟩
    refine ⟨ρ, s1, ι1, er1, rl1, post_into p1 er1 fun d2 s2 v2 ι2 H2 st2 rl2 er2 rv2 p2 => ?_⟩
    refine ⟨ρ, s2, ι2, er2, rl2, post_into p2 er2 fun d3 s3 v3 ι3 H3 st3 rl3 er3 rv3 p3 => ?_⟩
    split at p3
    · rename_i k j
      split at p3
      · rename_i xs hx
        split at p3
        · rename_i n hn
          cases rv3
          have rv' := rv.mono (st2.ex.trans st3.ex) (st2.pre.trans st3.pre)
          cases rv2.mono st3.ex st3.pre with
          | box hk =>
            obtain ⟨ws, hw, rw'⟩ := rl3.ok _ _ _ hk hx
            refine ⟨_, ws, j, n, rfl, rfl, hw, by rw [rw'.length]; exact hn, ?_⟩
            obtain ⟨r2, s2'⟩ := rl3.write (o := .lst (ws.set n v)) (c' := .lst (xs.set n d)) hk hx rfl rfl ⟨_, upd_same, rw'.set n rv'⟩
            exact p3 σ ι3 _ s2' r2 (er3.step s2')
        · exact p3.elim
      · exact p3.elim
    · exact p3.elim
theorem pds_par {x y : Str} {a b : Expr} {ma : DA} {i j : Nat} {px py pz pt : Pos} {kt k2 pt2} (hc : C.X.calm = true) (hN : C.X.N.Nodup) (hi : C.X.N[i]? = some x) (hj : C.X.N[j]? = some y) (hij : i ≠ j) (hx : C.X.env.scope.names.lookup x = some .local) (hy : C.X.env.scope.names.lookup y = some .local) (ha : PDA C [a, b] ma)
    (hw : swappedStores [.Tuple [.Name x px, .Name y py] kt pt] (.Tuple [a, b] k2 pt2) C.X.env = pure (some [x, y])) (hs : swapsWithSole [.Tuple [.Name x px, .Name y py] kt pt] (.Tuple [a, b] k2 pt2) pos.line C.X.env = pure false := by rfl) :
    PDS C (.Assign [.Tuple [.Name x px, .Name y py] kt pt] (.Tuple [a, b] k2 pt2) pos) (sPar i j ma) :=
  PS.imp (ps_par hc hN hi hj hij hx hy ha hw hs) fun D σ H ⟨ρ, st, ι, er, rl, p⟩ => by
    refine ⟨ρ, st, ι, er, rl, post_into p er fun ds s1 vs ι1 H1 st1 rl1 er1 rv p1 => ?_⟩
    split at p1
    · rename_i x y
      cases rv with
      | cons r1 r2 =>
        cases r2 with
        | cons r2 r3 =>
          cases r3
          exact ⟨_, _, rfl, p1 _ ι1 H1 (Step.refl _ _ _) rl1 ((er1.set i r1).set j r2)⟩
    · exact p1.elim
theorem pds_setF {c i : Nat} {fn : Str} (hc : ClsD C.T c) (hi : (C.T.fl c)[i]? = some fn) (ho : PD C o mo) (he : PD C e me) (hs : swapsWith e (some (.Attribute o fn pos')) pos.line C.X.env = pure false := by rfl) :
    PDS C (.Assign [.Attribute o fn pos'] e pos) (sSetF c i mo me) :=
  PS.imp (ps_fld ho he hs) fun D σ H ⟨ρ, st, ι, er, rl, p⟩ => by
    refine ⟨ρ, st, ι, er, rl, post_into p er fun d s1 v ι1 H1 st1 rl1 er1 rv p1 => ?_⟩
    refine ⟨ρ, s1, ι1, er1, rl1, post_into p1 er1 fun d2 s2 v2 ι2 H2 st2 rl2 er2 rv2 p2 => ?_⟩
    split at p2
    · rename_i k
      split at p2
      · rename_i c' xs hx
        split at p2
        · rename_i ec
          subst ec
          have rv' := rv.mono st2.ex st2.pre
          cases rv2 with
          | box hk =>
            obtain ⟨dx, ws, hw, hl, rw'⟩ := rl2.ok _ _ _ hk hx
            have few : ((C.T.fl c').zip ws).length < 1000 := by
              rw [List.length_zip]
              have := hc.few
              omega
            refine ⟨_, _, dx, _, rfl, hw, by rw [C.hK]; exact hc.cl, by rw [C.hK]; exact hc.na fn (List.mem_of_getElem? hi), few, ?_⟩
            split at p2
            · rename_i hlt
              rw [putF_set hc.nd hi (by rw [rw'.length]; exact hlt)]
              obtain ⟨r2, s2'⟩ := rl2.write (o := .ins (C.T.ca c') dx ((C.T.fl c').zip (ws.set i v))) (c' := .ins c' (xs.set i d)) hk hx rfl rfl ⟨dx, _, upd_same, by simpa using hl, rw'.set i rv'⟩
              exact p2 σ ι2 _ s2' r2 (er2.step s2')
            · split at p2
              · rename_i hge heq
                have hi' : (C.T.fl c')[ws.length]? = some fn := by rw [rw'.length, ← heq]; exact hi
                rw [putF_new hc.nd hi']
                obtain ⟨r2, s2'⟩ := rl2.write (o := .ins (C.T.ca c') dx ((C.T.fl c').zip (ws ++ [v]))) (c' := .ins c' (xs ++ [d])) hk hx rfl rfl
                  ⟨dx, _, upd_same, by have := (List.getElem?_eq_some_iff.mp hi').1; simp; omega, rw'.append (.cons rv' .nil)⟩
                exact p2 σ ι2 _ s2' r2 (er2.step s2')
              · exact p2.elim
        · exact p2.elim
      · exact p2.elim
    · exact p2.elim
end

/-! ### loops -/
def forL (g : GD) (b : DS) : List D → DS
  | [] => fun ρ st => .nx ρ st
  | x :: xs => fun ρ st => match g x ρ with
    | none => .bad
    | some ρ' => match b ρ' st with
      | .nx ρ1 s1 => forL g b xs ρ1 s1
      | .cnt ρ1 s1 => forL g b xs ρ1 s1
      | .brk ρ1 s1 => .nx ρ1 s1
      | .ret d s1 => .ret d s1
      | .exc c ds ρ1 s1 => .exc c ds ρ1 s1
      | .bad => .bad
/-- over a list; over a tuple -/
def sForL (it : DE) (g : GD) (b : DS) : DS := fun ρ st => (it ρ st).into ρ fun d s1 => match d with
  | .lst xs => forL g b xs ρ s1
  | .ro xs => forL g b xs ρ s1
  | _ => .bad
def sForT (it : DE) (g : GD) (b : DS) : DS := fun ρ st => (it ρ st).into ρ fun d s1 => match d with
  | .tup xs => forL g b xs ρ s1
  | _ => .bad
def rangeD (lo : Int) (n : Nat) : List D := (List.range n).map fun (i : Nat) => D.int (lo + i)
def big62 (i : Int) : Prop := -(2 ^ 62) ≤ i ∧ i < 2 ^ 62
instance (i : Int) : Decidable (big62 i) := inferInstanceAs (Decidable (_ ∧ _))
def sForR1 (a : DA) (g : GD) (b : DS) : DS := fun ρ st => (a ρ st).into ρ fun ds s1 => match ds with
  | [.int j] => if big62 j then forL g b (rangeD 0 j.toNat) ρ s1 else .bad
  | _ => .bad
def sForR2 (a : DA) (g : GD) (b : DS) : DS := fun ρ st => (a ρ st).into ρ fun ds s1 => match ds with
  | [.int i, .int j] => if big62 i ∧ big62 j then forL g b (rangeD i (j - i).toNat) ρ s1 else .bad
  | _ => .bad
section
variable {C : Ctx} {iter tg e : Expr} {bd : List Stmt} {mi : DE} {ma : DA} {g : TG} {gd : GD} {is : List Nat} {mb : DS} {pos pos' : Pos}
/-- one turn -/
theorem turn_of {T : Txt} {K : PySem.W.Frag} {xp : XT} {W : WX} {ι0 ι : Io} {s0 st : Store} {H0 H : Hp} {E : Ends} {x : V} {d : D} {ds : List D} {ρ : Rho} {σ : L2.St} {N : L2.St → Hp → Prop} (hd : TgD T K g gd is) (er : EnvR T xp (hide ι st H) ι ρ σ) (rl : RelSt T xp ι st H) (rx : Rep T xp (hide ι st H) ι x d)
    (p : PostS T xp W ι st H E (forL gd mb (d :: ds) ρ st)) (hN : ∀ ρ' s' σ' ι' H', Step ι st H ι' s' H' → RelSt T xp ι' s' H' → EnvR T xp (hide ι' s' H') ι' ρ' σ' → PostS T xp W ι' s' H' E (forL gd mb ds ρ' s') → N σ' H') :
    g x σ H fun σ2 H2 => tDS T xp W mb { E with nx := N, ct := N, bk := E.nx } σ2 H2 := by
  unfold forL at p
  cases hg : gd d ρ with
  | none =>
    rw [hg] at p
    exact p.elim
  | some ρ' =>
    rw [hg] at p
    refine hd.ok _ _ _ _ _ _ _ _ _ _ er rx hg fun σ' er' _ => ⟨ρ', st, ι, er', rl, ?_⟩
    cases hb : mb ρ' st with
    | nx ρ1 s1 =>
      simp only [hb] at p
      exact fun σ1 ι1 H1 st1 rl1 er1 => hN ρ1 s1 σ1 ι1 H1 st1 rl1 er1 (PostS.step p st1)
    | cnt ρ1 s1 =>
      simp only [hb] at p
      exact fun σ1 ι1 H1 st1 rl1 er1 => hN ρ1 s1 σ1 ι1 H1 st1 rl1 er1 (PostS.step p st1)
    | brk ρ1 s1 =>
      simp only [hb] at p
      exact p
    | ret y s1 =>
      simp only [hb] at p
      exact p
    | exc c es ρ1 s1 =>
      simp only [hb] at p
      exact p
    | bad =>
      simp only [hb] at p
      exact p
/-- the word of every loop: what is left of it is worth what follows -/
def Left (T : Txt) (xp : XT) (W : WX) (E : Ends) (gd : GD) (mb : DS) (ds : List D) (G0 : Hp) (ι0 : Io) (i : Nat) (σ : L2.St) (H : Hp) : Prop := ∃ ρ st ι, Le G0 (hide ι st H) ∧ Pre ι0 ι ∧ RelSt T xp ι st H ∧ EnvR T xp (hide ι st H) ι ρ σ ∧ PostS T xp W ι st H E (forL gd mb (ds.drop i) ρ st)
theorem drop_at {α : Type} {ds : List α} {i : Nat} {d : α} (h : ds[i]? = some d) : ds.drop i = d :: ds.drop (i + 1) := by
  obtain ⟨h1, h2⟩ := List.getElem?_eq_some_iff.mp h
  rw [List.drop_eq_getElem_cons h1, h2]
theorem left_turn {T : Txt} {K : PySem.W.Frag} {xp : XT} {W : WX} {E : Ends} {ds : List D} {G0 : Hp} {ι0 : Io} {i : Nat} {σ : L2.St} {H : Hp} {x : V} {d : D} (hd : TgD T K g gd is) (hx : ds[i]? = some d) (hr : ∀ ι st, Le G0 (hide ι st H) → Pre ι0 ι → Rep T xp (hide ι st H) ι x d) (h : Left T xp W E gd mb ds G0 ι0 i σ H) :
    g x σ H fun σ2 H2 => tDS T xp W mb { E with nx := Left T xp W E gd mb ds G0 ι0 (i + 1), ct := Left T xp W E gd mb ds G0 ι0 (i + 1), bk := E.nx } σ2 H2 := by
  obtain ⟨ρ, st, ι, hl, hp, rl, er, p⟩ := h
  rw [drop_at hx] at p
  exact turn_of (ι0 := ι) (s0 := st) (H0 := H) hd er rl (hr ι st hl hp) p fun ρ' s' σ' ι' H' s rl' er' p' => ⟨ρ', s', ι', hl.trans s.ex, hp.trans s.pre, rl', er', p'⟩
theorem left_end {T : Txt} {xp : XT} {W : WX} {E : Ends} {ds : List D} {G0 : Hp} {ι0 : Io} {i : Nat} {σ : L2.St} {H : Hp} (hi : ds.length ≤ i) (h : Left T xp W E gd mb ds G0 ι0 i σ H) : E.nx σ H := by
  obtain ⟨ρ, st, ι, hl, hp, rl, er, p⟩ := h
  rw [List.drop_eq_nil_of_le hi] at p
  exact p σ ι H (Step.refl _ _ _) rl er
theorem list_loop {T : Txt} {xp : XT} {W : WX} {D : Ends} {ι1 : Io} {s1 : Store} {H1 : Hp} {σ : L2.St} {ρ : Rho} {a : Addr} {xs : List V} {ds : List Den.D} (hd : TgD T T.K g gd is) (h1 : SqL T.K (hide ι1 s1 H1) a xs) (rs : RepL T xp (hide ι1 s1 H1) ι1 xs ds) (rl1 : RelSt T xp ι1 s1 H1)
    (er1 : EnvR T xp (hide ι1 s1 H1) ι1 ρ σ) (q : PostS T xp W ι1 s1 H1 D (forL gd mb ds ρ s1)) :
    ∃ W' : Nat → Nat → L2.St → Hp → Prop, (∃ m, W' 0 m σ H1) ∧ ∀ i m σ H, W' i m σ H → ((Itl T.K a).stop i H ∧ D.nx σ H) ∨ ((Itl T.K a).go i H ∧ ∃ N : L2.St → Hp → Prop, (∀ σ' H', N σ' H' → ∃ m', m' < m ∧ W' (i + 1) m' σ' H') ∧
      ∀ x H', (Itl T.K a).yld i H x H' → g x σ H' fun σ2 H2 => tDS T xp W mb { D with nx := N, ct := N, bk := D.nx } σ2 H2) :=
  for_list (K := T.K) (a := a) (xs := xs) (Left T xp W D gd mb ds (hide ι1 s1 H1) ι1) ⟨ρ, s1, ι1, Le.refl _, Pre.refl _, rl1, er1, q⟩
    (fun i σ' H' _ ⟨_, st', ι', hl, _, _⟩ => le_l (hide_le _ _ _) (le_l hl h1)) (fun i x σ' H' hx hL => by
      obtain ⟨y, hy, ry⟩ := rs.getV hx
      exact left_turn hd hy (fun ι' st' hl hp' => ry.mono hl hp') hL) (fun σ' H' hL => left_end (by rw [rs.length]; exact Nat.le_refl _) hL)
/-- for x in a list -/
theorem pds_forL (hp : PassesOwn (model C.X.prog C.X.w) C.X.A C.X.env C.X.xe) (hc : C.X.calm = true) (hi : PD C iter mi) (hg : PG C.X tg g) (hd : TgD C.T C.T.K g gd is) (hb : PDSs C bd mb) (hs : ∀ x, foldedSetIterable iter C.X.env x = pure x := by intro _; rfl) :
    PDS C (.For tg iter bd [] pos) (sForL mi gd mb) :=
  PS.imp (ps_for hp hc (pi_list hi) hg hb hs) fun D σ H ⟨ρ, st, ι, er, rl, p⟩ => by
    refine ⟨ρ, st, ι, er, rl, post_into p er fun d s1 v ι1 H1 st1 rl1 er1 rv p1 => ?_⟩
    rw [C.hK]
    cases rv with
    | lst h1 r1 => exact ⟨_, rfl, ⟨_, SqL.of (hide_sub h1)⟩, list_loop hd (SqL.of h1) r1 rl1 er1 p1⟩
    | ro h1 r1 => exact ⟨_, rfl, ⟨_, le_l (hide_le _ _ _) h1⟩, list_loop hd h1 r1 rl1 er1 p1⟩
    | _ => exact p1.elim
/-- for x in a tuple -/
theorem pds_forT (hp : PassesOwn (model C.X.prog C.X.w) C.X.A C.X.env C.X.xe) (hc : C.X.calm = true) (hi : PD C iter mi) (hg : PG C.X tg g) (hd : TgD C.T C.T.K g gd is) (hb : PDSs C bd mb) (hs : ∀ x, foldedSetIterable iter C.X.env x = pure x := by intro _; rfl) :
    PDS C (.For tg iter bd [] pos) (sForT mi gd mb) :=
  PS.imp (ps_for hp hc (pi_tup hi) hg hb hs) fun D σ H ⟨ρ, st, ι, er, rl, p⟩ => by
    refine ⟨ρ, st, ι, er, rl, post_into p er fun d s1 v ι1 H1 st1 rl1 er1 rv p1 => ?_⟩
    cases rv with
    | @tup a xs ds h1 rs =>
      have hsH : ∀ ι' st' H', Le (hide ι1 s1 H1) (hide ι' st' H') → SqT C.X.K H' a xs := fun ι' st' H' hle => by
        rw [C.hK]
        exact le_t (hide_le _ _ _) (le_t hle h1)
      exact ⟨a, rfl, ⟨xs, hsH _ _ _ (Le.refl _)⟩, for_tup (K := C.X.K) (a := a) (xs := xs) (Left C.T C.xp C.W D gd mb ds (hide ι1 s1 H1) ι1) ⟨ρ, s1, ι1, Le.refl _, Pre.refl _, rl1, er1, p1⟩
        (fun i σ' H' _ ⟨_, st', ι', hl, _, _⟩ => hsH ι' st' H' hl) (fun i x σ' H' hx hL => by
          obtain ⟨y, hy, ry⟩ := rs.getV hx
          exact left_turn hd hy (fun ι' st' hl hp' => ry.mono hl hp') hL) (fun σ' H' hL => left_end (by rw [rs.length]; exact Nat.le_refl _) hL)⟩
    | _ => exact p1.elim
theorem range_at {lo : Int} {n i : Nat} (h : i < n) : (rangeD lo n)[i]? = some (.int (lo + i)) := by
  unfold rangeD
  rw [List.getElem?_map, List.getElem?_range h]
  rfl
theorem range_len (lo : Int) (n : Nat) : (rangeD lo n).length = n := by
  unfold rangeD
  simp
theorem range_loop {T : Txt} {xp : XT} {W : WX} {D : Ends} {ι1 : Io} {s1 : Store} {H1 : Hp} {σ : L2.St} {ρ : Rho} {lo : Int} {n : Nat} (hd : TgD T T.K g gd is) (rl1 : RelSt T xp ι1 s1 H1) (er1 : EnvR T xp (hide ι1 s1 H1) ι1 ρ σ) (q : PostS T xp W ι1 s1 H1 D (forL gd mb (rangeD lo n) ρ s1)) :
    ∃ W' : Nat → Nat → L2.St → Hp → Prop, (∃ m, W' 0 m σ H1) ∧ ∀ i m σ H, W' i m σ H → ((Itr lo n).stop i H ∧ D.nx σ H) ∨ ((Itr lo n).go i H ∧ ∃ N : L2.St → Hp → Prop, (∀ σ' H', N σ' H' → ∃ m', m' < m ∧ W' (i + 1) m' σ' H') ∧
      ∀ x H', (Itr lo n).yld i H x H' → g x σ H' fun σ2 H2 => tDS T xp W mb { D with nx := N, ct := N, bk := D.nx } σ2 H2) :=
  for_range (lo := lo) (n := n) (Left T xp W D gd mb (rangeD lo n) (hide ι1 s1 H1) ι1) ⟨ρ, s1, ι1, Le.refl _, Pre.refl _, rl1, er1, q⟩
    (fun i σ' H' hi hL => left_turn hd (range_at hi) (fun _ _ _ _ => .int _) hL) (fun σ' H' hL => left_end (by rw [range_len]; exact Nat.le_refl _) hL)
/-- for i in range(n) -/
theorem pds_forR1 {a : Expr} {p : Pos} (hp : PassesOwn (model C.X.prog C.X.w) C.X.A C.X.env C.X.xe) (hc : C.X.calm = true) (hgl : Gl C.X "range") (hm : C.X.mg "range" = none) (ha : PDA C [a] ma) (hg : PG C.X tg g) (hd : TgD C.T C.T.K g gd is) (hb : PDSs C bd mb)
    (hst : starEach [a] C.X.env = [(false, eval a C.X.env)] := by rfl) (hs : ∀ x, foldedSetIterable (.Call (.Name "range" p) [a] [] pos') C.X.env x = pure x := by intro _; rfl) : PDS C (.For tg (.Call (.Name "range" p) [a] [] pos') bd [] pos) (sForR1 ma gd mb) :=
  PS.imp (ps_for hp hc (pi_range1 hgl hm ha hst) hg hb hs) fun D σ H ⟨ρ, st, ι, er, rl, p⟩ => by
    refine ⟨ρ, st, ι, er, rl, post_into p er fun ds s1 vs ι1 H1 st1 rl1 er1 rv p1 => ?_⟩
    split at p1
    · rename_i j
      split at p1
      · rename_i hj
        obtain ⟨v, rfl, r1⟩ := repL_one rv
        cases r1
        exact ⟨j, rfl, hj.1, hj.2, range_loop hd rl1 er1 p1⟩
      · exact p1.elim
    · exact p1.elim
theorem pds_forR2 {a b : Expr} {p : Pos} (hp : PassesOwn (model C.X.prog C.X.w) C.X.A C.X.env C.X.xe) (hc : C.X.calm = true) (hgl : Gl C.X "range") (hm : C.X.mg "range" = none) (ha : PDA C [a, b] ma) (hg : PG C.X tg g) (hd : TgD C.T C.T.K g gd is) (hb : PDSs C bd mb)
    (hst : starEach [a, b] C.X.env = [(false, eval a C.X.env), (false, eval b C.X.env)] := by rfl) (hst2 : starEach [b] C.X.env = [(false, eval b C.X.env)] := by rfl)
    (hs : ∀ x, foldedSetIterable (.Call (.Name "range" p) [a, b] [] pos') C.X.env x = pure x := by intro _; rfl) : PDS C (.For tg (.Call (.Name "range" p) [a, b] [] pos') bd [] pos) (sForR2 ma gd mb) :=
  PS.imp (ps_for hp hc (pi_range2 hgl hm ha hst hst2) hg hb hs) fun D σ H ⟨ρ, st, ι, er, rl, p⟩ => by
    refine ⟨ρ, st, ι, er, rl, post_into p er fun ds s1 vs ι1 H1 st1 rl1 er1 rv p1 => ?_⟩
    split at p1
    · rename_i i j
      split at p1
      · rename_i hj
        have ev := repL_ints rv
        subst ev
        exact ⟨i, j, rfl, ⟨hj.1.1, hj.1.2, hj.2.1, hj.2.2⟩, range_loop hd rl1 er1 p1⟩
      · exact p1.elim
    · exact p1.elim
end
end Den

set_option maxRecDepth 100000
set_option maxHeartbeats 4000000
/-! Den: list comprehensions. -/
namespace Den
open PySem PySem.Spec PyProof.Rows L2

def noX {α : Type} (r : Res α) : Res α := match r with
  | .ok a st => .ok a st
  | _ => .bad
/-- a comprehension's turns: ρ with the block's own slots forgotten -/
def lcL (g : GD) (t : DT) (e : DE) (ρ : Rho) : List D → Store → Res (List D)
  | [], st => .ok [] st
  | x :: xs, st => match g x ρ with
    | none => .bad
    | some ρ' => (noX (t ρ' st)).bind fun b s1 => match b with
      | true => (noX (e ρ' s1)).bind fun y s2 => (lcL g t e ρ xs s2).bind fun ys s3 => .ok (y :: ys) s3
      | false => lcL g t e ρ xs s1
def wipeD (ρ : Rho) : List Nat → Rho
  | [] => ρ
  | v :: vs => (wipeD ρ vs).set v none
def lcEnd (m : Res (List D)) : Res D := m.bind fun ys s1 => if ys.length ≤ 100000 then .ok (.lst ys) s1 else .bad
def dLcL (it : DE) (g : GD) (t : DT) (e : DE) (vs : List Nat) : DE := fun ρ st => (it ρ st).bind fun d s1 => match d with
  | .lst xs => if xs.length ≤ 100000 then lcEnd (lcL g t e (wipeD ρ vs) xs s1) else .bad
  | .ro xs => if xs.length ≤ 100000 then lcEnd (lcL g t e (wipeD ρ vs) xs s1) else .bad
  | _ => .bad
def dLcT (it : DE) (g : GD) (t : DT) (e : DE) (vs : List Nat) : DE := fun ρ st => (it ρ st).bind fun d s1 => match d with
  | .tup xs => if xs.length ≤ 100000 then lcEnd (lcL g t e (wipeD ρ vs) xs s1) else .bad
  | _ => .bad
def dLcR1 (a : DA) (g : GD) (t : DT) (e : DE) (vs : List Nat) : DE := fun ρ st => (a ρ st).bind fun ds s1 => match ds with
  | [.int j] => if big62 j ∧ j ≤ 100000 then lcEnd (lcL g t e (wipeD ρ vs) (rangeD 0 j.toNat) s1) else .bad
  | _ => .bad
def dLcR2 (a : DA) (g : GD) (t : DT) (e : DE) (vs : List Nat) : DE := fun ρ st => (a ρ st).bind fun ds s1 => match ds with
  | [.int i, .int j] => if big62 i ∧ big62 j ∧ j - i ≤ 100000 then lcEnd (lcL g t e (wipeD ρ vs) (rangeD i (j - i).toNat) s1) else .bad
  | _ => .bad
/-- all turns kept -/
def tYesD : DT := fun _ st => .ok true st
theorem EnvR.wipe {T : Txt} {xp : XT} {G : Hp} {ι : Io} {ρ : Rho} {σ : L2.St} (h : EnvR T xp G ι ρ σ) : ∀ vs : List Nat, EnvR T xp G ι (wipeD ρ vs) (L2.wipe σ vs)
  | [] => h
  | v :: vs => by
    have ih := EnvR.wipe h vs
    unfold wipeD L2.wipe
    refine ⟨by simp [ih.len], fun i d q => ?_⟩
    by_cases e : v = i
    · subst e
      by_cases hv : v < (wipeD ρ vs).length
      · rw [List.getElem?_set_self hv] at q
        cases q
      · rw [List.getElem?_eq_none (by simpa using hv)] at q
        cases q
    · rw [List.getElem?_set_ne e] at q ⊢
      exact ih.at_ i d q
/-- what is left of a comprehension -/
def LeftC (T : Txt) (xp : XT) (W : Value → Option Addr → Hp → Prop) (Q : VK) (g : GD) (t : DT) (e : DE) (ρ : Rho) (ds : List D) (ι1 : Io) (s1 : Store) (H1 : Hp) (p : Addr) (i : Nat) (H : Hp) : Prop :=
  ∃ st ι acc ys, Step (ι1.under p) s1 (upd H1 p (.lst [])) ι st (upd H p (.lst [])) ∧ RelSt T xp ι st H ∧ H p = some (.lst acc) ∧ RepL T xp (hide ι st H) ι acc ys ∧ ys.length ≤ i ∧
    Post T xp W ι1 s1 H1 (Rep T xp) Q (lcEnd ((lcL g t e ρ (ds.drop i) st).bind fun zs s2 => .ok (ys ++ zs) s2))
theorem Io.under_hd {ι ι' : Io} {p : Addr} (h : Pre (ι.under p) ι') : p ∈ ι'.hd := by
  rw [h.hd]
  exact List.mem_cons_self
theorem hide_hd {ι : Io} {st : Store} {H : Hp} {p : Addr} (h : p ∈ ι.hd) (o : HO) : hide ι st (upd H p o) = hide ι st H := by
  funext a
  unfold hide hidden
  by_cases e : a = p
  · subst e
    rw [if_pos (by simp [h]), if_pos (by simp [h])]
  · rw [upd_ne e]
theorem RelSt.hdw {T : Txt} {xp : XT} {ι : Io} {st : Store} {H : Hp} {p : Addr} (r : RelSt T xp ι st H) (h : p ∈ ι.hd) (o : HO) : RelSt T xp ι st (upd H p o) := by
  have n := (r.hdn p h).2
  refine ⟨r.len, r.nd, fun a ha => ?_, fun a ha => ?_, fun k a c hk hc => ?_⟩
  · obtain ⟨u, e⟩ := r.there a ha
    exact ⟨u, by rw [upd_ne fun z => n (by rw [← z]; exact ha)]; exact e⟩
  · by_cases e : a = p
    · exact ⟨⟨o, by rw [e, upd_same]⟩, (r.hdn a ha).2⟩
    · obtain ⟨⟨u, q⟩, m⟩ := r.hdn a ha
      exact ⟨⟨u, by rw [upd_ne e]; exact q⟩, m⟩
  · rw [hide_hd h]
    exact (r.ok k a c hk hc).mono (Le.refl _) (Pre.refl _) (upd_ne fun z => n (by rw [← z]; exact List.mem_of_getElem? hk))
/-- the list is done: it stands with the rest -/
theorem undone {T : Txt} {xp : XT} {ι1 ι : Io} {s1 st : Store} {H1 H : Hp} {p : Addr} {acc : List V} {ys : List D} (r1 : RelSt T xp ι1 s1 H1) (hp : H1 p = none) (s : Step (ι1.under p) s1 (upd H1 p (.lst [])) ι st (upd H p (.lst []))) (r : RelSt T xp ι st H) (hH : H p = some (.lst acc))
    (ra : RepL T xp (hide ι st H) ι acc ys) : RelSt T xp ⟨ι.ad, ι1.hd⟩ st H ∧ Step ι1 s1 H1 ⟨ι.ad, ι1.hd⟩ st H ∧ Rep T xp (hide ⟨ι.ad, ι1.hd⟩ st H) ⟨ι.ad, ι1.hd⟩ (.ref p) (.lst ys) := by
  have hm := Io.under_hd s.pre
  have hhd : ι.hd = p :: ι1.hd := s.pre.hd
  have nad := (r.hdn p hm).2
  have n1 : p ∉ ι1.hd := r1.neh hp
  have hl : Le (hide ι st H) (hide ⟨ι.ad, ι1.hd⟩ st H) := fun a u h => by
    have hn := hide_at h
    rw [hide_no]
    · exact hide_sub h
    · intro z
      apply hn
      unfold hidden at z ⊢
      rw [Bool.or_eq_true] at z ⊢
      rcases z with z | z
      · exact .inl z
      · refine .inr ?_
        rw [hhd]
        simp only [decide_eq_true_eq] at z ⊢
        exact List.mem_cons_of_mem _ z
  have hpv : hide ⟨ι.ad, ι1.hd⟩ st H p = some (.lst acc) := by
    rw [hide_no]
    · exact hH
    · unfold hidden
      rw [Bool.or_eq_true]
      rintro (z | z)
      · exact nad (live_mem (ι := ι) z)
      · exact n1 (of_decide_eq_true z)
  have hx := s.ex
  rw [hide_under hp, hide_hd hm] at hx
  refine ⟨⟨r.len, r.nd, r.there, fun a ha => r.hdn a (by rw [hhd]; exact List.mem_cons_of_mem _ ha), fun k a c hk hc => ?_⟩, ⟨⟨s.pre.ad, rfl⟩, hx.trans hl, fun a ha => ?_⟩, .lst hpv ?_⟩
  · have q := r.ok k a c hk hc
    cases c with
    | lst ds =>
      obtain ⟨xs, h1, h2⟩ := q
      exact ⟨xs, h1, RepL.monoA (ι := ι) (ι' := ⟨ι.ad, ι1.hd⟩) hl (fun _ _ e => e) h2⟩
    | ins c ds =>
      obtain ⟨dx, xs, h1, h2, h3⟩ := q
      exact ⟨dx, xs, h1, h2, RepL.monoA (ι := ι) (ι' := ⟨ι.ad, ι1.hd⟩) hl (fun _ _ e => e) h3⟩
    | dic ks ds =>
      obtain ⟨xs, h1, h2, h3⟩ := q
      exact ⟨xs, h1, h2, RepL.monoA (ι := ι) (ι' := ⟨ι.ad, ι1.hd⟩) hl (fun _ _ e => e) h3⟩
    | dead => trivial
  · have ne : a ≠ p := fun e => n1 (e ▸ ha)
    have q := s.hd a (List.mem_cons_of_mem _ ha)
    rw [upd_ne ne, upd_ne ne] at q
    exact q
  · exact RepL.monoA (ι := ι) (ι' := ⟨ι.ad, ι1.hd⟩) hl (fun _ _ e => e) ra
theorem post_noX {α β : Type} {T : Txt} {xp : XT} {W W' : Value → Option Addr → Hp → Prop} {ι : Io} {st : Store} {H : Hp} {R : Hp → Io → β → α → Prop} {Q : β → Hp → Prop} {m : Res α} (h : Post T xp W ι st H R Q (noX m)) : Post T xp W' ι st H R Q m := by
  cases m with
  | ok a s => exact h
  | _ => exact h.elim
section
variable {C : Ctx} {g : TG} {gd : GD} {is : List Nat} {t : DT} {e : DE} {vs : List Nat}
/-- one turn of a comprehension -/
theorem leftC_turn {W : Value → Option Addr → Hp → Prop} {Q : VK} {ds : List D} {ι1 : Io} {s1 : Store} {H1 : Hp} {p : Addr} {i : Nat} {H : Hp} {x : V} {d : D} {ρ : Rho} {σ : L2.St} (hd : TgD C.T C.T.K g gd is) (hv : ∀ j ∈ is, j ∈ vs) (hz : i < 100000) (er : EnvR C.T C.xp (hide ι1 s1 H1) ι1 ρ σ) (hp : H1 p = none)
    (hx : ds[i]? = some d) (hr : Rep C.T C.xp (hide ι1 s1 H1) ι1 x d) (h : LeftC C.T C.xp W Q gd t e (wipeD ρ vs) ds ι1 s1 H1 p i H) :
    g x (wipe σ vs) H fun σ2 H2 => wipe σ2 vs = wipe σ vs ∧ tDT C.T C.xp (fun _ _ _ _ => False) t σ2 H2 fun b H3 => if b = true then tD C.T C.xp (fun _ _ _ _ => False) e σ2 H3 fun y H4 => ∃ acc, H4 p = some (.lst acc) ∧ acc.length < sizeLine ∧
      LeftC C.T C.xp W Q gd t e (wipeD ρ vs) ds ι1 s1 H1 p (i + 1) (upd H4 p (.lst (acc ++ [y]))) else LeftC C.T C.xp W Q gd t e (wipeD ρ vs) ds ι1 s1 H1 p (i + 1) H3 := by
  obtain ⟨st, ι, acc, ys, s, rl, hH, ra, hly, q⟩ := h
  rw [drop_at hx] at q
  unfold lcL at q
  have hm := Io.under_hd s.pre
  have hx1 := s.ex
  rw [hide_under hp, hide_hd hm] at hx1
  have padA : ∀ (k : Nat) (a : Addr), ι1.ad[k]? = some a → ι.ad[k]? = some a := s.pre.ad
  have er' : EnvR C.T C.xp (hide ι st H) ι (wipeD ρ vs) (wipe σ vs) := by
    have w := er.wipe vs
    exact ⟨w.len, fun j y hy => let ⟨v, a, b⟩ := w.at_ j y hy; ⟨v, a, b.monoA hx1 padA⟩⟩
  cases hg : gd d (wipeD ρ vs) with
  | none =>
    rw [hg] at q
    exact q.elim
  | some ρ' =>
    rw [hg] at q
    refine hd.ok _ _ _ _ _ _ _ _ _ _ er' (hr.monoA hx1 padA) hg fun σ' er2 hw => ⟨?_, ρ', st, ι, er2, rl, ?_⟩
    · rw [hw vs hv]
      have idem : ∀ (ws : List Nat) (τ : L2.St), (∀ w ∈ ws, w ∈ vs) → wipe (wipe τ ws) vs = wipe τ vs := by
        intro ws
        induction ws with
        | nil => intro τ _; rfl
        | cons w ws ih =>
          intro τ hws
          show wipe ((wipe τ ws).set w none) vs = wipe τ vs
          rw [wipe_set (hws w List.mem_cons_self), ih τ fun z hz => hws z (List.mem_cons_of_mem _ hz)]
      exact idem vs σ fun _ z => z
    · cases ht : t ρ' st with
      | bad => simp only [ht, noX] at q; exact q.elim
      | exc c es s2 => simp only [ht, noX] at q; exact q.elim
      | ok b s2 =>
        simp only [ht, noX, bind_ok] at q
        intro b' ι2 H2 st2 rl2 eb
        have eb' : b' = b := eb
        subst eb'
        have hm2 : p ∈ ι2.hd := by rw [st2.pre.hd]; exact hm
        have hp2 : H2 p = some (.lst acc) := (st2.hd p hm).trans hH
        have ra2 := ra.mono st2.ex st2.pre
        have sU : ∀ {ιa ιb : Io} {sa sb : Store} {Ha Hb : Hp}, p ∈ ιa.hd → Step ιa sa Ha ιb sb Hb → Step ιa sa (upd Ha p (.lst [])) ιb sb (upd Hb p (.lst [])) := by
          intro ιa ιb sa sb Ha Hb ha z
          have hb : p ∈ ιb.hd := by rw [z.pre.hd]; exact ha
          refine ⟨z.pre, by rw [hide_hd ha, hide_hd hb]; exact z.ex, fun a h => ?_⟩
          by_cases ea : a = p
          · rw [ea, upd_same, upd_same]
          · rw [upd_ne ea, upd_ne ea]
            exact z.hd a h
        cases b' with
        | false => exact iteF ⟨s2, ι2, acc, ys, s.trans (sU hm st2), rl2, hp2, ra2, Nat.le_succ_of_le hly, q⟩
        | true =>
          refine iteT ⟨ρ', s2, ι2, er2.step st2, rl2, ?_⟩
          cases he : e ρ' s2 with
          | bad => simp only [he, noX] at q; exact q.elim
          | exc c es s3 => simp only [he, noX] at q; exact q.elim
          | ok y s3 =>
            simp only [he, noX, bind_ok] at q
            intro v ι3 H3 st3 rl3 rv
            have hm3 : p ∈ ι3.hd := by rw [st3.pre.hd]; exact hm2
            have hp3 : H3 p = some (.lst acc) := (st3.hd p hm2).trans hp2
            have ra3 := ra2.mono st3.ex st3.pre
            refine ⟨acc, hp3, line_lt (by rw [ra3.length]; omega), s3, ι3, acc ++ [v], ys ++ [y], ?_, rl3.hdw hm3 _, upd_same, ?_, by rw [List.length_append]; exact Nat.succ_le_succ hly, ?_⟩
            · rw [upd_upd]
              exact (s.trans (sU hm st2)).trans (sU hm2 st3)
            · rw [hide_hd hm3]
              exact ra3.append (.cons rv .nil)
            · cases hL : lcL gd t e (wipeD ρ vs) (ds.drop (i + 1)) s3 with
              | ok zs s4 =>
                simp only [hL, bind_ok] at q ⊢
                rw [List.append_assoc]
                exact q
              | exc c es s4 => simp only [hL, bind_exc] at q ⊢; exact q
              | bad => simp only [hL, bind_bad] at q ⊢; exact q
theorem leftC_start {W : Value → Option Addr → Hp → Prop} {Q : VK} {ds : List D} {ι1 : Io} {s1 : Store} {H1 : Hp} {p : Addr} {ρ : Rho} (rl : RelSt C.T C.xp ι1 s1 H1) (hp : H1 p = none) (q : Post C.T C.xp W ι1 s1 H1 (Rep C.T C.xp) Q (lcEnd (lcL gd t e ρ ds s1))) :
    LeftC C.T C.xp W Q gd t e ρ ds ι1 s1 H1 p 0 (upd H1 p (.lst [])) := by
  refine ⟨s1, ι1.under p, [], [], ?_, rl.under hp, upd_same, .nil, Nat.le_refl _, ?_⟩
  · rw [upd_upd]
    exact Step.refl _ _ _
  · show Post _ _ _ _ _ _ _ _ (lcEnd ((lcL gd t e ρ ds s1).bind fun zs s2 => .ok zs s2))
    cases hL : lcL gd t e ρ ds s1 with
    | ok zs s4 => rw [hL] at q; exact q
    | exc c es s4 => rw [hL] at q; exact q
    | bad => rw [hL] at q; exact q
theorem leftC_end {W : Value → Option Addr → Hp → Prop} {Q : VK} {ds : List D} {ι1 : Io} {s1 : Store} {H1 : Hp} {p : Addr} {ρ : Rho} {i : Nat} {H : Hp} (rl : RelSt C.T C.xp ι1 s1 H1) (hp : H1 p = none) (hi : ds.length ≤ i) (h : LeftC C.T C.xp W Q gd t e ρ ds ι1 s1 H1 p i H) : Q (.ref p) H := by
  obtain ⟨st, ι, acc, ys, s, r, hH, ra, hly, q⟩ := h
  rw [List.drop_eq_nil_of_le hi] at q
  unfold lcL at q
  simp only [bind_ok, List.append_nil] at q
  unfold lcEnd at q
  simp only [bind_ok] at q
  split at q
  · obtain ⟨r', s', rr⟩ := undone rl hp s r hH ra
    exact q _ _ _ s' r' rr
  · exact q.elim
end
end Den

set_option maxRecDepth 100000
set_option maxHeartbeats 4000000
/-! Den: list comprehensions, the rules. -/
namespace Den
open PySem PySem.Spec PyProof.Rows L2
abbrev Ctx.blk (C : Ctx) (s : Shared) (H : Hp) (scope : Scope) (c : Addr) (cl : List (Str × Addr)) (fp : List Addr) : Ctx := ⟨C.X.blk s H scope (compEnvC scope cl c C.X.env) fp, C.T, C.xp, fun _ _ _ _ => False, C.hK⟩
abbrev PDTs (C : Ctx) (ifs : List Expr) (t : DT) : Prop := PTs C.X ifs (tDT C.T C.xp C.W t)
section
variable {C : Ctx} {g : TG} {gd : GD} {is : List Nat} {t : DT} {e : DE} {elt tg iter : Expr} {ifs : List Expr} {scope : Scope} {own : List (Str × Nat)} {pos : Pos} {mi : DE} {ma : DA}
theorem pdts_nil : PDTs C [] tYesD := by
  refine ⟨fun pins s σ H Q I ⟨ρ, st, ι, er, rl, p⟩ => pts_nil.run pins s σ H Q I ?_⟩
  exact p true ι H (Step.refl _ _ _) rl rfl
theorem pdts_one {c : Expr} (h : PDT C c t) : PDTs C [c] t := pts_one h
theorem leftC_sq {W : Value → Option Addr → Hp → Prop} {Q : VK} {ds : List D} {ι1 : Io} {s1 : Store} {H1 : Hp} {p : Addr} {i : Nat} {H : Hp} {ρ : Rho} (hp : H1 p = none) (h : LeftC C.T C.xp W Q gd t e ρ ds ι1 s1 H1 p i H) : Le (hide ι1 s1 H1) H := by
  obtain ⟨st, ι, acc, ys, s, rl, hH, ra, hly, q⟩ := h
  have hm := Io.under_hd s.pre
  have hx1 := s.ex
  rw [hide_under hp, hide_hd hm] at hx1
  exact hx1.trans (hide_le _ _ _)
theorem pd_lcL (hc : C.X.calm = true) (hN : C.X.N.Nodup) (hi : PD C iter mi) (ok : BlkOk C.X.N C.X.env.scope scope own) (hg : ∀ s H c cl fp, PG (C.blk s H scope c cl fp).X tg g) (hd : TgD C.T C.T.K g gd is) (hv : ∀ j ∈ is, j ∈ own.map (·.2))
    (ht : ∀ s H c cl fp, PDTs (C.blk s H scope c cl fp) ifs t) (he : ∀ s H c cl fp, PD (C.blk s H scope c cl fp) elt e) (hs : ∀ x, foldedSetIterable iter C.X.env x = pure x := by intro _; rfl) :
    PD C (.ListComp elt [⟨tg, iter, ifs, 0⟩] scope pos) (dLcL mi gd t e (own.map (·.2))) :=
  PE.imp (pe_lc hc hN (pi_list hi) ok hg ht he hs) fun σ H Q ⟨ρ, st, ι, er, rl, p⟩ => by
    refine ⟨ρ, st, ι, er, rl, post_bind p fun d s1 v ι1 H1 st1 rl1 rv p1 => ?_⟩
    rw [C.hK]
    have er1 := er.step st1
    have key : ∀ a xs ds, SqL C.T.K (hide ι1 s1 H1) a xs → RepL C.T C.xp (hide ι1 s1 H1) ι1 xs ds → ds.length ≤ 100000 → Post C.T C.xp (fun c d H => C.W c d σ H) ι1 s1 H1 (Rep C.T C.xp) Q (lcEnd (lcL gd t e (wipeD ρ (own.map (·.2))) ds s1)) →
        ∀ D, H1 D = none → ∃ W' : Nat → Nat → Hp → Prop, (∃ m, W' 0 m (upd H1 D (.lst []))) ∧ ∀ i m H, W' i m H → ((Itl C.T.K a).stop i H ∧ Q (.ref D) H) ∨ ((Itl C.T.K a).go i H ∧ ∃ Nx : Hp → Prop, (∀ H', Nx H' → ∃ m', m' < m ∧ W' (i + 1) m' H') ∧
          ∀ x H', (Itl C.T.K a).yld i H x H' → g x (L2.wipe σ (own.map (·.2))) H' fun σ2 H2 => L2.wipe σ2 (own.map (·.2)) = L2.wipe σ (own.map (·.2)) ∧ tDT C.T C.xp (fun _ _ _ _ => False) t σ2 H2 fun b H3 =>
            if b = true then tD C.T C.xp (fun _ _ _ _ => False) e σ2 H3 fun y H4 => ∃ acc, H4 D = some (.lst acc) ∧ acc.length < sizeLine ∧ Nx (upd H4 D (.lst (acc ++ [y]))) else Nx H3) := by
      intro a xs ds hsq rs hl q D hD
      refine lc_list (K := C.T.K) (a := a) (xs := xs) (LeftC C.T C.xp (fun c d H => C.W c d σ H) Q gd t e (wipeD ρ (own.map (·.2))) ds ι1 s1 H1 D) (leftC_start rl1 hD q) (fun i H' _ hL => le_l (leftC_sq hD hL) hsq) (fun i x H' hx hL => ?_) fun H' hL => leftC_end rl1 hD (by rw [rs.length]; exact Nat.le_refl _) hL
      obtain ⟨y, hy, ry⟩ := rs.getV hx
      have hlt : i < ds.length := (List.getElem?_eq_some_iff.mp hy).1
      exact leftC_turn hd hv (by omega) er1 hD hy ry hL
    cases rv with
    | lst h1 r1 =>
      dsimp only at p1
      split at p1
      · rename_i hl
        exact ⟨_, rfl, ⟨_, SqL.of (hide_sub h1)⟩, key _ _ _ (SqL.of h1) r1 hl p1⟩
      · exact p1.elim
    | ro h1 r1 =>
      dsimp only at p1
      split at p1
      · rename_i hl
        exact ⟨_, rfl, ⟨_, le_l (hide_le _ _ _) h1⟩, key _ _ _ h1 r1 hl p1⟩
      · exact p1.elim
    | _ => exact p1.elim
theorem pd_lcT (hc : C.X.calm = true) (hN : C.X.N.Nodup) (hi : PD C iter mi) (ok : BlkOk C.X.N C.X.env.scope scope own) (hg : ∀ s H c cl fp, PG (C.blk s H scope c cl fp).X tg g) (hd : TgD C.T C.T.K g gd is) (hv : ∀ j ∈ is, j ∈ own.map (·.2))
    (ht : ∀ s H c cl fp, PDTs (C.blk s H scope c cl fp) ifs t) (he : ∀ s H c cl fp, PD (C.blk s H scope c cl fp) elt e) (hs : ∀ x, foldedSetIterable iter C.X.env x = pure x := by intro _; rfl) :
    PD C (.ListComp elt [⟨tg, iter, ifs, 0⟩] scope pos) (dLcT mi gd t e (own.map (·.2))) :=
  PE.imp (pe_lc hc hN (pi_tup hi) ok hg ht he hs) fun σ H Q ⟨ρ, st, ι, er, rl, p⟩ => by
    refine ⟨ρ, st, ι, er, rl, post_bind p fun d s1 v ι1 H1 st1 rl1 rv p1 => ?_⟩
    rw [C.hK]
    have er1 := er.step st1
    cases rv with
    | @tup a xs ds h1 rs =>
      dsimp only at p1
      split at p1
      · rename_i hl
        refine ⟨_, rfl, ⟨_, le_t (hide_le _ _ _) h1⟩, fun D hD => ?_⟩
        refine lc_tup (K := C.T.K) (a := a) (xs := xs) (LeftC C.T C.xp (fun c d H => C.W c d σ H) Q gd t e (wipeD ρ (own.map (·.2))) ds ι1 s1 H1 D) (leftC_start rl1 hD p1) (fun i H' _ hL => le_t (leftC_sq hD hL) h1) (fun i x H' hx hL => ?_) fun H' hL => leftC_end rl1 hD (by rw [rs.length]; exact Nat.le_refl _) hL
        obtain ⟨y, hy, ry⟩ := rs.getV hx
        have hlt : i < ds.length := (List.getElem?_eq_some_iff.mp hy).1
        exact leftC_turn hd hv (by omega) er1 hD hy ry hL
      · exact p1.elim
    | _ => exact p1.elim
theorem lc_rangeD {Q : VK} {ι1 : Io} {s1 : Store} {H1 : Hp} {ρ : Rho} {σ : L2.St} {lo : Int} {n : Nat} (hd : TgD C.T C.T.K g gd is) (hv : ∀ j ∈ is, j ∈ own.map (·.2)) (er1 : EnvR C.T C.xp (hide ι1 s1 H1) ι1 ρ σ) (rl1 : RelSt C.T C.xp ι1 s1 H1) (hl : n ≤ 100000)
    (q : Post C.T C.xp (fun c d H => C.W c d σ H) ι1 s1 H1 (Rep C.T C.xp) Q (lcEnd (lcL gd t e (wipeD ρ (own.map (·.2))) (rangeD lo n) s1))) :
    ∀ D, H1 D = none → ∃ W' : Nat → Nat → Hp → Prop, (∃ m, W' 0 m (upd H1 D (.lst []))) ∧ ∀ i m H, W' i m H → ((Itr lo n).stop i H ∧ Q (.ref D) H) ∨ ((Itr lo n).go i H ∧ ∃ Nx : Hp → Prop, (∀ H', Nx H' → ∃ m', m' < m ∧ W' (i + 1) m' H') ∧
      ∀ x H', (Itr lo n).yld i H x H' → g x (L2.wipe σ (own.map (·.2))) H' fun σ2 H2 => L2.wipe σ2 (own.map (·.2)) = L2.wipe σ (own.map (·.2)) ∧ tDT C.T C.xp (fun _ _ _ _ => False) t σ2 H2 fun b H3 =>
        if b = true then tD C.T C.xp (fun _ _ _ _ => False) e σ2 H3 fun y H4 => ∃ acc, H4 D = some (.lst acc) ∧ acc.length < sizeLine ∧ Nx (upd H4 D (.lst (acc ++ [y]))) else Nx H3) := by
  intro D hD
  exact lc_range (lo := lo) (n := n) (LeftC C.T C.xp (fun c d H => C.W c d σ H) Q gd t e (wipeD ρ (own.map (·.2))) (rangeD lo n) ι1 s1 H1 D) (leftC_start rl1 hD q) (fun i H' hi hL => leftC_turn hd hv (by omega) er1 hD (range_at hi) (.int _) hL)
    fun H' hL => leftC_end rl1 hD (by rw [range_len]; exact Nat.le_refl _) hL
theorem pd_lcR1 {a : Expr} {p pos' : Pos} (hc : C.X.calm = true) (hN : C.X.N.Nodup) (hgl : Gl C.X "range") (hm : C.X.mg "range" = none) (ha : PDA C [a] ma) (ok : BlkOk C.X.N C.X.env.scope scope own) (hg : ∀ s H c cl fp, PG (C.blk s H scope c cl fp).X tg g) (hd : TgD C.T C.T.K g gd is)
    (hv : ∀ j ∈ is, j ∈ own.map (·.2)) (ht : ∀ s H c cl fp, PDTs (C.blk s H scope c cl fp) ifs t) (he : ∀ s H c cl fp, PD (C.blk s H scope c cl fp) elt e) (hst : starEach [a] C.X.env = [(false, eval a C.X.env)] := by rfl)
    (hs : ∀ x, foldedSetIterable (.Call (.Name "range" p) [a] [] pos') C.X.env x = pure x := by intro _; rfl) : PD C (.ListComp elt [⟨tg, .Call (.Name "range" p) [a] [] pos', ifs, 0⟩] scope pos) (dLcR1 ma gd t e (own.map (·.2))) :=
  PE.imp (pe_lc hc hN (pi_range1 hgl hm ha hst) ok hg ht he hs) fun σ H Q ⟨ρ, st, ι, er, rl, p⟩ => by
    refine ⟨ρ, st, ι, er, rl, post_bind p fun ds s1 vs ι1 H1 st1 rl1 rv p1 => ?_⟩
    split at p1
    · rename_i j
      split at p1
      · rename_i hj
        obtain ⟨v, rfl, r1⟩ := repL_one rv
        cases r1
        exact ⟨j, rfl, hj.1.1, hj.1.2, lc_rangeD hd hv (er.step st1) rl1 (by omega) p1⟩
      · exact p1.elim
    · exact p1.elim
theorem pd_lcR2 {a b : Expr} {p pos' : Pos} (hc : C.X.calm = true) (hN : C.X.N.Nodup) (hgl : Gl C.X "range") (hm : C.X.mg "range" = none) (ha : PDA C [a, b] ma) (ok : BlkOk C.X.N C.X.env.scope scope own) (hg : ∀ s H c cl fp, PG (C.blk s H scope c cl fp).X tg g) (hd : TgD C.T C.T.K g gd is)
    (hv : ∀ j ∈ is, j ∈ own.map (·.2)) (ht : ∀ s H c cl fp, PDTs (C.blk s H scope c cl fp) ifs t) (he : ∀ s H c cl fp, PD (C.blk s H scope c cl fp) elt e) (hst : starEach [a, b] C.X.env = [(false, eval a C.X.env), (false, eval b C.X.env)] := by rfl) (hst2 : starEach [b] C.X.env = [(false, eval b C.X.env)] := by rfl)
    (hs : ∀ x, foldedSetIterable (.Call (.Name "range" p) [a, b] [] pos') C.X.env x = pure x := by intro _; rfl) : PD C (.ListComp elt [⟨tg, .Call (.Name "range" p) [a, b] [] pos', ifs, 0⟩] scope pos) (dLcR2 ma gd t e (own.map (·.2))) :=
  PE.imp (pe_lc hc hN (pi_range2 hgl hm ha hst hst2) ok hg ht he hs) fun σ H Q ⟨ρ, st, ι, er, rl, p⟩ => by
    refine ⟨ρ, st, ι, er, rl, post_bind p fun ds s1 vs ι1 H1 st1 rl1 rv p1 => ?_⟩
    split at p1
    · rename_i i j
      split at p1
      · rename_i hj
        have ev := repL_ints rv
        subst ev
        exact ⟨i, j, rfl, ⟨hj.1.1, hj.1.2, hj.2.1.1, hj.2.1.2⟩, lc_rangeD hd hv (er.step st1) rl1 (by omega) p1⟩
      · exact p1.elim
    · exact p1.elim
end
end Den

set_option maxRecDepth 100000
set_option maxHeartbeats 4000000
/-! Den: isinstance, repr. -/
namespace Den
open PySem PySem.Spec PyProof.Rows L2

/-! ### isinstance -/
inductive Tag where
  | ty (n : String)
  | ow (c : Nat)
  deriving DecidableEq
def tagV (T : Txt) : Tag → Value
  | .ty n => .type n
  | .ow c => .ref (T.ca c)
/-- the text's classes: who is a kind of whom -/
def IsT (T : Txt) (isT : Tag → Tag → Option Bool) : Prop := ∀ t c b, isT t c = some b → PySem.W.kitOne T.K (tagV T t) (tagV T c) = some b
/-- a class whose instances isinstance asks plainly -/
structure ClsI (T : Txt) (c : Nat) : Prop where
  d : ClsD T c
  ha : PySem.W.findIn T.K (.ref (T.ca c)) "__class__" = some (some (.builtin "object.__class__"))
  hn : PySem.W.specialIn T.K (.builtin "object.__class__") "__get__" = some (some (.builtin "getset_descriptor.__get__"))
  ht : PySem.W.takesIn T.K (.builtin "object.__class__") = some true
  hm : PySem.W.mroIn T.K (T.ca c) (.type "object") = some true
def tagD (own : List Nat) (d : D) (st : Store) : Option Tag := match d with
  | .non => some (.ty "NoneType")
  | .bl _ => some (.ty "bool")
  | .int _ => some (.ty "int")
  | .str _ => some (.ty "str")
  | .lst _ => some (.ty "list")
  | .tup _ => some (.ty "tuple")
  | .dic _ _ => some (.ty "dict")
  | .ins c _ => if own.contains c = true then some (.ow c) else none
  | .box k => match st[k]? with
    | some (.lst _) => some (.ty "list")
    | some (.dic _ _) => some (.ty "dict")
    | some (.ins c _) => if own.contains c = true then some (.ow c) else none
    | _ => none
  | _ => none
def clsA : D → Option Tag
  | .ty n => some (.ty n)
  | .cl i => some (.ow i)
  | _ => none
theorem clsA_rep {T : Txt} {xp : XT} {G : Hp} {ι : Io} {v : V} {d : D} {t : Tag} (r : Rep T xp G ι v d) (h : clsA d = some t) : ClsV v (tagV T t) := by
  cases r with
  | ty n => cases h; exact .ty n
  | cl i => cases h; exact .own _
  | _ => cases h
theorem tup_k {T : Txt} {H : Hp} {a : Addr} {xs : List V} (h : SqT T.K H a xs) : TyX T.K H (.ref a) (.type "tuple") := by
  rcases h with (h | ⟨o, h⟩) | ⟨o, its, n, hk, hc, _⟩
  · exact .base (.tup h)
  · exact .fTuple h
  · exact .kTuple hk hc
theorem tagD_rep {T : Txt} {xp : XT} {own : List Nat} {ι : Io} {st : Store} {H : Hp} {v : V} {d : D} {t : Tag} (ho : ∀ c ∈ own, ClsI T c) (rl : RelSt T xp ι st H) (r : Rep T xp (hide ι st H) ι v d) (h : tagD own d st = some t) : TyX T.K H v (tagV T t) := by
  cases r with
  | non => cases h; exact .base .non
  | bl b => cases h; exact .base (.bl b)
  | int i => cases h; exact .base (.int i)
  | str x => cases h; exact .base (.str x)
  | lst h1 h2 => cases h; exact .base (.lst (hide_sub h1))
  | tup h1 h2 => cases h; exact tup_k (le_t (hide_le _ _ _) h1)
  | dic h1 h2 h3 => cases h; exact .fDict (hide_sub h1)
  | ins h1 h2 h3 =>
    unfold tagD at h
    dsimp only at h
    split at h
    · rename_i hc
      cases h
      have c := ho _ (by simpa using hc)
      exact .base (.ins (hide_sub h1) c.d.cl c.ha c.hn c.ht c.hm)
    · cases h
  | box hk =>
    unfold tagD at h
    dsimp only at h
    split at h
    · rename_i xs hs
      cases h
      obtain ⟨ys, h1, h2⟩ := rl.ok _ _ _ hk hs
      exact .base (.lst h1)
    · rename_i ks xs hs
      cases h
      obtain ⟨ys, h1, h2, h3⟩ := rl.ok _ _ _ hk hs
      exact .base (.dK h1)
    · rename_i c xs hs
      split at h
      · rename_i hc
        cases h
        have c := ho _ (by simpa using hc)
        obtain ⟨dx, ys, h1, h2, h3⟩ := rl.ok _ _ _ hk hs
        exact .base (.ins h1 c.d.cl c.ha c.hn c.ht c.hm)
      · cases h
    · cases h
  | _ => cases h
def bIsi (own : List Nat) (isT : Tag → Tag → Option Bool) : FB := fun ds st => match ds with
  | [x, c] => match tagD own x st, clsA c with
    | some t, some u => (isT t u).map fun b => (.bl b, st)
    | _, _ => none
  | _ => none
section
variable {C : Ctx}
theorem repL_two {T : Txt} {xp : XT} {G : Hp} {ι : Io} {xs : List V} {x y : D} (r : RepL T xp G ι xs [x, y]) : ∃ v w, xs = [v, w] ∧ Rep T xp G ι v x ∧ Rep T xp G ι w y := by
  cases r with
  | cons r1 r2 =>
    obtain ⟨w, rfl, r3⟩ := repL_one r2
    exact ⟨_, w, rfl, r1, r3⟩
theorem blt_isi {own : List Nat} {isT : Tag → Tag → Option Bool} (ho : ∀ c ∈ own, ClsI C.T c) (hi : IsT C.T isT) : BltD C "isinstance" (bIsi own isT) := ⟨_, call_isi, fun ι st H xs ds d st' Q rl rx e k => by
  unfold bIsi at e
  split at e
  · rename_i x c
    split at e
    · rename_i t u h1 h2
      obtain ⟨b, hb, e'⟩ := Option.map_eq_some_iff.mp e
      cases e'
      obtain ⟨v, w, rfl, rv, rw'⟩ := repL_two rx
      refine ⟨v, w, tagV C.T t, tagV C.T u, b, rfl, clsA_rep rw' h2, ?_, ?_, k _ ι H (Step.refl _ _ _) rl (.bl b)⟩
      · rw [C.hK]; exact tagD_rep ho rl rv h1
      · rw [C.hK]; exact hi t u b hb
    · cases e
  · cases e⟩
end

/-! ### repr of plain data -/
def keyD : Key → PyData
  | .inl i => .int i
  | .inr x => .str x
mutual
def toPyR : D → Option PyData
  | .non => some .none
  | .bl b => some (.bool b)
  | .int i => some (.int i)
  | .str x => some (.str x)
  | .lst xs => (toPyRL xs).map .list
  | .ro xs => (toPyRL xs).map .list
  | .tup xs => (toPyRL xs).map .tuple
  | .dic ks xs => if ks.length = xs.length then (toPyRL xs).map fun ps => .dict ((ks.map keyD).zip ps) else none
  | _ => none
def toPyRL : List D → Option (List PyData)
  | [] => some []
  | x :: xs => match toPyR x, toPyRL xs with
    | some p, some ps => some (p :: ps)
    | _, _ => none
end
def NoSys (H : Hp) (as : List Addr) : Prop := sysModules ∉ as
theorem toPyRL_len : ∀ {xs : List D} {ps : List PyData}, toPyRL xs = some ps → ps.length = xs.length
  | [], _, h => by simp only [toPyRL] at h; cases h; rfl
  | x :: xs, ps, h => by
    simp only [toPyRL] at h
    split at h
    · rename_i h1 h2
      cases h
      exact congrArg Nat.succ (toPyRL_len h2)
    · cases h
theorem readsAll_app {h : Heap} : ∀ {vs ws : List Value} {ds es : List PyData} {as bs : List Addr}, ReadsAll h vs ds as → ReadsAll h ws es bs → ReadsAll h (vs ++ ws) (ds ++ es) (as ++ bs)
  | _, _, _, _, _, _, .nil, q => q
  | _, _, _, _, _, _, .cons r rs, q => by
    rw [List.append_assoc]
    exact .cons r (readsAll_app rs q)
theorem reads_key {h : Heap} {k : Key} {u : Value} (e : keyIs k u = true) : Reads h u (keyD k) [] := by
  rcases keyIs_shape e with ⟨i, t, rfl, rfl⟩ | ⟨x, t, rfl, rfl⟩
  · exact .int i t
  · exact .str x t
theorem dict_parts {P : Program} {w : World} {h : Heap} : ∀ {ks : List Key} {xs : List V} {vs : List (Key × Value)} {es : List DictEntry}, ks.length = xs.length → KV (ks.zip xs) vs → Pairs (mixKind P w) es vs →
    Vals xs (es.map (·.val)) ∧ ReadsAll h (es.map (·.key)) (ks.map keyD) []
  | [], [], _, _, _, kv, p => by
    cases kv
    cases p
    exact ⟨.nil, .nil⟩
  | [], _ :: _, _, _, hl, _, _ => by cases hl
  | _ :: _, [], _, _, hl, _, _ => by cases hl
  | k :: ks, x :: xs, vs, es, hl, kv, p => by
    have kv' : Paired (fun (p : Key × V) (q : Key × Value) => p.1 = q.1 ∧ RelV p.2 q.2) ((k, x) :: ks.zip xs) vs := kv
    cases kv' with
    | cons r rs =>
      cases p with
      | @cons e kvx es kvs h1 h2 hp =>
        obtain ⟨a, b⟩ := dict_parts (h := h) (by simpa using hl) rs hp
        obtain ⟨e1, e2⟩ := r
        have e1' : k = _ := e1
        refine ⟨.cons (by show L2.RelV x e.val; rw [h2]; exact e2) a, ?_⟩
        have key : keyIs k e.key = true := by rw [e1']; exact h1
        exact .cons (as := []) (bs := []) (reads_key key) b
section
variable {C : Ctx} {pins : List (Addr × Obj)} {σ : L2.St} {H : Hp} {s : Shared} {ι : Io} {st : Store}
/-- a datum that stands in the heap: it can be read, and it can be shown -/
def Kn (P : Program) (w : World) (h : Heap) (u : Value) (p : PyData) : Prop := (∃ as, Reads h u p as) ∧ ∃ bs, ReadAtMost h p.depth bs ∧ ReprK P w bs h p.depth u p.shown
def KnL (P : Program) (w : World) (h : Heap) (us : List Value) (ps : List PyData) : Prop := (∃ as, ReadsAll h us ps as) ∧ ∃ bs, ReadAtMost h (PyData.depthAll ps) bs ∧ ReprAllK P w bs h (PyData.depthAll ps) us (PyData.shownAll ps)
section
variable {P : Program} {w : World} {h : Heap}
theorem kn_flat {u : Value} {p : PyData} (r : Reads h u p []) (hd : p.hasDict = false) (hs : p.showable = true) (hz : p.shown.length ≤ sizeLine) : Kn P w h u p :=
  ⟨⟨_, r⟩, ReprK.of_reads r hs (fun e => by rw [hd] at e; cases e) hz⟩
theorem knL_nil : KnL P w h [] [] := ⟨⟨_, .nil⟩, [], fun _ z => (nomatch z), by simp only [PyData.shownAll]; exact .nil⟩
theorem knL_cons {u : Value} {us : List Value} {p : PyData} {ps : List PyData} (k : Kn P w h u p) (ks : KnL P w h us ps) : KnL P w h (u :: us) (p :: ps) := by
  obtain ⟨⟨a1, r1⟩, b1, m1, k1⟩ := k
  obtain ⟨⟨a2, r2⟩, b2, m2, k2⟩ := ks
  have d1 : p.depth ≤ PyData.depthAll (p :: ps) := by simp only [PyData.depthAll]; omega
  have d2 : PyData.depthAll ps ≤ PyData.depthAll (p :: ps) := by simp only [PyData.depthAll]; omega
  refine ⟨⟨_, .cons r1 r2⟩, b1 ++ b2, (m1.mono d1).append (m2.mono d2), ?_⟩
  simp only [PyData.shownAll]
  exact .cons ((k1.more fun _ z => List.mem_append_left _ z).level_le d1) (k2.more_le (fun _ z => List.mem_append_right _ z) d2)
theorem kn_list {a : Addr} {o : Obj} {n : Nat} {us : List Value} {ps : List PyData} (ho : h.get? a = some o) (hc : o.cls = .type "list") (hd : o.data = .seq us.toArray n) (k : KnL P w h us ps) : Kn P w h (.ref a) (.list ps) := by
  obtain ⟨⟨as, q⟩, bs, hb, kk⟩ := k
  have r : Reads h (.ref a) (.list ps) _ := .list ho hc hd q
  have out := not_mem_of_deeper r (by simp only [PyData.depth]; omega) hb
  refine ⟨⟨_, r⟩, a :: bs, ReadAtMost.cons r (by simp only [PyData.depth]; omega) hb, ?_⟩
  simp only [PyData.depth, PyData.shown]
  cases us with
  | nil =>
    generalize PyData.shownAll ps = ts at kk
    cases kk
    rw [listText_nil]
    exact ReprK.listEmpty ho hc hd
  | cons y ys => exact ReprK.list ho hc hd out (by simpa using kk.length_eq) fun i z e => kk.item i z (by simpa using e)
theorem kn_tuple {a : Addr} {o : Obj} {n : Nat} {us : List Value} {ps : List PyData} (ho : h.get? a = some o) (hc : o.cls = .type "tuple") (hd : o.data = .seq us.toArray n) (k : KnL P w h us ps) : Kn P w h (.ref a) (.tuple ps) := by
  obtain ⟨⟨as, q⟩, bs, hb, kk⟩ := k
  have r : Reads h (.ref a) (.tuple ps) _ := .tuple ho hc hd q
  have out := not_mem_of_deeper r (by simp only [PyData.depth]; omega) hb
  refine ⟨⟨_, r⟩, a :: bs, ReadAtMost.cons r (by simp only [PyData.depth]; omega) hb, ?_⟩
  simp only [PyData.depth, PyData.shown]
  exact ReprK.tuple ho hc hd out kk
theorem keys_low : ∀ ks : List Key, PyData.hasDictAll (ks.map keyD) = false ∧ PyData.showableAll (ks.map keyD) = PyData.showableAll (ks.map keyD)
  | [] => ⟨rfl, rfl⟩
  | k :: ks => by
    refine ⟨?_, rfl⟩
    have := (keys_low ks).1
    cases k <;> simp only [List.map_cons, PyData.hasDictAll, keyD, PyData.hasDict, this, Bool.or_self]
theorem kn_dict {a : Addr} {o : Obj} {n : Nat} {es : Array DictEntry} {ks : List Key} {ps : List PyData} (ho : h.get? a = some o) (hc : o.cls = .type "dict") (hd : o.data = .dict es n) (na : (a == sysModules) = false) (hl : ks.length = ps.length)
    (hk : ReadsAll h (es.toList.map (·.key)) (ks.map keyD) []) (k : KnL P w h (es.toList.map (·.val)) ps) (hs : PyData.showableAll (ks.map keyD) = true) (hz : ∀ t ∈ PyData.shownAll (ks.map keyD), t.length ≤ sizeLine) : Kn P w h (.ref a) (.dict ((ks.map keyD).zip ps)) := by
  obtain ⟨⟨as, q⟩, bs, hb, kk⟩ := k
  obtain ⟨cs, hb2, k2⟩ := ReprAllK.of_readsAll (prog := P) (w := w) hk hs (fun e => by rw [(keys_low ks).1] at e; cases e) hz
  have lp : (ks.map keyD).length = ps.length := by rw [List.length_map]; exact hl
  have f1 : ((ks.map keyD).zip ps).map (·.1) = ks.map keyD := List.map_fst_zip (Nat.le_of_eq lp)
  have f2 : ((ks.map keyD).zip ps).map (·.2) = ps := List.map_snd_zip (Nat.le_of_eq lp.symm)
  have r : Reads h (.ref a) (.dict ((ks.map keyD).zip ps)) _ := .dict ho hc hd (by rw [f1]; exact hk) (by rw [f2]; exact q)
  have dk := PyData.depthAll_keys_le ((ks.map keyD).zip ps)
  have dv := PyData.depthAll_vals_le ((ks.map keyD).zip ps)
  rw [f1] at dk
  rw [f2] at dv
  have both : ReadAtMost h (PyData.depthKv ((ks.map keyD).zip ps)) (cs ++ bs) := (hb2.mono dk).append (hb.mono dv)
  have out := not_mem_of_deeper r (by simp only [PyData.depth]; omega) both
  refine ⟨⟨_, r⟩, a :: (cs ++ bs), ReadAtMost.cons r (by simp only [PyData.depth]; omega) both, ?_⟩
  simp only [PyData.depth, PyData.shown, PyData.shownKv_eq, f1, f2]
  exact ReprK.dict ho hc hd na out (ReprEntriesK.of_two _ _ _ (k2.more_le (fun _ z => List.mem_append_left _ z) dk) (kk.more_le (fun _ z => List.mem_append_right _ z) dv))
end
def shortD (p : PyData) : Prop := p.showable = true ∧ p.shown.length ≤ sizeLine
def shortL (ps : List PyData) : Prop := PyData.showableAll ps = true ∧ ∀ t ∈ PyData.shownAll ps, t.length ≤ sizeLine
theorem shortL_cons {p : PyData} {ps : List PyData} (h : shortL (p :: ps)) : shortD p ∧ shortL ps := by
  obtain ⟨h1, h2⟩ := h
  simp only [PyData.showableAll, Bool.and_eq_true] at h1
  simp only [PyData.shownAll, List.mem_cons] at h2
  exact ⟨⟨h1.1, h2 _ (.inl rfl)⟩, h1.2, fun t ht => h2 t (.inr ht)⟩
theorem short_list {ps : List PyData} (h : shortD (.list ps)) : shortL ps := by
  obtain ⟨h1, h2⟩ := h
  simp only [PyData.showable] at h1
  simp only [PyData.shown] at h2
  exact ⟨h1, fun t ht => Nat.le_trans (listText_mem_le ht) h2⟩
theorem short_tuple {ps : List PyData} (h : shortD (.tuple ps)) : shortL ps := by
  obtain ⟨h1, h2⟩ := h
  simp only [PyData.showable] at h1
  simp only [PyData.shown] at h2
  exact ⟨h1, fun t ht => Nat.le_trans (tupleText_mem_le ht) h2⟩
theorem short_dict {kvs : List (PyData × PyData)} (h : shortD (.dict kvs)) : shortL (kvs.map (·.1)) ∧ shortL (kvs.map (·.2)) := by
  obtain ⟨h1, h2⟩ := h
  simp only [PyData.showable] at h1
  simp only [PyData.shown] at h2
  obtain ⟨s1, s2⟩ := PyData.showableKv_split kvs h1
  refine ⟨⟨s1, fun t ht => ?_⟩, s2, fun t ht => ?_⟩
  · obtain ⟨p, hp, hl⟩ := PyData.shownKv_key_le kvs t ht
    exact Nat.le_trans hl (Nat.le_trans (dictText_mem_le hp) h2)
  · obtain ⟨p, hp, hl⟩ := PyData.shownKv_val_le kvs t ht
    exact Nat.le_trans hl (Nat.le_trans (dictText_mem_le hp) h2)
mutual
theorem kn_of (I : Inv C.X pins σ H s) (l : Le (hide ι st H) H) : ∀ {v : V} {d : D} {p : PyData} {u : Value}, Rep C.T C.xp (hide ι st H) ι v d → toPyR d = some p → RelV v u → shortD p → Kn C.X.prog C.X.w s.heap u p
  | _, _, _, _, .non, h, r, hs => by simp only [toPyR] at h; cases h; cases r; exact kn_flat .none rfl hs.1 hs.2
  | _, _, _, _, .bl b, h, r, hs => by simp only [toPyR] at h; cases h; cases r; exact kn_flat (.bool b) rfl hs.1 hs.2
  | _, _, _, _, .int i, h, r, hs => by simp only [toPyR] at h; cases h; obtain ⟨t, rfl⟩ := r; exact kn_flat (.int i t) rfl hs.1 hs.2
  | _, _, _, _, .str x, h, r, hs => by simp only [toPyR] at h; cases h; obtain ⟨t, rfl⟩ := r; exact kn_flat (.str x t) rfl hs.1 hs.2
  | _, _, _, _, .lst h1 rr, h, r, hs => by
    simp only [toPyR, Option.map_eq_some_iff] at h
    obtain ⟨ps, h2, rfl⟩ := h
    cases r
    obtain ⟨its, rv, ⟨o, n, ho, hc, _, hd⟩, _⟩ := I.list (SqL.of (l _ _ h1))
    exact kn_list ho hc hd (kn_ofL I l rr h2 rv (short_list hs))
  | _, _, _, _, .ro h1 rr, h, r, hs => by
    simp only [toPyR, Option.map_eq_some_iff] at h
    obtain ⟨ps, h2, rfl⟩ := h
    cases r
    obtain ⟨its, rv, ⟨o, n, ho, hc, _, hd⟩, _⟩ := I.list (C.hK ▸ le_l l h1)
    exact kn_list ho hc hd (kn_ofL I l rr h2 rv (short_list hs))
  | _, _, _, _, .tup h1 rr, h, r, hs => by
    simp only [toPyR, Option.map_eq_some_iff] at h
    obtain ⟨ps, h2, rfl⟩ := h
    cases r
    obtain ⟨its, rv, ⟨o, ho, hc, n, hd⟩, _⟩ := I.tuple (C.hK ▸ le_t l h1)
    exact kn_tuple ho hc hd (kn_ofL I l rr h2 rv (short_tuple hs))
  | _, _, _, _, .dic h1 hl rr, h, r, hs => by
    rename_i ks xs ds
    simp only [toPyR] at h
    split at h
    · obtain ⟨ps, h2, rfl⟩ := Option.map_eq_some_iff.mp h
      cases r
      obtain ⟨_, _, hns, vs, kv, o, es, ep, ho, ex, hd, hk, hp, _⟩ := I.hok _ _ (l _ _ h1)
      obtain ⟨hv, hkeys⟩ := dict_parts (h := s.heap) hl kv hp
      have lp : ks.length = ps.length := by
        rw [toPyRL_len h2, ← rr.length]
        exact hl
      have lq : (ks.map keyD).length = ps.length := by rw [List.length_map]; exact lp
      obtain ⟨s1, s2⟩ := short_dict hs
      rw [List.map_fst_zip (Nat.le_of_eq lq)] at s1
      rw [List.map_snd_zip (Nat.le_of_eq lq.symm)] at s2
      exact kn_dict ho ex.1 hd hns lp hkeys (kn_ofL I l rr h2 hv s2) s1.1 s1.2
    · cases h
  | _, _, _, _, .ty _, h, _, _ => by simp only [toPyR] at h; cases h
  | _, _, _, _, .cl _, h, _, _ => by simp only [toPyR] at h; cases h
  | _, _, _, _, .fn _, h, _, _ => by simp only [toPyR] at h; cases h
  | _, _, _, _, .ins _ _ _, h, _, _ => by simp only [toPyR] at h; cases h
  | _, _, _, _, .exc _ _, h, _, _ => by simp only [toPyR] at h; cases h
  | _, _, _, _, .excd _ _ _ _ _, h, _, _ => by simp only [toPyR] at h; cases h
  | _, _, _, _, .err _ _, h, _, _ => by simp only [toPyR] at h; cases h
  | _, _, _, _, .errd _ _ _ _, h, _, _ => by simp only [toPyR] at h; cases h
  | _, _, _, _, .box _, h, _, _ => by simp only [toPyR] at h; cases h
theorem kn_ofL (I : Inv C.X pins σ H s) (l : Le (hide ι st H) H) : ∀ {v : List V} {d : List D} {ps : List PyData} {us : List Value}, RepL C.T C.xp (hide ι st H) ι v d → toPyRL d = some ps → Vals v us → shortL ps → KnL C.X.prog C.X.w s.heap us ps
  | _, _, _, _, .nil, h, r, _ => by simp only [toPyRL] at h; cases h; cases r; exact knL_nil
  | _, _, _, _, .cons r1 rs, h, r, hs => by
    simp only [toPyRL] at h
    split at h
    · rename_i h1 h2
      cases h
      cases r with
      | cons q1 q2 =>
        obtain ⟨s1, s2⟩ := shortL_cons hs
        exact knL_cons (kn_of I l r1 h1 q1 s1) (kn_ofL I l rs h2 q2 s2)
    · cases h
end
end
section
variable {P : Program} {w : World} {A : Around} {E : Value → Shared → Prop} {s : Shared} {Q : Value → Shared → Prop} {a : Addr} {o : Obj} {n : Nat} {us : List Value} {ps : List PyData}
theorem top_list (ho : s.heap.get? a = some o) (hc : o.cls = .type "list") (hd : o.data = .seq us.toArray n) (k : KnL P w s.heap us ps) (hg : A.guards = some []) (hu : A.units + ((PyData.list ps).depth + 1) < cLine) (hz : (PyData.list ps).shown.length ≤ sizeLine)
    (hQ : ∀ h' u tk, (∀ b o, s.heap.get? b = some o → h'.get? b = some o) → Q (.str (PyData.list ps).shown u) { s with heap := h', toks := tk }) : wpAny (model P w) A (call (.builtin "repr") [.ref a]) Q E s := by
  obtain ⟨⟨as, q⟩, bs, hb, kk⟩ := k
  have r : Reads s.heap (.ref a) (.list ps) _ := .list ho hc hd q
  have out := not_mem_of_deeper r (by simp only [PyData.depth]; omega) hb
  simp only [PyData.depth] at hu
  simp only [PyData.shown] at hz hQ
  refine call_repr_slot (by omega) ⟨o, ho, hc⟩ F.slot_list_repr.toG ?_
  cases us with
  | nil =>
    generalize PyData.shownAll ps = ts at kk hQ
    cases kk
    rw [listText_nil] at hQ
    exact call_list_repr_empty ⟨o, ho, hc⟩ ho hd ⟨_, _, rfl, hQ s.heap _ _ fun _ _ e => e⟩
  | cons y ys => exact call_list_reprK ho hc hd out (by simpa using kk.length_eq) (fun i z e => kk.item i z (by simpa using e)) hg (fun b _ => Clear.nil b) (by show A.units + 1 + _ < cLine; omega) (fun _ _ e => e) (fun h' u tk hk => ⟨_, _, rfl, hQ h' u tk hk⟩) hz
theorem top_tuple (ho : s.heap.get? a = some o) (hc : o.cls = .type "tuple") (hd : o.data = .seq us.toArray n) (k : KnL P w s.heap us ps) (hg : A.guards = some []) (hu : A.units + ((PyData.tuple ps).depth + 1) < cLine) (hz : (PyData.tuple ps).shown.length ≤ sizeLine)
    (hQ : ∀ h' u tk, (∀ b o, s.heap.get? b = some o → h'.get? b = some o) → Q (.str (PyData.tuple ps).shown u) { s with heap := h', toks := tk }) : wpAny (model P w) A (call (.builtin "repr") [.ref a]) Q E s := by
  obtain ⟨⟨as, q⟩, bs, hb, kk⟩ := k
  have r : Reads s.heap (.ref a) (.tuple ps) _ := .tuple ho hc hd q
  have out := not_mem_of_deeper r (by simp only [PyData.depth]; omega) hb
  simp only [PyData.depth] at hu
  simp only [PyData.shown] at hz hQ
  exact call_repr_slot (by omega) ⟨o, ho, hc⟩ F.slot_tuple_repr (call_tuple_reprK ho hc hd out kk hg (fun b _ => Clear.nil b) (by show A.units + 1 + _ < cLine; omega) (fun _ _ e => e) (fun h' u tk hk => ⟨_, _, rfl, hQ h' u tk hk⟩) hz)
end
/-- repr of plain data -/
def isDic : D → Bool
  | .dic _ _ => true
  | _ => false
def gRepr (x : D) (_ : Store) : Option D := if isDic x = true then none else match toPyR x with
  | some p => if p.showable = true ∧ p.depth ≤ 60 ∧ p.shown.length ≤ 1000000 then some (.str p.shown) else none
  | none => none
def rRepr (C : Ctx) : List V → Hp → VK → Prop := fun xs H Q => ∃ ι st v x p, xs = [v] ∧ RelSt C.T C.xp ι st H ∧ Rep C.T C.xp (hide ι st H) ι v x ∧ toPyR x = some p ∧ isDic x = false ∧ p.showable = true ∧ p.depth ≤ 60 ∧ p.shown.length ≤ 1000000 ∧ Q (.str p.shown) H
theorem call_reprD {C : Ctx} (hg : C.X.A.guards = some []) (hu : C.X.A.units + 64 < cLine) : CallR C.X (.builtin "repr") (rRepr C) := by
  intro pins s σ H xs us Q I r h
  obtain ⟨ι, st, v, x, p, rfl, rl, rv, hp, h0, h1, h2, h3, q⟩ := h
  obtain ⟨u, rfl, ru⟩ := vals1 r
  have hsz : p.shown.length ≤ sizeLine := Nat.le_trans h3 (by decide)
  have sd : shortD p := ⟨h1, hsz⟩
  have fin : ∀ h' (u : Tok) tk, (∀ b o, s.heap.get? b = some o → h'.get? b = some o) → EP C.X pins σ Q (.str p.shown u) { s with heap := h', toks := tk } := fun h' u tk hk => ⟨.str _, H, I.kept (t' := tk) hk, ⟨_, rfl⟩, q⟩
  cases rv with
  | non =>
    cases ru
    simp only [toPyR] at hp
    cases hp
    exact PySem.P.repr_of_none ⟨.str _, H, I.tok _, ⟨_, rfl⟩, q⟩
  | bl b =>
    cases ru
    simp only [toPyR] at hp
    cases hp
    exact PySem.P.repr_of_bool ⟨.str _, H, I.tok _, ⟨_, rfl⟩, q⟩
  | int i =>
    obtain ⟨t, rfl⟩ := ru
    simp only [toPyR] at hp
    cases hp
    exact PySem.P.repr_of_int (by simpa [PyData.showable] using h1) ⟨.str _, H, I.tok _, ⟨_, rfl⟩, q⟩
  | str z =>
    obtain ⟨t, rfl⟩ := ru
    simp only [toPyR] at hp
    cases hp
    exact PySem.P.repr_of_str ⟨.str _, H, I.tok _, ⟨_, rfl⟩, q⟩ hsz
  | lst g1 rr =>
    cases ru
    simp only [toPyR, Option.map_eq_some_iff] at hp
    obtain ⟨ps, e2, rfl⟩ := hp
    obtain ⟨its, ri, ⟨o, n, ho, hc, _, hd⟩, _⟩ := I.list (SqL.of (hide_le _ _ _ _ _ g1))
    exact top_list ho hc hd (kn_ofL I (hide_le _ _ _) rr e2 ri (short_list sd)) hg (by omega) hsz fin
  | ro g1 rr =>
    cases ru
    simp only [toPyR, Option.map_eq_some_iff] at hp
    obtain ⟨ps, e2, rfl⟩ := hp
    obtain ⟨its, ri, ⟨o, n, ho, hc, _, hd⟩, _⟩ := I.list (C.hK ▸ le_l (hide_le _ _ _) g1)
    exact top_list ho hc hd (kn_ofL I (hide_le _ _ _) rr e2 ri (short_list sd)) hg (by omega) hsz fin
  | tup g1 rr =>
    cases ru
    simp only [toPyR, Option.map_eq_some_iff] at hp
    obtain ⟨ps, e2, rfl⟩ := hp
    obtain ⟨its, ri, ⟨o, ho, hc, n, hd⟩, _⟩ := I.tuple (C.hK ▸ le_t (hide_le _ _ _) g1)
    exact top_tuple ho hc hd (kn_ofL I (hide_le _ _ _) rr e2 ri (short_tuple sd)) hg (by omega) hsz fin
  | dic _ _ _ => cases h0
  | _ => exact absurd hp (by simp [toPyR])
theorem blt_repr {C : Ctx} (hg : C.X.A.guards = some []) (hu : C.X.A.units + 64 < cLine) : BltD C "repr" (one gRepr) := ⟨_, call_reprD hg hu, fun ι st H xs ds d st' Q rl rx e k => by
  obtain ⟨x, rfl, hgr, rfl⟩ := one_some e
  obtain ⟨v, rfl, rv⟩ := repL_one rx
  unfold gRepr at hgr
  split at hgr
  · cases hgr
  · rename_i h0
    split at hgr
    · rename_i p hp
      split at hgr
      · rename_i hc
        cases hgr
        exact ⟨ι, _, v, x, p, rfl, rl, rv, hp, by simpa using h0, hc.1, hc.2.1, hc.2.2, k _ ι H (Step.refl _ _ _) rl (.str _)⟩
      · cases hgr
    · cases hgr⟩
end Den

set_option maxRecDepth 100000
set_option maxHeartbeats 4000000
/-! Den: raise, try, what a suite calls. -/
namespace Den
open PySem PySem.Spec PyProof.Rows L2

/-! ### raise X(), no __init__ -/
/-- an own class of errors that is made with nothing -/
structure ExcK (T : Txt) (c : Nat) : Prop where
  q : PySem.W.excIn T.K (T.ca c) [.type "ValueError", .type "Exception", .type "BaseException", .type "object"] "ValueError.__new__" = true
  kp : PySem.W.keepIn T.K (.ref (T.ca c)) = true
  r1 : PySem.W.subIn T.K (.ref (T.ca c)) (.type "BaseException") = some true
  r2 : PySem.W.typeIn T.K (.ref (T.ca c)) = some (.type "type")
theorem pmk_none {X : Cx} {C : Addr} {bmB : List Value} {B newId initId : String} {x : Str} {p pos : Pos} (F : ExcBaseFacts B newId initId bmB) (q : PySem.W.excIn X.K C bmB newId = true) (gC : X.mg x = some (.ref C)) (kC : PySem.W.keepIn X.K (.ref C) = true) (r : Raises X (.ref C)) (hg : Gl X x)
    (hdb : (x == ("__debug__" : Str)) = false := by decide) : L2N.PMk X (.Call (.Name x p) [] [] pos) (fun _ H Q => Q (.ref C) none H) := by
  intro pins s σ H Q I h
  refine wpAny_Call_Name_kw (ld_glob I hg gC ?_ hdb)
  refine PySem.W.callWith_K0 I.kIn kC ?_
  obtain ⟨bm, N, nm, qn, bs, hdct, sn, sub, ab, col, dd, k0, k1, k2, k3, k5, mN, hC, hN, hni, tt⟩ := exc_obj I.kIn q
  refine wpAny_call_exc_subT F tt hC hN hni (fun h' e hm => ?_) (Nat.zero_le _)
  exact L2N.mk_of I hm r h (I.hok.gone hm.new)
def sRaise (c : Nat) : DS := fun ρ st => .exc c [] ρ st
theorem pds_raise {C : Ctx} {c : Nat} {x : Str} {p pos pos' : Pos} (hc : C.X.calm = true) (tk : L2N.Takes C.X C.W) (hk : ExcK C.T c) (hm : C.X.mg x = some (.ref (C.T.ca c))) (hg : Gl C.X x) (hdb : (x == ("__debug__" : Str)) = false := by decide) :
    PDS C (.Raise (some (.Call (.Name x p) [] [] pos)) none pos') (sRaise c) := by
  have q := hk.q
  have kp := hk.kp
  have r1 := hk.r1
  have r2 := hk.r2
  rw [← C.hK] at q kp r1 r2
  refine PS.imp (L2N.ps_raise hc tk (pmk_none PySem.F.excBase_ValueError q hm kp (raises_own r1 r2) hg hdb)) fun D σ H ⟨ρ, st, ι, er, rl, pp⟩ => ?_
  exact pp σ ι H none (Step.refl _ _ _) rl er (.inl ⟨rfl, rfl⟩)

/-! ### data without the error that is held -/
mutual
def noE : D → Bool
  | .exc _ _ => false
  | .lst xs => noEL xs
  | .ro xs => noEL xs
  | .tup xs => noEL xs
  | .dic _ xs => noEL xs
  | .ins _ xs => noEL xs
  | .err _ xs => noEL xs
  | _ => true
def noEL : List D → Bool
  | [] => true
  | x :: xs => noE x && noEL xs
end
def noEC : Cell → Bool
  | .lst xs => noEL xs
  | .ins _ xs => noEL xs
  | .dic _ xs => noEL xs
  | .dead => true
def noES (st : Store) : Bool := st.all noEC
def noEO : Option D → Bool
  | some d => noE d
  | none => true
def noER (ρ : Rho) : Bool := ρ.all noEO
section
variable {T : Txt} {xp xp' : XT} {G : Hp} {ι : Io}
mutual
theorem Rep.noE : ∀ {v : V} {d : D}, Rep T xp G ι v d → noE d = true → Rep T xp' G ι v d
  | _, _, .non, _ => .non
  | _, _, .bl b, _ => .bl b
  | _, _, .int i, _ => .int i
  | _, _, .str x, _ => .str x
  | _, _, .ty n, _ => .ty n
  | _, _, .cl i, _ => .cl i
  | _, _, .fn i, _ => .fn i
  | _, _, .lst h r, e => .lst h (RepL.noE r (by simpa [Den.noE] using e))
  | _, _, .ro h r, e => .ro h (RepL.noE r (by simpa [Den.noE] using e))
  | _, _, .tup h r, e => .tup h (RepL.noE r (by simpa [Den.noE] using e))
  | _, _, .dic h l r, e => .dic h l (RepL.noE r (by simpa [Den.noE] using e))
  | _, _, .ins h l r, e => .ins h l (RepL.noE r (by simpa [Den.noE] using e))
  | _, _, .exc _ _, e => by simp [Den.noE] at e
  | _, _, .excd _ _ _ _ _, e => by simp [Den.noE] at e
  | _, _, .err h l, _ => .err h l
  | _, _, .errd h g k r, e => .errd h g k (RepL.noE r (by simpa [Den.noE] using e))
  | _, _, .box h, _ => .box h
theorem RepL.noE : ∀ {v : List V} {d : List D}, RepL T xp G ι v d → noEL d = true → RepL T xp' G ι v d
  | _, _, .nil, _ => .nil
  | _, _, .cons r rs, e => by
    simp only [Den.noEL, Bool.and_eq_true] at e
    exact .cons (Rep.noE r e.1) (RepL.noE rs e.2)
end
mutual
theorem Rep.more (hx : ∀ q ∈ xp, q ∈ xp') : ∀ {v : V} {d : D}, Rep T xp G ι v d → Rep T xp' G ι v d
  | _, _, .non => .non
  | _, _, .bl b => .bl b
  | _, _, .int i => .int i
  | _, _, .str x => .str x
  | _, _, .ty n => .ty n
  | _, _, .cl i => .cl i
  | _, _, .fn i => .fn i
  | _, _, .lst h r => .lst h (RepL.more hx r)
  | _, _, .ro h r => .ro h (RepL.more hx r)
  | _, _, .tup h r => .tup h (RepL.more hx r)
  | _, _, .dic h l r => .dic h l (RepL.more hx r)
  | _, _, .ins h l r => .ins h l (RepL.more hx r)
  | _, _, .exc h l => .exc (hx _ h) l
  | _, _, .excd h g l r n => .excd (hx _ h) g l (RepL.more hx r) n
  | _, _, .err h l => .err h l
  | _, _, .errd h g k r => .errd h g k (RepL.more hx r)
  | _, _, .box h => .box h
theorem RepL.more (hx : ∀ q ∈ xp, q ∈ xp') : ∀ {v : List V} {d : List D}, RepL T xp G ι v d → RepL T xp' G ι v d
  | _, _, .nil => .nil
  | _, _, .cons r rs => .cons (Rep.more hx r) (RepL.more hx rs)
end
theorem RelSt.more (hx : ∀ q ∈ xp, q ∈ xp') {st : Store} {H : Hp} (r : RelSt T xp ι st H) : RelSt T xp' ι st H := by
  refine ⟨r.len, r.nd, r.there, r.hdn, fun k a c hk hc => ?_⟩
  have q := r.ok k a c hk hc
  cases c with
  | lst ds =>
    obtain ⟨xs, h1, h2⟩ := q
    exact ⟨xs, h1, h2.more hx⟩
  | ins c ds =>
    obtain ⟨dx, xs, h1, h2, h3⟩ := q
    exact ⟨dx, xs, h1, h2, h3.more hx⟩
  | dic ks ds =>
    obtain ⟨xs, h1, h2, h3⟩ := q
    exact ⟨xs, h1, h2, h3.more hx⟩
  | dead => trivial
theorem RelSt.noE {st : Store} {H : Hp} (r : RelSt T xp ι st H) (h : noES st = true) : RelSt T xp' ι st H := by
  refine ⟨r.len, r.nd, r.there, r.hdn, fun k a c hk hc => ?_⟩
  have q := r.ok k a c hk hc
  have e := List.all_eq_true.mp h c (List.mem_of_getElem? hc)
  cases c with
  | lst ds =>
    obtain ⟨xs, h1, h2⟩ := q
    exact ⟨xs, h1, h2.noE e⟩
  | ins c ds =>
    obtain ⟨dx, xs, h1, h2, h3⟩ := q
    exact ⟨dx, xs, h1, h2, h3.noE e⟩
  | dic ks ds =>
    obtain ⟨xs, h1, h2, h3⟩ := q
    exact ⟨xs, h1, h2, h3.noE e⟩
  | dead => trivial
theorem EnvR.more (hx : ∀ q ∈ xp, q ∈ xp') {ρ : Rho} {σ : L2.St} (h : EnvR T xp G ι ρ σ) : EnvR T xp' G ι ρ σ := ⟨h.len, fun i d q => let ⟨v, a, b⟩ := h.at_ i d q; ⟨v, a, b.more hx⟩⟩
theorem EnvR.noE {ρ : Rho} {σ : L2.St} (h : EnvR T xp G ι ρ σ) (e : noER ρ = true) : EnvR T xp' G ι ρ σ := ⟨h.len, fun i d q => let ⟨v, a, b⟩ := h.at_ i d q; ⟨v, a, b.noE (List.all_eq_true.mp e _ (List.mem_of_getElem? q))⟩⟩
theorem EnvR.unset {ρ : Rho} {σ : L2.St} (h : EnvR T xp G ι ρ σ) (i : Nat) : EnvR T xp G ι (ρ.set i none) (σ.set i none) := by
  refine ⟨by simp [h.len], fun j d q => ?_⟩
  by_cases e : i = j
  · subst e
    by_cases hv : i < ρ.length
    · rw [List.getElem?_set_self hv] at q
      cases q
    · rw [List.getElem?_eq_none (by simpa using hv)] at q
      cases q
  · rw [List.getElem?_set_ne e] at q ⊢
    exact h.at_ j d q
end

/-! ### try: body; except K as e: suite -/
def sTryAs (cth : Nat → Option Bool) (i : Nat) (b h : DS) : DS := fun ρ st => match b ρ st with
  | .exc c xs ρ1 s1 => match cth c with
    | some true => match h (ρ1.set i (some (.exc c xs))) s1 with
      | .ret d s2 => if noE d = true ∧ noES s2 = true then .ret d s2 else .bad
      | .nx ρ2 s2 => if noER (ρ2.set i none) = true ∧ noES s2 = true then .nx (ρ2.set i none) s2 else .bad
      | _ => .bad
    | some false => .exc c xs ρ1 s1
    | none => .bad
  | r => r
abbrev Ctx.try (C : Ctx) (W : WX) (pn : List (Addr × Obj)) (xe : Value → Shared → Prop) : Ctx := ⟨C.X.tr pn xe, C.T, C.xp, W, C.hK⟩
abbrev Ctx.suite (C : Ctx) (a : Addr) (c : Nat) (d : Option Addr) (pn : List (Addr × Obj)) : Ctx := ⟨C.X.suite a pn, C.T, (a, c, d) :: C.xp, fun _ _ _ _ => False, C.hK⟩
section
variable {C : Ctx} {x n : Str} {cv : Value} {i : Nat} {bd suite : List Stmt} {b₀ : Stmt} {np pos pos' : Pos} {mb mh : DS} {cth : Nat → Option Bool}
theorem pds_tryAs (hs : C.X.stack = C.X.env :: C.X.outer) (hf : C.X.env.frame = some C.X.env.locals) (hN : C.X.N.Nodup) (hi : C.X.N[i]? = some n) (hln : C.X.env.kindOf n = some .local) (hc : Names C.X x cv) (tk : L2N.Takes C.X C.W)
    (hcatch : ∀ c b, cth c = some b → PySem.W.exmOne C.T.K (.ref (C.T.ca c)) cv = some b)
    (hb : ∀ (W : WX) (pn : List (Addr × Obj)) (xe : Value → Shared → Prop), L2N.Takes (C.X.tr pn xe) W → PassesOwn (model C.X.prog C.X.w) C.X.A C.X.env xe → PDSs (C.try W pn xe) bd mb)
    (hsu : ∀ (a : Addr) (oe : Obj) (c : Nat) (d : Option Addr) (pn : List (Addr × Obj)), L2N.Zn (.ref (C.T.ca c)) d oe → (∃ vs, oe.data = .fields vs) → PDSs (C.suite a c d ((a, oe) :: pn)) (b₀ :: suite) mh) :
    PDS C (.Try bd [.ExceptHandler (some (.Name x np)) (some n) (b₀ :: suite) pos'] [] [] pos) (sTryAs cth i mb mh) := by
  have h0 := L2N.ps_try_as (np := np) (pos := pos) (pos' := pos') (body := bd) (b₀ := b₀) (suite := suite) (tb := fun W => tDS C.T C.xp W mb) (ts := fun a cls d D σ H => ∃ c, cls = .ref (C.T.ca c) ∧ tDS C.T ((a, c, d) :: C.xp) (fun _ _ _ _ => False) mh D σ H) hs hf hN hi hln hc tk (fun W pn xe t p => hb W pn xe t p)
    (fun a oe cls d pn hz hd => ⟨fun pins s σ H D I ⟨c, ec, hw⟩ => by
      subst ec
      exact (hsu a oe c d pn hz hd).run pins s σ H D I hw⟩)
  refine PS.imp h0 fun D σ H ⟨ρ, st, ι, er, rl, p⟩ => ⟨ρ, st, ι, er, rl, ?_⟩
  unfold sTryAs at p
  cases hm : mb ρ st with
  | exc c xs ρ1 s1 =>
    rw [hm] at p
    intro σ1 ι1 H1 dx st1 rl1 er1 xd
    dsimp only at p
    cases hk : cth c with
    | none =>
      rw [hk] at p
      exact p.elim
    | some b =>
      refine ⟨b, by rw [C.hK]; exact hcatch c b hk, fun hbt a ha => ?_, fun hbf => ?_⟩
      · subst hbt
        rw [hk] at p
        dsimp only at p
        have sub : ∀ q ∈ C.xp, q ∈ (a, c, dx) :: C.xp := fun q hq => List.mem_cons_of_mem _ hq
        have re : Rep C.T ((a, c, dx) :: C.xp) (hide ι1 s1 H1) ι1 (.ref a) (.exc c xs) := by
          rcases xd with ⟨rfl, rfl⟩ | ⟨d, ys, rfl, h1, h2, h3, h4, h5⟩
          · exact .exc List.mem_cons_self rfl
          · exact .excd List.mem_cons_self (h2.trans h1) h3 (h4.more sub) h5
        refine ⟨c, rfl, ρ1.set i (some (.exc c xs)), s1, ι1, (er1.more sub).set i re, rl1.more sub, ?_⟩
        cases hh : mh (ρ1.set i (some (.exc c xs))) s1 with
        | ret d s2 =>
          rw [hh] at p
          dsimp only at p
          split at p
          · rename_i hn
            exact fun v ι2 H2 st2 rl2 rv => p v ι2 H2 (st1.trans st2) (rl2.noE hn.2) (rv.noE hn.1)
          · exact p.elim
        | nx ρ2 s2 =>
          rw [hh] at p
          dsimp only at p
          split at p
          · rename_i hn
            exact fun σ2 ι2 H2 st2 rl2 er2 => p (σ2.set i none) ι2 H2 (st1.trans st2) (rl2.noE hn.2) ((er2.unset i).noE hn.1)
          · exact p.elim
        | _ =>
          rw [hh] at p
          exact p.elim
      · subst hbf
        rw [hk] at p
        exact p σ1 ι1 H1 dx st1 rl1 er1 xd
  | nx ρ1 s1 => rw [hm] at p; exact p
  | ret d s1 => rw [hm] at p; exact p
  | brk ρ1 s1 => rw [hm] at p; exact p
  | cnt ρ1 s1 => rw [hm] at p; exact p
  | bad => rw [hm] at p; exact p
end

/-! ### defs that a suite calls -/
open L2H in
structure FnHG (P : Program) (w : World) (K : PySem.W.Frag) (mg : Str → Option Value) (base : Heap) (k : Nat) (f : Addr) (fd : FuncData) (ps : List Str) (sp : Addr × Obj → Sp) : Prop where
  len : ∀ p vs H Q E, sp p vs H Q E → vs.length = ps.length
  run : ∀ (A : Around) (outer : List Env) (s : Shared) (H : Hp) (args : Args) (us : List Value) (vs : List V) (Q : VK) (E : XK) (p : Addr × Obj), RoomH k A → Hot1 A p → PinOk outer H s p → Env0 P w K mg base A outer s H →
    BindsTo s fd args (ps.zip us) → Vals vs us → sp p vs H Q E → codeAny (model P w) A (.call (.ref f) args) (CR (L2N.CX P w) outer P w H s Q E) s
/-- worth m; one of the things handed in may be the error that is held (c its class, d its dict) -/
def spH (T : Txt) (n : Nat) (m : DF) (p : Addr × Obj) : Sp := fun vs H Q E => vs.length = n ∧ ∃ c d, L2N.Zn (.ref (T.ca c)) d p.2 ∧ (∃ vs, p.2.data = .fields vs) ∧ ∃ ds st ι, RepL T [(p.1, c, d)] (hide ι st H) ι vs ds ∧ RelSt T [(p.1, c, d)] ι st H ∧
  Post T [(p.1, c, d)] (fun c d H => E c d H) ι st H (Rep T [(p.1, c, d)]) Q (m ds st)
section
open L2H
variable {P : Program} {w : World} {mg : Str → Option Value} {base : Heap} {T : Txt}
theorem fnH_of {x qual : Str} {st : Stmt} {f : Addr} {fd : FuncData} {N ps : List Str} {k : Nat} {m : DS} (F : Fun T.K x qual st f fd) (S : FnScope N ps (defScope st))
    (h : ∀ (cdv : Value) (A : Around) (outer : List Env) (s : Shared) (H : Hp) (E : XK) (p : Addr × Obj) (c : Nat) (d : Option Addr), L2N.Zn (.ref (T.ca c)) d p.2 → (∃ vs, p.2.data = .fields vs) → Hot1 A p → RoomH k (A.deeper (PyProof.Rows.envOfC qual (defScope st) s.heap.objs.size f cdv)) →
      PDSs ⟨cxH (L2N.CX P w) P w T.K mg base N qual (defScope st) f cdv A outer s H E p, T, [(p.1, c, d)], fun c d _ H' => E c d H', rfl⟩ (defBody st) m) :
    FnHG P w T.K mg base (k + 1) f fd ps (spH T ps.length (body N.length ps.length m)) := by
  obtain ⟨oc, od, kV, doc, pm, an, cdv, ct, osl, efd, lk, hcd⟩ := F.ex
  subst efd
  refine ⟨fun p vs H Q E h => h.1, fun A outer s H args us vs Q E p hr hot hpin e0 hb r hsp => ?_⟩
  have hl : vs.length = ps.length := hsp.1
  have kin : T.K.In s.heap := e0.mod.kin.keeps fun b o q => (e0.bs b o q).1
  have nol : s.heap.NoLimit := e0.mod.nolimit.keeps fun b o q => (e0.bs b o q).1
  refine codeAny_call_function hr.depth (kin _ _ lk) rfl S.co S.gen rfl (PySem.W.codeRec_of kin hcd) (hb _ _ _ _ ?_)
  refine wpAny_newFunctionEnv_cells S.kind (fun y hy => ?_) fun env he s1 xx => ?_
  · obtain ⟨n, v⟩ := y
    refine (S.par n (List.of_mem_zip hy).1).elim .inl fun q => .inr ⟨q, ?_⟩
    exact PySem.W.cellsFrom_some _ _ _ (.inl q)
  · subst he
    refine ⟨nol.keeps xx.toInCall.keep, codeAny_func ?_⟩
    obtain ⟨_, c, d, hz, hd, ds, st0, ι, rd, rl, hp⟩ := hsp
    have ht := h cdv A outer s H E p c d hz hd hot (hr.deeper _)
    have I := inv_startH (CX := L2N.CX P w) (E := E) S hpin e0 hl r xx
    have hl' : ds.length = ps.length := rd.length.symm.trans hl
    unfold body at hp
    rw [if_pos hl'] at hp
    have hq : tDS T [(p.1, c, d)] (fun c d _ H' => E c d H') m { nx := fun _ H' => Q .non H', rt := Q } (L2.start N vs) H := by
      refine ⟨_, st0, ι, start_env rd, rl, ?_⟩
      rw [hl']
      cases hm : m (ds.map some ++ List.replicate (N.length - ps.length) none) st0 with
      | nx ρ s1 =>
        rw [hm] at hp
        exact fun σ ι1 H1 s r _ => hp .non ι1 H1 s r .non
      | ret d s1 =>
        rw [hm] at hp
        exact hp
      | exc c xs ρ s1 =>
        rw [hm] at hp
        exact fun σ ι1 H1 dx s r _ xd => hp ι1 H1 dx s r xd
      | _ =>
        rw [hm] at hp
        exact hp.elim
    refine wpAny_mono (ht.run [] s1 (L2.start N vs) H _ I hq) (fun fl s' hs => ?_) fun e s' hs => hs
    match fl, hs with
    | .ret u, ⟨v, σ', H', J, rv, q⟩ => exact ⟨v, H', J.os, J.bare, J.base, J.hok, rv, q⟩
    | .next, ⟨σ', H', J, q⟩ => exact ⟨V.non, H', J.os, J.bare, J.base, J.hok, rfl, q⟩
    | .brk, ⟨_, _, _, q⟩ => exact q.elim
    | .cont, ⟨_, _, _, q⟩ => exact q.elim
end
section
open L2H
variable {C : Ctx} {f : Addr} {fd : FuncData} {ps : List Str} {k : Nat} {m : DF} {x : Str} {q pos : Pos} {e : Expr} {es : List Expr} {ma : DA} {a : Addr} {oe : Obj} {c : Nat} {d : Option Addr} {pn : List (Addr × Obj)}
/-- a call in a suite -/
theorem pd_callH (hx : C.xp = []) (hz : L2N.Zn (.ref (C.T.ca c)) d oe) (hd : ∃ vs, oe.data = .fields vs) (F : FnHG C.X.prog C.X.w C.X.K C.X.mg C.X.base k f fd ps (spH C.T ps.length m)) (hr : RoomH k (C.X.A.mark (some (.ref a)))) (hg : Gl C.X x) (hm : C.X.mg x = some (.ref f)) (hk : PySem.W.keepIn C.X.K (.ref f) = true)
    (hb : Binds C.X.K fd ps []) (ha : PDA (C.suite a c d ((a, oe) :: pn)) (e :: es) ma) (hdb : (x == ("__debug__" : Str)) = false := by decide) (he : starEach (e :: es) C.X.env = (false, eval e C.X.env) :: starEach es C.X.env := by rfl) (hpl : (backTo pos (starEach es C.X.env)).any (·.1) = false := by rfl) :
    PD (C.suite a c d ((a, oe) :: pn)) (.Call (.Name x q) (e :: es) [] pos) (fun ρ st => (ma ρ st).bind fun ds s1 => if ds.length = ps.length then m ds s1 else .bad) := by
  refine ⟨fun pins s σ H Q I ⟨ρ, st, ι, er, rl, p⟩ => ?_⟩
  refine wpAny_Call_Name_kw (ld_glob I hg hm ?_ hdb)
  refine PySem.W.callWith_K (h₀ := C.X.base) I.ok.mod.kin hk (thn (ha.run pos pins s σ H _ I ⟨ρ, st, ι, er, rl, post_bind (Q := fun vs H1 => ∃ ds s1 ι1, RepL C.T ((a, c, d) :: C.xp) (hide ι1 s1 H1) ι1 vs ds ∧ RelSt C.T ((a, c, d) :: C.xp) ι1 s1 H1 ∧
    Post C.T ((a, c, d) :: C.xp) (fun _ _ _ => False) ι1 s1 H1 (Rep C.T ((a, c, d) :: C.xp)) Q (if ds.length = ps.length then m ds s1 else .bad)) p fun ds s1 vs ι1 H1 st1 rl1 rv p1 => ⟨ds, s1, ι1, rv, rl1, p1⟩⟩) fun us s1 ⟨vs, H1, I1, r, ds, s2, ι1, rv, rl1, p1⟩ => ⟨I1.kIn, ?_⟩) he hpl
  split at p1
  · rename_i hl
    rw [hx] at rv rl1 p1
    have hl2 : us.length = ps.length := by rw [← r.length, rv.length]; exact hl
    have b := hb s1 us I1.kIn (by rw [List.append_nil]; exact hl2)
    rw [List.append_nil] at b
    obtain ⟨vs0, hvs⟩ := hd
    have P1 := I1.pin (a, oe) (List.mem_append_left _ List.mem_cons_self)
    have hpin : PinOk C.X.stack H1 s1 (a, oe) := ⟨P1.1, P1.2.1, fun hm => (List.mem_cons.mp (I1.stkSub a hm)).elim P1.2.2.1 P1.2.2.2.1, P1.2.2.2.2⟩
    have z := F.run (C.X.A.mark (some (.ref a))) C.X.stack s1 H1 ⟨us, []⟩ us vs Q (fun _ _ _ => False) (a, oe) hr ⟨rfl, vs0, hvs, hz.2.2 _ hvs⟩ hpin I1.env0 b r ⟨rv.length.trans hl, c, d, hz, ⟨vs0, hvs⟩, ds, s2, ι1, rv, rl1, p1⟩
    refine wpAny_call (codeAny_mono z fun res s' q' => ?_)
    match res, q' with
    | .error e', q2 =>
      obtain ⟨_, _, _, _, _, _, _, _, _, _, _, _, ff⟩ := q2
      exact ff.elim
    | .ok (.ret u), q2 => exact I1.after q2
    | .ok .next, q2 => exact False.elim q2
    | .ok .brk, q2 => exact False.elim q2
    | .ok .cont, q2 => exact False.elim q2
  · exact p1.elim
end
end Den

set_option maxRecDepth 100000
set_option maxHeartbeats 4000000
/-! Den: isinstance of the error that is held, classes in a tuple. -/
namespace Den
open PySem PySem.Spec PyProof.Rows L2

def Held (C : Ctx) : Prop := ∀ q ∈ C.xp, ∃ oe, (q.1, oe) ∈ C.X.pn ∧ Zc (.ref (C.T.ca q.2.1)) q.2.2 oe ∧ ∃ vs, oe.data = .fields vs
/-- isinstance(e, c) where e is held -/
def rIsH (C : Ctx) : List V → Hp → VK → Prop := fun xs H Q => ∃ (a : Addr) (c : Nat) (k : V) (cv : Value) (b : Bool), (a, c, none) ∈ C.xp ∧ ExcC C.T.K (C.T.ca c) ∧ xs = [.ref a, k] ∧ ClsV k cv ∧ PySem.W.kitOne C.T.K (.ref (C.T.ca c)) cv = some b ∧ Q (.bl b) H
theorem inst_held {C : Ctx} (hh : Held C) {pins : List (Addr × Obj)} {σ : L2.St} {H : Hp} {s : Shared} (I : Inv C.X pins σ H s) {a : Addr} {c : Nat} (h : (a, c, none) ∈ C.xp) : ∃ oe, PySem.W.InstAt s.heap a oe (C.T.ca c) none := by
  obtain ⟨oe, hp, hz, vs, hv⟩ := hh _ h
  obtain ⟨hget, _⟩ := I.pin (a, oe) (List.mem_append.mpr (.inl hp))
  obtain ⟨oc, od, oda, osl⟩ := oe
  obtain ⟨h1, h2⟩ := hz
  dsimp only at h1 h2 hv
  subst h1 h2 hv
  exact ⟨_, hget, rfl, rfl, trivial⟩
theorem call_isH {C : Ctx} (hh : Held C) : CallR C.X (.builtin "isinstance") (rIsH C) := by
  intro pins s σ H xs us Q I r h
  obtain ⟨a, c, k, cv, b, hx, cc, rfl, hk, e, q⟩ := h
  obtain ⟨u1, u2, rfl, r1, r2⟩ := vals2 r
  cases r1
  have ec := hk.eq r2
  subst ec
  obtain ⟨oe, J⟩ := inst_held hh I hx
  have kin : C.T.K.In s.heap := by rw [← C.hK]; exact I.kIn
  exact PySem.W.kia_one (PySem.W.handS_kitx_exc cc.hg cc.hk cc.hs cc.hd cc.ha cc.hn cc.ht cc.hm) kin J e (fun z => nomatch z) fun tk => ⟨.bl b, H, I.kept (t' := tk) fun _ _ z => z, rfl, q⟩
def isAny (isT : Tag → Tag → Option Bool) (t : Tag) : List Tag → Option Bool
  | [] => some false
  | c :: r => match isT t c with
    | some true => some true
    | some false => isAny isT t r
    | none => none
theorem isAny_ok {T : Txt} {isT : Tag → Tag → Option Bool} (hi : IsT T isT) {t : Tag} : ∀ {us : List Tag} {b : Bool}, isAny isT t us = some b → PySem.W.kitAny T.K (tagV T t) (us.map (tagV T)) = some b
  | [], _, h => by cases h; rfl
  | c :: r, b, h => by
    unfold isAny at h
    show (match PySem.W.kitOne T.K (tagV T t) (tagV T c) with
      | some true => some true
      | some false => PySem.W.kitAny T.K (tagV T t) (r.map (tagV T))
      | none => none) = some b
    cases hc : isT t c with
    | none => rw [hc] at h; cases h
    | some v =>
      rw [hc] at h
      rw [hi t c v hc]
      cases v with
      | true => exact h
      | false => exact isAny_ok hi h
def clsL : List D → Option (List Tag)
  | [] => some []
  | x :: xs => match clsA x, clsL xs with
    | some t, some ts => some (t :: ts)
    | _, _ => none
theorem clsL_rep {T : Txt} {xp : XT} {G : Hp} {ι : Io} : ∀ {vs : List V} {ds : List D} {ts : List Tag}, RepL T xp G ι vs ds → clsL ds = some ts → Paired ClsV vs (ts.map (tagV T))
  | _, _, _, .nil, h => by cases h; exact .nil
  | _, _, _, .cons r rs, h => by
    unfold clsL at h
    split at h
    · rename_i h1 h2
      cases h
      exact .cons (clsA_rep r h1) (clsL_rep rs h2)
    · cases h
/-- isinstance of the error that is held -/
def bIsH (es : List Nat) (isT : Tag → Tag → Option Bool) : FB := fun ds st => match ds with
  | [.exc c [], k] => if c ∈ es then (match clsA k with
    | some u => (isT (.ow c) u).map fun b => (.bl b, st)
    | none => none) else none
  | _ => none
def bIsHT (es : List Nat) (isT : Tag → Tag → Option Bool) : FB := fun ds st => match ds with
  | [.exc c [], .tup ks] => if c ∈ es then (match clsL ks with
    | some us => (isAny isT (.ow c) us).map fun b => (.bl b, st)
    | none => none) else none
  | _ => none
/-- isinstance of plain data, classes in a tuple -/
def bIsiT (own : List Nat) (isT : Tag → Tag → Option Bool) : FB := fun ds st => match ds with
  | [x, .tup ks] => match tagD own x st, clsL ks with
    | some t, some us => (isAny isT t us).map fun b => (.bl b, st)
    | _, _ => none
  | _ => none
section
variable {C : Ctx} {isT : Tag → Tag → Option Bool}
theorem held_of {G : Hp} {ι : Io} {v : V} {c : Nat} (r : Rep C.T C.xp G ι v (.exc c [])) : ∃ a, v = .ref a ∧ (a, c, none) ∈ C.xp := by
  cases r with
  | exc h _ => exact ⟨_, rfl, h⟩
  | excd _ _ _ _ n => exact absurd rfl n
theorem blt_isH {es : List Nat} (hh : Held C) (hc : ∀ c ∈ es, ExcC C.T.K (C.T.ca c)) (hi : IsT C.T isT) : BltD C "isinstance" (bIsH es isT) := ⟨_, call_isH hh, fun ι st H xs ds d st' Q rl rx e k => by
  unfold bIsH at e
  split at e
  · rename_i c kk
    split at e
    · rename_i hm
      split at e
      · rename_i u h2
        obtain ⟨b, hb, e'⟩ := Option.map_eq_some_iff.mp e
        cases e'
        obtain ⟨v, w, rfl, rv, rw'⟩ := repL_two rx
        obtain ⟨a, rfl, hx⟩ := held_of rv
        exact ⟨a, c, w, _, b, hx, hc c hm, rfl, clsA_rep rw' h2, hi _ _ _ hb, k _ ι H (Step.refl _ _ _) rl (.bl b)⟩
      · cases e
    · cases e
  · cases e⟩
theorem tup_H {T : Txt} {xp : XT} {ι : Io} {st : Store} {H : Hp} {v : V} {ks : List D} (r : Rep T xp (hide ι st H) ι v (.tup ks)) : ∃ a xs, v = .ref a ∧ SqT T.K H a xs ∧ RepL T xp (hide ι st H) ι xs ks := by
  cases r with
  | tup h1 h2 => exact ⟨_, _, rfl, le_t (hide_le _ _ _) h1, h2⟩
end
end Den

set_option maxRecDepth 100000
set_option maxHeartbeats 4000000
/-! Den: the rest: text times int, dict displays, a tuple of classes, turns over a text. -/
namespace Den
open PySem PySem.Spec PyProof.Rows L2
section
variable {C : Ctx}
/-! ### a text times an int -/
def rMulS : R2 := fun x y H Q => ∃ (z : Str) (k : Int), x = .str z ∧ y = .int k ∧ 0 ≤ k ∧ k ≤ 1000 ∧ z.length ≤ 1000 ∧ Q (.str (Txt.mul z k)) H
theorem op_mulS : OpR C.X (binaryOp .Mult) rMulS := by
  intro pins s σ H x y v u Q I rx ry h
  obtain ⟨z, k, rfl, rfl, h1, h2, h3, q⟩ := h
  obtain ⟨t, rfl⟩ := rx
  obtain ⟨t2, rfl⟩ := ry
  have hz : (z.length : Int) ≤ 1000 := by exact_mod_cast h3
  have hm : (z.length : Int) * k ≤ 1000 * 1000 := Int.mul_le_mul hz h2 h1 (by decide)
  refine PySem.SB.mul ⟨?_, fun hn _ => ?_, fun hn _ => ?_⟩ fun t' j => ⟨.str (Txt.mul z k), H, I.tok _, ⟨_, rfl⟩, q⟩
  · rw [decide_eq_false (by omega), decide_eq_false (by omega)]; rfl
  · have : (z.length : Int) ≤ (2 ^ 63 - 1) / k := Int.le_ediv_of_mul_le (by omega) (Int.le_trans hm (by decide))
    omega
  · have hk : k.toNat ≤ 1000 := by omega
    have : z.length * k.toNat ≤ 1000 * 1000 := Nat.mul_le_mul h3 hk
    exact decide_eq_false (by rw [sizeLine_eq]; omega)
def fMulS : D → D → Option D
  | .str z, .int k => if 0 ≤ k ∧ k ≤ 1000 ∧ z.length ≤ 1000 then some (.str (Txt.mul z k)) else none
  | _, _ => none
def dMulS : DE → DE → DE := dOp2 fMulS
theorem mul_strD : OpD C rMulS fMulS := fun ι st H x y dx dy dz Q rl rx ry e k => by
  unfold fMulS at e
  split at e
  · split at e
    · rename_i h
      cases rx
      cases ry
      cases e
      exact ⟨_, _, rfl, rfl, h.1, h.2.1, h.2.2, k _ ι H (Step.refl _ _ _) rl (.str _)⟩
    · cases e
  · cases e
theorem pd_mulS {a b : Expr} {ma mb : DE} {pos : Pos} (ha : PD C a ma) (hb : PD C b mb) : PD C (.BinOp a .Mult b pos) (dMulS ma mb) := pd_op op_mulS mul_strD ha hb

/-! ### dict displays -/
/-- a thing that is locked for good where it is told -/
theorem pe_lock {X : Cx} {e : Expr} {te : TE} (he : PE X e te) : PE X e (fun σ H Q => te σ H fun x H1 => ∃ a u, x = .ref a ∧ H1 a = some u ∧ Mut (some u) ∧ ∀ od, Q x (upd H1 a (.frz od u))) :=
  ⟨fun pins s σ H Q I h => wpAny_mono (he.run pins s σ H _ I h) (fun u s1 ⟨v, H1, I1, r1, a, w, ev, ha, mu, q⟩ => let ⟨od, J⟩ := I1.lock ha mu; ⟨v, _, J, r1, q od⟩) fun _ _ x => x⟩
theorem upd_two {H : Hp} {q : Addr} {u w : HO} : upd (upd H q u) q w = upd H q w := by
  funext b
  by_cases hb : b = q
  · rw [hb, upd_same, upd_same]
  · rw [upd_ne hb, upd_ne hb, upd_ne hb]
theorem pd_dic0 {pos : Pos} : PD C (.Dict [] [] pos) (dC (.dic [] [])) :=
  PE.imp (pe_lock pe_dnewK) fun σ H Q ⟨ρ, st, ι, er, rl, p⟩ q hq => by
    refine ⟨q, .dK [], rfl, upd_same, trivial, fun od => ?_⟩
    rw [upd_two]
    obtain ⟨r1, s1, h1⟩ := rl.new (o := .frz od (.dK [])) hq
    exact p _ ι _ s1 r1 (.dic (xs := []) h1 rfl .nil)
/-- one pair of constants -/
theorem pd_dic1 {pos : Pos} {ke ve : Expr} {i : Int} {v : V} {d : D} (hk : PE C.X ke (tC (.int i))) (hv : PE C.X ve (tC v)) (rv : ∀ G ι, Rep C.T C.xp G ι v d) : PD C (.Dict [some ke] [ve] pos) (dC (.dic [.inl i] [d])) :=
  PE.imp (pe_lock (pe_disp (pps_cons hk hv pps_nil) rfl rfl (by simp) (by simp))) fun σ H Q ⟨ρ, st, ι, er, rl, p⟩ q hq => by
    refine ⟨upd_same, [(.inl i, v)], rfl, by simp, ?_⟩
    refine ⟨q, .dK [(.inl i, v)], rfl, upd_same, trivial, fun od => ?_⟩
    rw [upd_two, upd_two]
    obtain ⟨r1, s1, h1⟩ := rl.new (o := .frz od (.dK [(.inl i, v)])) hq
    exact p _ ι _ s1 r1 (.dic (xs := [v]) h1 rfl (.cons (rv _ _) .nil))

/-! ### a tuple of classes -/
def rIsHS (C : Ctx) : List V → Hp → VK → Prop := fun xs H Q => ∃ (a : Addr) (c : Nat) (tp : Addr) (cs : List V) (us : List Value) (b : Bool), (a, c, none) ∈ C.xp ∧ ExcC C.T.K (C.T.ca c) ∧ xs = [.ref a, .ref tp] ∧ SqT C.T.K H tp cs ∧ Paired ClsV cs us ∧ PySem.W.kitAny C.T.K (.ref (C.T.ca c)) us = some b ∧ Q (.bl b) H
theorem call_isHS (hh : Held C) : CallR C.X (.builtin "isinstance") (rIsHS C) := by
  intro pins s σ H xs us Q I r h
  obtain ⟨a, c, tp, cs, ws, b, hx, cc, rfl, hT, hk, e, q⟩ := h
  obtain ⟨u1, u2, rfl, r1, r2⟩ := vals2 r
  cases r1
  cases (show u2 = Value.ref tp from r2)
  obtain ⟨oe, J⟩ := inst_held hh I hx
  have kin : C.T.K.In s.heap := by rw [← C.hK]; exact I.kIn
  obtain ⟨its, rv, ⟨o, h1, h2, n, h3⟩, _⟩ := I.tuple (by rw [C.hK]; exact hT)
  have e3 := ClsV.all hk rv
  subst e3
  obtain ⟨oc, od, dt, sl⟩ := o
  dsimp only at h2 h3
  subst h2 h3
  exact PySem.W.kia_tup (PySem.W.handS_kitx_exc cc.hg cc.hk cc.hs cc.hd cc.ha cc.hn cc.ht cc.hm) kin J h1 e (fun z => nomatch z) fun tk => ⟨.bl b, H, I.kept (t' := tk) fun _ _ z => z, rfl, q⟩
variable {isT : Tag → Tag → Option Bool}
theorem blt_isHT {es : List Nat} (hh : Held C) (hc : ∀ c ∈ es, ExcC C.T.K (C.T.ca c)) (hi : IsT C.T isT) : BltD C "isinstance" (bIsHT es isT) := ⟨_, call_isHS hh, fun ι st H xs ds d st' Q rl rx e k => by
  unfold bIsHT at e
  split at e
  · rename_i c kk
    split at e
    · rename_i hm
      split at e
      · rename_i us h2
        obtain ⟨b, hb, e'⟩ := Option.map_eq_some_iff.mp e
        cases e'
        obtain ⟨v, w, rfl, rv, rw'⟩ := repL_two rx
        obtain ⟨a, rfl, hx⟩ := held_of rv
        obtain ⟨tp, cs, rfl, ht, rc⟩ := tup_H rw'
        exact ⟨a, c, tp, cs, _, b, hx, hc c hm, rfl, ht, clsL_rep rc h2, isAny_ok hi hb, k _ ι H (Step.refl _ _ _) rl (.bl b)⟩
      · cases e
    · cases e
  · cases e⟩

/-! ### turns over a text -/
theorem lc_str {z : Str} {g : TG} {tt : TT} {te : TE} {vs : List Nat} {σ : L2.St} {H1 : Hp} {D : Addr} {Qd : Hp → Prop} (Pv : Nat → Hp → Prop) (h0 : Pv 0 (upd H1 D (.lst [])))
    (hs : ∀ i c H, z.cps[i]? = some c → Pv i H → g (.str ⟨#[c]⟩) (wipe σ vs) H fun σ2 H2 => wipe σ2 vs = wipe σ vs ∧ tt σ2 H2 fun b H3 =>
      if b = true then te σ2 H3 fun y H4 => ∃ acc, H4 D = some (.lst acc) ∧ acc.length < sizeLine ∧ Pv (i + 1) (upd H4 D (.lst (acc ++ [y]))) else Pv (i + 1) H3) (hd : ∀ H, Pv z.cps.size H → Qd H) :
    ∃ W : Nat → Nat → Hp → Prop, (∃ m, W 0 m (upd H1 D (.lst []))) ∧ ∀ i m H, W i m H →
      ((Its z).stop i H ∧ Qd H) ∨ ((Its z).go i H ∧ ∃ Nx : Hp → Prop, (∀ H', Nx H' → ∃ m', m' < m ∧ W (i + 1) m' H') ∧ ∀ x H', (Its z).yld i H x H' → g x (wipe σ vs) H' fun σ2 H2 => wipe σ2 vs = wipe σ vs ∧ tt σ2 H2 fun b H3 =>
        if b = true then te σ2 H3 fun y H4 => ∃ acc, H4 D = some (.lst acc) ∧ acc.length < sizeLine ∧ Nx (upd H4 D (.lst (acc ++ [y]))) else Nx H3) := by
  refine ⟨fun i m H => m = z.cps.size - i ∧ i ≤ z.cps.size ∧ Pv i H, ⟨_, rfl, Nat.zero_le _, h0⟩, ?_⟩
  intro i m H hW
  obtain ⟨hm, hi, p⟩ := hW
  by_cases hlt : i < z.cps.size
  · refine .inr ⟨hlt, Pv (i + 1), fun H' p' => ⟨z.cps.size - (i + 1), by omega, rfl, hlt, p'⟩, fun x H' y => ?_⟩
    obtain ⟨e, c, hc, ev⟩ := y
    subst e ev
    exact hs i c _ hc p
  · have e : i = z.cps.size := by omega
    subst e
    exact .inl ⟨Nat.le_refl _, hd H p⟩
def signsD (z : Str) : List D := z.cps.toList.map fun c => D.str ⟨#[c]⟩
def dLcS (it : DE) (g : GD) (t : DT) (e : DE) (vs : List Nat) : DE := fun ρ st => (it ρ st).bind fun d s1 => match d with
  | .str z => if z.cps.size ≤ 100000 then lcEnd (lcL g t e (wipeD ρ vs) (signsD z) s1) else .bad
  | _ => .bad
variable {g : TG} {gd : GD} {is : List Nat} {t : DT} {e : DE} {elt tg iter : Expr} {ifs : List Expr} {scope : Scope} {own : List (Str × Nat)} {pos : Pos} {mi : DE}
theorem pd_lcS (hc : C.X.calm = true) (hN : C.X.N.Nodup) (hi : PD C iter mi) (ok : BlkOk C.X.N C.X.env.scope scope own) (hg : ∀ s H c cl fp, PG (C.blk s H scope c cl fp).X tg g) (hd : TgD C.T C.T.K g gd is) (hv : ∀ j ∈ is, j ∈ own.map (·.2))
    (ht : ∀ s H c cl fp, PDTs (C.blk s H scope c cl fp) ifs t) (he : ∀ s H c cl fp, PD (C.blk s H scope c cl fp) elt e) (hs : ∀ x, foldedSetIterable iter C.X.env x = pure x := by intro _; rfl) :
    PD C (.ListComp elt [⟨tg, iter, ifs, 0⟩] scope pos) (dLcS mi gd t e (own.map (·.2))) :=
  PE.imp (pe_lc hc hN (pi_str hi) ok hg ht he hs) fun σ H Q ⟨ρ, st, ι, er, rl, p⟩ => by
    refine ⟨ρ, st, ι, er, rl, post_bind p fun d s1 v ι1 H1 st1 rl1 rv p1 => ?_⟩
    have er1 := er.step st1
    cases rv with
    | str z =>
      dsimp only at p1
      split at p1
      · rename_i hl
        refine ⟨z, rfl, fun D hD => ?_⟩
        have hln : (signsD z).length = z.cps.size := by unfold signsD; simp
        refine lc_str (z := z) (LeftC C.T C.xp (fun c d H => C.W c d σ H) Q gd t e (wipeD ρ (own.map (·.2))) (signsD z) ι1 s1 H1 D) (leftC_start rl1 hD p1) (fun i x H' hx hL => ?_) fun H' hL => leftC_end rl1 hD (by rw [hln]; exact Nat.le_refl _) hL
        have hlt : i < z.cps.size := (Array.getElem?_eq_some_iff.mp hx).1
        have hy : (signsD z)[i]? = some (Den.D.str ⟨#[x]⟩) := by
          unfold signsD
          rw [List.getElem?_map, Array.getElem?_toList, hx]
          rfl
        exact leftC_turn hd hv (by omega) er1 hD hy (.str _) hL
      · exact p1.elim
    | _ => exact p1.elim
end
end Den

set_option maxRecDepth 100000
set_option maxHeartbeats 4000000
/-! Den: the law itself: called with the script, it answers True. -/
namespace Den
open PySem PySem.Spec PyProof.Rows L2

/-- the script as it stands when the law is called: told by the heap, where it isn't one of the text's own things -/
def scrH (K : PySem.W.Frag) (a : Addr) (o : Obj) (xs : List V) : Hp := fun b => if b = a ∧ K.lookup a = none then some (.frz o (.lst xs)) else none
section
variable {K : PySem.W.Frag} {a b : Addr} {o : Obj} {xs : List V} {u : HO}
theorem scrH_some (h : scrH K a o xs b = some u) : b = a ∧ K.lookup a = none ∧ u = .frz o (.lst xs) := by
  unfold scrH at h
  split at h
  · rename_i e
    exact ⟨e.1, e.2, (Option.some.inj h).symm⟩
  · cases h
theorem scrH_off (h : ∀ o', K.lookup b = some o' → True) (hb : b = a → K.lookup a ≠ none) : scrH K a o xs b = none := by
  unfold scrH
  rw [if_neg fun e => hb e.1 e.2]
theorem scrH_at (h : K.lookup a = none) : scrH K a o xs a = some (.frz o (.lst xs)) := if_pos ⟨rfl, h⟩
end

section
variable {P : Program} {w : World} {T : Txt} {mg : Str → Option Value} {k : Nat} {fa a : Addr} {fd : FuncData} {x : Str} {m : DF} {s : Shared} {vs : List Value} {ns : List Int}
theorem repL_numbers {xp : XT} {G : Hp} {ι : Io} : ∀ ns : List Int, RepL T xp G ι (ns.map V.int) (ns.map D.int)
  | [] => .nil
  | n :: ns => .cons (.int n) (repL_numbers ns)
theorem hide_nil (H : Hp) : hide ⟨[], []⟩ [] H = H := by
  funext b
  unfold hide
  rw [if_neg]
  simp [hidden, liveB]
/-- what the law's def is asked -/
theorem asked {H : Hp} (hS : SqL T.K H a (ns.map V.int)) (hm : ∃ st, m [.ro (ns.map D.int)] [] = .ok (.bl true) st) : spM T 1 m [.ref a] H (fun v _ => v = .bl true) fun _ _ _ => False := by
  obtain ⟨st, e⟩ := hm
  refine ⟨rfl, [], [.ro (ns.map D.int)], [], ⟨[], []⟩, .cons (.ro (by rw [hide_nil]; exact hS) (repL_numbers ns)) .nil, ⟨rfl, List.nodup_nil, fun _ h => (nomatch h), fun _ h => (nomatch h), fun k a c h => by simp at h⟩, ?_⟩
  rw [e]
  intro v ι' H' _ _ r
  cases r
  rfl

variable {mb : Str → Option Value}
theorem law_den (KX : T.K.In s.heap) (hns : s.heap.Ns mainGlobals mg) (hb : s.heap.Ns builtinsNs mb) (hbb : ∀ y : Str, y ≠ "__name__" → mb y = bootBuiltins y) (hlim : s.heap.NoLimit) (hg : s.gens = #[])
    (ha : s.heap.get? a = some { cls := .type "list", data := .seq vs.toArray }) (hi : IntsAre vs ns) (hl : ns.length ≤ sizeLine) (hr : RoomG k callerA) (hbind : ∀ (s : Shared) (u : Value), BindsTo s fd ⟨[u], []⟩ [(x, u)])
    (F : ∀ base : Heap, T.K.In base → base.Ns mainGlobals mg → FnG P w T.K mg base k fa fd [x] (spM T 1 m)) (hm : ∃ st, m [.ro (ns.map D.int)] [] = .ok (.bl true) st) :
    codeAny (model P w) callerA (.call (.ref fa) ⟨[.ref a], []⟩) (fun r s' => r = .ok (.ret (.bool true)) ∧ OldK s.heap s'.heap ∧ s'.os = s.os ∧ AllBare s'.gens) s := by
  -- H: what is told of the heap; B: the rest of it
  generalize hH : scrH T.K a { cls := .type "list", data := .seq vs.toArray } (ns.map V.int) = H
  have only : ∀ {c : Addr} {u : HO}, H c = some u → c = a ∧ T.K.lookup a = none ∧ u = .frz { cls := .type "list", data := .seq vs.toArray } (.lst (ns.map V.int)) := fun {c u} q => scrH_some (by rw [hH]; exact q)
  have stays : ∀ {c : Addr} {oc : Obj}, s.heap.get? c = some oc → (c ≠ a ∨ T.K.lookup a ≠ none) → (hidT s.heap H).get? c = some oc := fun {c oc} q n => hidT_get q (by
    cases e : H c with
    | none => rfl
    | some u => exact absurd (only e).1 (n.elim id fun z => absurd (only e).2.1 z))
  have names : ∀ {c : Addr} {mm : Str → Option Value}, s.heap.Ns c mm → (hidT s.heap H).Ns c mm := fun {c mm} h => by
    obtain ⟨oc, es, n, e1, e2, e3⟩ := h
    refine ⟨oc, es, n, stays e1 (.inl fun z => ?_), e2, e3⟩
    rw [z, ha] at e1
    rw [← Option.some.inj e1] at e2
    exact Data.noConfusion e2
  have inB : T.K.In (hidT s.heap H) := fun c oc q => stays (KX c oc q) (by
    by_cases z : c = a
    · right
      rw [← z, q]
      intro y
      cases y
    · exact .inl z)
  have told : HOk P w H s.heap := fun c u q => by
    obtain ⟨e1, _, e3⟩ := only q
    subst e1 e3
    exact ⟨ha, by rw [List.length_map]; exact hl, vs, _, vals_ints hi, ha⟩
  have isL : SqL T.K H a (ns.map V.int) := by
    cases q : T.K.lookup a with
    | none =>
      refine .inl (.inr ⟨{ cls := .type "list", data := .seq vs.toArray }, ?_⟩)
      rw [← hH]
      exact scrH_at q
    | some oa =>
      have e := KX a oa q
      rw [ha] at e
      cases e
      exact .inr ⟨_, vs.toArray, _, q, rfl, rfl, rfl, by rw [List.size_toArray, hi.length]; exact hl, by simpa using vals_ints hi⟩
  have around : Env0 P w T.K mg (hidT s.heap H) callerA [] s H := by
    refine ⟨rfl, ⟨inB, names hns, ⟨mb, names hb, hbb⟩, ?_⟩, fun c oc q => of_hidT q, Nat.le_of_eq (hidT_size _ _), trivial, fun c q => ?_, told, .of_eq hg⟩
    · obtain ⟨ml, h1, h2⟩ := hlim
      exact ⟨ml, names h1, h2⟩
    · exact absurd (show c ∈ ([] : List Addr) from q) List.not_mem_nil
  have z := (F _ inB (names hns)).run callerA [] s H ⟨[.ref a], []⟩ [.ref a] [.ref a] _ _ hr around (hbind s (.ref a)) (.cons rfl .nil) (asked isL hm)
  refine codeAny_mono z fun r s' q => ?_
  match r, q with
  | .error e, q =>
    obtain ⟨_, _, _, _, _, _, _, _, _, _, _, _, hf⟩ := q
    exact False.elim hf
  | .ok (.ret u), q =>
    obtain ⟨v, H2, eos, eb, un, ok2, rv, hv⟩ := q
    have hv' : v = .bl true := hv
    subst hv'
    have hu : u = Value.bool true := rv
    refine ⟨by rw [hu], OldK.of_keep fun c oc qc => ?_, eos, eb⟩
    cases hc : H c with
    | none => exact un.keep c oc qc hc (fun y => absurd (show c ∈ ([] : List Addr) from y) List.not_mem_nil) (by simp)
    | some u =>
      obtain ⟨_, _, e3⟩ := only hc
      subst e3
      have w1 := (told c _ hc).1
      have w2 := (ok2 c _ (un.frzs c _ _ hc)).1
      rw [qc] at w1
      rw [w2, w1]
  | .ok .next, q => exact False.elim q
  | .ok .brk, q => exact False.elim q
  | .ok .cont, q => exact False.elim q
end
/-- a law whose def is worth m, and m of any script is True -/
theorem walk_den {l : PySem.W.OpenLaw} {n k : Nat} {q : Program} {loose : List Str} {XP : (Str → Option Value) → Heap → Prop} {YP : World → Heap → Prop} {d : DefRec} {K : Params → PySem.W.Frag} {x : Str}
    (hn : l.most = some n) (hn2 : n ≤ sizeLine) (hdf : d.params.defaults = []) (hr : RoomG k callerA) (hY : ∀ (w : World) (h : Heap), YP w h → (K w.params).In h)
    (F : ∀ (w : World) (mg : Str → Option Value) (fa : Addr) (h : Heap), (K w.params).In h → h.Ns mainGlobals mg → mg d.name = some (.ref fa) →
      ∃ (T : Txt) (fd : FuncData) (m : DF), T.K = K w.params ∧ (∀ (s : Shared) (u : Value), BindsTo s fd ⟨[u], []⟩ [(x, u)]) ∧ (∀ ns : List Int, ns.length ≤ n → ∃ st, m [.ro (ns.map D.int)] [] = .ok (.bl true) st) ∧
        ∀ base : Heap, T.K.In base → base.Ns mainGlobals mg → FnG l.prog w T.K mg base k fa fd [x] (spM T 1 m)) :
    PySem.W.WalkO q loose XP YP l.row.toRowW d [] (fun f vs => PySem.call f vs) := by
  refine Att.attach_call hn hdf fun w s₀ s₁ mg mb fa o pm cd doc a vs ns G Y ho hd hcd hmg hobj hints hlen hg => ?_
  have KX := hY w _ Y
  obtain ⟨T, fd, m, hT, hb, hm, hF⟩ := F w mg fa _ KX G.T.g hmg
  exact law_den (by rw [hT]; exact KX) G.T.g G.T.b G.T.builtins G.T.nolimit hg hobj hints (Nat.le_trans hlen hn2) hr hb hF (hm ns hlen)
end Den

set_option maxRecDepth 100000
set_option maxHeartbeats 4000000
/-! Den: what the printed terms want besides: signs, globals, products of any kind, contexts, how calls bind. -/
namespace Den
open PySem PySem.Spec PyProof.Rows L2
section
variable {C : Ctx}
def dNeg (a : DE) : DE := fun ρ st => (a ρ st).bind fun x s1 => match x with
  | .int i => .ok (.int (-i)) s1
  | _ => .bad
theorem pd_neg {a : Expr} {ma : DE} {pos : Pos} (ha : PD C a ma) : PD C (.UnaryOp .USub a pos) (dNeg ma) :=
  PE.imp (pe_un un_neg ha) fun σ H Q ⟨ρ, st, ι, er, rl, p⟩ => by
    refine ⟨ρ, st, ι, er, rl, post_bind p fun d s1 v ι1 H1 st1 rl1 rv p1 => ?_⟩
    cases rv with
    | int i => exact ⟨i, rfl, p1 _ ι1 H1 (Step.refl _ _ _) rl1 (.int _)⟩
    | _ => exact p1.elim
/-- a name of the module's: data that stays -/
structure GlD (T : Txt) (v : V) (d : D) : Prop where
  r : ∀ xp G ι, Rep T xp G ι v d
theorem pd_gl {x : Str} {v : V} {u : Value} {d : D} {pos : Pos} (h : GlD C.T v d) (hr : RelV v u) (hm : C.X.mg x = some u) (hg : Gl C.X x) (hd : (x == ("__debug__" : Str)) = false := by decide) : PD C (.Name x pos) (dC d) :=
  pd_c (pe_glob hg hm hr hd) fun G ι => h.r _ G ι
/-- a class of the text's own, a built-in type, as a thing -/
theorem pd_cl {x : Str} {c : Nat} {pos : Pos} (hm : C.X.mg x = some (.ref (C.T.ca c))) (hg : Gl C.X x) (hd : (x == ("__debug__" : Str)) = false := by decide) : PD C (.Name x pos) (dC (.cl c)) :=
  pd_c (v := .ref (C.T.ca c)) (pe_glob hg hm rfl hd) fun G ι => .cl c
theorem pd_bt {x : Str} {n : String} {pos : Pos} (hv : bootBuiltins x = some (.type n)) (hm : C.X.mg x = none) (hg : Gl C.X x) (hn : x ≠ "__name__" := by decide) (hd : (x == ("__debug__" : Str)) = false := by decide) : PD C (.Name x pos) (dC (.ty n)) :=
  pd_c (v := .ty n) (pe_bltn hg hm hv rfl hn hd) fun G ι => .ty n
/-- a product: ints, a list or a text times an int -/
def fMulA (x y : D) : Option D := (fMul x y).or (fMulS x y)
def dMulA : DE → DE → DE := dOp2 fMulA
theorem pd_mulA {a b : Expr} {ma mb : DE} {pos : Pos} (ha : PD C a ma) (hb : PD C b mb) : PD C (.BinOp a .Mult b pos) (dMulA ma mb) :=
  pd_op ((op_mulW.or op_rep).or op_mulS) (((OpD.ints (fun i j h => show i.natAbs.log2 + j.natAbs.log2 < 1000000 from of_decide_eq_true h) fun _ _ _ i j => .int _).or rep_lst).or mul_strD) ha hb
end

/-! ### contexts -/
section
variable {P : Program} {w : World} {K : PySem.W.Frag} {mg : Str → Option Value} {base : Heap} {N : List Str} {qual : Str} {sc : Scope} {f : Addr} {cdv : Value} {A : Around} {outer : List Env} {s : Shared} {H : Hp} {E : XK}
theorem takes_def : L2N.Takes (cxOf (L2N.CX P w) P w K mg base N qual sc f cdv A outer s H E) (fun c d _ H' => E c d H') := L2N.takes_of rfl rfl rfl rfl
theorem passes_def : PassesOwn (model P w) (cxOf (L2N.CX P w) P w K mg base N qual sc f cdv A outer s H E).A (cxOf (L2N.CX P w) P w K mg base N qual sc f cdv A outer s H E).env (cxOf (L2N.CX P w) P w K mg base N qual sc f cdv A outer s H E).xe := L2.passes_of rfl
theorem takes_no {X : Cx} : L2N.Takes X (fun _ _ _ _ => False) := fun u s' x => by
  obtain ⟨_, _, _, _, _, _, _, _, _, _, _, _, _, _, _, _, h⟩ := x
  exact False.elim h
end
/-- in a context: calls at depth k -/
structure Fit (C : Ctx) (k : Nat) : Prop where
  calm : C.X.calm = true
  room : RoomG k C.X.A
  tk : L2N.Takes C.X C.W
theorem Fit.mono {C : Ctx} {j k : Nat} (h : Fit C k) (hj : j ≤ k) : Fit C j := ⟨h.calm, h.room.mono hj, h.tk⟩
theorem Fit.blk {C : Ctx} {k : Nat} (h : Fit C k) (s : Shared) (H : Hp) (scope : Scope) (c : Addr) (cl : List (Str × Addr)) (fp : List Addr) : Fit (C.blk s H scope c cl fp) k := ⟨h.calm, h.room, takes_no⟩
theorem Fit.u {C : Ctx} {k : Nat} (h : Fit C k) : C.X.A.units + 64 < cLine := by have := h.room.room.un; omega

/-! ### defs with defaults -/
section
variable {P : Program} {w : World} {K : PySem.W.Frag} {mg : Str → Option Value} {base : Heap}
theorem fnG_ofD {x qual : Str} {params : Arguments} {body : List Stmt} {scope : Scope} {dvs : List V} {kws : List (Str × V)} {f : Addr} {fd : FuncData} {N ps : List Str} {k : Nat} {sp : Sp} (F : FunD K x qual params body scope dvs kws f fd) (S : FnScope N ps scope) (len : ∀ vs H Q E, sp vs H Q E → vs.length = ps.length)
    (hbody : ∀ (cdv : Value) (A : Around) (outer : List Env) (s : Shared) (H : Hp) (vs : List V) (Q : VK) (E : XK), RoomG k (A.deeper (envOfC qual scope s.heap.objs.size f cdv)) → sp vs H Q E →
      ∃ t, PSs (cxOf (L2N.CX P w) P w K mg base N qual scope f cdv A outer s H E) body t ∧ t { nx := fun _ H' => Q .non H', rt := Q } (start N vs) H) :
    FnG P w K mg base (k + 1) f fd ps sp := by
  obtain ⟨oc, od, dV, kV, doc, pm, an, cdv, ct, osl, efd, lk, hcd, _, _⟩ := F.ex
  subst efd
  refine ⟨len, fun A outer s H args us vs Q E hr e0 hb r hsp => ?_⟩
  have hl := len _ _ _ _ hsp
  have kin : K.In s.heap := e0.mod.kin.keeps fun b o q => (e0.bs b o q).1
  have nol : s.heap.NoLimit := e0.mod.nolimit.keeps fun b o q => (e0.bs b o q).1
  refine codeAny_call_function hr.room.depth (kin _ _ lk) rfl S.co S.gen rfl (PySem.W.codeRec_of kin hcd) (hb _ _ _ _ ?_)
  refine wpAny_newFunctionEnv_cells S.kind (fun y hy => ?_) fun env he s1 x => ?_
  · obtain ⟨n, v⟩ := y
    refine (S.par n (List.of_mem_zip hy).1).elim .inl fun q => .inr ⟨q, ?_⟩
    exact PySem.W.cellsFrom_some _ _ _ (.inl q)
  · subst he
    refine ⟨nol.keeps x.toInCall.keep, codeAny_func ?_⟩
    obtain ⟨t, ht, hq⟩ := hbody cdv A outer s H vs Q E (hr.deeper _) hsp
    have I := inv_start (CX := L2N.CX P w) (E := E) S hr.room.hd e0 hl r x
    refine wpAny_mono (ht.run [] s1 (start N vs) H _ I hq) (fun fl s' hs => ?_) fun e s' hs => hs
    match fl, hs with
    | .ret u, ⟨v, σ', H', J, rv, q⟩ => exact ⟨v, H', J.os, J.bare, J.base, J.hok, rv, q⟩
    | .next, ⟨σ', H', J, q⟩ => exact ⟨V.non, H', J.os, J.bare, J.base, J.hok, rfl, q⟩
    | .brk, ⟨_, _, _, q⟩ => exact q.elim
    | .cont, ⟨_, _, _, q⟩ => exact q.elim
end
theorem fnD_ofD {P : Program} {w : World} {mg : Str → Option Value} {base : Heap} {T : Txt} {x qual : Str} {params : Arguments} {bd : List Stmt} {scope : Scope} {dvs : List V} {kws : List (Str × V)} {f : Addr} {fd : FuncData} {N ps : List Str} {k : Nat} {m : DS} (F : FunD T.K x qual params bd scope dvs kws f fd) (S : FnScope N ps scope)
    (h : ∀ (cdv : Value) (A : Around) (outer : List Env) (s : Shared) (H : Hp) (E : XK) (xp : XT), RoomG k (A.deeper (PyProof.Rows.envOfC qual scope s.heap.objs.size f cdv)) →
      PDSs ⟨cxOf (L2N.CX P w) P w T.K mg base N qual scope f cdv A outer s H E, T, xp, fun c d _ H' => E c d H', rfl⟩ bd m) :
    FnG P w T.K mg base (k + 1) f fd ps (spM T ps.length (body N.length ps.length m)) := by
  refine fnG_ofD F S (fun vs H Q E h => h.1) fun cdv A outer s H vs Q E hr hsp => ?_
  obtain ⟨hl, xp, ds, st0, ι, rd, rl, hp⟩ := hsp
  refine ⟨_, h cdv A outer s H E xp hr, _, st0, ι, start_env rd, rl, ?_⟩
  have hl' : ds.length = ps.length := rd.length.symm.trans hl
  unfold body at hp
  rw [if_pos hl'] at hp
  rw [hl']
  cases hm : m (ds.map some ++ List.replicate (N.length - ps.length) none) st0 with
  | nx ρ s1 =>
    rw [hm] at hp
    exact fun σ ι1 H1 s r _ => hp .non ι1 H1 s r .non
  | ret d s1 =>
    rw [hm] at hp
    exact hp
  | exc c xs ρ s1 =>
    rw [hm] at hp
    exact fun σ ι1 H1 dx s r _ xd => hp ι1 H1 dx s r xd
  | _ =>
    rw [hm] at hp
    exact hp.elim

/-! ### how calls bind -/
section
variable {T : Txt} {fd : FuncData} {ps ks : List Str} {n : Nat}
theorem bd_all (b : Binds T.K fd ps []) (hn : n = ps.length) : Bd T fd ps n [] (fun ds _ => ds) := by
  subst hn
  refine ⟨fun us _ => us, fun vs _ => vs, ⟨fun s us ws X l1 l2 => ?_, fun r _ => r⟩, fun vs zs l _ => l, fun xp G ι vs ds zs es r _ => r⟩
  have := b s us X (by rw [List.append_nil]; exact l1)
  rw [List.append_nil] at this
  exact this
/-- defaults dvs, worth dds: g puts all in the parameters' order -/
theorem bd_dfl {x qual : Str} {params : Arguments} {bd : List Stmt} {scope : Scope} {dvs : List V} {dds : List D} {f : Addr} (g : {α : Type} → List α → List α → List α → List α) (F : FunD T.K x qual params bd scope dvs [] f fd) (hd : dvs ≠ [])
    (hdd : ∀ xp G ι, RepL T xp G ι dvs dds)
    (hrel : ∀ {vs ds zs : List V} {us its ws : List Value}, Vals vs us → Vals ds its → Vals zs ws → Vals (g vs ds zs) (g us its ws))
    (hrep : ∀ xp G ι {vs ds zs : List V} {us its ws : List D}, RepL T xp G ι vs us → RepL T xp G ι ds its → RepL T xp G ι zs ws → RepL T xp G ι (g vs ds zs) (g us its ws))
    (hlen : ∀ vs zs : List V, vs.length = n → zs.length = ks.length → (g vs dvs zs).length = ps.length)
    (h : ∀ (D : Addr) (kV doc pm : Value) (an : Option Addr) (cdv ct : Value) (us its ws : List Value), us.length = n → its.length = dvs.length → ws.length = ks.length →
      ∃ k, bindArgs (PySem.W.fnOf x qual params bd scope (.ref D) kV doc pm an cdv ct) ⟨us, ks.zip ws⟩ = seqItems? (.ref D) >>= k ∧ k (some its.toArray) = pure (ps.zip (g us its ws))) : Bd T fd ps n ks (fun ds es => g ds dds es) := by
  obtain ⟨oc, od, dV, kV, doc, pm, an, cdv, ct, osl, rfl, lk, hcd, hD, hK⟩ := F.ex
  rcases hD with ⟨e, _⟩ | ⟨_, D, o, its, m, rfl, lT, oT, rT⟩
  · exact absurd e hd
  · refine ⟨fun us ws => g us its ws, fun vs zs => g vs dvs zs, ⟨fun s us ws X l1 l2 => ?_, fun r1 r2 => hrel r1 rT r2⟩, hlen, fun xp G ι vs ds zs es r1 r2 => hrep xp G ι r1 (hdd xp G ι) r2⟩
    obtain ⟨k, e1, e2⟩ := h D kV doc pm an cdv ct us its ws l1 rT.length.symm l2
    refine BindsTo.of_looks fun M => ?_
    rw [e1]
    exact looks_items X lT oT (.of_pure e2)
end
end Den

set_option maxRecDepth 100000
set_option maxHeartbeats 4000000
/-! Den: bundles that the printed terms name. -/
namespace Den
open PySem PySem.Spec PyProof.Rows L2
/-- the def x, the text's i-th, is worth m (calls of it want depth k) -/
structure Def (P : Program) (w : World) (T : Txt) (mg : Str → Option Value) (base : Heap) (k i : Nat) (x : Str) (ps : List Str) (m : DF) : Prop where
  ex : ∃ fd, FnG P w T.K mg base k (T.fa i) fd ps (spM T ps.length m) ∧ Binds T.K fd ps []
  g : mg x = some (.ref (T.fa i))
  kp : PySem.W.keepIn T.K (.ref (T.fa i)) = true
theorem Def.mono {P : Program} {w : World} {T : Txt} {mg : Str → Option Value} {base : Heap} {j k i : Nat} {x : Str} {ps : List Str} {m : DF} (d : Def P w T mg base j i x ps m) (h : j ≤ k) : Def P w T mg base k i x ps m :=
  ⟨let ⟨fd, a, b⟩ := d.ex; ⟨fd, a.mono h, b⟩, d.g, d.kp⟩
def dCallA (n : Nat) (f : DF) (a : DA) : DE := fun ρ st => (a ρ st).bind fun ds s1 => if ds.length = n then f ds s1 else .bad
section
variable {C : Ctx} {k i : Nat} {x : Str} {ps : List Str} {m : DF} {p pos : Pos} {e : Expr} {es : List Expr} {ma : DA}
theorem pd_callA (d : Def C.X.prog C.X.w C.T C.X.mg C.X.base k i x ps m) (ft : Fit C k) (hg : Gl C.X x) (ha : PDA C (e :: es) ma) (hdb : (x == ("__debug__" : Str)) = false := by decide) (he : starEach (e :: es) C.X.env = (false, eval e C.X.env) :: starEach es C.X.env := by rfl)
    (hpl : ((backTo pos (starEach (e :: es) C.X.env)).any (·.1) || (backToKw pos (keywordEach [] C.X.env)).any (·.1.isNone)) = false := by rfl) : PD C (.Call (.Name x p) (e :: es) [] pos) (dCallA ps.length m ma) := by
  obtain ⟨fd, F, b⟩ := d.ex
  have F' : FnD C k (C.T.fa i) fd ps m := by rw [FnD, C.hK]; exact F
  have h := pd_call (pos := pos) (p := p) (ks := []) (n := ps.length) F' ft.room ft.tk (bd_all b rfl) hg d.g (by rw [C.hK]; exact d.kp) ha pdk_nil rfl rfl hdb he hpl
  refine PE.imp h fun σ H Q ⟨ρ, st, ι, er, rl, q⟩ => ⟨ρ, st, ι, er, rl, ?_⟩
  have ee : dCall ps.length ([] : List Str).length (fun ds _ => ds) m ma dNil ρ st = dCallA ps.length m ma ρ st := by
    unfold dCall dCallA dNil
    congr 1
    funext ds s1
    simp
  rw [ee]
  exact q
end
end Den
namespace Den
open PySem PySem.Spec PyProof.Rows L2
/-- the text's i-th def, as the written part holds it -/
structure Lk (T : Txt) (i : Nat) (x qual : Str) (st : Stmt) : Prop where
  ex : ∃ fd, Fun T.K x qual st (T.fa i) fd
theorem defD_of {P : Program} {w : World} {mg : Str → Option Value} {base : Heap} {T : Txt} {x qual : Str} {st : Stmt} {N ps : List Str} {k i : Nat} {m : DS} (l : Lk T i x qual st) (hg : mg x = some (.ref (T.fa i))) (S : FnScope N ps (defScope st))
    (hb : ∀ (kV doc pm : Value) (an : Option Addr) (cdv ct : Value) (us : List Value), us.length = ps.length → bindArgs (PySem.W.fnOf x qual (defArgs st) (defBody st) (defScope st) .none kV doc pm an cdv ct) ⟨us, []⟩ = pure (ps.zip us))
    (h : ∀ (cdv : Value) (A : Around) (outer : List Env) (s : Shared) (H : Hp) (E : XK) (xp : XT), Fit ⟨cxOf (L2N.CX P w) P w T.K mg base N qual (defScope st) (T.fa i) cdv A outer s H E, T, xp, fun c d _ H' => E c d H', rfl⟩ k →
      PassesOwn (model P w) (cxOf (L2N.CX P w) P w T.K mg base N qual (defScope st) (T.fa i) cdv A outer s H E).A (cxOf (L2N.CX P w) P w T.K mg base N qual (defScope st) (T.fa i) cdv A outer s H E).env (cxOf (L2N.CX P w) P w T.K mg base N qual (defScope st) (T.fa i) cdv A outer s H E).xe →
      PDSs ⟨cxOf (L2N.CX P w) P w T.K mg base N qual (defScope st) (T.fa i) cdv A outer s H E, T, xp, fun c d _ H' => E c d H', rfl⟩ (defBody st) m) :
    Def P w T mg base (k + 1) i x ps (body N.length ps.length m) := by
  obtain ⟨fd, F⟩ := l.ex
  exact ⟨⟨fd, fnD_of F S fun cdv A outer s H E xp hr => h cdv A outer s H E xp ⟨rfl, hr, takes_def⟩ passes_def, F.binds hb⟩, hg, F.kp⟩
/-- who is a kind of whom, as a table -/
def isTab (tab : List (Tag × Tag × Bool)) : Tag → Tag → Option Bool := fun t c => (tab.find? fun q => decide (q.1 = t) && decide (q.2.1 = c)).map (·.2.2)
theorem isTab_ok {T : Txt} {tab : List (Tag × Tag × Bool)} (h : ∀ q ∈ tab, PySem.W.kitOne T.K (tagV T q.1) (tagV T q.2.1) = some q.2.2) : IsT T (isTab tab) := fun t c b e => by
  obtain ⟨q, hq, rfl⟩ := Option.map_eq_some_iff.mp e
  have h1 := List.find?_some hq
  have h2 := List.mem_of_find?_eq_some hq
  obtain ⟨e1, e2⟩ := (Bool.and_eq_true _ _).mp h1
  rw [← of_decide_eq_true e1, ← of_decide_eq_true e2]
  exact h q h2
/-- a name of the module's, wherever its thing stands -/
theorem pd_glE {C : Ctx} {x : Str} {d : D} {pos : Pos} (h : ∃ (v : V) (u : Value), GlD C.T v d ∧ RelV v u ∧ C.X.mg x = some u) (hg : Gl C.X x) (hd : (x == ("__debug__" : Str)) = false := by decide) : PD C (.Name x pos) (dC d) := by
  obtain ⟨v, u, h1, h2, h3⟩ := h
  exact pd_gl h1 h2 h3 hg hd
end Den

set_option maxRecDepth 100000
set_option maxHeartbeats 4000000
/-! Den: defs that catch, defs that suites call, classes with defaults. -/
namespace Den
open PySem PySem.Spec PyProof.Rows L2
theorem Fit.try {C : Ctx} {k : Nat} (h : Fit C k) {W : WX} {pn : List (Addr × Obj)} {xe : Value → Shared → Prop} (tk : L2N.Takes (C.X.tr pn xe) W) : Fit (C.try W pn xe) k := ⟨h.calm, h.room, tk⟩
theorem no_mem {α : Type} {xp : List α} : ∀ q ∈ ([] : List α), q ∈ xp := fun q h => by cases h
theorem Post.few {α β : Type} {T : Txt} {xp : XT} {W : Value → Option Addr → Hp → Prop} {ι : Io} {st : Store} {H : Hp} {R : XT → Hp → Io → β → α → Prop} {Q : β → Hp → Prop} (hR : ∀ G ι v d, R [] G ι v d → R xp G ι v d) : ∀ {r : Res α}, Post T xp W ι st H (R xp) Q r → Post T [] W ι st H (R []) Q r
  | .ok d st', h => fun v ι' H' s r x => h v ι' H' s (r.more no_mem) (hR _ _ _ _ x)
  | .exc c ds st', h => fun ι' H' dx s r x => h ι' H' dx s (r.more no_mem) (by
      rcases x with x | ⟨d, xs, h1, h2, h3, h4, h5, h6⟩
      · exact .inl x
      · exact .inr ⟨d, xs, h1, h2, h3, h4, h5.more no_mem, h6⟩)
  | .bad, h => h
/-- a def that is handed no error -/
def bodyE (N n : Nat) (m : DS) : DF := fun ds st => if noEL ds = true ∧ noES st = true then body N n m ds st else .bad
section
variable {P : Program} {w : World} {mg : Str → Option Value} {base : Heap} {T : Txt}
theorem spM_few {n : Nat} {N : Nat} {m : DS} {vs : List V} {H : Hp} {Q : VK} {E : XK} (h : spM T n (bodyE N n m) vs H Q E) : vs.length = n ∧ ∃ ds st ι, RepL T [] (hide ι st H) ι vs ds ∧ RelSt T [] ι st H ∧ Post T [] (fun c d H => E c d H) ι st H (Rep T []) Q (body N n m ds st) := by
  obtain ⟨hl, xp, ds, st, ι, rd, rl, hp⟩ := h
  unfold bodyE at hp
  split at hp
  · rename_i hn
    exact ⟨hl, ds, st, ι, rd.noE hn.1, rl.noE hn.2, Post.few (R := fun xp => Rep T xp) (fun _ _ _ _ x => x.more no_mem) hp⟩
  · exact hp.elim
theorem defD_of0 {x qual : Str} {st : Stmt} {N ps : List Str} {k i : Nat} {m : DS} (l : Lk T i x qual st) (hg : mg x = some (.ref (T.fa i))) (S : FnScope N ps (defScope st))
    (hb : ∀ (kV doc pm : Value) (an : Option Addr) (cdv ct : Value) (us : List Value), us.length = ps.length → bindArgs (PySem.W.fnOf x qual (defArgs st) (defBody st) (defScope st) .none kV doc pm an cdv ct) ⟨us, []⟩ = pure (ps.zip us))
    (h : ∀ (cdv : Value) (A : Around) (outer : List Env) (s : Shared) (H : Hp) (E : XK), Fit ⟨cxOf (L2N.CX P w) P w T.K mg base N qual (defScope st) (T.fa i) cdv A outer s H E, T, [], fun c d _ H' => E c d H', rfl⟩ k →
      PassesOwn (model P w) (cxOf (L2N.CX P w) P w T.K mg base N qual (defScope st) (T.fa i) cdv A outer s H E).A (cxOf (L2N.CX P w) P w T.K mg base N qual (defScope st) (T.fa i) cdv A outer s H E).env (cxOf (L2N.CX P w) P w T.K mg base N qual (defScope st) (T.fa i) cdv A outer s H E).xe →
      PDSs ⟨cxOf (L2N.CX P w) P w T.K mg base N qual (defScope st) (T.fa i) cdv A outer s H E, T, [], fun c d _ H' => E c d H', rfl⟩ (defBody st) m) :
    Def P w T mg base (k + 1) i x ps (bodyE N.length ps.length m) := by
  obtain ⟨fd, F⟩ := l.ex
  refine ⟨⟨fd, fnG_of F S (fun vs H Q E h => h.1) fun cdv A outer s H vs Q E hr hsp => ?_, F.binds hb⟩, hg, F.kp⟩
  obtain ⟨hl, ds, st0, ι, rd, rl, hp⟩ := spM_few hsp
  refine ⟨_, h cdv A outer s H E ⟨rfl, hr, takes_def⟩ passes_def, _, st0, ι, start_env rd, rl, ?_⟩
  have hl' : ds.length = ps.length := rd.length.symm.trans hl
  unfold body at hp
  rw [if_pos hl'] at hp
  rw [hl']
  cases hm : m (ds.map some ++ List.replicate (N.length - ps.length) none) st0 with
  | nx ρ s1 =>
    rw [hm] at hp
    exact fun σ ι1 H1 s r _ => hp .non ι1 H1 s r .non
  | ret d s1 =>
    rw [hm] at hp
    exact hp
  | exc c xs ρ s1 =>
    rw [hm] at hp
    exact fun σ ι1 H1 dx s r _ xd => hp ι1 H1 dx s r xd
  | _ =>
    rw [hm] at hp
    exact hp.elim
theorem fnD_ofF {x qual : Str} {params : Arguments} {bd : List Stmt} {scope : Scope} {dvs : List V} {kws : List (Str × V)} {f : Addr} {fd : FuncData} {N ps : List Str} {k : Nat} {m : DS} (F : FunD T.K x qual params bd scope dvs kws f fd) (S : FnScope N ps scope)
    (h : ∀ (cdv : Value) (A : Around) (outer : List Env) (s : Shared) (H : Hp) (E : XK) (xp : XT), Fit ⟨cxOf (L2N.CX P w) P w T.K mg base N qual scope f cdv A outer s H E, T, xp, fun c d _ H' => E c d H', rfl⟩ k →
      PDSs ⟨cxOf (L2N.CX P w) P w T.K mg base N qual scope f cdv A outer s H E, T, xp, fun c d _ H' => E c d H', rfl⟩ bd m) :
    FnG P w T.K mg base (k + 1) f fd ps (spM T ps.length (body N.length ps.length m)) :=
  fnD_ofD F S fun cdv A outer s H E xp hr => h cdv A outer s H E xp ⟨rfl, hr, takes_def⟩
/-- the def x, called with the error that a suite holds -/
structure DefH (P : Program) (w : World) (T : Txt) (mg : Str → Option Value) (base : Heap) (k i : Nat) (x : Str) (ps : List Str) (m : DF) : Prop where
  ex : ∃ fd, FnHG P w T.K mg base k (T.fa i) fd ps (spH T ps.length m) ∧ Binds T.K fd ps []
  g : mg x = some (.ref (T.fa i))
  kp : PySem.W.keepIn T.K (.ref (T.fa i)) = true
open L2H in
theorem defH_of {x qual : Str} {st : Stmt} {N ps : List Str} {k i : Nat} {m : DS} (l : Lk T i x qual st) (hg : mg x = some (.ref (T.fa i))) (S : FnScope N ps (defScope st))
    (hb : ∀ (kV doc pm : Value) (an : Option Addr) (cdv ct : Value) (us : List Value), us.length = ps.length → bindArgs (PySem.W.fnOf x qual (defArgs st) (defBody st) (defScope st) .none kV doc pm an cdv ct) ⟨us, []⟩ = pure (ps.zip us))
    (h : ∀ (cdv : Value) (A : Around) (outer : List Env) (s : Shared) (H : Hp) (E : XK) (p : Addr × Obj) (c : Nat) (d : Option Addr), Held ⟨cxH (L2N.CX P w) P w T.K mg base N qual (defScope st) (T.fa i) cdv A outer s H E p, T, [(p.1, c, d)], fun c d _ H' => E c d H', rfl⟩ →
      (cxH (L2N.CX P w) P w T.K mg base N qual (defScope st) (T.fa i) cdv A outer s H E p).A.units + 64 < cLine →
      PDSs ⟨cxH (L2N.CX P w) P w T.K mg base N qual (defScope st) (T.fa i) cdv A outer s H E p, T, [(p.1, c, d)], fun c d _ H' => E c d H', rfl⟩ (defBody st) m) :
    DefH P w T mg base (k + 1) i x ps (body N.length ps.length m) := by
  obtain ⟨fd, F⟩ := l.ex
  refine ⟨⟨fd, fnH_of F S fun cdv A outer s H E p c d hz hd hot hr => h cdv A outer s H E p c d ?_ ?_, F.binds hb⟩, hg, F.kp⟩
  · intro q hq
    rw [List.mem_singleton] at hq
    subst hq
    exact ⟨p.2, List.mem_singleton.mpr rfl, hz.zc, hd⟩
  · have := hr.un
    show (A.deeper _).units + 64 < cLine
    omega
end
section
variable {C : Ctx} {ps : List Str} {k i : Nat} {m : DF} {x : Str} {q pos : Pos} {e : Expr} {es : List Expr} {ma : DA} {a : Addr} {oe : Obj} {c : Nat} {d : Option Addr} {pn : List (Addr × Obj)}
theorem pd_callHA (dh : DefH C.X.prog C.X.w C.T C.X.mg C.X.base k i x ps m) (hx : C.xp = []) (hz : L2N.Zn (.ref (C.T.ca c)) d oe) (hd : ∃ vs, oe.data = .fields vs) (hr : RoomG k C.X.A) (hg : Gl C.X x) (ha : PDA (C.suite a c d ((a, oe) :: pn)) (e :: es) ma)
    (hdb : (x == ("__debug__" : Str)) = false := by decide) (he : starEach (e :: es) C.X.env = (false, eval e C.X.env) :: starEach es C.X.env := by rfl) (hpl : (backTo pos (starEach es C.X.env)).any (·.1) = false := by rfl) :
    PD (C.suite a c d ((a, oe) :: pn)) (.Call (.Name x q) (e :: es) [] pos) (dCallA ps.length m ma) := by
  obtain ⟨fd, F, b⟩ := dh.ex
  have F' : FnHG C.X.prog C.X.w C.X.K C.X.mg C.X.base k (C.T.fa i) fd ps (spH C.T ps.length m) := by rw [C.hK]; exact F
  have rm : L2H.RoomH k (C.X.A.mark (some (.ref a))) := ⟨hr.room.dp, hr.room.un⟩
  exact pd_callH hx hz hd F' rm hg dh.g (by rw [C.hK]; exact dh.kp) (by rw [C.hK]; exact b) ha hdb he hpl
end
end Den

set_option maxRecDepth 100000
set_option maxHeartbeats 4000000
/-! Den: dicts that change, dicts told for good; walks of any kind. -/
namespace Den
open PySem PySem.Spec PyProof.Rows L2

/-! ### keys and values side by side -/
section
variable {α : Type}
def valZ (ks : List Key) (xs : List α) (k : Key) : Option α := ((ks.zip xs).find? fun q => decide (q.1 = k)).map (·.2)
def putZ (ks : List Key) (xs : List α) (k : Key) (x : α) : List Key × List α :=
  if (ks.any fun a => decide (a = k)) = true then (ks, (ks.zip xs).map fun q => if q.1 = k then x else q.2) else (ks ++ [k], xs ++ [x])
theorem putZ_len {ks : List Key} {xs : List α} {k : Key} {x : α} (h : ks.length = xs.length) : (putZ ks xs k x).1.length = (putZ ks xs k x).2.length := by
  unfold putZ
  split
  · show ks.length = _
    rw [List.length_map, List.length_zip]; omega
  · simp [h]
theorem zip_same (k : Key) (x : α) : ∀ {ks : List Key} {xs : List α}, ks.length = xs.length → ks.zip ((ks.zip xs).map fun q => if q.1 = k then x else q.2) = (ks.zip xs).map fun q => if q.1 = k then (q.1, x) else q
  | [], [], _ => rfl
  | a :: ks, y :: xs, h => by
    have ih := zip_same k x (ks := ks) (xs := xs) (by simpa using h)
    simp only [List.zip_cons_cons, List.map_cons, ih]
    split <;> rfl
  | [], _ :: _, h => by simp at h
  | _ :: _, [], h => by simp at h
theorem mem_zip {ks : List Key} {xs : List α} {k : Key} (h : ks.length = xs.length) : ((ks.zip xs).any fun q => decide (q.1 = k)) = ks.any fun a => decide (a = k) := by
  induction ks generalizing xs with
  | nil => rfl
  | cons a ks ih =>
    cases xs with
    | nil => simp at h
    | cons y xs =>
      rw [List.zip_cons_cons, List.any_cons, ih (by simpa using h), List.any_cons]
end
theorem putK_zip {ks : List Key} {xs : List V} {k : Key} {v : V} (h : ks.length = xs.length) : putK (ks.zip xs) k v = (putZ ks xs k v).1.zip (putZ ks xs k v).2 := by
  unfold putK putZ
  rw [mem_zip h]
  by_cases hm : (ks.any fun a => decide (a = k)) = true
  · rw [if_pos hm, if_pos hm, zip_same k v h]
  · rw [if_neg hm, if_neg hm]
    dsimp only
    rw [List.zip_append h]
    rfl
section
variable {T : Txt} {xp : XT} {G : Hp} {ι : Io}
theorem RepL.zipmap (k : Key) {v : V} {d : D} (r : Rep T xp G ι v d) : ∀ {ks : List Key} {vs : List V} {ds : List D}, RepL T xp G ι vs ds → RepL T xp G ι ((ks.zip vs).map fun q => if q.1 = k then v else q.2) ((ks.zip ds).map fun q => if q.1 = k then d else q.2)
  | [], _, _, _ => .nil
  | _ :: _, [], [], .nil => .nil
  | a :: ks, _, _, .cons r1 rs => by
    simp only [List.zip_cons_cons, List.map_cons]
    refine .cons ?_ (RepL.zipmap k r rs)
    split
    · exact r
    · exact r1
theorem RepL.putZ {ks : List Key} {vs : List V} {ds : List D} (k : Key) {v : V} {d : D} (rs : RepL T xp G ι vs ds) (r : Rep T xp G ι v d) : (Den.putZ ks vs k v).1 = (Den.putZ ks ds k d).1 ∧ RepL T xp G ι (Den.putZ ks vs k v).2 (Den.putZ ks ds k d).2 := by
  unfold Den.putZ
  split
  · exact ⟨rfl, RepL.zipmap k r rs⟩
  · exact ⟨rfl, rs.append (.cons r .nil)⟩
theorem RepL.valZ (k : Key) : ∀ {ks : List Key} {vs : List V} {ds : List D} {d : D}, RepL T xp G ι vs ds → Den.valZ ks ds k = some d → ∃ v, valV (ks.zip vs) k = some v ∧ Rep T xp G ι v d
  | [], _, _, _, _, h => by simp [Den.valZ] at h
  | _ :: _, [], [], _, .nil, h => by simp [Den.valZ] at h
  | a :: ks, v :: _, _, _, .cons r1 rs, h => by
    by_cases e : a = k
    · unfold Den.valZ at h
      rw [List.zip_cons_cons, List.find?_cons_of_pos (by simpa using e)] at h
      cases h
      exact ⟨v, by unfold valV; rw [List.zip_cons_cons, List.find?_cons_of_pos (by simpa using e)]; rfl, r1⟩
    · unfold Den.valZ at h
      rw [List.zip_cons_cons, List.find?_cons_of_neg (by simpa using e)] at h
      obtain ⟨w, hw, rw'⟩ := RepL.valZ k rs h
      exact ⟨w, by unfold valV at hw ⊢; rw [List.zip_cons_cons, List.find?_cons_of_neg (by simpa using e)]; exact hw, rw'⟩
end
def keyOf : D → Option Key
  | .int i => some (.inl i)
  | .str x => some (.inr x)
  | _ => none
theorem key_rep {T : Txt} {xp : XT} {G : Hp} {ι : Io} {v : V} {d : D} {k : Key} (r : Rep T xp G ι v d) (h : keyOf d = some k) : v = kV k := by
  cases r with
  | int i => cases h; rfl
  | str x => cases h; rfl
  | _ => cases h

/-! ### {}, d[k] = v, told for good -/
section
variable {C : Ctx} {a b e : Expr} {ma mb me : DE} {pos pos' : Pos}
def dNewD : DE := fun _ st => .ok (.box st.length) (st ++ [.dic [] []])
theorem pd_newD : PD C (.Dict [] [] pos) dNewD :=
  PE.imp pe_dnewK fun σ H Q ⟨ρ, st, ι, er, rl, p⟩ q hq => by
    obtain ⟨r1, s1⟩ := rl.newMut (o := .dK []) (c := .dic [] []) hq rfl fun ι' hp => ⟨[], upd_same, rfl, .nil⟩
    exact p _ _ _ s1 r1 (.box (by rw [← rl.len]; exact Io.add_at ι q))
def dFrzD (a : DE) : DE := fun ρ st => (a ρ st).bind fun d s1 => match d with
  | .box k => match s1[k]? with
    | some (.dic ks xs) => .ok (.dic ks xs) (s1.set k .dead)
    | _ => .bad
  | _ => .bad
theorem pd_frzD (h : PD C e me) : PD C e (dFrzD me) := PE.imp (pe_lock h) fun σ H Q ⟨ρ, st, ι, er, rl, p⟩ => by
  refine ⟨ρ, st, ι, er, rl, post_bind p fun d s1 v ι1 H1 st1 rl1 rv p1 => ?_⟩
  cases rv with
  | @box k a hk =>
    dsimp only at p1
    split at p1
    · rename_i ks xs hs
      obtain ⟨ys, h1, h2, h3⟩ := rl1.ok _ _ _ hk hs
      refine ⟨a, _, rfl, h1, trivial, fun od => ?_⟩
      obtain ⟨r, s, e⟩ := rl1.freezeW (o := .frz od (.dK (ks.zip ys))) hk hs rfl
      exact p1 _ ι1 _ s r (.dic e h2 (h3.mono s.ex s.pre))
    · exact p1.elim
  | _ => exact p1.elim
def sSetK (o i a : DE) : DS := fun ρ st => (a ρ st).into ρ fun x s1 => (o ρ s1).into ρ fun d s2 => (i ρ s2).into ρ fun y s3 => match d, keyOf y with
  | .box k, some kk => match s3[k]? with
    | some (.dic ks xs) => if ks.length < 100000 then .nx ρ (s3.set k (.dic (putZ ks xs kk x).1 (putZ ks xs kk x).2)) else .bad
    | _ => .bad
  | _, _ => .bad
theorem pds_setK {o ix : Expr} {mo mi : DE} (he : PD C e me) (ho : PD C o mo) (hi : PD C ix mi) (hg : ∀ t t', PE C.X o t → PE C.X ix t' → PG C.X (.Subscript o ix pos') (gSub t t' rSetD)) (hs : swapsWithSole [.Subscript o ix pos'] e pos.line C.X.env = pure false := by rfl)
    (hw : swappedStores [.Subscript o ix pos'] e C.X.env = pure none := by rfl) (h1 : (assignEach [.Subscript o ix pos'] C.X.env).map (·.2) = [assign (.Subscript o ix pos') C.X.env] := by rfl) : PDS C (.Assign [.Subscript o ix pos'] e pos) (sSetK mo mi me) :=
  PS.imp (ps_asg he (hg _ _ ho hi) hs hw h1) fun D σ H ⟨ρ, st, ι, er, rl, p⟩ => by
    refine ⟨ρ, st, ι, er, rl, post_into p er fun d s1 v ι1 H1 st1 rl1 er1 rv p1 => ?_⟩
    refine ⟨ρ, s1, ι1, er1, rl1, post_into p1 er1 fun d2 s2 v2 ι2 H2 st2 rl2 er2 rv2 p2 => ?_⟩
    refine ⟨ρ, s2, ι2, er2, rl2, post_into p2 er2 fun d3 s3 v3 ι3 H3 st3 rl3 er3 rv3 p3 => ?_⟩
    split at p3
    · rename_i k kk hkk
      split at p3
      · rename_i ks xs hx
        split at p3
        · rename_i hl
          have ek := key_rep rv3 hkk
          subst ek
          have rv' := rv.mono (st2.ex.trans st3.ex) (st2.pre.trans st3.pre)
          cases rv2.mono st3.ex st3.pre with
          | @box _ a hk =>
            obtain ⟨ws, hw, hlen, rw'⟩ := rl3.ok _ _ _ hk hx
            have hz : (ks.zip ws).length < sizeLine := by rw [List.length_zip]; exact Nat.lt_of_le_of_lt (Nat.min_le_left _ _) (line_lt hl)
            refine ⟨a, _, rfl, DPut.k hw hz, ?_⟩
            rw [putK_zip hlen]
            obtain ⟨q1, q2⟩ := RepL.putZ (ks := ks) kk rw' rv'
            obtain ⟨r2, s2'⟩ := rl3.write (o := .dK ((putZ ks ws kk v).1.zip (putZ ks ws kk v).2)) (c' := .dic (putZ ks xs kk d).1 (putZ ks xs kk d).2) hk hx rfl rfl ⟨_, by rw [upd_same, q1], by rw [← q1]; exact putZ_len hlen, q2⟩
            exact p3 σ ι3 _ s2' r2 (er3.step s2')
        · exact p3.elim
      · exact p3.elim
    · exact p3.elim
/-! ### d[k], len(d) -/
theorem PE.or {X : Cx} {e : Expr} {t t' : TE} (h : PE X e t) (h' : PE X e t') : PE X e (fun σ H Q => t σ H Q ∨ t' σ H Q) := ⟨fun pins s σ H Q I q => q.elim (h.run pins s σ H Q I) (h'.run pins s σ H Q I)⟩
def dIxK (a b : DE) : DE := fun ρ st => (a ρ st).bind fun x s1 => (b ρ s1).bind fun y s2 => match x, keyOf y with
  | .dic ks xs, some k => match valZ ks xs k with
    | some z => .ok z s2
    | none => .bad
  | _, _ => .bad
theorem pd_ixK (hu : C.X.A.units + 64 < cLine) (ha : PD C a ma) (hb : PD C b mb) (hs : NoSl b := by intro _ _; rfl) : PD C (.Subscript a b pos) (dIxK ma mb) :=
  PE.imp (pe_dget (by omega) ha hb hs) fun σ H Q ⟨ρ, st, ι, er, rl, p⟩ => by
    refine ⟨ρ, st, ι, er, rl, post_bind p fun d s1 v ι1 H1 st1 rl1 rv p1 => ?_⟩
    refine ⟨ρ, s1, ι1, er.step st1, rl1, post_bind p1 fun d2 s2 v2 ι2 H2 st2 rl2 rv2 p2 => ?_⟩
    split at p2
    · rename_i ks xs k hk
      split at p2
      · rename_i z hz
        have ek := key_rep rv2 hk
        subst ek
        cases rv.mono st2.ex st2.pre with
        | dic h1 h2 h3 =>
          obtain ⟨w, hw, rw'⟩ := RepL.valZ k h3 hz
          exact ⟨_, w, rfl, .inl ⟨_, k, .inr ⟨_, hide_sub h1⟩, rfl, hw.symm⟩, p2 w ι2 H2 (Step.refl _ _ _) rl2 rw'⟩
      · exact p2.elim
    · exact p2.elim
def rLenK : List V → Hp → VK → Prop := fun xs H Q => ∃ a kvs, xs = [.ref a] ∧ Rd H a (.dK kvs) ∧ Q (.int kvs.length) H
theorem call_lenK {X : Cx} : CallR X (.builtin "len") rLenK := by
  intro pins s σ H xs us Q I r h
  obtain ⟨a, kvs, rfl, hd, q⟩ := h
  obtain rfl := Vals.ref1 r
  exact d_len I hd fun t s' I' => ⟨.int _, H, I', ⟨t, rfl⟩, q⟩
def gLenK (x : D) (_ : Store) : Option D := match x with
  | .dic ks xs => if ks.length = xs.length then some (.int ks.length) else none
  | _ => none
theorem blt_lenK : BltD C "len" (one gLenK) := ⟨_, call_lenK, fun ι st H xs ds d st' Q rl rx e k => by
  obtain ⟨x, rfl, hg, rfl⟩ := one_some e
  obtain ⟨v, rfl, rv⟩ := repL_one rx
  unfold gLenK at hg
  split at hg
  · split at hg
    · rename_i hl
      cases hg
      cases rv with
      | dic h1 h2 h3 =>
        refine ⟨_, _, rfl, .inr ⟨_, hide_sub h1⟩, ?_⟩
        have : ∀ (ks : List Key) (ys : List V), ks.length = ys.length → (ks.zip ys).length = ks.length := fun ks ys e => by rw [List.length_zip, e]; exact Nat.min_self _
        rw [this _ _ h2]
        exact k _ ι H (Step.refl _ _ _) rl (.int _)
    · cases hg
  · cases hg⟩
/-- len of whatever has one -/
theorem blt_lenA : BltD C "len" (orB (one gLen) (one gLenK)) := BltD.or blt_len blt_lenK
end
end Den

set_option maxRecDepth 100000
set_option maxHeartbeats 4000000
/-! Den: walks over anything, for and comprehensions; comprehensions of two clauses. -/
namespace Den
open PySem PySem.Spec PyProof.Rows L2

/-! ### what is gone through -/
abbrev DIt := Rho → Store → Res (List D)
/-- a walk that gives the items ds, one by one, and leaves the heap -/
def Src (T : Txt) (xp : XT) (G0 : Hp) (ι0 : Io) (J : It) (ds : List D) : Prop := ∃ Gd : Hp → Prop, Walk J ds.length Gd (fun i H x H' => H' = H ∧ ∃ d, ds[i]? = some d ∧ Rep T xp G0 ι0 x d) ∧ ∀ H', Le G0 H' → Gd H'
def tDI (T : Txt) (xp : XT) (W : WX) (m : DIt) : TI := fun σ H R => ∃ ρ st ι, EnvR T xp (hide ι st H) ι ρ σ ∧ RelSt T xp ι st H ∧ Post T xp (fun c d H => W c d σ H) ι st H (fun G ι J ds => Src T xp G ι J ds) R (m ρ st)
abbrev PDI (C : Ctx) (tg e : Expr) (m : DIt) : Prop := PI C.X tg e (tDI C.T C.xp C.W m)
theorem PI.imp {X : Cx} {tg e : Expr} {t t' : TI} (h : PI X tg e t) (i : ∀ σ H R, t' σ H R → t σ H R) : PI X tg e t' := ⟨fun pins s σ H R I q => h.run pins s σ H R I (i σ H R q)⟩
section
variable {T : Txt} {xp : XT} {G : Hp} {ι : Io}
theorem src_list {K : PySem.W.Frag} {a : Addr} {xs : List V} {ds : List D} (h : SqL K G a xs) (r : RepL T xp G ι xs ds) : Src T xp G ι (Itl K a) ds := by
  refine ⟨fun H => SqL K H a xs, ?_, fun H' e => le_l e h⟩
  rw [← r.length]
  exact walk_list.mono (fun _ q => q) fun i H x H' _ _ y => ⟨y.1, r.getV y.2⟩
theorem src_tup {K : PySem.W.Frag} {a : Addr} {xs : List V} {ds : List D} (h : SqT K G a xs) (r : RepL T xp G ι xs ds) : Src T xp G ι (Itt K a) ds := by
  refine ⟨fun H => SqT K H a xs, ?_, fun H' e => le_t e h⟩
  rw [← r.length]
  exact walk_tup.mono (fun _ q => q) fun i H x H' _ _ y => ⟨y.1, r.getV y.2⟩
theorem src_range {lo : Int} {n : Nat} : Src T xp G ι (Itr lo n) (rangeD lo n) := by
  refine ⟨fun _ => True, ?_, fun _ _ => trivial⟩
  rw [range_len]
  exact walk_range.mono (fun _ q => q) fun i H x H' hi _ y => ⟨y.1, _, range_at hi, by rw [y.2]; exact .int _⟩
theorem src_str {z : Str} : Src T xp G ι (Its z) (signsD z) := by
  refine ⟨fun _ => True, ?_, fun _ _ => trivial⟩
  have hl : (signsD z).length = z.cps.size := by unfold signsD; simp
  rw [hl]
  refine walk_str.mono (fun _ q => q) fun i H x H' hi _ ⟨e, c, hc, ev⟩ => ⟨e, .str ⟨#[c]⟩, ?_, by rw [ev]; exact .str _⟩
  unfold signsD
  rw [List.getElem?_map, Array.getElem?_toList, hc]
  rfl
def keyD' : Key → D
  | .inl i => .int i
  | .inr x => .str x
theorem key_rep' (k : Key) : Rep T xp G ι (kV k) (keyD' k) := by
  cases k with
  | inl i => exact .int i
  | inr x => exact .str x
theorem zip_at {α β : Type} {ks : List α} {xs : List β} {i : Nat} {k : α} {x : β} (h : (ks.zip xs)[i]? = some (k, x)) : ks[i]? = some k ∧ xs[i]? = some x := by
  rw [List.getElem?_zip_eq_some] at h
  exact h
theorem src_keys {d : Addr} {o : Obj} {ks : List Key} {xs : List V} (h : G d = some (.frz o (.dK (ks.zip xs)))) (hl : ks.length = xs.length) : Src T xp G ι (Itk d o (ks.zip xs)) (ks.map keyD') := by
  refine ⟨fun H => H d = some (.frz o (.dK (ks.zip xs))), ?_, fun H' e => e _ _ h⟩
  have he : (ks.map keyD').length = (ks.zip xs).length := by rw [List.length_map, List.length_zip]; omega
  rw [he]
  refine walk_keys.mono (fun _ q => q) fun i H x H' hi _ ⟨e, k, v, hk, ev⟩ => ⟨e, keyD' k, ?_, by rw [ev]; exact key_rep' k⟩
  rw [List.getElem?_map, (zip_at hk).1]
  rfl
theorem src_values {d : Addr} {o : Obj} {ks : List Key} {xs : List V} {ds : List D} (h : G d = some (.frz o (.dK (ks.zip xs)))) (hl : ks.length = xs.length) (r : RepL T xp G ι xs ds) : Src T xp G ι (Itd d o (ks.zip xs)) ds := by
  refine ⟨fun H => H d = some (.frz o (.dK (ks.zip xs))), ?_, fun H' e => e _ _ h⟩
  have he : ds.length = (ks.zip xs).length := by rw [List.length_zip, ← r.length]; omega
  rw [he]
  exact walk_values.mono (fun _ q => q) fun i H x H' hi _ ⟨e, k, hk⟩ => ⟨e, r.getV (zip_at hk).2⟩
end
section
variable {C : Ctx} {e tg iter : Expr} {me : DE} {mi : DIt} {ma : DA} {pos apos cpos : Pos}
/-- over a list, a tuple, a dict's keys, a text -/
def iSeq (a : DE) : DIt := fun ρ st => (a ρ st).bind fun d s1 => match d with
  | .lst xs => .ok xs s1
  | .ro xs => .ok xs s1
  | _ => .bad
def iTupD (a : DE) : DIt := fun ρ st => (a ρ st).bind fun d s1 => match d with
  | .tup xs => .ok xs s1
  | _ => .bad
def iKeysD (a : DE) : DIt := fun ρ st => (a ρ st).bind fun d s1 => match d with
  | .dic ks _ => .ok (ks.map keyD') s1
  | _ => .bad
def iValsD (a : DE) : DIt := fun ρ st => (a ρ st).bind fun d s1 => match d with
  | .dic _ xs => .ok xs s1
  | _ => .bad
def iStrD (a : DE) : DIt := fun ρ st => (a ρ st).bind fun d s1 => match d with
  | .str z => .ok (signsD z) s1
  | _ => .bad
def iR1 (a : DA) : DIt := fun ρ st => (a ρ st).bind fun ds s1 => match ds with
  | [.int j] => if big62 j then .ok (rangeD 0 j.toNat) s1 else .bad
  | _ => .bad
def iR2 (a : DA) : DIt := fun ρ st => (a ρ st).bind fun ds s1 => match ds with
  | [.int i, .int j] => if big62 i ∧ big62 j then .ok (rangeD i (j - i).toNat) s1 else .bad
  | _ => .bad
theorem pdi_seq (h : PD C e me) : PDI C tg e (iSeq me) := PI.imp (pi_list h) fun σ H R ⟨ρ, st, ι, er, rl, p⟩ => by
  refine ⟨ρ, st, ι, er, rl, post_bind p fun d s1 v ι1 H1 st1 rl1 rv p1 => ?_⟩
  rw [C.hK]
  cases rv with
  | lst h1 r1 => exact ⟨_, rfl, ⟨_, SqL.of (hide_sub h1)⟩, p1 _ ι1 H1 (Step.refl _ _ _) rl1 (src_list (SqL.of h1) r1)⟩
  | ro h1 r1 => exact ⟨_, rfl, ⟨_, le_l (hide_le _ _ _) h1⟩, p1 _ ι1 H1 (Step.refl _ _ _) rl1 (src_list h1 r1)⟩
  | _ => exact p1.elim
theorem pdi_tup (h : PD C e me) : PDI C tg e (iTupD me) := PI.imp (pi_tup h) fun σ H R ⟨ρ, st, ι, er, rl, p⟩ => by
  refine ⟨ρ, st, ι, er, rl, post_bind p fun d s1 v ι1 H1 st1 rl1 rv p1 => ?_⟩
  rw [C.hK]
  cases rv with
  | tup h1 r1 => exact ⟨_, rfl, ⟨_, le_t (hide_le _ _ _) h1⟩, p1 _ ι1 H1 (Step.refl _ _ _) rl1 (src_tup h1 r1)⟩
  | _ => exact p1.elim
theorem pdi_keys (h : PD C e me) : PDI C tg e (iKeysD me) := PI.imp (pi_keys h) fun σ H R ⟨ρ, st, ι, er, rl, p⟩ => by
  refine ⟨ρ, st, ι, er, rl, post_bind p fun d s1 v ι1 H1 st1 rl1 rv p1 => ?_⟩
  cases rv with
  | dic h1 h2 h3 => exact ⟨_, _, rfl, .inl ⟨_, hide_sub h1, p1 _ ι1 H1 (Step.refl _ _ _) rl1 (src_keys h1 h2)⟩⟩
  | _ => exact p1.elim
theorem pdi_values (h : PD C e me) (hbase : attributeBase e "values" C.X.env (eval e C.X.env) = eval e C.X.env := by rfl) (hline : (apos.endLine == cpos.line) = true := by rfl) : PDI C tg (.Call (.Attribute e "values" apos) [] [] cpos) (iValsD me) :=
  PI.imp (pi_values h hbase hline) fun σ H R ⟨ρ, st, ι, er, rl, p⟩ => by
  refine ⟨ρ, st, ι, er, rl, post_bind p fun d s1 v ι1 H1 st1 rl1 rv p1 => ?_⟩
  cases rv with
  | dic h1 h2 h3 => exact ⟨_, _, _, rfl, hide_sub h1, p1 _ ι1 H1 (Step.refl _ _ _) rl1 (src_values h1 h2 h3)⟩
  | _ => exact p1.elim
theorem pdi_str (h : PD C e me) : PDI C tg e (iStrD me) := PI.imp (pi_str h) fun σ H R ⟨ρ, st, ι, er, rl, p⟩ => by
  refine ⟨ρ, st, ι, er, rl, post_bind p fun d s1 v ι1 H1 st1 rl1 rv p1 => ?_⟩
  cases rv with
  | str z => exact ⟨z, rfl, p1 _ ι1 H1 (Step.refl _ _ _) rl1 src_str⟩
  | _ => exact p1.elim
theorem pdi_R1 {a : Expr} {p : Pos} (hg : Gl C.X "range") (hm : C.X.mg "range" = none) (ha : PDA C [a] ma) (hs : starEach [a] C.X.env = [(false, eval a C.X.env)] := by rfl) : PDI C tg (.Call (.Name "range" p) [a] [] pos) (iR1 ma) :=
  PI.imp (pi_range1 hg hm ha hs) fun σ H R ⟨ρ, st, ι, er, rl, p⟩ => by
  refine ⟨ρ, st, ι, er, rl, post_bind p fun ds s1 vs ι1 H1 st1 rl1 rv p1 => ?_⟩
  split at p1
  · rename_i j
    split at p1
    · rename_i hj
      obtain ⟨v, rfl, r1⟩ := repL_one rv
      cases r1
      exact ⟨j, rfl, hj.1, hj.2, p1 _ ι1 H1 (Step.refl _ _ _) rl1 src_range⟩
    · exact p1.elim
  · exact p1.elim
theorem pdi_R2 {a b : Expr} {p : Pos} (hg : Gl C.X "range") (hm : C.X.mg "range" = none) (ha : PDA C [a, b] ma) (hs : starEach [a, b] C.X.env = [(false, eval a C.X.env), (false, eval b C.X.env)] := by rfl) (hs2 : starEach [b] C.X.env = [(false, eval b C.X.env)] := by rfl) : PDI C tg (.Call (.Name "range" p) [a, b] [] pos) (iR2 ma) :=
  PI.imp (pi_range2 hg hm ha hs hs2) fun σ H R ⟨ρ, st, ι, er, rl, p⟩ => by
  refine ⟨ρ, st, ι, er, rl, post_bind p fun ds s1 vs ι1 H1 st1 rl1 rv p1 => ?_⟩
  split at p1
  · rename_i i j
    split at p1
    · rename_i hj
      have ev := repL_ints rv
      subst ev
      exact ⟨i, j, rfl, ⟨hj.1.1, hj.1.2, hj.2.1, hj.2.2⟩, p1 _ ι1 H1 (Step.refl _ _ _) rl1 src_range⟩
    · exact p1.elim
  · exact p1.elim
/-! ### for, a comprehension -/
variable {g : TG} {gd : GD} {is : List Nat} {mb : DS} {bd : List Stmt} {t : DT} {de : DE} {elt : Expr} {ifs : List Expr} {scope : Scope} {own : List (Str × Nat)}
def sForS (mi : DIt) (g : GD) (b : DS) : DS := fun ρ st => (mi ρ st).into ρ fun ds s1 => forL g b ds ρ s1
theorem pds_forS (hp : PassesOwn (model C.X.prog C.X.w) C.X.A C.X.env C.X.xe) (hc : C.X.calm = true) (hi : PDI C tg iter mi) (hg : PG C.X tg g) (hd : TgD C.T C.T.K g gd is) (hb : PDSs C bd mb) (hs : ∀ x, foldedSetIterable iter C.X.env x = pure x := by intro _; rfl) :
    PDS C (.For tg iter bd [] pos) (sForS mi gd mb) :=
  PS.imp (ps_for hp hc hi hg hb hs) fun D σ H ⟨ρ, st, ι, er, rl, p⟩ => by
    refine ⟨ρ, st, ι, er, rl, post_into p er fun ds s1 J ι1 H1 st1 rl1 er1 ⟨Gd, wk, hG⟩ p1 => ?_⟩
    exact for_it wk (Left C.T C.xp C.W D gd mb ds (hide ι1 s1 H1) ι1) ⟨ρ, s1, ι1, Le.refl _, Pre.refl _, rl1, er1, p1⟩
      (fun i σ' H' _ ⟨_, st', ι', hl, _, _⟩ => hG _ (hl.trans (hide_le _ _ _)))
      (fun i x σ' H' H'' hi hL ⟨eH, d, hd', rd⟩ => by
        subst eH
        exact left_turn hd hd' (fun ι' st' hl hp' => rd.mono hl hp') hL)
      (fun σ' H' hL => left_end (Nat.le_refl _) hL)
def dLc (mi : DIt) (g : GD) (t : DT) (e : DE) (vs : List Nat) : DE := fun ρ st => (mi ρ st).bind fun ds s1 => if ds.length ≤ 100000 then lcEnd (lcL g t e (wipeD ρ vs) ds s1) else .bad
theorem pd_lc (hc : C.X.calm = true) (hN : C.X.N.Nodup) (hi : PDI C tg iter mi) (ok : BlkOk C.X.N C.X.env.scope scope own) (hg : ∀ s H c cl fp, PG (C.blk s H scope c cl fp).X tg g) (hd : TgD C.T C.T.K g gd is) (hv : ∀ j ∈ is, j ∈ own.map (·.2))
    (ht : ∀ s H c cl fp, PDTs (C.blk s H scope c cl fp) ifs t) (he : ∀ s H c cl fp, PD (C.blk s H scope c cl fp) elt de) (hs : ∀ x, foldedSetIterable iter C.X.env x = pure x := by intro _; rfl) :
    PD C (.ListComp elt [⟨tg, iter, ifs, 0⟩] scope pos) (dLc mi gd t de (own.map (·.2))) :=
  PE.imp (pe_lc hc hN hi ok hg ht he hs) fun σ H Q ⟨ρ, st, ι, er, rl, p⟩ => by
    refine ⟨ρ, st, ι, er, rl, post_bind p fun ds s1 J ι1 H1 st1 rl1 ⟨Gd, wk, hG⟩ p1 => ?_⟩
    have er1 := er.step st1
    intro D hD
    split at p1
    · rename_i hl
      exact lc_it wk (LeftC C.T C.xp (fun c d H => C.W c d σ H) Q gd t de (wipeD ρ (own.map (·.2))) ds ι1 s1 H1 D) (leftC_start rl1 hD p1) (fun i H' _ hL => hG _ (leftC_sq hD hL))
        (fun i x H' H'' hi hL ⟨eH, d, hd', rd⟩ => by
          subst eH
          exact leftC_turn hd hv (by omega) er1 hD hd' rd hL)
        (fun H' hL => leftC_end rl1 hD (Nat.le_refl _) hL)
    · exact p1.elim
end
end Den

set_option maxRecDepth 100000
set_option maxHeartbeats 4000000
/-! Den: comprehensions of two clauses. -/
namespace Den
open PySem PySem.Spec PyProof.Rows L2
theorem noX_bind {α β : Type} {m : Res α} {k : α → Store → Res β} (hk : ∀ a s c xs s', k a s ≠ .exc c xs s') : ∀ c xs s, (noX m).bind k ≠ .exc c xs s := by
  intro c xs s h
  cases m with
  | ok a s1 => exact hk a s1 c xs s h
  | exc c' xs' s' => cases h
  | bad => cases h
theorem bind_no {α β : Type} {m : Res α} {k : α → Store → Res β} (hm : ∀ c xs s, m ≠ .exc c xs s) (hk : ∀ a s c xs s', k a s ≠ .exc c xs s') : ∀ c xs s, m.bind k ≠ .exc c xs s := by
  intro c xs s h
  cases hq : m with
  | ok a s1 => rw [hq] at h; exact hk a s1 c xs s h
  | exc c' xs' s' => exact hm _ _ _ hq
  | bad => rw [hq] at h; cases h
theorem lcL_no {g : GD} {t : DT} {e : DE} {ρ : Rho} : ∀ {ds : List D} {st : Store} (c : Nat) (xs : List D) (s : Store), lcL g t e ρ ds st ≠ .exc c xs s
  | [], st, c, xs, s, h => by cases h
  | d :: ds, st, c, xs, s, h => by
    unfold lcL at h
    cases hg : g d ρ with
    | none => rw [hg] at h; cases h
    | some ρ' =>
      rw [hg] at h
      refine noX_bind (fun b s1 c xs s' h => ?_) c xs s h
      cases b with
      | false => exact lcL_no c xs s' h
      | true => exact noX_bind (fun y s2 => bind_no (fun _ _ _ => lcL_no _ _ _) fun ys s3 c xs s' h => by cases h) c xs s' h
/-- all turns of the outer clause -/
def lc2L (g : GD) (t : DT) (mi : DIt) (g1 : GD) (t1 : DT) (e : DE) (vs1 : List Nat) (ρ : Rho) : List D → Store → Res (List D)
  | [], st => .ok [] st
  | x :: xs, st => match g x ρ with
    | none => .bad
    | some ρ' => (noX (t ρ' st)).bind fun b s1 => match b with
      | true => (noX (mi ρ' s1)).bind fun ds s2 => (lcL g1 t1 e (wipeD ρ' vs1) ds s2).bind fun ys s3 => (lc2L g t mi g1 t1 e vs1 ρ xs s3).bind fun zs s4 => .ok (ys ++ zs) s4
      | false => lc2L g t mi g1 t1 e vs1 ρ xs s1
theorem lc2L_no {g : GD} {t : DT} {mi : DIt} {g1 : GD} {t1 : DT} {e : DE} {vs1 : List Nat} {ρ : Rho} : ∀ {ds : List D} {st : Store} (c : Nat) (xs : List D) (s : Store), lc2L g t mi g1 t1 e vs1 ρ ds st ≠ .exc c xs s
  | [], st, c, xs, s, h => by cases h
  | d :: ds, st, c, xs, s, h => by
    unfold lc2L at h
    cases hg : g d ρ with
    | none => rw [hg] at h; cases h
    | some ρ' =>
      rw [hg] at h
      refine noX_bind (fun b s1 c xs s' h => ?_) c xs s h
      cases b with
      | false => exact lc2L_no c xs s' h
      | true => exact noX_bind (fun ds' s2 => bind_no (fun _ _ _ => lcL_no _ _ _) fun ys s3 => bind_no (fun _ _ _ => lc2L_no _ _ _) fun zs s4 c xs s' h => by cases h) c xs s' h
section
variable {C : Ctx} {p : Addr} {ι1 ι : Io} {s1 st : Store} {H1 H : Hp} {W : Value → Option Addr → Hp → Prop} {Q : VK}
/-- a list on its way at p: what it holds, what is left -/
structure Way (C : Ctx) (W : Value → Option Addr → Hp → Prop) (Q : VK) (ι1 : Io) (s1 : Store) (H1 : Hp) (p : Addr) (rem : Res (List D)) (acc : List V) (ys : List D) (ι : Io) (st : Store) (H : Hp) : Prop where
  s : Step (ι1.under p) s1 (upd H1 p (.lst [])) ι st (upd H p (.lst []))
  rl : RelSt C.T C.xp ι st H
  hp : H p = some (.lst acc)
  ra : RepL C.T C.xp (hide ι st H) ι acc ys
  q : Post C.T C.xp W ι1 s1 H1 (Rep C.T C.xp) Q (lcEnd (rem.bind fun zs s2 => .ok (ys ++ zs) s2))
theorem Way.hd {rem : Res (List D)} {acc : List V} {ys : List D} (w : Way C W Q ι1 s1 H1 p rem acc ys ι st H) : p ∈ ι.hd := Io.under_hd w.s.pre
/-- a step that leaves the list on its way -/
theorem under_step {ιa ιb : Io} {sa sb : Store} {Ha Hb : Hp} (ha : p ∈ ιa.hd) (z : Step ιa sa Ha ιb sb Hb) : Step ιa sa (upd Ha p (.lst [])) ιb sb (upd Hb p (.lst [])) := by
  have hb : p ∈ ιb.hd := by rw [z.pre.hd]; exact ha
  refine ⟨z.pre, by rw [hide_hd ha, hide_hd hb]; exact z.ex, fun a h => ?_⟩
  by_cases ea : a = p
  · rw [ea, upd_same, upd_same]
  · rw [upd_ne ea, upd_ne ea]
    exact z.hd a h
theorem Way.step {rem : Res (List D)} {acc : List V} {ys : List D} (w : Way C W Q ι1 s1 H1 p rem acc ys ι st H) {ι' : Io} {st' : Store} {H' : Hp} (z : Step ι st H ι' st' H') (rl : RelSt C.T C.xp ι' st' H') : Way C W Q ι1 s1 H1 p rem acc ys ι' st' H' :=
  ⟨w.s.trans (under_step w.hd z), rl, (z.hd p w.hd).trans w.hp, w.ra.mono z.ex z.pre, w.q⟩
theorem Way.rem {r r' : Res (List D)} {acc : List V} {ys : List D} (w : Way C W Q ι1 s1 H1 p r acc ys ι st H) (e : r = r') : Way C W Q ι1 s1 H1 p r' acc ys ι st H := e ▸ w
/-- what is left isn't nothing: there is room for one more -/
theorem Way.room {y : D} {m : Res (List D)} {acc : List V} {ys : List D} (hm : ∀ c xs s, m ≠ .exc c xs s) (w : Way C W Q ι1 s1 H1 p (m.bind fun zs s => .ok (y :: zs) s) acc ys ι st H) : acc.length < sizeLine := by
  have q := w.q
  cases h : m with
  | ok zs s =>
    rw [h] at q
    simp only [bind_ok] at q
    unfold lcEnd at q
    simp only [bind_ok] at q
    split at q
    · rename_i hl
      rw [w.ra.length]
      refine line_lt ?_
      rw [List.length_append, List.length_cons] at hl
      omega
    · exact q.elim
  | exc c xs s => exact absurd h (hm c xs s)
  | bad =>
    rw [h] at q
    exact q.elim
theorem Way.put {y : D} {v : V} {m : Res (List D)} {acc : List V} {ys : List D} (w : Way C W Q ι1 s1 H1 p (m.bind fun zs s => .ok (y :: zs) s) acc ys ι st H) (rv : Rep C.T C.xp (hide ι st H) ι v y) : Way C W Q ι1 s1 H1 p m (acc ++ [v]) (ys ++ [y]) ι st (upd H p (.lst (acc ++ [v]))) := by
  have hm := w.hd
  refine ⟨?_, w.rl.hdw hm _, upd_same, ?_, ?_⟩
  · rw [upd_upd]; exact w.s
  · rw [hide_hd hm]; exact w.ra.append (.cons rv .nil)
  · have q := w.q
    cases h : m with
    | ok zs s => rw [h] at q; simp only [bind_ok] at q ⊢; rw [List.append_assoc]; exact q
    | exc c xs s => rw [h] at q; simp only [bind_exc] at q ⊢; exact q
    | bad => rw [h] at q; exact q.elim
theorem Way.ends {acc : List V} {ys : List D} (rl : RelSt C.T C.xp ι1 s1 H1) (hn : H1 p = none) (w : Way C W Q ι1 s1 H1 p (.ok [] st) acc ys ι st H) : Q (.ref p) H := by
  have q := w.q
  simp only [bind_ok, List.append_nil] at q
  unfold lcEnd at q
  simp only [bind_ok] at q
  split at q
  · obtain ⟨r', s', rr⟩ := undone rl hn w.s w.rl w.hp w.ra
    exact q _ _ _ s' r' rr
  · exact q.elim
/-- a loop by what holds ahead of each turn -/
theorem loop_of {J : It} {n : Nat} {Gd : Hp → Prop} {Y : Nat → Hp → V → Hp → Prop} (wk : Walk J n Gd Y) {P : Nat → Hp → Prop} {E : Hp → Prop} {B : V → Hp → (Hp → Prop) → Prop} {H0 : Hp} (h0 : P 0 H0) (hG : ∀ i H, P i H → Gd H)
    (hs : ∀ i x Ha Hb, i < n → P i Ha → Y i Ha x Hb → B x Hb (P (i + 1))) (he : ∀ H, P n H → E H) :
    ∃ Wd : Nat → Nat → Hp → Prop, (∃ m, Wd 0 m H0) ∧ ∀ i m H, Wd i m H → (J.stop i H ∧ E H) ∨ (J.go i H ∧ ∃ Nx : Hp → Prop, (∀ H', Nx H' → ∃ m', m' < m ∧ Wd (i + 1) m' H') ∧ ∀ x H', J.yld i H x H' → B x H' Nx) := by
  let Wd : Nat → Nat → Hp → Prop := fun i m H => i + m = n ∧ P i H
  refine ⟨Wd, ⟨n, Nat.zero_add n, h0⟩, fun i m H w => ?_⟩
  obtain ⟨hm, hp⟩ := w
  cases m with
  | zero =>
    have e : i = n := hm
    rw [e] at hp ⊢
    exact Or.inl ⟨wk.stops _ (hG _ _ hp), he _ hp⟩
  | succ m =>
    have lt : i < n := by omega
    exact Or.inr ⟨wk.goes _ _ lt (hG _ _ hp), P (i + 1), fun H' hq => ⟨m, Nat.lt_succ_self m, by show i + 1 + m = n; omega, hq⟩, fun x H' hy => hs _ _ _ _ lt hp (wk.yields _ _ _ _ lt (hG _ _ hp) hy)⟩
theorem bind_put {y : D} {m : Res (List D)} {k : Store → Res (List D)} : ((m.bind fun ys s => .ok (y :: ys) s).bind fun ys s => (k s).bind fun zs s' => .ok (ys ++ zs) s') = (m.bind fun ys s => (k s).bind fun zs s' => .ok (ys ++ zs) s').bind fun zs s => .ok (y :: zs) s := by
  cases m with
  | ok ys s =>
    simp only [bind_ok]
    cases k s <;> rfl
  | _ => rfl
/-- what stood when the inner walk began stands -/
structure Since (C : Ctx) (ιo : Io) (so : Store) (Ho : Hp) (ι : Io) (st : Store) (H : Hp) : Prop where
  le : Le (hide ιo so Ho) (hide ι st H)
  ad : ∀ (k : Nat) (a : Addr), ιo.ad[k]? = some a → ι.ad[k]? = some a
theorem Since.step {ιo ι' : Io} {so st' : Store} {Ho H' : Hp} (b : Since C ιo so Ho ι st H) (z : Step ι st H ι' st' H') : Since C ιo so Ho ι' st' H' := ⟨b.le.trans z.ex, fun k a e => z.pre.ad k a (b.ad k a e)⟩
variable {g1 : TG} {gd1 : GD} {is1 : List Nat} {t1 : DT} {e : DE} {vs1 : List Nat} {ds1 : List D} {ρ' : Rho} {σ2 : L2.St}
def Inner (C : Ctx) (W : Value → Option Addr → Hp → Prop) (Q : VK) (ι1 : Io) (s1 : Store) (H1 : Hp) (p : Addr) (gd1 : GD) (t1 : DT) (e : DE) (ρ : Rho) (ds1 : List D) (k : Store → Res (List D)) (ιo : Io) (so : Store) (Ho : Hp) (j : Nat) (H : Hp) : Prop :=
  ∃ ι st acc ys, Way C W Q ι1 s1 H1 p ((lcL gd1 t1 e ρ (ds1.drop j) st).bind fun ys s => (k s).bind fun zs s' => .ok (ys ++ zs) s') acc ys ι st H ∧ Since C ιo so Ho ι st H
theorem inner_turn {k : Store → Res (List D)} {ιo : Io} {so : Store} {Ho : Hp} {j : Nat} {d : D} {x : V} (hd1 : TgD C.T C.T.K g1 gd1 is1) (hv1 : ∀ i ∈ is1, i ∈ vs1) (hk : ∀ s c xs s', k s ≠ .exc c xs s') (er : EnvR C.T C.xp (hide ιo so Ho) ιo ρ' σ2) (hx : ds1[j]? = some d) (hr : Rep C.T C.xp (hide ιo so Ho) ιo x d)
    (h : Inner C W Q ι1 s1 H1 p gd1 t1 e (wipeD ρ' vs1) ds1 k ιo so Ho j H) :
    g1 x (wipe σ2 vs1) H fun σ3 H5 => wipe σ3 vs1 = wipe σ2 vs1 ∧ tDT C.T C.xp (fun _ _ _ _ => False) t1 σ3 H5 fun b H6 =>
      if b = true then tD C.T C.xp (fun _ _ _ _ => False) e σ3 H6 fun y H7 => ∃ acc, H7 p = some (.lst acc) ∧ acc.length < sizeLine ∧ Inner C W Q ι1 s1 H1 p gd1 t1 e (wipeD ρ' vs1) ds1 k ιo so Ho (j + 1) (upd H7 p (.lst (acc ++ [y])))
        else Inner C W Q ι1 s1 H1 p gd1 t1 e (wipeD ρ' vs1) ds1 k ιo so Ho (j + 1) H6 := by
  obtain ⟨ι, st, acc, ys, w, b⟩ := h
  rw [drop_at hx] at w
  unfold lcL at w
  have erw := er.wipe vs1
  have er' : EnvR C.T C.xp (hide ι st H) ι (wipeD ρ' vs1) (wipe σ2 vs1) := ⟨erw.len, fun i y hy => let ⟨v, q1, q2⟩ := erw.at_ i y hy; ⟨v, q1, q2.monoA b.le b.ad⟩⟩
  cases hg : gd1 d (wipeD ρ' vs1) with
  | none => rw [hg] at w; exact w.q.elim
  | some ρ3 =>
    rw [hg] at w
    dsimp only at w
    refine hd1.ok _ _ _ _ _ _ _ _ _ _ er' (hr.monoA b.le b.ad) hg fun σ3 er3 hw => ⟨?_, ρ3, st, ι, er3, w.rl, ?_⟩
    · rw [hw vs1 hv1]
      have again : ∀ (ws : List Nat) (τ : L2.St), (∀ i ∈ ws, i ∈ vs1) → wipe (wipe τ ws) vs1 = wipe τ vs1 := by
        intro ws
        induction ws with
        | nil => exact fun τ _ => rfl
        | cons i ws ih =>
          intro τ hi
          show wipe ((wipe τ ws).set i none) vs1 = _
          rw [wipe_set (hi i List.mem_cons_self)]
          exact ih τ fun z hz => hi z (List.mem_cons_of_mem _ hz)
      exact again vs1 σ2 fun _ z => z
    · cases ht : t1 ρ3 st with
      | bad => rw [ht] at w; exact w.q.elim
      | exc c es s2 => rw [ht] at w; exact w.q.elim
      | ok bb s2 =>
        rw [ht] at w
        simp only [noX, bind_ok] at w
        intro b' ι2 H2 st2 rl2 eb
        have eb' : b' = bb := eb
        subst eb'
        have w2 := w.step st2 rl2
        have b2 := b.step st2
        cases b' with
        | false => exact iteF ⟨ι2, s2, acc, ys, w2, b2⟩
        | true =>
          refine iteT ⟨ρ3, s2, ι2, er3.step st2, rl2, ?_⟩
          cases he : e ρ3 s2 with
          | bad => rw [he] at w2; exact w2.q.elim
          | exc c es s3 => rw [he] at w2; exact w2.q.elim
          | ok y s3 =>
            rw [he] at w2
            simp only [noX, bind_ok] at w2
            rw [bind_put] at w2
            intro v ι3 H3 st3 rl3 rv
            have w3 := w2.step st3 rl3
            have no : ∀ c xs s, ((lcL gd1 t1 e (wipeD ρ' vs1) (ds1.drop (j + 1)) s3).bind fun ys s => (k s).bind fun zs s' => .ok (ys ++ zs) s') ≠ .exc c xs s :=
              bind_no (fun _ _ _ => lcL_no _ _ _) fun ys s => bind_no (hk s) fun _ _ _ _ _ h => by cases h
            refine ⟨acc, w3.hp, w3.room no, ι3, s3, acc ++ [v], ys ++ [y], w3.put rv, ?_⟩
            have b3 := b2.step st3
            exact ⟨by rw [hide_hd w3.hd]; exact b3.le, b3.ad⟩
/-- the end of the inner walk -/
theorem inner_end {k : Store → Res (List D)} {ιo : Io} {so : Store} {Ho : Hp} {j : Nat} (hj : ds1.length ≤ j) (h : Inner C W Q ι1 s1 H1 p gd1 t1 e (wipeD ρ' vs1) ds1 k ιo so Ho j H) : ∃ ι st acc ys, Way C W Q ι1 s1 H1 p (k st) acc ys ι st H := by
  obtain ⟨ι, st, acc, ys, w, b⟩ := h
  refine ⟨ι, st, acc, ys, w.rem ?_⟩
  rw [List.drop_eq_nil_of_le hj]
  show (Res.ok ([] : List D) st).bind _ = _
  simp only [bind_ok, List.nil_append]
  cases k st <;> rfl
end
section
variable {C : Ctx} {tg iter tg1 iter1 elt : Expr} {ifs ifs1 : List Expr} {scope : Scope} {own : List (Str × Nat)} {pos : Pos} {mi mi1 : DIt} {g g1 : TG} {gd gd1 : GD} {is is1 vs1 : List Nat} {t t1 : DT} {e : DE}
def dLc2 (mi : DIt) (g : GD) (t : DT) (mi1 : DIt) (g1 : GD) (t1 : DT) (e : DE) (vs vs1 : List Nat) : DE := fun ρ st => (mi ρ st).bind fun ds s1 => lcEnd (lc2L g t mi1 g1 t1 e vs1 (wipeD ρ vs) ds s1)
theorem pd_lc2 (hc : C.X.calm = true) (hN : C.X.N.Nodup) (hi : PDI C tg iter mi) (ok : BlkOk C.X.N C.X.env.scope scope own) (hvo : ∀ i ∈ vs1, i ∈ own.map (·.2)) (hg : ∀ s H c cl fp, PG (C.blk s H scope c cl fp).X tg g) (hd : TgD C.T C.T.K g gd is) (hv : ∀ j ∈ is, j ∈ own.map (·.2))
    (ht : ∀ s H c cl fp, PDTs (C.blk s H scope c cl fp) ifs t) (hi1 : ∀ s H c cl fp, PDI (C.blk s H scope c cl fp) tg1 iter1 mi1) (hg1 : ∀ s H c cl fp, PG (C.blk s H scope c cl fp).X tg1 g1) (hd1 : TgD C.T C.T.K g1 gd1 is1) (hv1 : ∀ j ∈ is1, j ∈ vs1)
    (ht1 : ∀ s H c cl fp, PDTs (C.blk s H scope c cl fp) ifs1 t1) (he : ∀ s H c cl fp, PD (C.blk s H scope c cl fp) elt e) (hs : ∀ x, foldedSetIterable iter C.X.env x = pure x := by intro _; rfl) (hs1 : ∀ env x, foldedSetIterable iter1 env x = pure x := by intro _ _; rfl) :
    PD C (.ListComp elt [⟨tg, iter, ifs, 0⟩, ⟨tg1, iter1, ifs1, 0⟩] scope pos) (dLc2 mi gd t mi1 gd1 t1 e (own.map (·.2)) vs1) :=
  PE.imp (pe_lc2 (wi1 := tDI C.T C.xp (fun _ _ _ _ => False) mi1) (tt := tDT C.T C.xp (fun _ _ _ _ => False) t) (tt1 := tDT C.T C.xp (fun _ _ _ _ => False) t1) (te := tD C.T C.xp (fun _ _ _ _ => False) e) hc hN hi ok hvo hg ht hi1 hg1 ht1 he hs hs1) fun σ H Q ⟨ρ, st, ι, er, rl, q⟩ => by
    refine ⟨ρ, st, ι, er, rl, post_bind q fun ds s1 J ι1 H1 st1 rl1 ⟨Gd, wk, hG⟩ q1 => ?_⟩
    have er1 := er.step st1
    intro p hp
    refine loop_of wk (P := fun i H => ∃ ι st acc ys, Way C (fun c d H => C.W c d σ H) Q ι1 s1 H1 p (lc2L gd t mi1 gd1 t1 e vs1 (wipeD ρ (own.map (·.2))) (ds.drop i) st) acc ys ι st H) ⟨ι1.under p, s1, [], [], ?_⟩ (fun i H ⟨ι, st, acc, ys, w⟩ => ?_) (fun i x Ha Hb hlt ⟨ι, st, acc, ys, w⟩ ⟨eH, d, hx, hr⟩ => ?_) (fun H ⟨ι, st, acc, ys, w⟩ => ?_)
    · refine ⟨by rw [upd_upd]; exact Step.refl _ _ _, rl1.under hp, upd_same, .nil, ?_⟩
      have eb : ∀ m : Res (List D), (m.bind fun zs s2 => .ok (([] : List D) ++ zs) s2) = m := fun m => by cases m <;> rfl
      rw [eb]
      exact q1
    · have hx1 := w.s.ex
      rw [hide_under hp, hide_hd w.hd] at hx1
      exact hG _ (hx1.trans (hide_le _ _ _))
    · subst eH
      have hx1 := w.s.ex
      rw [hide_under hp, hide_hd w.hd] at hx1
      have pad : ∀ (k : Nat) (a : Addr), ι1.ad[k]? = some a → ι.ad[k]? = some a := w.s.pre.ad
      rw [drop_at hx] at w
      unfold lc2L at w
      have erw := er1.wipe (own.map (·.2))
      have er' : EnvR C.T C.xp (hide ι st Hb) ι (wipeD ρ (own.map (·.2))) (wipe σ (own.map (·.2))) := ⟨erw.len, fun i y hy => let ⟨v, z1, z2⟩ := erw.at_ i y hy; ⟨v, z1, z2.monoA hx1 pad⟩⟩
      cases hgd : gd d (wipeD ρ (own.map (·.2))) with
      | none => rw [hgd] at w; exact w.q.elim
      | some ρ' =>
        rw [hgd] at w
        dsimp only at w
        refine hd.ok _ _ _ _ _ _ _ _ _ _ er' (hr.monoA hx1 pad) hgd fun σ2 er2 hw => ⟨?_, ρ', st, ι, er2, w.rl, ?_⟩
        · rw [hw _ hv]
          have again : ∀ (ws : List Nat) (τ : L2.St), (∀ i ∈ ws, i ∈ own.map (·.2)) → wipe (wipe τ ws) (own.map (·.2)) = wipe τ (own.map (·.2)) := by
            intro ws
            induction ws with
            | nil => exact fun τ _ => rfl
            | cons i ws ih =>
              intro τ hi
              show wipe ((wipe τ ws).set i none) (own.map (·.2)) = _
              rw [wipe_set (hi i List.mem_cons_self)]
              exact ih τ fun z hz => hi z (List.mem_cons_of_mem _ hz)
          exact again _ σ fun _ z => z
        · cases htt : t ρ' st with
          | bad => rw [htt] at w; exact w.q.elim
          | exc c es s2 => rw [htt] at w; exact w.q.elim
          | ok bb s2 =>
            rw [htt] at w
            simp only [noX, bind_ok] at w
            intro b' ι2 H2 st2 rl2 eb
            have eb' : b' = bb := eb
            subst eb'
            have w2 := w.step st2 rl2
            cases b' with
            | false => exact iteF ⟨ι2, s2, acc, ys, w2⟩
            | true =>
              refine iteT ⟨ρ', s2, ι2, er2.step st2, rl2, ?_⟩
              cases hm : mi1 ρ' s2 with
              | bad => rw [hm] at w2; exact w2.q.elim
              | exc c es s3 => rw [hm] at w2; exact w2.q.elim
              | ok ds1 s3 =>
                rw [hm] at w2
                simp only [noX, bind_ok] at w2
                intro J1 ι3 H3 st3 rl3 ⟨Gd1, wk1, hG1⟩
                have w3 := w2.step st3 rl3
                have er3 := (er2.step st2).step st3
                refine loop_of wk1 (P := Inner C (fun c d H => C.W c d σ H) Q ι1 s1 H1 p gd1 t1 e (wipeD ρ' vs1) ds1 (fun s => lc2L gd t mi1 gd1 t1 e vs1 (wipeD ρ (own.map (·.2))) (ds.drop (i + 1)) s) ι3 s3 H3) ⟨ι3, s3, acc, ys, w3, Le.refl _, fun _ _ z => z⟩
                  (fun j H' ⟨_, _, _, _, _, b⟩ => hG1 _ (b.le.trans (hide_le _ _ _))) (fun j x Hc Hd hj hI ⟨eH2, d1, hx2, hr2⟩ => ?_) (fun H' hI => ?_)
                · subst eH2
                  exact inner_turn hd1 hv1 (fun s => lc2L_no) er3 hx2 hr2 hI
                · exact inner_end (Nat.le_refl _) hI
    · rw [List.drop_eq_nil_of_le (Nat.le_refl _)] at w
      exact w.ends rl1 hp
end
end Den

set_option maxRecDepth 100000
set_option maxHeartbeats 4000000
/-! Den: the least, the greatest of a list of data. -/
namespace Den
open PySem PySem.Spec PyProof.Rows L2
/-! ### data as a value -/
mutual
def ofPy : PyData → D
  | .none => .non
  | .bool b => .bl b
  | .int i => .int i
  | .str x => .str x
  | .list xs => .lst (ofPyL xs)
  | .tuple xs => .tup (ofPyL xs)
  | .dict _ => .non
def ofPyL : List PyData → List D
  | [] => []
  | x :: xs => ofPy x :: ofPyL xs
end
mutual
/-- numbers, texts, tuples and lists of such, none that may change -/
def pureD : D → Bool
  | .non | .bl _ | .int _ | .str _ => true
  | .tup xs => pureL xs
  | .lst xs => pureL xs
  | _ => false
def pureL : List D → Bool
  | [] => true
  | x :: xs => pureD x && pureL xs
end
mutual
theorem pure_py : ∀ {d : D}, pureD d = true → ∃ p, toPy d = some p ∧ ofPy p = d
  | .non, _ => ⟨_, rfl, rfl⟩
  | .bl _, _ => ⟨_, rfl, rfl⟩
  | .int _, _ => ⟨_, rfl, rfl⟩
  | .str _, _ => ⟨_, rfl, rfl⟩
  | .tup xs, h => by
    obtain ⟨ps, e1, e2⟩ := pure_pyL (ds := xs) (by simpa only [pureD] using h)
    exact ⟨.tuple ps, by simp only [toPy, e1, Option.map_some], by simp only [ofPy, e2]⟩
  | .lst xs, h => by
    obtain ⟨ps, e1, e2⟩ := pure_pyL (ds := xs) (by simpa only [pureD] using h)
    exact ⟨.list ps, by simp only [toPy, e1, Option.map_some], by simp only [ofPy, e2]⟩
  | .ro _, h => by simp [pureD] at h
  | .dic _ _, h => by simp [pureD] at h
  | .ins _ _, h => by simp [pureD] at h
  | .exc _ _, h => by simp [pureD] at h
  | .err _ _, h => by simp [pureD] at h
  | .ty _, h => by simp [pureD] at h
  | .cl _, h => by simp [pureD] at h
  | .fn _, h => by simp [pureD] at h
  | .box _, h => by simp [pureD] at h
theorem pure_pyL : ∀ {ds : List D}, pureL ds = true → ∃ ps, toPyL ds = some ps ∧ ofPyL ps = ds
  | [], _ => ⟨[], rfl, rfl⟩
  | d :: ds, h => by
    simp only [pureL, Bool.and_eq_true] at h
    obtain ⟨p, e1, e2⟩ := pure_py h.1
    obtain ⟨ps, e3, e4⟩ := pure_pyL h.2
    exact ⟨p :: ps, by simp only [toPyL, e1, e3], by simp only [ofPyL, e2, e4]⟩
end
theorem ofPyL_at : ∀ {ps : List PyData} {i : Nat} {p : PyData}, ps[i]? = some p → (ofPyL ps)[i]? = some (ofPy p)
  | [], _, _, h => by simp at h
  | q :: ps, 0, p, h => by simp at h; subst h; simp [ofPyL]
  | q :: ps, i + 1, p, h => by
    have := ofPyL_at (ps := ps) (i := i) (p := p) (by simpa using h)
    simpa [ofPyL] using this
def alikeC (ps : List PyData) : Bool := (ps.all fun x => ps.all fun y => PySem.W.alike x y) && ps.all fun x => match x with
  | .none => false
  | _ => true
theorem alikeQ {ps : List PyData} (h : alikeC ps = true) : PySem.W.AlikeAll ps := by
  unfold alikeC at h
  rw [Bool.and_eq_true] at h
  refine ⟨fun x hx y hy => List.all_eq_true.mp (List.all_eq_true.mp h.1 x hx) y hy, fun x hx e => ?_⟩
  have := List.all_eq_true.mp h.2 x hx
  rw [e] at this
  cases this
/-! ### min(list), max(list) -/
def rBest (K : PySem.W.Frag) (b : PyData → List PyData → PyData) : List V → Hp → VK → Prop := fun vs H Q => ∃ (a : Addr) (xs : List V) (p : PyData) (ps : List PyData), vs = [.ref a] ∧ SqL K H a xs ∧ DpAll K H xs (p :: ps) ∧ PySem.W.AlikeAll (p :: ps) ∧ PyData.depthAll (p :: ps) ≤ 60 ∧
  ∀ (i : Nat) (v : V), xs[i]? = some v → (p :: ps)[i]? = some (b p ps) → Q v H
section
variable {X : Cx}
theorem best_at {pins : List (Addr × Obj)} {σ : L2.St} {H : Hp} {s : Shared} {a : Addr} {xs : List V} {ps : List PyData} {its : List Value} {q : PyData} (I : Inv X pins σ H s) (hd : DpAll X.K H xs ps) (rv : Vals xs its) {i : Nat} {u : Value} {h' : Heap} {bs : List Addr} (hu : its[i]? = some u) (hr : Reads h' u q bs) (hk : ∀ b o, s.heap.get? b = some o → h'.get? b = some o) :
    ∃ v, xs[i]? = some v ∧ RelV v u ∧ ps[i]? = some q := by
  have go : ∀ {xs : List V} {ps : List PyData} {its : List Value} {i : Nat}, DpAll X.K H xs ps → Vals xs its → its[i]? = some u → ∃ v p, xs[i]? = some v ∧ RelV v u ∧ ps[i]? = some p ∧ Dp X.K H v p := by
    intro xs
    induction xs with
    | nil => intro ps its i hd rv hu; cases rv; simp at hu
    | cons x xs ih =>
      intro ps its i hd rv hu
      cases hd with
      | cons d1 ds =>
        cases rv with
        | cons r1 rs =>
          cases i with
          | zero => simp at hu; subst hu; exact ⟨x, _, by simp, r1, by simp, d1⟩
          | succ i =>
            obtain ⟨v, p, e1, e2, e3, e4⟩ := ih ds rs (by simpa using hu)
            exact ⟨v, p, by simpa using e1, e2, by simpa using e3, e4⟩
  obtain ⟨v, p, e1, e2, e3, e4⟩ := go hd rv hu
  obtain ⟨as, r2⟩ := Dp.reads I p v u e4 e2
  have e := (PySem.Reads.unique (Reads.keeps hk r2) q bs hr).1
  exact ⟨v, e1, e2, by rw [e3, e]⟩
theorem cr_minL (hc : X.calm = true) (hu : X.A.units + 64 < cLine) : CallR X (.builtin "min") (rBest X.K PySem.W.minD) := by
  intro pins s σ H xs us Q I r h
  obtain ⟨a, zs, p, ps, rfl, hq, hd, ha, hz, q⟩ := h
  rw [Vals.ref1 r]
  obtain ⟨its, rv, pl, _⟩ := I.list hq
  obtain ⟨as, hr⟩ := Dp.readsAll I _ _ _ hd rv
  refine PySem.W.min_list_data (vs := its.toArray) (I.ok.hd hc) pl.isList (by simpa using hr) ha (by omega) fun i u h' tk bs hi hb hk => ?_
  obtain ⟨v, e1, e2, e3⟩ := best_at (a := a) I hd rv (by simpa using hi) hb hk
  exact ⟨v, H, I.kept (t' := tk) hk, e2, q i v e1 e3⟩
theorem cr_maxL (hc : X.calm = true) (hu : X.A.units + 64 < cLine) : CallR X (.builtin "max") (rBest X.K PySem.W.maxD) := by
  intro pins s σ H xs us Q I r h
  obtain ⟨a, zs, p, ps, rfl, hq, hd, ha, hz, q⟩ := h
  rw [Vals.ref1 r]
  obtain ⟨its, rv, pl, _⟩ := I.list hq
  obtain ⟨as, hr⟩ := Dp.readsAll I _ _ _ hd rv
  refine PySem.W.max_list_data (vs := its.toArray) (I.ok.hd hc) pl.isList (by simpa using hr) ha (by omega) fun i u h' tk bs hi hb hk => ?_
  obtain ⟨v, e1, e2, e3⟩ := best_at (a := a) I hd rv (by simpa using hi) hb hk
  exact ⟨v, H, I.kept (t' := tk) hk, e2, q i v e1 e3⟩
end
def gBest (b : PyData → List PyData → PyData) (x : D) (st : Store) : Option D := (litemsOf x st).bind fun ds => if pureL ds = true then (match toPyL ds with
  | some (p :: ps) => if alikeC (p :: ps) = true ∧ PyData.depthAll (p :: ps) ≤ 60 then some (ofPy (b p ps)) else none
  | _ => none) else none
section
variable {C : Ctx}
theorem best_den {b : PyData → List PyData → PyData} : CallD C (rBest C.X.K b) (one (gBest b)) := fun ι st H xs ds d st' Q rl rx e k => by
  obtain ⟨x, rfl, hg, rfl⟩ := one_some e
  obtain ⟨v, rfl, rv⟩ := repL_one rx
  obtain ⟨ys, hy, hg⟩ := Option.bind_eq_some_iff.mp hg
  split at hg
  · rename_i hp
    split at hg
    · rename_i p ps hq
      split at hg
      · rename_i hc
        cases hg
        obtain ⟨a, zs, rfl, hs, rs⟩ := litems_rep rl rv hy
        obtain ⟨qs, e1, e2⟩ := pure_pyL hp
        rw [hq] at e1
        cases e1
        refine ⟨a, zs, p, ps, rfl, by rw [C.hK]; exact hs, by rw [C.hK]; exact dp_ofL (hide_le _ _ _) rs hq, alikeQ hc.1, hc.2, fun i v hv hi => ?_⟩
        obtain ⟨y, hy2, ry⟩ := rs.getV hv
        have := ofPyL_at hi
        rw [e2, hy2] at this
        cases this
        exact k v ι H (Step.refl _ _ _) rl ry
      · cases hg
    · cases hg
  · cases hg
theorem blt_minD (hc : C.X.calm = true) (hu : C.X.A.units + 64 < cLine) : BltD C "min" (one (gBest PySem.W.minD)) := ⟨_, cr_minL hc hu, best_den⟩
theorem blt_PySem.W.maxD (hc : C.X.calm = true) (hu : C.X.A.units + 64 < cLine) : BltD C "max" (one (gBest PySem.W.maxD)) := ⟨_, cr_maxL hc hu, best_den⟩
/-- two numbers, or a list -/
theorem blt_minA (hc : C.X.calm = true) (hu : C.X.A.units + 64 < cLine) : BltD C "min" (orB (two fun i j => if j < i then j else i) (one (gBest PySem.W.minD))) := BltD.or (blt_min2 hc) (blt_minD hc hu)
theorem blt_maxA (hc : C.X.calm = true) (hu : C.X.A.units + 64 < cLine) : BltD C "max" (orB (two fun i j => if j > i then j else i) (one (gBest PySem.W.maxD))) := BltD.or (blt_max2 hc) (blt_PySem.W.maxD hc hu)
end
end Den

set_option maxRecDepth 100000
set_option maxHeartbeats 4000000
/-! Den: sorted(set(list of whole numbers)). -/
namespace Den
open PySem PySem.Spec PyProof.Rows L2

/-! ### a set out of a list of whole numbers -/
abbrev eSet (w : World) : Obj := { cls := .type "set", dict := none, data := .set #[] 0 (.fresh 0 0 (!w.params.followText "set-order")) }
theorem eSet_at {w : World} {h : Heap} {S : Addr} {ns : List Int} (e : h.get? S = some (eSet w)) : ∃ c, c ≤ 0 ∧ SetR w h S (fun j => decide (j ∈ ns.take 0)) c := ⟨0, Nat.le_refl 0, setR_new_at e⟩
theorem ints_val {vs : Array Value} {ns : List Int} (hi : IntsAre vs.toList ns) (i : Nat) (v : Value) (hv : vs[i]? = some v) : ∃ k t, ns[i]? = some k ∧ v = .int k t := by
  have hl : vs.size = ns.length := (Array.length_toList (xs := vs)).symm.trans hi.length
  have lt : i < ns.length := hl ▸ (Array.getElem?_eq_some_iff.mp hv).1
  obtain ⟨t, e⟩ := hi.int_at i v ((Array.getElem?_toList).trans hv)
  refine ⟨ns[i], t, List.getElem?_eq_getElem lt, e.trans ?_⟩
  simp [List.getD_eq_getElem?_getD, List.getElem?_eq_getElem lt]
section
variable {P : Program} {w : World} {A : Around} {E : Value → Shared → Prop} {s : Shared}
/-- the empty set at S takes in what the list at b holds -/
theorem fill_of {S b : Addr} {vs : Array Value} {ns : List Int} {R : Result → Shared → Prop} (hh : A.handled = none) (eS : s.heap.get? S = some (eSet w)) (hL : s.heap.IsList b vs) (hi : IntsAre vs.toList ns) (few : ns.length + 1 < scanBound)
    (k : ∀ (h' : Heap) (tk c : Nat), SetR w h' S (fun j => decide (j ∈ ns)) c → c ≤ ns.length → (∀ x o, x ≠ S → s.heap.get? x = some o → h'.get? x = some o) → R (.ok (.ret .none)) { s with heap := h', toks := tk }) :
    codeAny (model P w) A (.call (.builtin "set.__init__") ⟨[.ref S, .ref b], []⟩) R s := by
  have tS : s.TypeIs (.ref S) "set" := ⟨_, eS, rfl⟩
  have size : vs.size = ns.length := (Array.length_toList (xs := vs)).symm.trans hi.length
  refine codeAny_call_builtin F.called_set.init.plain F.entry_set_init (check_set_init_1 tS ?_)
  have neS : b ≠ S := fun e => by
    obtain ⟨o, ho, hc, _⟩ := hL
    rw [e, eS] at ho
    cases ho
    injection hc with z
    exact absurd z (by decide)
  obtain ⟨⟨oc, od, ot, os⟩, ho, hc, nl, hd⟩ := hL
  cases hc
  cases hd
  have isL : s.heap.IsList b vs := ⟨_, ho, rfl, nl, rfl⟩
  have no1 := F.sub_list_set
  have no2 := F.sub_list_frozenset
  have no3 : (Value.type "list" == Value.type "dict") = false := by decide
  unfold Builtin.«set.__init__»
  unfold noKeywords
  unfold Builtin.Frozenset.updateFrom
  generalize it : pyIter = walk
  wp_walk
  subst it
  refine wpAny_pyIter_list isL (wpAny_bind (wpAny_runValue ?_))
  have old : S < s.heap.objs.size := Heap.lt_size eS
  have oldB : b < s.heap.objs.size := Heap.lt_size ho
  refine set_update_ints ((Walks.list (A := A.in1.in1) (by simp [hh]) s.heap.objs.size b (Nat.ne_of_lt oldB) vs).toS) S (fun z => ?_) ns size few (ints_val hi) (vs.size - 0) 0 _ rfl (Nat.zero_le _)
    ⟨⟨_, Heap.get?_push_size _ rfl, rfl, rfl⟩, isL.push _⟩ (eSet_at (Heap.get?_push_of_some _ eS)) fun ⟨h', g', d', t', o'⟩ c mv le new => ?_
  · rcases List.mem_cons.mp z with z | z
    · exact absurd z (Nat.ne_of_lt old)
    · exact neS (List.mem_singleton.mp z).symm
  · have q1 : g' = s.gens := mv.gens
    have q2 : d' = s.drawn := mv.drawn
    have q3 : o' = s.os := mv.os
    cases q1
    cases q2
    cases q3
    refine wpAny_pure ?_
    refine wpAny_pure ?_
    refine k h' t' c new (size ▸ le) fun x o nx e => mv.heap x o (fun z => ?_) (Heap.get?_push_of_some _ e)
    rcases List.mem_cons.mp z with z | z
    · exact nx z
    · exact absurd (List.mem_singleton.mp z) (Nat.ne_of_lt (Heap.lt_size e))
/-- set(list) -/
theorem set_of {b : Addr} {vs : Array Value} {ns : List Int} {Q : Value → Shared → Prop} (hh : A.handled = none) (hL : s.heap.IsList b vs) (hi : IntsAre vs.toList ns) (few : ns.length + 1 < scanBound)
    (k : ∀ (h' : Heap) (tk c : Nat), SetR w h' s.heap.objs.size (fun j => decide (j ∈ ns)) c → c ≤ ns.length → (∀ x o, s.heap.get? x = some o → h'.get? x = some o) → Q (.ref s.heap.objs.size) { s with heap := h', toks := tk }) :
    wpAny (model P w) A (call (.type "set") [.ref b]) Q E s := by
  have ⟨m0, m1, mro⟩ := F.called_set.mro
  have made := F.called_set.made
  have sub := F.called_set.sub
  have nt := F.called_set.notType
  have cc := F.called_set.canCreate
  have ct := F.typeCall_set_1 (.ref b)
  refine wpAny_call (codeAny_of_tree (wpAny_pure ⟨Code.quiet_builtin _ (by decide +kernel), codeAny_builtin F.entry_type_call ?_⟩))
  rw [Around.under_plain (weight_type_call_type _ _ _) rfl]
  repeat (any_goals (first | assumption | wp_step))
  refine codeAny_mono (code_set_led1 (.ref b) (E := E) (Q₁ := fun v z => v = .ref s.heap.objs.size ∧ z = { s with heap := s.heap.push (eSet w) }) ⟨rfl, rfl⟩) fun r z hr => ?_
  match r, hr with
  | .error e, hr => exact hr
  | .ok (.ret v), hr =>
    cases hr.1
    cases hr.2
    have eS : (s.heap.push (eSet w)).get? s.heap.objs.size = some (eSet w) := Heap.get?_push_size _ rfl
    have tS : Shared.TypeIs { s with heap := s.heap.push (eSet w) } (.ref s.heap.objs.size) "set" := ⟨_, eS, rfl⟩
    have lk := F.called_set.init.lookup
    have bd := F.called_set.init.bind (.ref s.heap.objs.size)
    repeat (any_goals (first | assumption | wp_step))
    refine codeAny_mono (fill_of (R := wants (fun v z => v = .none ∧ Q (.ref s.heap.objs.size) z) E) (by simp [hh]) eS (hL.push _) hi few fun h' tk c new le kp => ⟨rfl, k h' tk c new le fun x o e => kp x o (Nat.ne_of_lt (Heap.lt_size e)) (Heap.get?_push_of_some _ e)⟩) fun r z hr => ?_
    match r, hr with
    | .error e, hr => exact hr
    | .ok (.ret v), hr =>
      obtain ⟨rfl, q⟩ := hr
      repeat (any_goals (first | assumption | wp_step))
end
/-! ### sorted(set(list)) -/
/-- k put in its place of a rising row -/
def insU (k : Int) : List Int → List Int
  | [] => [k]
  | x :: r => if k < x then k :: x :: r else if k = x then x :: r else x :: insU k r
def sortU : List Int → List Int
  | [] => []
  | k :: r => insU k (sortU r)
theorem insU_mem (k j : Int) : ∀ l : List Int, j ∈ insU k l ↔ j = k ∨ j ∈ l
  | [] => by simp [insU]
  | x :: r => by
    unfold insU
    split
    · simp
    · split
      · rename_i h
        subst h
        simp
      · simp only [List.mem_cons, insU_mem k j r]
        constructor
        · rintro (h | h | h)
          · exact .inr (.inl h)
          · exact .inl h
          · exact .inr (.inr h)
        · rintro (h | h | h)
          · exact .inr (.inl h)
          · exact .inl h
          · exact .inr (.inr h)
theorem insU_up (k : Int) : ∀ l : List Int, l.Pairwise (· < ·) → (insU k l).Pairwise (· < ·)
  | [], _ => by simp [insU]
  | x :: r, h => by
    obtain ⟨h1, h2⟩ := List.pairwise_cons.mp h
    unfold insU
    split
    · rename_i lt
      refine List.pairwise_cons.mpr ⟨fun y hy => ?_, h⟩
      rcases List.mem_cons.mp hy with e | hy
      · omega
      · have := h1 y hy
        omega
    · split
      · exact h
      · refine List.pairwise_cons.mpr ⟨fun y hy => ?_, insU_up k r h2⟩
        rcases (insU_mem k y r).mp hy with e | hy
        · omega
        · exact h1 y hy
theorem sortU_mem (j : Int) : ∀ l : List Int, j ∈ sortU l ↔ j ∈ l
  | [] => by simp [sortU]
  | k :: r => by
    unfold sortU
    rw [insU_mem, sortU_mem j r]
    simp
theorem sortU_up : ∀ l : List Int, (sortU l).Pairwise (· < ·)
  | [] => by simp [sortU]
  | k :: r => insU_up k _ (sortU_up r)
/-- two rising rows of the same members are one -/
theorem up_one : ∀ {l m : List Int}, l.Pairwise (· < ·) → m.Pairwise (· < ·) → (∀ k, k ∈ l ↔ k ∈ m) → l = m
  | [], [], _, _, _ => rfl
  | [], y :: m, _, _, h => absurd ((h y).2 List.mem_cons_self) (by simp)
  | x :: l, [], _, _, h => absurd ((h x).1 List.mem_cons_self) (by simp)
  | x :: l, y :: m, hl, hm, h => by
    obtain ⟨a1, a2⟩ := List.pairwise_cons.mp hl
    obtain ⟨b1, b2⟩ := List.pairwise_cons.mp hm
    have e : x = y := by
      rcases List.mem_cons.mp ((h x).1 List.mem_cons_self) with e | e
      · exact e
      · rcases List.mem_cons.mp ((h y).2 List.mem_cons_self) with f | f
        · exact f.symm
        · have := b1 x e
          have := a1 y f
          omega
    subst e
    rw [up_one a2 b2 fun k => ?_]
    constructor
    · intro hk
      rcases List.mem_cons.mp ((h k).1 (List.mem_cons_of_mem _ hk)) with e | e
      · have := a1 k hk
        omega
      · exact e
    · intro hk
      rcases List.mem_cons.mp ((h k).2 (List.mem_cons_of_mem _ hk)) with e | e
      · have := b1 k hk
        omega
      · exact e
def rSetL (K : PySem.W.Frag) (w : World) : List V → Hp → VK → Prop := fun vs H Q => ∃ (b : Addr) (ns : List Int), vs = [.ref b] ∧ SqL K H b (ns.map V.int) ∧ ns.length ≤ 1000 ∧
  ∀ (p : Addr) (c : Nat), c ≤ ns.length → H p = none → Q (.ref p) (upd H p (SetO w p (fun j => decide (j ∈ ns)) c))
theorem cr_setL {X : Cx} (hc : X.calm = true) : CallR X (.type "set") (rSetL X.K X.w) := by
  intro pins s σ H vs us Q I r h
  obtain ⟨b, ns, rfl, hq, few, q⟩ := h
  rw [Vals.ref1 r]
  obtain ⟨its, rv, pl, _⟩ := I.list hq
  refine set_of (ns := ns) (I.ok.hd hc) pl.isList (by simpa using ints_of_vals rv) (by unfold scanBound; omega) fun h' tk c new le kp => ?_
  exact ⟨.ref _, _, I.laid kp (Nat.le_refl _) (setO_new new), rfl, q _ c le (I.hok.fresh (Nat.le_refl _))⟩
def intsOfD : List D → Option (List Int)
  | [] => some []
  | .int k :: r => (intsOfD r).map (k :: ·)
  | _ :: _ => none
theorem intsD_rep {T : Txt} {xp : XT} {G : Hp} {ι : Io} : ∀ {xs : List V} {ds : List D} {ks : List Int}, RepL T xp G ι xs ds → intsOfD ds = some ks → xs = ks.map V.int
  | _, _, _, .nil, h => by cases h; rfl
  | _, _, _, .cons r rs, h => by
    cases r with
    | int k =>
      obtain ⟨r', h1, rfl⟩ := Option.map_eq_some_iff.mp h
      rw [intsD_rep rs h1]
      rfl
    | _ => simp [intsOfD] at h
theorem repL_ofInts {T : Txt} {xp : XT} {G : Hp} {ι : Io} : ∀ ks : List Int, RepL T xp G ι (ks.map V.int) (ks.map D.int)
  | [] => .nil
  | k :: r => .cons (.int k) (repL_ofInts r)
def gSortSet (x : D) (st : Store) : Option (List Int) := (litemsOf x st).bind fun ds => (intsOfD ds).bind fun ks => if ks.length < 64 then some (sortU ks) else none
def dSortSet (m : DE) : DE := fun ρ st => (m ρ st).bind fun x s1 => match gSortSet x s1 with
  | some ks => .ok (.lst (ks.map D.int)) s1
  | none => .bad
section
variable {C : Ctx} {e : Expr} {m : DE} {x y : Str} {p q pos pos2 : Pos}
theorem pd_sortset (hc : C.X.calm = true) (g1 : Gl C.X "sorted") (m1 : C.X.mg "sorted" = none) (g2 : Gl C.X "set") (m2 : C.X.mg "set" = none) (he : PD C e m)
    (h1 : starEach [e] C.X.env = [(false, eval e C.X.env)] := by rfl)
    (h2 : starEach [.Call (.Name "set" q) [e] [] pos2] C.X.env = [(false, eval (.Call (.Name "set" q) [e] [] pos2) C.X.env)] := by rfl) :
    PD C (.Call (.Name "sorted" p) [.Call (.Name "set" q) [e] [] pos2] [] pos) (dSortSet m) := by
  refine PE.imp (pe_callB (cr_sortedSet hc) g1 m1 (by rfl) (pa_cons (pe_callTy (cr_setL hc) g2 m2 (by rfl) (pa_cons he pa_nil h1) (he := h1)) pa_nil h2) (he := h2)) fun σ H Q ⟨ρ, st, ι, er, rl, p⟩ => ?_
  refine ⟨ρ, st, ι, er, rl, post_bind p fun x s1 v ι1 H1 st1 rl1 rv p1 => ?_⟩
  cases hg : gSortSet x s1 with
  | none =>
    rw [hg] at p1
    exact p1.elim
  | some ks =>
    rw [hg] at p1
    obtain ⟨ds, e1, hg⟩ := Option.bind_eq_some_iff.mp hg
    obtain ⟨ns, e2, hg⟩ := Option.bind_eq_some_iff.mp hg
    split at hg
    · rename_i few
      cases hg
      obtain ⟨a, xs, rfl, hs, rs⟩ := litems_rep rl1 rv e1
      refine ⟨a, ns, rfl, ?_, by omega, fun p2 c le np => ?_⟩
      · rw [C.hK, ← intsD_rep rs e2]
        exact hs
      · have ⟨rl2, st2, _⟩ := rl1.new (o := SetO C.X.w p2 (fun j => decide (j ∈ ns)) c) np
        refine ⟨p2, _, c, rfl, upd_same, by omega, fun ks p3 up mem len np3 => ?_⟩
        have ⟨rl3, st3, at3⟩ := rl2.new (o := .lst (ks.map V.int)) np3
        have eq : ks = sortU ns := up_one up (sortU_up ns) fun k => by rw [mem, decide_eq_true_eq, sortU_mem]
        subst eq
        exact p1 _ ι1 _ (st2.trans st3) rl3 (.lst at3 (repL_ofInts _))
    · cases hg
end
end Den

set_option maxRecDepth 100000
set_option maxHeartbeats 4000000
/-! Den: what is never reached, a changed list that may be one already, defs called by names and defaults, defs that call themselves, repr of a dict. -/
namespace Den
open PySem PySem.Spec PyProof.Rows L2
section
variable {C : Ctx}
/-! ### what is never reached -/
def dBad : DE := fun _ _ => .bad
theorem pd_bad {e : Expr} : PD C e dBad := ⟨fun _ _ _ _ _ _ ⟨_, _, _, _, _, p⟩ => p.elim⟩
def sBad : DS := fun _ _ => .bad
theorem pds_bad {s : Stmt} : PDS C s sBad := ⟨fun _ _ _ _ _ _ ⟨_, _, _, _, _, p⟩ => p.elim⟩
/-! ### a list that may still change, or no more -/
def dFrzA (a : DE) : DE := fun ρ st => (a ρ st).bind fun d s1 => match d with
  | .box k => frzAt k s1
  | .lst xs => .ok (.lst xs) s1
  | _ => .bad
theorem pd_frzA {e : Expr} {me : DE} (h : PD C e me) : PD C e (dFrzA me) := PE.imp h fun σ H Q ⟨ρ, st, ι, er, rl, p⟩ => by
  refine ⟨ρ, st, ι, er, rl, post_bind p fun d s1 v ι1 H1 st1 rl1 rv p1 => ?_⟩
  cases rv with
  | box hk => exact frz_den rl1 hk p1
  | lst h1 r1 => exact p1 _ ι1 H1 (Step.refl _ _ _) rl1 (.lst h1 r1)
  | _ => exact p1.elim
end
/-! ### defs by names and defaults -/
/-- the def x, the text's i-th, is worth m; ways: how it may be called -/
structure DefK (P : Program) (w : World) (T : Txt) (mg : Str → Option Value) (base : Heap) (k i : Nat) (x : Str) (ps : List Str) (m : DF) (ways : List (Nat × List Str × (List D → List D → List D))) : Prop where
  ex : ∃ fd, FnG P w T.K mg base k (T.fa i) fd ps (spM T ps.length m) ∧ ∀ z ∈ ways, Bd T fd ps z.1 z.2.1 z.2.2
  g : mg x = some (.ref (T.fa i))
  kp : PySem.W.keepIn T.K (.ref (T.fa i)) = true
section
variable {C : Ctx} {k i n : Nat} {x : Str} {ps ks : List Str} {m : DF} {p pos : Pos} {e : Expr} {es : List Expr} {kws : List Keyword} {ma mk : DA} {ways : List (Nat × List Str × (List D → List D → List D))} {gD : List D → List D → List D}
theorem pd_callK (d : DefK C.X.prog C.X.w C.T C.X.mg C.X.base k i x ps m ways) (hw : (n, ks, gD) ∈ ways) (ft : Fit C k) (hg : Gl C.X x) (ha : PDA C (e :: es) ma) (hkw : PDK C kws mk)
    (hall : (backToKw pos (keywordEach kws C.X.env)).all (·.1.isSome) = true := by rfl) (hks : (backToKw pos (keywordEach kws C.X.env)).filterMap (·.1) = ks := by rfl) (hdb : (x == ("__debug__" : Str)) = false := by decide)
    (he : starEach (e :: es) C.X.env = (false, eval e C.X.env) :: starEach es C.X.env := by rfl) (hpl : ((backTo pos (starEach (e :: es) C.X.env)).any (·.1) || (backToKw pos (keywordEach kws C.X.env)).any (·.1.isNone)) = false := by rfl) :
    PD C (.Call (.Name x p) (e :: es) kws pos) (dCall n ks.length gD m ma mk) := by
  obtain ⟨fd, F, b⟩ := d.ex
  have F' : FnD C k (C.T.fa i) fd ps m := by rw [FnD, C.hK]; exact F
  exact pd_call F' ft.room ft.tk (b _ hw) hg d.g (by rw [C.hK]; exact d.kp) ha hkw hall hks hdb he hpl
theorem pd_callK0 (d : DefK C.X.prog C.X.w C.T C.X.mg C.X.base k i x ps m ways) (hw : (0, ks, gD) ∈ ways) (ft : Fit C k) (hg : Gl C.X x) (hkw : PDK C kws mk)
    (hall : (backToKw pos (keywordEach kws C.X.env)).all (·.1.isSome) = true := by rfl) (hks : (backToKw pos (keywordEach kws C.X.env)).filterMap (·.1) = ks := by rfl) (hdb : (x == ("__debug__" : Str)) = false := by decide)
    (hpl : ((backTo pos (starEach [] C.X.env)).any (·.1) || (backToKw pos (keywordEach kws C.X.env)).any (·.1.isNone)) = false := by rfl) :
    PD C (.Call (.Name x p) [] kws pos) (dCall 0 ks.length gD m dNil mk) := by
  obtain ⟨fd, F, b⟩ := d.ex
  have F' : FnD C k (C.T.fa i) fd ps m := by rw [FnD, C.hK]; exact F
  exact pd_call0 F' ft.room ft.tk (b _ hw) hg d.g (by rw [C.hK]; exact d.kp) hkw hall hks hdb hpl
end
section
variable {P : Program} {w : World} {mg : Str → Option Value} {base : Heap} {T : Txt}
/-- the def with defaults, as the written part holds it -/
structure LkD (T : Txt) (i : Nat) (x qual : Str) (st : Stmt) (dvs : List V) : Prop where
  ex : ∃ fd, FunD T.K x qual (defArgs st) (defBody st) (defScope st) dvs [] (T.fa i) fd
theorem defK_of {x qual : Str} {st : Stmt} {N ps : List Str} {k i : Nat} {m : DS} {dvs : List V} {ways : List (Nat × List Str × (List D → List D → List D))} (l : LkD T i x qual st dvs) (hg : mg x = some (.ref (T.fa i))) (S : FnScope N ps (defScope st))
    (hb : ∀ fd, FunD T.K x qual (defArgs st) (defBody st) (defScope st) dvs [] (T.fa i) fd → ∀ z ∈ ways, Bd T fd ps z.1 z.2.1 z.2.2)
    (h : ∀ (cdv : Value) (A : Around) (outer : List Env) (s : Shared) (H : Hp) (E : XK) (xp : XT), Fit ⟨cxOf (L2N.CX P w) P w T.K mg base N qual (defScope st) (T.fa i) cdv A outer s H E, T, xp, fun c d _ H' => E c d H', rfl⟩ k →
      PassesOwn (model P w) (cxOf (L2N.CX P w) P w T.K mg base N qual (defScope st) (T.fa i) cdv A outer s H E).A (cxOf (L2N.CX P w) P w T.K mg base N qual (defScope st) (T.fa i) cdv A outer s H E).env (cxOf (L2N.CX P w) P w T.K mg base N qual (defScope st) (T.fa i) cdv A outer s H E).xe →
      PDSs ⟨cxOf (L2N.CX P w) P w T.K mg base N qual (defScope st) (T.fa i) cdv A outer s H E, T, xp, fun c d _ H' => E c d H', rfl⟩ (defBody st) m) :
    DefK P w T mg base (k + 1) i x ps (body N.length ps.length m) ways := by
  obtain ⟨fd, F⟩ := l.ex
  exact ⟨⟨fd, fnD_ofD F S fun cdv A outer s H E xp hr => h cdv A outer s H E xp ⟨rfl, hr, takes_def⟩ passes_def, hb fd F⟩, hg, F.kp⟩
/-! ### a def that calls itself -/
def noF : DF := fun _ _ => .bad
theorem def_no {x qual : Str} {st : Stmt} {ps : List Str} {k i : Nat} (l : Lk T i x qual st) (hg : mg x = some (.ref (T.fa i)))
    (hb : ∀ (kV doc pm : Value) (an : Option Addr) (cdv ct : Value) (us : List Value), us.length = ps.length → bindArgs (PySem.W.fnOf x qual (defArgs st) (defBody st) (defScope st) .none kV doc pm an cdv ct) ⟨us, []⟩ = pure (ps.zip us)) : Def P w T mg base k i x ps noF := by
  obtain ⟨fd, F⟩ := l.ex
  refine ⟨⟨fd, ⟨fun vs H Q E h => h.1, fun A outer s H args us vs Q E hr e0 hb r hsp => ?_⟩, F.binds hb⟩, hg, F.kp⟩
  obtain ⟨_, _, _, _, _, _, _, p⟩ := hsp
  exact p.elim
end
/-! ### repr of a dict -/
section
variable {P : Program} {w : World} {A : Around} {E : Value → Shared → Prop} {s : Shared} {Q : Value → Shared → Prop}
theorem top_dict {a : Addr} {o : Obj} {n : Nat} {es : Array DictEntry} {ks : List Key} {ps : List PyData} (ho : s.heap.get? a = some o) (hc : o.cls = .type "dict") (hd : o.data = .dict es n) (na : (a == sysModules) = false) (hl : ks.length = ps.length)
    (hk : ReadsAll s.heap (es.toList.map (·.key)) (ks.map keyD) []) (k : KnL P w s.heap (es.toList.map (·.val)) ps) (hs : PyData.showableAll (ks.map keyD) = true) (hy : ∀ t ∈ PyData.shownAll (ks.map keyD), t.length ≤ sizeLine)
    (hg : A.guards = some []) (hu : A.units + ((PyData.dict ((ks.map keyD).zip ps)).depth + 1) < cLine) (hz : (PyData.dict ((ks.map keyD).zip ps)).shown.length ≤ sizeLine)
    (hQ : ∀ h' u tk, (∀ b o, s.heap.get? b = some o → h'.get? b = some o) → Q (.str (PyData.dict ((ks.map keyD).zip ps)).shown u) { s with heap := h', toks := tk }) : wpAny (model P w) A (call (.builtin "repr") [.ref a]) Q E s := by
  obtain ⟨⟨as, q⟩, bs, hb, kk⟩ := k
  obtain ⟨cs, hb2, k2⟩ := ReprAllK.of_readsAll (prog := P) (w := w) hk hs (fun e => by rw [(keys_low ks).1] at e; cases e) hy
  have lp : (ks.map keyD).length = ps.length := (List.length_map ..).trans hl
  have f1 : ((ks.map keyD).zip ps).map (·.1) = ks.map keyD := List.map_fst_zip (Nat.le_of_eq lp)
  have f2 : ((ks.map keyD).zip ps).map (·.2) = ps := List.map_snd_zip (Nat.le_of_eq lp.symm)
  have r : Reads s.heap (.ref a) (.dict ((ks.map keyD).zip ps)) _ := .dict ho hc hd (f1.symm ▸ hk) (f2.symm ▸ q)
  have dk := PyData.depthAll_keys_le ((ks.map keyD).zip ps)
  have dv := PyData.depthAll_vals_le ((ks.map keyD).zip ps)
  rw [f1] at dk
  rw [f2] at dv
  have out := not_mem_of_deeper r (by simp only [PyData.depth]; omega) ((hb2.mono dk).append (hb.mono dv))
  have ent := ReprEntriesK.of_two _ _ _ (k2.more_le (fun _ z => List.mem_append_left bs z) dk) (kk.more_le (fun _ z => List.mem_append_right cs z) dv)
  simp only [PyData.depth] at hu
  simp only [PyData.shown, PyData.shownKv_eq, f1, f2] at hz hQ
  exact call_repr_slot (by omega) ⟨o, ho, hc⟩ F.slot_dict_repr (call_dict_reprK ho hc hd na out ent hg (fun b _ => Clear.nil b) (by show A.units + 1 + _ < cLine; omega) (fun _ _ e => e) (fun h' u tk hk => ⟨_, _, rfl, hQ h' u tk hk⟩) hz)
end
def gReprK (x : D) (_ : Store) : Option D := if isDic x = true then (match toPyR x with
  | some p => if p.showable = true ∧ p.depth ≤ 60 ∧ p.shown.length ≤ 1000000 then some (.str p.shown) else none
  | none => none) else none
def rReprK (C : Ctx) : List V → Hp → VK → Prop := fun xs H Q => ∃ ι st v x p, xs = [v] ∧ RelSt C.T C.xp ι st H ∧ Rep C.T C.xp (hide ι st H) ι v x ∧ toPyR x = some p ∧ isDic x = true ∧ p.showable = true ∧ p.depth ≤ 60 ∧ p.shown.length ≤ 1000000 ∧ Q (.str p.shown) H
theorem call_reprK {C : Ctx} (hg : C.X.A.guards = some []) (hu : C.X.A.units + 64 < cLine) : CallR C.X (.builtin "repr") (rReprK C) := by
  intro pins s σ H xs us Q I r h
  obtain ⟨ι, st, v, x, p, rfl, rl, rv, hp, h0, h1, h2, h3, q⟩ := h
  obtain ⟨u, rfl, ru⟩ := vals1 r
  have sd : shortD p := ⟨h1, Nat.le_trans h3 (by decide)⟩
  cases rv with
  | dic g1 hl rr =>
    rename_i ks xs ds
    cases ru
    simp only [toPyR] at hp
    split at hp
    · obtain ⟨ps, e2, rfl⟩ := Option.map_eq_some_iff.mp hp
      obtain ⟨_, _, hns, vs, kv, o, es, ep, ho, ex, hd, hk, hp2, _⟩ := I.hok _ _ (hide_le _ _ _ _ _ g1)
      obtain ⟨hv, hkeys⟩ := dict_parts (h := s.heap) hl kv hp2
      have lp : ks.length = ps.length := by
        rw [toPyRL_len e2, ← rr.length]
        exact hl
      have lq : (ks.map keyD).length = ps.length := by rw [List.length_map]; exact lp
      obtain ⟨s1, s2⟩ := short_dict sd
      rw [List.map_fst_zip (Nat.le_of_eq lq)] at s1
      rw [List.map_snd_zip (Nat.le_of_eq lq.symm)] at s2
      exact top_dict ho ex.1 hd hns lp hkeys (kn_ofL I (hide_le _ _ _) rr e2 hv s2) s1.1 s1.2 hg (by omega) sd.2 fun h' u tk hk => ⟨.str _, H, I.kept (t' := tk) hk, ⟨_, rfl⟩, q⟩
    · cases hp
  | _ => cases h0
theorem blt_reprK {C : Ctx} (hg : C.X.A.guards = some []) (hu : C.X.A.units + 64 < cLine) : BltD C "repr" (one gReprK) := ⟨_, call_reprK hg hu, fun ι st H xs ds d st' Q rl rx e k => by
  obtain ⟨x, rfl, hgr, rfl⟩ := one_some e
  obtain ⟨v, rfl, rv⟩ := repL_one rx
  unfold gReprK at hgr
  split at hgr
  · rename_i h0
    split at hgr
    · rename_i p hp
      split at hgr
      · rename_i hc
        cases hgr
        exact ⟨ι, _, v, x, p, rfl, rl, rv, hp, h0, hc.1, hc.2.1, hc.2.2, k _ ι H (Step.refl _ _ _) rl (.str _)⟩
      · cases hgr
    · cases hgr
  · cases hgr⟩
/-- repr of plain data, a dict too -/
theorem blt_reprA {C : Ctx} (hg : C.X.A.guards = some []) (hu : C.X.A.units + 64 < cLine) : BltD C "repr" (orB (one gRepr) (one gReprK)) := BltD.or (blt_repr hg hu) (blt_reprK hg hu)
end Den

set_option maxRecDepth 100000
set_option maxHeartbeats 4000000
/-! Den: three names at once. -/
namespace Den
open PySem PySem.Spec PyProof.Rows L2
def sPar3 (i j l : Nat) (a : DA) : DS := fun ρ st => (a ρ st).into ρ fun ds s1 => match ds with
  | [x, y, z] => .nx (((ρ.set i (some x)).set j (some y)).set l (some z)) s1
  | _ => .bad
section
variable {C : Ctx}
theorem pds_par3 {i j l : Nat} {x y z : Str} {a b c : Expr} {ma : DA} {px py pz pt pos : Pos} {kt k2 pt2} (hc : C.X.calm = true) (hN : C.X.N.Nodup) (hi : C.X.N[i]? = some x) (hj : C.X.N[j]? = some y) (hl : C.X.N[l]? = some z) (hij : i ≠ j) (hil : i ≠ l) (hjl : j ≠ l)
    (hx : C.X.env.scope.names.lookup x = some .local) (hy : C.X.env.scope.names.lookup y = some .local) (hz : C.X.env.scope.names.lookup z = some .local) (ha : PDA C [a, b, c] ma)
    (hw : swappedStores [.Tuple [.Name x px, .Name y py, .Name z pz] kt pt] (.Tuple [a, b, c] k2 pt2) C.X.env = pure (some [x, y, z])) (hs : swapsWithSole [.Tuple [.Name x px, .Name y py, .Name z pz] kt pt] (.Tuple [a, b, c] k2 pt2) pos.line C.X.env = pure false := by rfl) :
    PDS C (.Assign [.Tuple [.Name x px, .Name y py, .Name z pz] kt pt] (.Tuple [a, b, c] k2 pt2) pos) (sPar3 i j l ma) :=
  PS.imp (ps_par3 hc hN hi hj hl hij hil hjl hx hy hz ha hw hs) fun D σ H ⟨ρ, st, ι, er, rl, p⟩ => by
    refine ⟨ρ, st, ι, er, rl, post_into p er fun ds s1 vs ι1 H1 st1 rl1 er1 rv p1 => ?_⟩
    split at p1
    · cases rv with
      | cons r1 r2 =>
        cases r2 with
        | cons r2 r3 =>
          cases r3 with
          | cons r3 r4 =>
            cases r4
            exact ⟨_, _, _, rfl, p1 _ ι1 H1 (Step.refl _ _ _) rl1 (((er1.set i r1).set j r2).set l r3)⟩
    · exact p1.elim
end
end Den

set_option maxRecDepth 100000
set_option maxHeartbeats 4000000
/-! Den: x = [.. for ..], a def called with nothing. -/
namespace Den
open PySem PySem.Spec PyProof.Rows L2
section
variable {C : Ctx} {elt tg iter : Expr} {ifs : List Expr} {scope : Scope} {own : List (Str × Nat)} {mi e : DE} {t : DT} {g : TG} {gd : GD} {is vs : List Nat} {pos spos py : Pos} {x y : Str} {p : Pos} {i k n : Nat} {m : DF}
theorem lcL_imp (hd : TgD C.T C.T.K g gd is) (hv : ∀ j ∈ is, j ∈ vs) {σ : L2.St} {H : Hp} {Q : VK} (h : tD C.T C.xp C.W (dLcL mi gd t e vs) σ H Q) :
    tLc (iList C.X.K (tD C.T C.xp C.W mi)) g (tDT C.T C.xp (fun _ _ _ _ => False) t) (tD C.T C.xp (fun _ _ _ _ => False) e) vs σ H Q := by
  obtain ⟨ρ, st, ι, er, rl, q⟩ := h
  refine ⟨ρ, st, ι, er, rl, post_bind q fun d s1 v ι1 H1 st1 rl1 rv p1 => ?_⟩
  have er1 := er.step st1
  rw [C.hK]
  have turns : ∀ a xs ds, SqL C.T.K (hide ι1 s1 H1) a xs → RepL C.T C.xp (hide ι1 s1 H1) ι1 xs ds → ds.length ≤ 100000 → Post C.T C.xp (fun c d H => C.W c d σ H) ι1 s1 H1 (Rep C.T C.xp) Q (lcEnd (lcL gd t e (wipeD ρ vs) ds s1)) →
      ∀ L, H1 L = none → ∃ W' : Nat → Nat → Hp → Prop, (∃ m, W' 0 m (upd H1 L (.lst []))) ∧ ∀ i m H, W' i m H → ((Itl C.T.K a).stop i H ∧ Q (.ref L) H) ∨ ((Itl C.T.K a).go i H ∧ ∃ Nx : Hp → Prop, (∀ H', Nx H' → ∃ m', m' < m ∧ W' (i + 1) m' H') ∧
        ∀ x H', (Itl C.T.K a).yld i H x H' → g x (L2.wipe σ vs) H' fun σ2 H2 => L2.wipe σ2 vs = L2.wipe σ vs ∧ tDT C.T C.xp (fun _ _ _ _ => False) t σ2 H2 fun b H3 =>
          if b = true then tD C.T C.xp (fun _ _ _ _ => False) e σ2 H3 fun y H4 => ∃ acc, H4 L = some (.lst acc) ∧ acc.length < sizeLine ∧ Nx (upd H4 L (.lst (acc ++ [y]))) else Nx H3) := by
    intro a xs ds sq rs hl q L hL
    refine lc_list (K := C.T.K) (a := a) (xs := xs) (LeftC C.T C.xp (fun c d H => C.W c d σ H) Q gd t e (wipeD ρ vs) ds ι1 s1 H1 L) (leftC_start rl1 hL q) (fun i H' _ w => le_l (leftC_sq hL w) sq) (fun i x H' hx w => ?_) fun H' w => leftC_end rl1 hL (by rw [rs.length]; exact Nat.le_refl _) w
    obtain ⟨z, hz, rz⟩ := rs.getV hx
    have lt : i < ds.length := (List.getElem?_eq_some_iff.mp hz).1
    exact leftC_turn hd hv (by omega) er1 hL hz rz w
  cases rv with
  | lst h1 r1 =>
    dsimp only at p1
    split at p1
    · rename_i hl
      exact ⟨_, rfl, ⟨_, SqL.of (hide_sub h1)⟩, turns _ _ _ (SqL.of h1) r1 hl p1⟩
    · exact p1.elim
  | ro h1 r1 =>
    dsimp only at p1
    split at p1
    · rename_i hl
      exact ⟨_, rfl, ⟨_, le_l (hide_le _ _ _) h1⟩, turns _ _ _ h1 r1 hl p1⟩
    · exact p1.elim
  | _ => exact p1.elim
theorem pds_setLcL (hc : C.X.calm = true) (hN : C.X.N.Nodup) (hy : C.X.N[i]? = some y) (hyl : C.X.env.scope.names.lookup y = some .local) (hi : PD C iter mi) (ok : BlkOk C.X.N C.X.env.scope scope own) (hg : ∀ s H c cl fp, PG (C.blk s H scope c cl fp).X tg g) (hd : TgD C.T C.T.K g gd is) (hv : ∀ j ∈ is, j ∈ own.map (·.2))
    (ht : ∀ s H c cl fp, PDTs (C.blk s H scope c cl fp) ifs t) (he : ∀ s H c cl fp, PD (C.blk s H scope c cl fp) elt e) (hs : ∀ x, foldedSetIterable iter C.X.env x = pure x := by intro _; rfl)
    (hsw : swapsWith (.ListComp elt [⟨tg, iter, ifs, 0⟩] scope pos) (some (.Name y py)) spos.line C.X.env = pure true := by first | rfl | exact sw_true rfl rfl rfl rfl) :
    PDS C (.Assign [.Name y py] (.ListComp elt [⟨tg, iter, ifs, 0⟩] scope pos) spos) (sSet i (dLcL mi gd t e (own.map (·.2)))) :=
  PS.imp (ps_setLc hc hN hy hyl hsw (pi_list hi) ok hg ht he hs) fun D σ H ⟨ρ, st, ι, er, rl, q⟩ =>
    lcL_imp hd hv ⟨ρ, st, ι, er, rl, post_into q er fun d s1 v ι1 H1 st1 rl1 er1 rv p1 => p1 _ ι1 H1 (Step.refl _ _ _) rl1 (er1.set i rv)⟩
theorem pd_callN (d : Def C.X.prog C.X.w C.T C.X.mg C.X.base k n x [] m) (ft : Fit C k) (hg : Gl C.X x) (hdb : (x == ("__debug__" : Str)) = false := by decide)
    (hpl : ((backTo pos (starEach [] C.X.env)).any (·.1) || (backToKw pos (keywordEach [] C.X.env)).any (·.1.isNone)) = false := by rfl) : PD C (.Call (.Name x p) [] [] pos) (dCallA 0 m dNil) := by
  obtain ⟨fd, F, b⟩ := d.ex
  have F' : FnD C k (C.T.fa n) fd [] m := by rw [FnD, C.hK]; exact F
  have h := pd_call0 (pos := pos) (p := p) (ks := []) F' ft.room ft.tk (bd_all b rfl) hg d.g (by rw [C.hK]; exact d.kp) pdk_nil rfl rfl hdb hpl
  exact PE.imp h fun σ H Q ⟨ρ, st, ι, er, rl, q⟩ => ⟨ρ, st, ι, er, rl, q⟩
end
end Den

set_option maxRecDepth 100000
set_option maxHeartbeats 4000000
/-! Den: x = [..] over any walk, of one clause and of two. -/
namespace Den
open PySem PySem.Spec PyProof.Rows L2
theorem Fit.u1 {C : Ctx} {k : Nat} (h : Fit C k) : C.X.A.units + 1 < cLine := by have := h.u; omega
section
variable {C : Ctx} {tg iter tg1 iter1 elt : Expr} {ifs ifs1 : List Expr} {scope : Scope} {own : List (Str × Nat)} {pos spos py : Pos} {mi mi1 : DIt} {g g1 : TG} {gd gd1 : GD} {is is1 vs1 : List Nat} {t t1 : DT} {e de : DE} {i : Nat} {y : Str}
theorem lc_imp {vs : List Nat} {σ : L2.St} {H : Hp} {Q : VK} (hd : TgD C.T C.T.K g gd is) (hv : ∀ j ∈ is, j ∈ vs) (h : tD C.T C.xp C.W (dLc mi gd t de vs) σ H Q) :
    tLc (tDI C.T C.xp C.W mi) g (tDT C.T C.xp (fun _ _ _ _ => False) t) (tD C.T C.xp (fun _ _ _ _ => False) de) vs σ H Q := by
    obtain ⟨ρ, st, ι, er, rl, p⟩ := h
    refine ⟨ρ, st, ι, er, rl, post_bind p fun ds s1 J ι1 H1 st1 rl1 ⟨Gd, wk, hG⟩ p1 => ?_⟩
    have er1 := er.step st1
    intro D hD
    split at p1
    · rename_i hl
      exact lc_it wk (LeftC C.T C.xp (fun c d H => C.W c d σ H) Q gd t de (wipeD ρ vs) ds ι1 s1 H1 D) (leftC_start rl1 hD p1) (fun i H' _ hL => hG _ (leftC_sq hD hL))
        (fun i x H' H'' hi hL ⟨eH, d, hd', rd⟩ => by
          subst eH
          exact leftC_turn hd hv (by omega) er1 hD hd' rd hL)
        (fun H' hL => leftC_end rl1 hD (Nat.le_refl _) hL)
    · exact p1.elim

theorem lc2_imp {vs : List Nat} {σ : L2.St} {H : Hp} {Q : VK} (hd : TgD C.T C.T.K g gd is) (hv : ∀ j ∈ is, j ∈ vs) (hd1 : TgD C.T C.T.K g1 gd1 is1) (hv1 : ∀ j ∈ is1, j ∈ vs1) (h : tD C.T C.xp C.W (dLc2 mi gd t mi1 gd1 t1 e vs vs1) σ H Q) :
    tLc2 (tDI C.T C.xp C.W mi) g (tDT C.T C.xp (fun _ _ _ _ => False) t) (tDI C.T C.xp (fun _ _ _ _ => False) mi1) g1 (tDT C.T C.xp (fun _ _ _ _ => False) t1) (tD C.T C.xp (fun _ _ _ _ => False) e) vs vs1 σ H Q := by
    obtain ⟨ρ, st, ι, er, rl, q⟩ := h
    refine ⟨ρ, st, ι, er, rl, post_bind q fun ds s1 J ι1 H1 st1 rl1 ⟨Gd, wk, hG⟩ q1 => ?_⟩
    have er1 := er.step st1
    intro p hp
    refine loop_of wk (P := fun i H => ∃ ι st acc ys, Way C (fun c d H => C.W c d σ H) Q ι1 s1 H1 p (lc2L gd t mi1 gd1 t1 e vs1 (wipeD ρ vs) (ds.drop i) st) acc ys ι st H) ⟨ι1.under p, s1, [], [], ?_⟩ (fun i H ⟨ι, st, acc, ys, w⟩ => ?_) (fun i x Ha Hb hlt ⟨ι, st, acc, ys, w⟩ ⟨eH, d, hx, hr⟩ => ?_) (fun H ⟨ι, st, acc, ys, w⟩ => ?_)
    · refine ⟨by rw [upd_upd]; exact Step.refl _ _ _, rl1.under hp, upd_same, .nil, ?_⟩
      have eb : ∀ m : Res (List D), (m.bind fun zs s2 => .ok (([] : List D) ++ zs) s2) = m := fun m => by cases m <;> rfl
      rw [eb]
      exact q1
    · have hx1 := w.s.ex
      rw [hide_under hp, hide_hd w.hd] at hx1
      exact hG _ (hx1.trans (hide_le _ _ _))
    · subst eH
      have hx1 := w.s.ex
      rw [hide_under hp, hide_hd w.hd] at hx1
      have pad : ∀ (k : Nat) (a : Addr), ι1.ad[k]? = some a → ι.ad[k]? = some a := w.s.pre.ad
      rw [drop_at hx] at w
      unfold lc2L at w
      have erw := er1.wipe vs
      have er' : EnvR C.T C.xp (hide ι st Hb) ι (wipeD ρ vs) (wipe σ vs) := ⟨erw.len, fun i y hy => let ⟨v, z1, z2⟩ := erw.at_ i y hy; ⟨v, z1, z2.monoA hx1 pad⟩⟩
      cases hgd : gd d (wipeD ρ vs) with
      | none => rw [hgd] at w; exact w.q.elim
      | some ρ' =>
        rw [hgd] at w
        dsimp only at w
        refine hd.ok _ _ _ _ _ _ _ _ _ _ er' (hr.monoA hx1 pad) hgd fun σ2 er2 hw => ⟨?_, ρ', st, ι, er2, w.rl, ?_⟩
        · rw [hw _ hv]
          have again : ∀ (ws : List Nat) (τ : L2.St), (∀ i ∈ ws, i ∈ vs) → wipe (wipe τ ws) vs = wipe τ vs := by
            intro ws
            induction ws with
            | nil => exact fun τ _ => rfl
            | cons i ws ih =>
              intro τ hi
              show wipe ((wipe τ ws).set i none) vs = _
              rw [wipe_set (hi i List.mem_cons_self)]
              exact ih τ fun z hz => hi z (List.mem_cons_of_mem _ hz)
          exact again _ σ fun _ z => z
        · cases htt : t ρ' st with
          | bad => rw [htt] at w; exact w.q.elim
          | exc c es s2 => rw [htt] at w; exact w.q.elim
          | ok bb s2 =>
            rw [htt] at w
            simp only [noX, bind_ok] at w
            intro b' ι2 H2 st2 rl2 eb
            have eb' : b' = bb := eb
            subst eb'
            have w2 := w.step st2 rl2
            cases b' with
            | false => exact iteF ⟨ι2, s2, acc, ys, w2⟩
            | true =>
              refine iteT ⟨ρ', s2, ι2, er2.step st2, rl2, ?_⟩
              cases hm : mi1 ρ' s2 with
              | bad => rw [hm] at w2; exact w2.q.elim
              | exc c es s3 => rw [hm] at w2; exact w2.q.elim
              | ok ds1 s3 =>
                rw [hm] at w2
                simp only [noX, bind_ok] at w2
                intro J1 ι3 H3 st3 rl3 ⟨Gd1, wk1, hG1⟩
                have w3 := w2.step st3 rl3
                have er3 := (er2.step st2).step st3
                refine loop_of wk1 (P := Inner C (fun c d H => C.W c d σ H) Q ι1 s1 H1 p gd1 t1 e (wipeD ρ' vs1) ds1 (fun s => lc2L gd t mi1 gd1 t1 e vs1 (wipeD ρ vs) (ds.drop (i + 1)) s) ι3 s3 H3) ⟨ι3, s3, acc, ys, w3, Le.refl _, fun _ _ z => z⟩
                  (fun j H' ⟨_, _, _, _, _, b⟩ => hG1 _ (b.le.trans (hide_le _ _ _))) (fun j x Hc Hd hj hI ⟨eH2, d1, hx2, hr2⟩ => ?_) (fun H' hI => ?_)
                · subst eH2
                  exact inner_turn hd1 hv1 (fun s => lc2L_no) er3 hx2 hr2 hI
                · exact inner_end (Nat.le_refl _) hI
    · rw [List.drop_eq_nil_of_le (Nat.le_refl _)] at w
      exact w.ends rl1 hp

theorem pds_setLc (hc : C.X.calm = true) (hN : C.X.N.Nodup) (hy : C.X.N[i]? = some y) (hyl : C.X.env.scope.names.lookup y = some .local) (hi : PDI C tg iter mi) (ok : BlkOk C.X.N C.X.env.scope scope own) (hg : ∀ s H c cl fp, PG (C.blk s H scope c cl fp).X tg g) (hd : TgD C.T C.T.K g gd is) (hv : ∀ j ∈ is, j ∈ own.map (·.2))
    (ht : ∀ s H c cl fp, PDTs (C.blk s H scope c cl fp) ifs t) (he : ∀ s H c cl fp, PD (C.blk s H scope c cl fp) elt de) (hs : ∀ x, foldedSetIterable iter C.X.env x = pure x := by intro _; rfl)
    (hsw : swapsWith (.ListComp elt [⟨tg, iter, ifs, 0⟩] scope pos) (some (.Name y py)) spos.line C.X.env = pure true := by first | rfl | exact sw_true rfl rfl rfl rfl) :
    PDS C (.Assign [.Name y py] (.ListComp elt [⟨tg, iter, ifs, 0⟩] scope pos) spos) (sSet i (dLc mi gd t de (own.map (·.2)))) :=
  PS.imp (ps_setLc hc hN hy hyl hsw hi ok hg ht he hs) fun D σ H ⟨ρ, st, ι, er, rl, q⟩ =>
    lc_imp hd hv ⟨ρ, st, ι, er, rl, post_into q er fun d s1 v ι1 H1 st1 rl1 er1 rv p1 => p1 _ ι1 H1 (Step.refl _ _ _) rl1 (er1.set i rv)⟩
theorem pds_setLc2 (hc : C.X.calm = true) (hN : C.X.N.Nodup) (hy : C.X.N[i]? = some y) (hyl : C.X.env.scope.names.lookup y = some .local) (hi : PDI C tg iter mi) (ok : BlkOk C.X.N C.X.env.scope scope own) (hvo : ∀ i ∈ vs1, i ∈ own.map (·.2)) (hg : ∀ s H c cl fp, PG (C.blk s H scope c cl fp).X tg g) (hd : TgD C.T C.T.K g gd is) (hv : ∀ j ∈ is, j ∈ own.map (·.2))
    (ht : ∀ s H c cl fp, PDTs (C.blk s H scope c cl fp) ifs t) (hi1 : ∀ s H c cl fp, PDI (C.blk s H scope c cl fp) tg1 iter1 mi1) (hg1 : ∀ s H c cl fp, PG (C.blk s H scope c cl fp).X tg1 g1) (hd1 : TgD C.T C.T.K g1 gd1 is1) (hv1 : ∀ j ∈ is1, j ∈ vs1)
    (ht1 : ∀ s H c cl fp, PDTs (C.blk s H scope c cl fp) ifs1 t1) (he : ∀ s H c cl fp, PD (C.blk s H scope c cl fp) elt e) (hs : ∀ x, foldedSetIterable iter C.X.env x = pure x := by intro _; rfl) (hs1 : ∀ env x, foldedSetIterable iter1 env x = pure x := by intro _ _; rfl)
    (hsw : swapsWith (.ListComp elt [⟨tg, iter, ifs, 0⟩, ⟨tg1, iter1, ifs1, 0⟩] scope pos) (some (.Name y py)) spos.line C.X.env = pure true := by first | rfl | exact sw_true rfl rfl rfl rfl) :
    PDS C (.Assign [.Name y py] (.ListComp elt [⟨tg, iter, ifs, 0⟩, ⟨tg1, iter1, ifs1, 0⟩] scope pos) spos) (sSet i (dLc2 mi gd t mi1 gd1 t1 e (own.map (·.2)) vs1)) :=
  PS.imp (ps_setLc2 (wi1 := tDI C.T C.xp (fun _ _ _ _ => False) mi1) (tt := tDT C.T C.xp (fun _ _ _ _ => False) t) (tt1 := tDT C.T C.xp (fun _ _ _ _ => False) t1) (te := tD C.T C.xp (fun _ _ _ _ => False) e) hc hN hy hyl hsw hi ok hvo hg ht hi1 hg1 ht1 he hs hs1) fun D σ H ⟨ρ, st, ι, er, rl, q⟩ =>
    lc2_imp hd hv hd1 hv1 ⟨ρ, st, ι, er, rl, post_into q er fun d s1 v ι1 H1 st1 rl1 er1 rv p1 => p1 _ ι1 H1 (Step.refl _ _ _) rl1 (er1.set i rv)⟩
end
end Den

set_option maxRecDepth 100000
set_option maxHeartbeats 1000000
/-! Mir: what the worth of a piece comes to, for the mirrors of laws. -/
namespace Den
open PySem PySem.Spec PyProof.Rows L2
/-! ### a def's end -/
def outB : SRes → Res D
  | .nx _ st' => .ok .non st'
  | .ret d st' => .ok d st'
  | .exc c xs _ st' => .exc c xs st'
  | _ => .bad
@[simp] theorem outB_nx {ρ : Rho} {st : Store} : outB (.nx ρ st) = .ok .non st := rfl
@[simp] theorem outB_ret {d : D} {st : Store} : outB (.ret d st) = .ok d st := rfl
@[simp] theorem outB_exc {c : Nat} {xs : List D} {ρ : Rho} {st : Store} : outB (.exc c xs ρ st) = .exc c xs st := rfl
theorem body_eq {N n : Nat} {m : DS} {ds : List D} {st : Store} (h : ds.length = n) : body N n m ds st = outB (m (ds.map some ++ List.replicate (N - n) none) st) := by
  unfold body
  rw [if_pos h]
  rfl
theorem run {N n : Nat} {m : DS} {ds : List D} {st : Store} {r : SRes} {w : Res D} (hl : ds.length = n) (h : m (ds.map some ++ List.replicate (N - n) none) st = r) (ho : outB r = w) : body N n m ds st = w := by
  rw [body_eq hl, h, ho]
theorem bodyE_eq {N n : Nat} {m : DS} {ds : List D} {st : Store} (h : ds.length = n) (he : noEL ds = true) (hs : noES st = true) : bodyE N n m ds st = outB (m (ds.map some ++ List.replicate (N - n) none) st) := by
  unfold bodyE
  rw [if_pos ⟨he, hs⟩, body_eq h]
theorem runE {N n : Nat} {m : DS} {ds : List D} {st : Store} {r : SRes} {w : Res D} (hl : ds.length = n) (he : noEL ds = true) (hs : noES st = true) (h : m (ds.map some ++ List.replicate (N - n) none) st = r) (ho : outB r = w) : bodyE N n m ds st = w := by
  rw [bodyE_eq hl he hs, h, ho]
/-! ### pieces whose parts are known -/
section
variable {a b c : DE} {t u : DT} {ρ : Rho} {st s1 s2 s3 : Store} {x y z : D} {bb cc : Bool}
theorem ev_cons {r : DA} {xs : List D} (h : a ρ st = .ok x s1) (g : r ρ s1 = .ok xs s2) : dCons a r ρ st = .ok (x :: xs) s2 := by
  unfold dCons; rw [h, bind_ok, g, bind_ok]
theorem ev_call {n : Nat} {f : DF} {r : DA} {xs : List D} {w : Res D} (h : r ρ st = .ok xs s1) (hl : xs.length = n) (hf : f xs s1 = w) : dCallA n f r ρ st = w := by
  unfold dCallA; rw [h, bind_ok, if_pos hl, hf]
theorem ev_not (h : t ρ st = .ok bb s1) : tNotD t ρ st = .ok (!bb) s1 := by unfold tNotD; rw [h]; rfl
theorem ev_truth {w : Bool} (h : a ρ st = .ok x s1) (hx : truth x = some w) : dTruth a ρ st = .ok w s1 := by
  unfold dTruth; rw [h, bind_ok, hx]
theorem ev_op {f : D → D → Option D} (h : a ρ st = .ok x s1) (g : b ρ s1 = .ok y s2) (hf : f x y = some z) : dOp2 f a b ρ st = .ok z s2 := by
  unfold dOp2; rw [h, bind_ok, g, bind_ok, hf]
theorem ev_asB (h : a ρ st = .ok (.bl bb) s1) : asB a ρ st = .ok bb s1 := by unfold asB; rw [h]; rfl
theorem ev_orT (h : t ρ st = .ok true s1) : tOrD t u ρ st = .ok true s1 := by unfold tOrD; rw [h]; rfl
theorem ev_orF {w : Res Bool} (h : t ρ st = .ok false s1) (g : u ρ s1 = w) : tOrD t u ρ st = w := by unfold tOrD; rw [h]; exact g
theorem ev_andF (h : t ρ st = .ok false s1) : tAndD t u ρ st = .ok false s1 := by unfold tAndD; rw [h]; rfl
theorem ev_andT {w : Res Bool} (h : t ρ st = .ok true s1) (g : u ρ s1 = w) : tAndD t u ρ st = w := by unfold tAndD; rw [h]; exact g
/-- both sides leave the store -/
theorem ev_or (h : t ρ st = .ok bb st) (g : bb = false → u ρ st = .ok cc st) : tOrD t u ρ st = .ok (bb || cc) st := by
  cases bb with
  | true => rw [ev_orT h]; rfl
  | false => rw [ev_orF h (g rfl)]; simp
theorem ev_and (h : t ρ st = .ok bb st) (g : bb = true → u ρ st = .ok cc st) : tAndD t u ρ st = .ok (bb && cc) st := by
  cases bb with
  | false => rw [ev_andF h]; rfl
  | true => rw [ev_andT h (g rfl)]; simp
theorem ev_tup {r : DA} {xs : List D} (h : r ρ st = .ok xs s1) (hl : xs.length ≤ 100000) : dTup r ρ st = .ok (.tup xs) s1 := by
  unfold dTup; rw [h, bind_ok, if_pos hl]
theorem ev_lst {r : DA} {xs : List D} (h : r ρ st = .ok xs s1) (hl : xs.length ≤ 100000) : dLst r ρ st = .ok (.lst xs) s1 := by
  unfold dLst; rw [h, bind_ok, if_pos hl]
theorem ev_new {r : DA} {xs : List D} (h : r ρ st = .ok xs s1) (hl : xs.length ≤ 100000) : dNew r ρ st = .ok (.box s1.length) (s1 ++ [.lst xs]) := by
  unfold dNew; rw [h, bind_ok, if_pos hl]
theorem ev_ix (h : a ρ st = .ok x s1) (g : b ρ s1 = .ok y s2) (hz : ixD x y s2 = some z) : dIx a b ρ st = .ok z s2 := by
  unfold dIx; rw [h, bind_ok, g, bind_ok, hz]
theorem ev_cb1 {g : D → Store → Option D} {r : DA} (h : r ρ st = .ok [x] s1) (hg : g x s1 = some y) : dCB (one g) r ρ st = .ok y s1 := by
  unfold dCB one; rw [h, bind_ok]; dsimp only; rw [hg]; rfl
theorem ev_ite {w : Res D} (h : t ρ st = .ok bb s1) (g : (if bb = true then a else b) ρ s1 = w) : dIte t a b ρ st = w := by
  unfold dIte; rw [h, bind_ok]; cases bb <;> exact g
/-! ### statements -/
theorem ex_if {p q : DS} (h : t ρ st = .ok bb s1) : sIf t p q ρ st = (if bb = true then p ρ s1 else q ρ s1) := by
  unfold sIf; rw [h, into_ok]; cases bb <;> rfl
theorem ex_ret (h : a ρ st = .ok x s1) : sRet a ρ st = .ret x s1 := by unfold sRet; rw [h]; rfl
theorem ex_set {i : Nat} (h : a ρ st = .ok x s1) : sSet i a ρ st = .nx (ρ.set i (some x)) s1 := by unfold sSet; rw [h]; rfl
theorem ex_drop (h : a ρ st = .ok x s1) : sDrop a ρ st = .nx ρ s1 := by unfold sDrop; rw [h]; rfl
theorem ex_seq {p q : DS} {ρ1 : Rho} {w : SRes} (h : p ρ st = .nx ρ1 s1) (g : q ρ1 s1 = w) : sSeq p q ρ st = w := by unfold sSeq; rw [h, then_nx]; exact g
theorem ex_seqR {p q : DS} (h : p ρ st = .ret x s1) : sSeq p q ρ st = .ret x s1 := by unfold sSeq; rw [h, then_ret]
theorem ex_seqE {p q : DS} {c : Nat} {xs : List D} {ρ1 : Rho} (h : p ρ st = .exc c xs ρ1 s1) : sSeq p q ρ st = .exc c xs ρ1 s1 := by unfold sSeq; rw [h, then_exc]
theorem ex_par {i j : Nat} {r : DA} (h : r ρ st = .ok [x, y] s1) : sPar i j r ρ st = .nx ((ρ.set i (some x)).set j (some y)) s1 := by unfold sPar; rw [h]; rfl
theorem ex_asg {g : GD} {ρ1 : Rho} (h : a ρ st = .ok x s1) (hg : g x ρ = some ρ1) : sAsg g a ρ st = .nx ρ1 s1 := by unfold sAsg; rw [h, into_ok, hg]
end
/-! ### loops -/
theorem forL_inv {g : GD} {b : DS} {I : Rho → Store → Prop} : ∀ {ds : List D} {ρ : Rho} {st : Store}, (∀ d ∈ ds, ∀ ρ st, I ρ st → ∃ ρ1, g d ρ = some ρ1 ∧ ∃ ρ2 s2, b ρ1 st = .nx ρ2 s2 ∧ I ρ2 s2) → I ρ st → ∃ ρ' st', forL g b ds ρ st = .nx ρ' st' ∧ I ρ' st'
  | [], ρ, st, _, h => ⟨ρ, st, rfl, h⟩
  | d :: ds, ρ, st, hb, h => by
    obtain ⟨ρ1, e1, ρ2, s2, e2, h2⟩ := hb d List.mem_cons_self ρ st h
    obtain ⟨ρ3, s3, e3, h3⟩ := forL_inv (ds := ds) (fun d hd => hb d (List.mem_cons_of_mem _ hd)) h2
    refine ⟨ρ3, s3, ?_, h3⟩
    unfold forL
    rw [e1]
    dsimp only
    rw [e2]
    exact e3
/-- an invariant that tells of what is done and what is left -/
theorem forL_upto {g : GD} {b : DS} {I : List D → List D → Rho → Store → Prop} : ∀ {ds pre : List D} {ρ : Rho} {st : Store}, (∀ pre d r ρ st, I pre (d :: r) ρ st → ∃ ρ1, g d ρ = some ρ1 ∧ ∃ ρ2 s2, b ρ1 st = .nx ρ2 s2 ∧ I (pre ++ [d]) r ρ2 s2) → I pre ds ρ st → ∃ ρ' st', forL g b ds ρ st = .nx ρ' st' ∧ I (pre ++ ds) [] ρ' st'
  | [], pre, ρ, st, _, h => ⟨ρ, st, rfl, by rw [List.append_nil]; exact h⟩
  | d :: ds, pre, ρ, st, hb, h => by
    obtain ⟨ρ1, e1, ρ2, s2, e2, h2⟩ := hb pre d ds ρ st h
    obtain ⟨ρ3, s3, e3, h3⟩ := forL_upto (ds := ds) (pre := pre ++ [d]) hb h2
    refine ⟨ρ3, s3, ?_, by rw [List.append_assoc] at h3; exact h3⟩
    unfold forL
    rw [e1]
    dsimp only
    rw [e2]
    exact e3
theorem ex_forL {it : DE} {g : GD} {b : DS} {ρ : Rho} {st s1 : Store} {xs : List D} {w : SRes} (h : it ρ st = .ok (.lst xs) s1) (hw : forL g b xs ρ s1 = w) : sForL it g b ρ st = w := by unfold sForL; rw [h]; exact hw
theorem ex_forRo {it : DE} {g : GD} {b : DS} {ρ : Rho} {st s1 : Store} {xs : List D} {w : SRes} (h : it ρ st = .ok (.ro xs) s1) (hw : forL g b xs ρ s1 = w) : sForL it g b ρ st = w := by unfold sForL; rw [h]; exact hw
theorem ex_forT {it : DE} {g : GD} {b : DS} {ρ : Rho} {st s1 : Store} {xs : List D} {w : SRes} (h : it ρ st = .ok (.tup xs) s1) (hw : forL g b xs ρ s1 = w) : sForT it g b ρ st = w := by unfold sForT; rw [h]; exact hw
theorem ex_forR1 {r : DA} {g : GD} {b : DS} {ρ : Rho} {st s1 : Store} {j : Int} {w : SRes} (h : r ρ st = .ok [.int j] s1) (hj : big62 j) (hw : forL g b (rangeD 0 j.toNat) ρ s1 = w) : sForR1 r g b ρ st = w := by unfold sForR1; rw [h, into_ok]; dsimp only; rw [if_pos hj]; exact hw
theorem mem_range {lo : Int} {n : Nat} {d : D} (h : d ∈ rangeD lo n) : ∃ i : Nat, i < n ∧ d = .int (lo + i) := by
  unfold rangeD at h
  obtain ⟨i, hi, rfl⟩ := List.mem_map.mp h
  exact ⟨i, List.mem_range.mp hi, rfl⟩
/-! ### comprehensions that leave the store -/
theorem lcL_filter {g : GD} {t : DT} {e : DE} {ρ : Rho} {st : Store} {p : D → Bool} {f : D → D} : ∀ {ds : List D}, (∀ d ∈ ds, ∃ ρ', g d ρ = some ρ' ∧ t ρ' st = .ok (p d) st ∧ e ρ' st = .ok (f d) st) → lcL g t e ρ ds st = .ok ((ds.filter p).map f) st
  | [], _ => rfl
  | d :: ds, h => by
    obtain ⟨ρ', h1, h2, h3⟩ := h d List.mem_cons_self
    have ih := lcL_filter (g := g) (t := t) (e := e) (ρ := ρ) (st := st) (p := p) (f := f) (ds := ds) fun x hx => h x (List.mem_cons_of_mem _ hx)
    unfold lcL
    rw [h1]
    dsimp only
    rw [h2]
    cases hp : p d with
    | true => simp [noX, h3, ih, hp]
    | false => simp [noX, ih, hp]
theorem lcL_map {g : GD} {e : DE} {ρ : Rho} {st : Store} {f : D → D} {ds : List D} (h : ∀ d ∈ ds, ∃ ρ', g d ρ = some ρ' ∧ e ρ' st = .ok (f d) st) : lcL g tYesD e ρ ds st = .ok (ds.map f) st := by
  have z := lcL_filter (g := g) (t := tYesD) (e := e) (ρ := ρ) (st := st) (p := fun _ => true) (f := f) (ds := ds) fun d hd => by
    obtain ⟨ρ', a, b⟩ := h d hd
    exact ⟨ρ', a, rfl, b⟩
  rw [z]
  congr 2
  exact List.filter_eq_self.mpr fun _ _ => rfl
/-- a comprehension whose turns draw: all it makes is of a kind -/
theorem lcL_all {g : GD} {e : DE} {ρ : Rho} {I : Store → Prop} {K : D → Prop} : ∀ {ds : List D} {st : Store}, (∀ d ∈ ds, ∃ ρ', g d ρ = some ρ' ∧ ∀ st, I st → ∃ y s1, e ρ' st = .ok y s1 ∧ K y ∧ I s1) → I st → ∃ ys s1, lcL g tYesD e ρ ds st = .ok ys s1 ∧ ys.length = ds.length ∧ (∀ y ∈ ys, K y) ∧ I s1
  | [], st, _, h => ⟨[], st, rfl, rfl, fun _ z => (nomatch z), h⟩
  | d :: ds, st, hb, h => by
    obtain ⟨ρ', h1, h2⟩ := hb d List.mem_cons_self
    obtain ⟨y, s1, h3, h4, h5⟩ := h2 st h
    obtain ⟨ys, s2, k1, k2, k3, k4⟩ := lcL_all (ds := ds) (fun d hd => hb d (List.mem_cons_of_mem _ hd)) h5
    refine ⟨y :: ys, s2, ?_, by simp [k2], fun z hz => ?_, k4⟩
    · unfold lcL
      rw [h1]
      dsimp only [tYesD, noX, bind_ok]
      rw [h3]
      dsimp only [noX, bind_ok]
      rw [k1]
      rfl
    · rcases List.mem_cons.mp hz with rfl | hz
      · exact h4
      · exact k3 z hz
section
variable {it : DE} {r a : DA} {g : GD} {t : DT} {e o : DE} {vs : List Nat} {ρ : Rho} {st s1 s2 st' : Store} {xs ys ds : List D} {j : Int} {z : Str} {x y : D}
theorem ev_lcR1 (h : r ρ st = .ok [.int j] s1) (hj : big62 j ∧ j ≤ 100000) (hl : lcL g t e (wipeD ρ vs) (rangeD 0 j.toNat) s1 = .ok ys s2) (hy : ys.length ≤ 100000) : dLcR1 r g t e vs ρ st = .ok (.lst ys) s2 := by
  unfold dLcR1; rw [h, bind_ok]; dsimp only; rw [if_pos hj, hl]; unfold lcEnd; rw [bind_ok, if_pos hy]
theorem ev_lcL (h : it ρ st = .ok (.lst xs) s1) (hx : xs.length ≤ 100000) (hl : lcL g t e (wipeD ρ vs) xs s1 = .ok ys s2) (hy : ys.length ≤ 100000) : dLcL it g t e vs ρ st = .ok (.lst ys) s2 := by
  unfold dLcL; rw [h, bind_ok]; dsimp only; rw [if_pos hx, hl]; unfold lcEnd; rw [bind_ok, if_pos hy]
theorem ev_lcRo (h : it ρ st = .ok (.ro xs) s1) (hx : xs.length ≤ 100000) (hl : lcL g t e (wipeD ρ vs) xs s1 = .ok ys s2) (hy : ys.length ≤ 100000) : dLcL it g t e vs ρ st = .ok (.lst ys) s2 := by
  unfold dLcL; rw [h, bind_ok]; dsimp only; rw [if_pos hx, hl]; unfold lcEnd; rw [bind_ok, if_pos hy]
theorem ev_lcT (h : it ρ st = .ok (.tup xs) s1) (hx : xs.length ≤ 100000) (hl : lcL g t e (wipeD ρ vs) xs s1 = .ok ys s2) (hy : ys.length ≤ 100000) : dLcT it g t e vs ρ st = .ok (.lst ys) s2 := by
  unfold dLcT; rw [h, bind_ok]; dsimp only; rw [if_pos hx, hl]; unfold lcEnd; rw [bind_ok, if_pos hy]
theorem ev_lcS (h : it ρ st = .ok (.str z) s1) (hx : z.cps.size ≤ 100000) (hl : lcL g t e (wipeD ρ vs) (signsD z) s1 = .ok ys s2) (hy : ys.length ≤ 100000) : dLcS it g t e vs ρ st = .ok (.lst ys) s2 := by
  unfold dLcS; rw [h, bind_ok]; dsimp only; rw [if_pos hx, hl]; unfold lcEnd; rw [bind_ok, if_pos hy]
theorem ev_bm {ty : String} {f : FM} (h : o ρ st = .ok x s1) (ht : tyD ty x s1 = true) (ha : a ρ s1 = .ok ds s2) (hf : f x ds s2 = some (y, st')) : dBm ty f o a ρ st = .ok y st' := by
  unfold dBm; rw [h, bind_ok, if_pos ht, ha, bind_ok, hf]; rfl
end
/-! ### stores -/
/-- a pot of one number -/
def Pot (k : Nat) (st : Store) : Prop := ∃ p, st[k]? = some (.lst [.int p])
/-- only the pot has changed -/
structure Chg (k : Nat) (st st' : Store) : Prop where
  lt : k < st.length
  ex : ∃ p, st' = st.set k (.lst [.int p])
theorem Pot.lt {k : Nat} {st : Store} (h : Pot k st) : k < st.length := by
  obtain ⟨p, e⟩ := h
  exact (List.getElem?_eq_some_iff.mp e).1
theorem Pot.chg {k : Nat} {st : Store} (h : Pot k st) : Chg k st st := by
  refine ⟨h.lt, ?_⟩
  obtain ⟨p, e⟩ := h
  obtain ⟨lt, v⟩ := List.getElem?_eq_some_iff.mp e
  exact ⟨p, by rw [← v, List.set_getElem_self]⟩
theorem Chg.pot {k : Nat} {st st' : Store} (h : Chg k st st') : Pot k st' := by
  obtain ⟨lt, p, rfl⟩ := h
  exact ⟨p, by rw [List.getElem?_set_self lt]⟩
theorem Chg.len {k : Nat} {st st' : Store} (h : Chg k st st') : st'.length = st.length := by
  obtain ⟨lt, p, rfl⟩ := h
  rw [List.length_set]
theorem Chg.trans {k : Nat} {a b c : Store} (h : Chg k a b) (g : Chg k b c) : Chg k a c := by
  obtain ⟨lt, p, rfl⟩ := h
  obtain ⟨lt2, q, rfl⟩ := g
  exact ⟨lt, q, by rw [List.set_set]⟩
theorem Chg.other {k j : Nat} {st st' : Store} (h : Chg k st st') (n : j ≠ k) : st'[j]? = st[j]? := by
  obtain ⟨lt, p, rfl⟩ := h
  rw [List.getElem?_set_ne (Ne.symm n)]
theorem noES_set {st : Store} {k : Nat} {c : Cell} (h : noES st = true) (hc : noEC c = true) : noES (st.set k c) = true := by
  unfold noES at h ⊢
  rw [List.all_eq_true] at h ⊢
  intro x hx
  rcases List.mem_or_eq_of_mem_set hx with hx | rfl
  · exact h x hx
  · exact hc
theorem noES_app {st : Store} {c : Cell} (h : noES st = true) (hc : noEC c = true) : noES (st ++ [c]) = true := by
  unfold noES at h ⊢
  rw [List.all_append, h]
  simp [hc]
theorem Chg.noE {k : Nat} {st st' : Store} (h : Chg k st st') (n : noES st = true) : noES st' = true := by
  obtain ⟨lt, p, rfl⟩ := h
  exact noES_set n rfl
/-! ### indices -/
theorem atI_mem {α : Type} {xs : List α} {i : Int} (h0 : 0 ≤ i) (h1 : i < xs.length) : ∃ x ∈ xs, atI xs i = some x := by
  have hn : i.toNat < xs.length := by omega
  refine ⟨xs[i.toNat], List.getElem_mem _, ?_⟩
  unfold atI ixN
  rw [if_pos h0, if_pos h1]
  simp [List.getElem?_eq_getElem hn]
theorem ix_mem {xs : List D} {i : Int} {st : Store} (h0 : 0 ≤ i) (h1 : i < xs.length) : ∃ x ∈ xs, ixD (.lst xs) (.int i) st = some x := by
  obtain ⟨x, hx, e⟩ := atI_mem h0 h1
  exact ⟨x, hx, e⟩
theorem ix_memB {xs : List D} {i : Int} {st : Store} {k : Nat} (hk : st[k]? = some (.lst xs)) (h0 : 0 ≤ i) (h1 : i < xs.length) : ∃ x ∈ xs, ixD (.box k) (.int i) st = some x := by
  obtain ⟨x, hx, e⟩ := atI_mem h0 h1
  refine ⟨x, hx, ?_⟩
  unfold ixD itemsOf
  dsimp only
  rw [hk]
  exact e
theorem ix_sign {z : Str} {i : Int} {st : Store} (hz : z.length ≤ 1000000) (h0 : 0 ≤ i) (h1 : i < z.length) : ∃ c ∈ z.cps.toList, ixD (.str z) (.int i) st = some (.str ⟨#[c]⟩) := by
  have hl : z.cps.toList.length = z.length := by simp [Str.length]
  obtain ⟨x, hx, e⟩ := atI_mem (xs := z.cps.toList) h0 (by rw [hl]; exact h1)
  refine ⟨x, hx, ?_⟩
  unfold ixD
  dsimp only
  rw [if_pos hz, e]
  rfl
end Den

set_option maxRecDepth 100000
set_option maxHeartbeats 1000000
/-! Com: what all laws share: a cell of the script, its pot, a draw from it. -/
namespace Com
open PySem PySem.Spec PyProof.Rows L2 Den
def m__law_cell_at : DS :=
    (sSeq (sIf (asB (dOp2 fLt (dVar 1) (dCB (one gLen) (dCons (dVar 0) dNil)))) (sRet (dIx (dVar 0) (dVar 1))) sNext)
    (sRet (dC (.int 0))))
def f__law_cell_at : DF := body 2 2 m__law_cell_at
def m__law_pot : DS :=
    (sSeq (sIf (asB (dOp2 fGe (dVar 0) (dPow (dC (.int 10)) (dC (.int 18))))) (sRet (dNew (dCons (dSub (dVar 0) (dPow (dC (.int 10)) (dC (.int 18)))) dNil))) sNext)
    (sSeq (sSet 1 (dC (.int 0)))
    (sSeq (sForR1 (dCons (dC (.int 64)) dNil) (g1 2)
    (sSeq (sSet 3 (dMod (dMulA (dAdd (dAdd (dMod (dVar 0) (dC (.int 2147483629))) (dMulA (dC (.int 7919)) (dVar 2))) (dC (.int 1))) (dC (.int 48271))) (dC (.int 2147483647))))
    (sSeq (sSet 3 (dMod (dAdd (dAdd (dMulA (dVar 3) (dVar 3)) (dMulA (dC (.int 69621)) (dVar 2))) (dC (.int 7))) (dC (.int 2147483587))))
    (sSet 1 (dAdd (dMulA (dVar 1) (dC (.int 2147483587))) (dVar 3))))))
    (sRet (dNew (dCons (dVar 1) dNil))))))
def f__law_pot : DF := body 4 1 m__law_pot
def m__law_take : DS :=
    (sSeq (sSet 2 (dMod (dIx (dVar 0) (dC (.int 0))) (dVar 1)))
    (sSeq (sSetIx (dVar 0) (dC (.int 0)) (dDiv (dIx (dVar 0) (dC (.int 0))) (dVar 1)))
    (sRet (dVar 2))))
def f__law_take : DF := body 3 2 m__law_take
theorem take_eq {st : Store} {k : Nat} {p far : Int} (h : st[k]? = some (.lst [.int p])) (hf : 0 < far) (hl : far.natAbs.log2 < 9000) : f__law_take [.box k, .int far] st = .ok (.int (p % far)) (st.set k (.lst [.int (p / far)])) := by
  have i0 : ixN 1 0 = some 0 := rfl
  simp [f__law_take, body, m__law_take, sSeq, sSet, sRet, sSetIx, dMod, dDiv, dOp2, dIx, dVar, dC, ixD, itemsOf, h, atI, i0, fMod, fDiv, onI, hf, hl, Res.into, Res.bind, SRes.then]
theorem take_d {st : Store} {k : Nat} {far : Int} (h : Pot k st) (hf : 0 < far) (hl : far.natAbs.log2 < 9000 := by decide) : ∃ i st1, 0 ≤ i ∧ i < far ∧ f__law_take [.box k, .int far] st = .ok (.int i) st1 ∧ Chg k st st1 := by
  obtain ⟨p, e⟩ := h
  exact ⟨p % far, _, Int.emod_nonneg _ (by omega), Int.emod_lt_of_pos _ hf, take_eq e hf hl, ⟨(List.getElem?_eq_some_iff.mp e).1, _, rfl⟩⟩
theorem cell_d {ns : List Int} {k : Nat} {st : Store} : ∃ c, f__law_cell_at [.ro (ns.map D.int), .int k] st = .ok (.int c) st := by
  have t : asB (dOp2 fLt (dVar 1) (dCB (one gLen) (dCons (dVar 0) dNil))) [some (.ro (ns.map D.int)), some (.int k)] st = .ok (decide ((k : Int) < ns.length)) st := by
    refine ev_asB (ev_op (x := .int k) (y := .int ns.length) (s1 := st) rfl (ev_cb1 rfl ?_) rfl)
    unfold gLen itemsOf
    simp
  cases hb : decide ((k : Int) < ns.length) with
  | true =>
    rw [hb] at t
    have hk : k < ns.length := by have := of_decide_eq_true hb; omega
    obtain ⟨x, hx, e⟩ := atI_mem (xs := ns.map D.int) (i := k) (by omega) (by rw [List.length_map]; omega)
    obtain ⟨c, _, rfl⟩ := List.mem_map.mp hx
    exact ⟨c, run (N := 2) (n := 2) (m := m__law_cell_at) (r := .ret (.int c) st) rfl (ex_seqR ((ex_if t).trans (ex_ret (ev_ix (x := .ro (ns.map D.int)) (y := .int k) (s1 := st) rfl rfl e)))) rfl⟩
  | false =>
    rw [hb] at t
    exact ⟨0, run (N := 2) (n := 2) (m := m__law_cell_at) (r := .ret (.int 0) st) rfl (ex_seq (s1 := st) ((ex_if t).trans rfl) rfl) rfl⟩
theorem ten18 {ρ : Rho} {st : Store} : dPow (dC (.int 10)) (dC (.int 18)) ρ st = .ok (.int (10 ^ 18)) st := by
  refine ev_op (x := .int 10) (y := .int 18) (s1 := st) rfl rfl ?_
  unfold fPow onI
  dsimp only
  rw [if_pos (by decide)]
  rfl
theorem log2_lt {i : Int} {n : Nat} (h : i.natAbs < 2 ^ n) (hn : 0 < n) : i.natAbs.log2 < n := by
  by_cases h0 : i.natAbs = 0
  · rw [h0]; simpa using hn
  · exact (Nat.log2_lt h0).mpr h
theorem fMulA_int {i j : Int} (hi : i.natAbs < 2 ^ 400000) (hj : j.natAbs < 2 ^ 400000) : fMulA (.int i) (.int j) = some (.int (i * j)) := by
  have h1 := log2_lt hi (by decide)
  have h2 := log2_lt hj (by decide)
  unfold fMulA fMul onI
  dsimp only
  rw [if_pos (by rw [decide_eq_true_eq]; omega)]
  rfl
theorem fMod_int {i j : Int} (h : 0 < j) : fMod (.int i) (.int j) = some (.int (i % j)) := by
  unfold fMod onI
  dsimp only
  rw [if_pos (by rw [decide_eq_true_eq]; exact h)]
theorem fAdd_int {i j : Int} : fAdd (.int i) (.int j) = some (.int (i + j)) := rfl
open PySem PySem.Spec PyProof.Rows L2 Den
theorem fMulA_ints {i j : Int} {a b : Nat} (hi : i.natAbs < 2 ^ a) (hj : j.natAbs < 2 ^ b) (ha : 0 < a) (hb : 0 < b) (h : a + b ≤ 1000000) : fMulA (.int i) (.int j) = some (.int (i * j)) := by
  have h1 := log2_lt hi ha
  have h2 := log2_lt hj hb
  unfold fMulA fMul onI
  dsimp only
  rw [if_pos (by rw [decide_eq_true_eq]; omega)]
  rfl
theorem pow_small {n : Int} {j : Nat} (h0 : 0 ≤ n) (h : n < (2147483587 : Int) ^ j) (hj : j ≤ 64) : n.natAbs < 2 ^ 1984 := by
  have e : ((2147483587 ^ j : Nat) : Int) = (2147483587 : Int) ^ j := by simp
  have h1 : n.natAbs < 2147483587 ^ j := by omega
  refine Nat.lt_of_lt_of_le h1 ?_
  refine Nat.le_trans (Nat.pow_le_pow_left (show 2147483587 ≤ 2 ^ 31 by decide) j) ?_
  rw [← Nat.pow_mul]
  exact Nat.pow_le_pow_right (by decide) (by omega)
def potB : DS := sSeq (sSet 3 (dMod (dMulA (dAdd (dAdd (dMod (dVar 0) (dC (.int 2147483629))) (dMulA (dC (.int 7919)) (dVar 2))) (dC (.int 1))) (dC (.int 48271))) (dC (.int 2147483647))))
    (sSeq (sSet 3 (dMod (dAdd (dAdd (dMulA (dVar 3) (dVar 3)) (dMulA (dC (.int 69621)) (dVar 2))) (dC (.int 7))) (dC (.int 2147483587))))
    (sSet 1 (dAdd (dMulA (dVar 1) (dC (.int 2147483587))) (dVar 3))))
theorem potB_ok {c n : Int} {j k : Nat} {x : Option D} {st : Store} (hj : j < 64) (hk : k < 64) (h0 : 0 ≤ n) (h1 : n < (2147483587 : Int) ^ k) :
    ∃ n' x', potB [some (.int c), some (.int n), some (.int j), x] st = .nx [some (.int c), some (.int n'), some (.int j), x'] st ∧ 0 ≤ n' ∧ n' < (2147483587 : Int) ^ (k + 1) := by
  have a0 : 0 ≤ c % 2147483629 := Int.emod_nonneg _ (by decide)
  have a1 : c % 2147483629 < 2147483629 := Int.emod_lt_of_pos _ (by decide)
  generalize hp : c % 2147483629 = p at a0 a1
  generalize hq : (p + 7919 * (j : Int) + 1) * 48271 % 2147483647 = q
  have b0 : 0 ≤ q := by rw [← hq]; exact Int.emod_nonneg _ (by decide)
  have b1 : q < 2147483647 := by rw [← hq]; exact Int.emod_lt_of_pos _ (by decide)
  generalize hr : (q * q + 69621 * (j : Int) + 7) % 2147483587 = r
  have c0 : 0 ≤ r := by rw [← hr]; exact Int.emod_nonneg _ (by decide)
  have c1 : r < 2147483587 := by rw [← hr]; exact Int.emod_lt_of_pos _ (by decide)
  refine ⟨n * 2147483587 + r, some (.int r), ?_, by omega, ?_⟩
  · refine ex_seq (ρ1 := [some (.int c), some (.int n), some (.int j), some (.int q)]) (s1 := st) (ex_set (x := .int q) ?_) ?_
    · refine ev_op (x := .int ((p + 7919 * (j : Int) + 1) * 48271)) (y := .int 2147483647) (s1 := st) ?_ rfl (by rw [fMod_int (by decide), hq])
      refine ev_op (x := .int (p + 7919 * (j : Int) + 1)) (y := .int 48271) (s1 := st) ?_ rfl (fMulA_ints (a := 70) (b := 70) (by omega) (by decide) (by decide) (by decide) (by decide))
      refine ev_op (x := .int (p + 7919 * (j : Int))) (y := .int 1) (s1 := st) ?_ rfl rfl
      refine ev_op (x := .int p) (y := .int (7919 * (j : Int))) (s1 := st) (s2 := st) ?_ ?_ rfl
      · exact ev_op (x := .int c) (y := .int 2147483629) (s1 := st) rfl rfl (by rw [fMod_int (by decide), hp])
      · exact ev_op (x := .int 7919) (y := .int j) (s1 := st) rfl rfl (fMulA_ints (a := 70) (b := 70) (by decide) (by omega) (by decide) (by decide) (by decide))
    · refine ex_seq (ρ1 := [some (.int c), some (.int n), some (.int j), some (.int r)]) (s1 := st) (ex_set (x := .int r) ?_) (ex_set (x := .int (n * 2147483587 + r)) ?_)
      · refine ev_op (x := .int (q * q + 69621 * (j : Int) + 7)) (y := .int 2147483587) (s1 := st) ?_ rfl (by rw [fMod_int (by decide), hr])
        refine ev_op (x := .int (q * q + 69621 * (j : Int))) (y := .int 7) (s1 := st) ?_ rfl rfl
        refine ev_op (x := .int (q * q)) (y := .int (69621 * (j : Int))) (s1 := st) (s2 := st) ?_ ?_ rfl
        · exact ev_op (x := .int q) (y := .int q) (s1 := st) rfl rfl (fMulA_ints (a := 70) (b := 70) (by omega) (by omega) (by decide) (by decide) (by decide))
        · exact ev_op (x := .int 69621) (y := .int j) (s1 := st) rfl rfl (fMulA_ints (a := 70) (b := 70) (by decide) (by omega) (by decide) (by decide) (by decide))
      · refine ev_op (x := .int (n * 2147483587)) (y := .int r) (s1 := st) (s2 := st) ?_ rfl rfl
        exact ev_op (x := .int n) (y := .int 2147483587) (s1 := st) rfl rfl (fMulA_ints (a := 1984) (b := 70) (pow_small h0 h1 (by omega)) (by decide) (by decide) (by decide) (by decide))
  · rw [Int.pow_succ]
    generalize (2147483587 : Int) ^ k = w at h1
    omega
theorem pot_d {c : Int} {st : Store} : ∃ p, f__law_pot [.int c] st = .ok (.box st.length) (st ++ [.lst [.int p]]) := by
  have t : asB (dOp2 fGe (dVar 0) (dPow (dC (.int 10)) (dC (.int 18)))) [some (.int c), none, none, none] st = .ok (decide (10 ^ 18 ≤ c)) st := ev_asB (ev_op (x := .int c) (y := .int (10 ^ 18)) (s1 := st) rfl ten18 rfl)
  cases hb : decide ((10 : Int) ^ 18 ≤ c) with
  | true =>
    rw [hb] at t
    refine ⟨c - 10 ^ 18, run (N := 4) (n := 1) (m := m__law_pot) (r := .ret (.box st.length) (st ++ [.lst [.int (c - 10 ^ 18)]])) rfl ?_ rfl⟩
    exact ex_seqR ((ex_if t).trans (ex_ret (ev_new (s1 := st) (ev_cons (s1 := st) (ev_op (x := .int c) (y := .int (10 ^ 18)) (s1 := st) rfl ten18 rfl) rfl) (by simp))))
  | false =>
    rw [hb] at t
    obtain ⟨ρ', st', e, n, x2, x3, q1, q2⟩ : ∃ ρ' st', forL (g1 2) potB (rangeD 0 64) [some (.int c), some (.int 0), none, none] st = .nx ρ' st' ∧ ∃ n x2 x3, ρ' = [some (.int c), some (.int n), x2, x3] ∧ st' = st := by
      obtain ⟨ρ', st', e, n, x2, x3, h1, h2, _⟩ := forL_upto (g := g1 2) (b := potB) (pre := []) (ds := rangeD 0 64) (ρ := [some (.int c), some (.int 0), none, none]) (st := st)
        (I := fun pre r ρ s => ∃ n x2 x3, ρ = [some (.int c), some (.int n), x2, x3] ∧ s = st ∧ 0 ≤ n ∧ n < (2147483587 : Int) ^ pre.length ∧ pre.length + r.length = 64 ∧ ∀ d ∈ r, ∃ j : Nat, j < 64 ∧ d = .int j)
        (fun pre d r ρ s h => by
          obtain ⟨n, x2, x3, rfl, rfl, h0, h1, h2, h3⟩ := h
          obtain ⟨j, hj, rfl⟩ := h3 d List.mem_cons_self
          rw [List.length_cons] at h2
          obtain ⟨n', x', e, k0, k1⟩ := potB_ok (c := c) (x := x3) (st := s) hj (show pre.length < 64 by omega) h0 h1
          refine ⟨_, rfl, _, _, e, n', _, _, rfl, rfl, k0, ?_, ?_, fun d hd => h3 d (List.mem_cons_of_mem _ hd)⟩
          · rw [List.length_append, List.length_singleton]; exact k1
          · rw [List.length_append, List.length_singleton]; omega)
        ⟨0, none, none, rfl, rfl, by decide, by decide, by rw [range_len]; rfl, fun d hd => by
          obtain ⟨i, hi, rfl⟩ := mem_range hd
          exact ⟨i, hi, by rw [Int.zero_add]⟩⟩
      exact ⟨ρ', st', e, n, x2, x3, h1, h2⟩
    rw [q1, q2] at e
    refine ⟨n, Den.run (N := 4) (n := 1) (m := m__law_pot) (r := .ret (.box st.length) (st ++ [.lst [.int n]])) rfl ?_ rfl⟩
    refine ex_seq (s1 := st) ((ex_if t).trans rfl) (ex_seq (ρ1 := [some (.int c), some (.int 0), none, none]) (s1 := st) rfl (ex_seq (s1 := st) (ex_forR1 (j := 64) (s1 := st) rfl (by decide) e) ?_))
    exact ex_ret (ev_new (s1 := st) (ev_cons (s1 := st) rfl rfl) (by simp))
/-- range(max(1, min(len(script), m))) -/
def cellsE (m : Int) : DA := dCons (dCB (two fun i j => if j > i then j else i) (dCons (dC (.int 1)) (dCons (dCB (two fun i j => if j < i then j else i) (dCons (dCB (one gLen) (dCons (dVar 0) dNil)) (dCons (dC (.int m)) dNil))) dNil))) dNil
theorem cells_d {ns : List Int} {m : Int} {rest : Rho} {st : Store} (h0 : 0 ≤ m) (h1 : m ≤ 1000) : ∃ n : Int, cellsE m (some (.ro (ns.map D.int)) :: rest) st = .ok [.int n] st ∧ big62 n := by
  have el : dCB (one gLen) (dCons (dVar 0) dNil) (some (.ro (ns.map D.int)) :: rest) st = .ok (.int ns.length) st := by
    refine ev_cb1 (x := .ro (ns.map D.int)) (s1 := st) rfl ?_
    unfold gLen itemsOf
    simp
  refine ⟨_, ev_cons (s1 := st) (x := .int (if (if m < (ns.length : Int) then m else (ns.length : Int)) > 1 then (if m < (ns.length : Int) then m else (ns.length : Int)) else 1)) ?_ rfl, ?_⟩
  · unfold dCB
    rw [ev_cons (x := .int 1) (s1 := st) (xs := [.int (if m < (ns.length : Int) then m else (ns.length : Int))]) (s2 := st) rfl (ev_cons (s1 := st) ?_ rfl), bind_ok]
    · rfl
    · have e2 : (dCons (dCB (one gLen) (dCons (dVar 0) dNil)) (dCons (dC (.int m)) dNil) : DA) (some (.ro (ns.map D.int)) :: rest) st = .ok [.int ns.length, .int m] st := ev_cons (s1 := st) el rfl
      exact (congrArg (fun r : Res (List D) => r.bind fun ds s1 => ofO (two (fun i j => if j < i then j else i) ds s1)) e2).trans rfl
  · unfold big62
    split <;> split <;> omega
end Com

set_option maxRecDepth 100000
set_option maxHeartbeats 1000000
namespace K32
open PySem PySem.Spec PyProof.Rows L2 Den
abbrev P : Program := PySem.Challenge.pw_dimcellar_k32_crowded_stretches
def top (i : Nat) : Stmt := P.main.body.getD i (.Pass ⟨0, 0, 0, 0⟩)
def clsAt (s : Stmt) (j : Nat) : Stmt := match s with
  | .ClassDef _ _ _ b .. => b.getD j (.Pass ⟨0, 0, 0, 0⟩)
  | _ => .Pass ⟨0, 0, 0, 0⟩

def tys : List String := ["NoneType", "bool", "int", "str", "list", "tuple", "dict"]
def tyTab : List (Tag × Tag × Bool) := tys.flatMap fun a => ["int", "bool", "tuple", "dict"].map fun b => (Tag.ty a, Tag.ty b, a == b || (a == "bool" && b == "int"))
def isT : Tag → Tag → Option Bool := isTab tyTab
structure Facts (T : Txt) (mg : Str → Option Value) : Prop where
  isT : IsT T isT
  own : ∀ c ∈ ([] : List Nat), ClsI T c
  g_MOST_NUMBER : ∃ (v : V) (u : Value), GlD T v (.int 39) ∧ RelV v u ∧ mg "MOST_NUMBER" = some u
  g_MONTHS : ∃ (v : V) (u : Value), GlD T v (.int 1000) ∧ RelV v u ∧ mg "MONTHS" = some u
  g_MOST_SPANS : ∃ (v : V) (u : Value), GlD T v (.int 12) ∧ RelV v u ∧ mg "MOST_SPANS" = some u
  b_int : mg "int" = none
  b_bool : mg "bool" = none
  b_tuple : mg "tuple" = none
  b_dict : mg "dict" = none
  b_list : mg "list" = none
  b_isinstance : mg "isinstance" = none
  b_max : mg "max" = none
  b_min : mg "min" = none
  b_len : mg "len" = none
  b_range : mg "range" = none
  b_all : mg "all" = none
  b_repr : mg "repr" = none
  b_sorted : mg "sorted" = none
  b_set : mg "set" = none

abbrev st_is_whole : Stmt := top 2
theorem sc_is_whole : FnScope ["thing"] ["thing"] (defScope st_is_whole) := ⟨rfl, rfl, rfl, by decide +kernel, rfl, by decide +kernel, by decide +kernel⟩
def m_is_whole : DS :=
    (sRet (dAnd (dCB (bIsi [] isT) (dCons (dVar 0) (dCons (dC (.ty "int")) dNil))) (dNot (dCB (bIsi [] isT) (dCons (dVar 0) (dCons (dC (.ty "bool")) dNil))))))
def f_is_whole : DF := body 1 1 m_is_whole
theorem ok_is_whole {w : World} {T : Txt} {mg : Str → Option Value} {base : Heap} (Z : Facts T mg) (l : Lk T 0 "is_whole" "is_whole" st_is_whole) (hg : mg "is_whole" = some (.ref (T.fa 0))) : Def P w T mg base 1 0 "is_whole" ["thing"] f_is_whole := by
  refine defD_of (m := m_is_whole) (k := 0) (N := ["thing"]) (ps := ["thing"]) (st := st_is_whole) l hg sc_is_whole (fun _ _ _ _ _ _ us hl => match us, hl with | [_], _ => rfl) fun cdv A outer s H E xp ft po => ?_
  exact (pds_one (pds_ret (pd_and (pd_blt (blt_isi Z.own Z.isT) (by rfl) Z.b_isinstance rfl (pda_cons (pd_var (i := 0) rfl (by first | exact Or.inl rfl | exact Or.inr (Or.inl rfl) | exact Or.inr (Or.inr rfl))) (pda_cons (pd_bt (n := "int") rfl Z.b_int (by rfl)) pda_nil))) (pd_last (pd_not (pd_blt (blt_isi Z.own Z.isT) (by rfl) Z.b_isinstance rfl (pda_cons (pd_var (i := 0) rfl (by first | exact Or.inl rfl | exact Or.inr (Or.inl rfl) | exact Or.inr (Or.inr rfl))) (pda_cons (pd_bt (n := "bool") rfl Z.b_bool (by rfl)) pda_nil))))))))
abbrev st_is_within : Stmt := top 3
theorem sc_is_within : FnScope ["thing", "least", "most"] ["thing", "least", "most"] (defScope st_is_within) := ⟨rfl, rfl, rfl, by decide +kernel, rfl, by decide +kernel, by decide +kernel⟩
def m_is_within : DS :=
    (sRet (dAnd (dCallA 1 f_is_whole (dCons (dVar 0) dNil)) (dChain fLe fLe (dVar 1) (dVar 0) (dVar 2))))
def f_is_within : DF := body 3 3 m_is_within
theorem ok_is_within {w : World} {T : Txt} {mg : Str → Option Value} {base : Heap} (Z : Facts T mg) (D_is_whole : Def P w T mg base 1 0 "is_whole" ["thing"] f_is_whole) (l : Lk T 1 "is_within" "is_within" st_is_within) (hg : mg "is_within" = some (.ref (T.fa 1))) : Def P w T mg base 2 1 "is_within" ["thing", "least", "most"] f_is_within := by
  refine defD_of (m := m_is_within) (k := 1) (N := ["thing", "least", "most"]) (ps := ["thing", "least", "most"]) (st := st_is_within) l hg sc_is_within (fun _ _ _ _ _ _ us hl => match us, hl with | [_, _, _], _ => rfl) fun cdv A outer s H E xp ft po => ?_
  exact (pds_one (pds_ret (pd_and (pd_callA D_is_whole (ft.mono (by decide)) (by rfl) (pda_cons (pd_var (i := 0) rfl (by first | exact Or.inl rfl | exact Or.inr (Or.inl rfl) | exact Or.inr (Or.inr rfl))) pda_nil)) (pd_last (pd_chain cmp_le cmp_le (pd_var (i := 1) rfl (by first | exact Or.inl rfl | exact Or.inr (Or.inl rfl) | exact Or.inr (Or.inr rfl))) (pd_var (i := 0) rfl (by first | exact Or.inl rfl | exact Or.inr (Or.inl rfl) | exact Or.inr (Or.inr rfl))) (pd_var (i := 2) rfl (by first | exact Or.inl rfl | exact Or.inr (Or.inl rfl) | exact Or.inr (Or.inr rfl))))))))
abbrev st_is_month : Stmt := top 4
theorem sc_is_month : FnScope ["thing"] ["thing"] (defScope st_is_month) := ⟨rfl, rfl, rfl, by decide +kernel, rfl, by decide +kernel, by decide +kernel⟩
def m_is_month : DS :=
    (sRet (dCallA 3 f_is_within (dCons (dVar 0) (dCons (dC (.int 0)) (dCons (dSub (dC (.int 1000)) (dC (.int 1))) dNil)))))
def f_is_month : DF := body 1 1 m_is_month
theorem ok_is_month {w : World} {T : Txt} {mg : Str → Option Value} {base : Heap} (Z : Facts T mg) (D_is_within : Def P w T mg base 2 1 "is_within" ["thing", "least", "most"] f_is_within) (l : Lk T 2 "is_month" "is_month" st_is_month) (hg : mg "is_month" = some (.ref (T.fa 2))) : Def P w T mg base 3 2 "is_month" ["thing"] f_is_month := by
  refine defD_of (m := m_is_month) (k := 2) (N := ["thing"]) (ps := ["thing"]) (st := st_is_month) l hg sc_is_month (fun _ _ _ _ _ _ us hl => match us, hl with | [_], _ => rfl) fun cdv A outer s H E xp ft po => ?_
  exact (pds_one (pds_ret (pd_callA D_is_within (ft.mono (by decide)) (by rfl) (pda_cons (pd_var (i := 0) rfl (by first | exact Or.inl rfl | exact Or.inr (Or.inl rfl) | exact Or.inr (Or.inr rfl))) (pda_cons pd_int (pda_cons (pd_sub (pd_glE Z.g_MONTHS (by rfl)) pd_int) pda_nil))))))
abbrev st__is_number : Stmt := top 16
theorem sc__is_number : FnScope ["thing"] ["thing"] (defScope st__is_number) := ⟨rfl, rfl, rfl, by decide +kernel, rfl, by decide +kernel, by decide +kernel⟩
def m__is_number : DS :=
    (sRet (dCallA 3 f_is_within (dCons (dVar 0) (dCons (dC (.int 0)) (dCons (dC (.int 39)) dNil)))))
def f__is_number : DF := body 1 1 m__is_number
theorem ok__is_number {w : World} {T : Txt} {mg : Str → Option Value} {base : Heap} (Z : Facts T mg) (D_is_within : Def P w T mg base 2 1 "is_within" ["thing", "least", "most"] f_is_within) (l : Lk T 3 "_is_number" "_is_number" st__is_number) (hg : mg "_is_number" = some (.ref (T.fa 3))) : Def P w T mg base 3 3 "_is_number" ["thing"] f__is_number := by
  refine defD_of (m := m__is_number) (k := 2) (N := ["thing"]) (ps := ["thing"]) (st := st__is_number) l hg sc__is_number (fun _ _ _ _ _ _ us hl => match us, hl with | [_], _ => rfl) fun cdv A outer s H E xp ft po => ?_
  exact (pds_one (pds_ret (pd_callA D_is_within (ft.mono (by decide)) (by rfl) (pda_cons (pd_var (i := 0) rfl (by first | exact Or.inl rfl | exact Or.inr (Or.inl rfl) | exact Or.inr (Or.inr rfl))) (pda_cons pd_int (pda_cons (pd_glE Z.g_MOST_NUMBER (by rfl)) pda_nil))))))
abbrev st__is_span : Stmt := top 17
theorem sc__is_span : FnScope ["thing", "first", "last"] ["thing"] (defScope st__is_span) := ⟨rfl, rfl, rfl, by decide +kernel, rfl, by decide +kernel, by decide +kernel⟩
def m__is_span : DS :=
    (sSeq (sIf (tOrD (tNotD (dTruth (dCB (bIsi [] isT) (dCons (dVar 0) (dCons (dC (.ty "tuple")) dNil))))) (asB (dOp2 fNe (dCB (orB (one gLen) (one gLenK)) (dCons (dVar 0) dNil)) (dC (.int 2))))) (sRet (dC (.bl false))) sNext)
    (sSeq (sAsg (gT [1, 2]) (dVar 0))
    (sRet (dAnd (dCallA 1 f_is_month (dCons (dVar 1) dNil)) (dAnd (dCallA 1 f_is_month (dCons (dVar 2) dNil)) (dOp2 fLe (dVar 1) (dVar 2)))))))
def f__is_span : DF := body 3 1 m__is_span
theorem ok__is_span {w : World} {T : Txt} {mg : Str → Option Value} {base : Heap} (Z : Facts T mg) (D_is_month : Def P w T mg base 3 2 "is_month" ["thing"] f_is_month) (l : Lk T 4 "_is_span" "_is_span" st__is_span) (hg : mg "_is_span" = some (.ref (T.fa 4))) : Def P w T mg base 4 4 "_is_span" ["thing"] f__is_span := by
  refine defD_of (m := m__is_span) (k := 3) (N := ["thing", "first", "last"]) (ps := ["thing"]) (st := st__is_span) l hg sc__is_span (fun _ _ _ _ _ _ us hl => match us, hl with | [_], _ => rfl) fun cdv A outer s H E xp ft po => ?_
  exact (pds_cons (pds_if (pdt_w (pdw_or (pdt_not (pdt_truth (pd_blt (blt_isi Z.own Z.isT) (by rfl) Z.b_isinstance rfl (pda_cons (pd_var (i := 0) rfl (by first | exact Or.inl rfl | exact Or.inr (Or.inl rfl) | exact Or.inr (Or.inr rfl))) (pda_cons (pd_bt (n := "tuple") rfl Z.b_tuple (by rfl)) pda_nil))))) (pdw_or1 (pdt_cmp (cmp_ne ft.u) (pd_blt blt_lenA (by rfl) Z.b_len rfl (pda_cons (pd_var (i := 0) rfl (by first | exact Or.inl rfl | exact Or.inr (Or.inl rfl) | exact Or.inr (Or.inr rfl))) pda_nil)) pd_int (by rfl))))) (pds_one (pds_ret pd_bl)) pds_nil)
    (pds_cons (pds_asg (pg_tup rfl (pgs_cons (pg_name (i := 1) sc__is_span.nd rfl (by first | exact Or.inl rfl | exact Or.inr rfl)) (pgs_cons (pg_name (i := 2) sc__is_span.nd rfl (by first | exact Or.inl rfl | exact Or.inr rfl)) pgs_nil))) (tg_tup rfl [1, 2] rfl) (pd_var (i := 0) rfl (by first | exact Or.inl rfl | exact Or.inr (Or.inl rfl) | exact Or.inr (Or.inr rfl))))
    (pds_one (pds_ret (pd_and (pd_callA D_is_month (ft.mono (by decide)) (by rfl) (pda_cons (pd_var (i := 1) rfl (by first | exact Or.inl rfl | exact Or.inr (Or.inl rfl) | exact Or.inr (Or.inr rfl))) pda_nil)) (pd_and (pd_callA D_is_month (ft.mono (by decide)) (by rfl) (pda_cons (pd_var (i := 2) rfl (by first | exact Or.inl rfl | exact Or.inr (Or.inl rfl) | exact Or.inr (Or.inr rfl))) pda_nil)) (pd_last (pd_cmpD cmp_le (pd_var (i := 1) rfl (by first | exact Or.inl rfl | exact Or.inr (Or.inl rfl) | exact Or.inr (Or.inr rfl))) (pd_var (i := 2) rfl (by first | exact Or.inl rfl | exact Or.inr (Or.inl rfl) | exact Or.inr (Or.inr rfl))) (by rfl)))))))))
abbrev st__are_spans : Stmt := top 15
theorem sc__are_spans : FnScope ["thing", "number"] ["thing"] (defScope st__are_spans) := ⟨rfl, rfl, rfl, by decide +kernel, rfl, by decide +kernel, by decide +kernel⟩
def m__are_spans : DS :=
    (sSeq (sIf (tOrD (tNotD (dTruth (dCB (bIsi [] isT) (dCons (dVar 0) (dCons (dC (.ty "dict")) dNil))))) (asB (dOp2 fGt (dCB (orB (one gLen) (one gLenK)) (dCons (dVar 0) dNil)) (dC (.int 12))))) (sRet (dC (.bl false))) sNext)
    (sRet (dCB (one gAll) (dCons (dLc (iKeysD (dVar 0)) (g1 1) tYesD (dAnd (dCallA 1 f__is_number (dCons (dVar 1) dNil)) (dCallA 1 f__is_span (dCons (dIxK (dVar 0) (dVar 1)) dNil))) [1]) dNil))))
def f__are_spans : DF := body 2 1 m__are_spans
theorem ok__are_spans {w : World} {T : Txt} {mg : Str → Option Value} {base : Heap} (Z : Facts T mg) (D__is_number : Def P w T mg base 3 3 "_is_number" ["thing"] f__is_number) (D__is_span : Def P w T mg base 4 4 "_is_span" ["thing"] f__is_span) (l : Lk T 5 "_are_spans" "_are_spans" st__are_spans) (hg : mg "_are_spans" = some (.ref (T.fa 5))) : Def P w T mg base 5 5 "_are_spans" ["thing"] f__are_spans := by
  refine defD_of (m := m__are_spans) (k := 4) (N := ["thing", "number"]) (ps := ["thing"]) (st := st__are_spans) l hg sc__are_spans (fun _ _ _ _ _ _ us hl => match us, hl with | [_], _ => rfl) fun cdv A outer s H E xp ft po => ?_
  exact (pds_cons (pds_if (pdt_w (pdw_or (pdt_not (pdt_truth (pd_blt (blt_isi Z.own Z.isT) (by rfl) Z.b_isinstance rfl (pda_cons (pd_var (i := 0) rfl (by first | exact Or.inl rfl | exact Or.inr (Or.inl rfl) | exact Or.inr (Or.inr rfl))) (pda_cons (pd_bt (n := "dict") rfl Z.b_dict (by rfl)) pda_nil))))) (pdw_or1 (pdt_cmp cmp_gt (pd_blt blt_lenA (by rfl) Z.b_len rfl (pda_cons (pd_var (i := 0) rfl (by first | exact Or.inl rfl | exact Or.inr (Or.inl rfl) | exact Or.inr (Or.inr rfl))) pda_nil)) (pd_glE Z.g_MOST_SPANS (by rfl)) (by rfl))))) (pds_one (pds_ret pd_bl)) pds_nil)
    (pds_one (pds_ret (pd_blt (blt_all rfl) (by rfl) Z.b_all rfl (pda_cons (pd_lc (own := [("number", 1)]) rfl sc__are_spans.nd (pdi_keys (pd_var (i := 0) rfl (by first | exact Or.inl rfl | exact Or.inr (Or.inl rfl) | exact Or.inr (Or.inr rfl)))) (blkOk_by rfl) (fun _ _ _ _ _ => pg_name (i := 1) sc__are_spans.nd rfl (by first | exact Or.inl rfl | exact Or.inr rfl)) (tg_one 1) (by decide) (fun _ _ _ _ _ => pdts_nil) (fun _ _ _ _ _ => (pd_and (pd_callA D__is_number ((ft.blk _ _ _ _ _ _).mono (by decide)) (by rfl) (pda_cons (pd_var (i := 1) rfl (by first | exact Or.inl rfl | exact Or.inr (Or.inl rfl) | exact Or.inr (Or.inr rfl))) pda_nil)) (pd_last (pd_callA D__is_span ((ft.blk _ _ _ _ _ _).mono (by decide)) (by rfl) (pda_cons (pd_ixK (ft.blk _ _ _ _ _ _).u (pd_var (i := 0) rfl (by first | exact Or.inl rfl | exact Or.inr (Or.inl rfl) | exact Or.inr (Or.inr rfl))) (pd_var (i := 1) rfl (by first | exact Or.inl rfl | exact Or.inr (Or.inl rfl) | exact Or.inr (Or.inr rfl)))) pda_nil)))))) pda_nil)))))
abbrev st__check_spans_and_rate : Stmt := top 14
theorem sc__check_spans_and_rate : FnScope ["spans", "rate"] ["spans", "rate"] (defScope st__check_spans_and_rate) := ⟨rfl, rfl, rfl, by decide +kernel, rfl, by decide +kernel, by decide +kernel⟩
def m__check_spans_and_rate : DS :=
    (sSeq (sIf (tNotD (dTruth (dCallA 1 f__are_spans (dCons (dVar 0) dNil)))) sBad sNext)
    (sIf (tNotD (dTruth (dCallA 3 f_is_within (dCons (dVar 1) (dCons (dC (.int 1)) (dCons (dC (.int 4)) dNil)))))) sBad sNext))
def f__check_spans_and_rate : DF := body 2 2 m__check_spans_and_rate
theorem ok__check_spans_and_rate {w : World} {T : Txt} {mg : Str → Option Value} {base : Heap} (Z : Facts T mg) (D__are_spans : Def P w T mg base 5 5 "_are_spans" ["thing"] f__are_spans) (D_is_within : Def P w T mg base 2 1 "is_within" ["thing", "least", "most"] f_is_within) (l : Lk T 6 "_check_spans_and_rate" "_check_spans_and_rate" st__check_spans_and_rate) (hg : mg "_check_spans_and_rate" = some (.ref (T.fa 6))) : Def P w T mg base 6 6 "_check_spans_and_rate" ["spans", "rate"] f__check_spans_and_rate := by
  refine defD_of (m := m__check_spans_and_rate) (k := 5) (N := ["spans", "rate"]) (ps := ["spans", "rate"]) (st := st__check_spans_and_rate) l hg sc__check_spans_and_rate (fun _ _ _ _ _ _ us hl => match us, hl with | [_, _], _ => rfl) fun cdv A outer s H E xp ft po => ?_
  exact (pds_cons (pds_if (pdt_not (pdt_truth (pd_callA D__are_spans (ft.mono (by decide)) (by rfl) (pda_cons (pd_var (i := 0) rfl (by first | exact Or.inl rfl | exact Or.inr (Or.inl rfl) | exact Or.inr (Or.inr rfl))) pda_nil)))) (pds_one pds_bad) pds_nil)
    (pds_one (pds_if (pdt_not (pdt_truth (pd_callA D_is_within (ft.mono (by decide)) (by rfl) (pda_cons (pd_var (i := 1) rfl (by first | exact Or.inl rfl | exact Or.inr (Or.inl rfl) | exact Or.inr (Or.inr rfl))) (pda_cons pd_int (pda_cons pd_int pda_nil)))))) (pds_one pds_bad) pds_nil)))
abbrev st__how_many_within : Stmt := top 20
theorem sc__how_many_within : FnScope ["spans", "stretch", "span"] ["spans", "stretch"] (defScope st__how_many_within) := ⟨rfl, rfl, rfl, by decide +kernel, rfl, by decide +kernel, by decide +kernel⟩
def m__how_many_within : DS :=
    (sRet (dCB (orB (one gLen) (one gLenK)) (dCons (dLc (iValsD (dVar 0)) (g1 2) (tAndD (asB (dOp2 fLe (dIx (dVar 1) (dC (.int 0))) (dIx (dVar 2) (dC (.int 0))))) (asB (dOp2 fLe (dIx (dVar 2) (dC (.int 1))) (dIx (dVar 1) (dC (.int 1)))))) (dVar 2) [2]) dNil)))
def f__how_many_within : DF := body 3 2 m__how_many_within
theorem ok__how_many_within {w : World} {T : Txt} {mg : Str → Option Value} {base : Heap} (Z : Facts T mg) (l : Lk T 7 "_how_many_within" "_how_many_within" st__how_many_within) (hg : mg "_how_many_within" = some (.ref (T.fa 7))) : Def P w T mg base 1 7 "_how_many_within" ["spans", "stretch"] f__how_many_within := by
  refine defD_of (m := m__how_many_within) (k := 0) (N := ["spans", "stretch", "span"]) (ps := ["spans", "stretch"]) (st := st__how_many_within) l hg sc__how_many_within (fun _ _ _ _ _ _ us hl => match us, hl with | [_, _], _ => rfl) fun cdv A outer s H E xp ft po => ?_
  exact (pds_one (pds_ret (pd_blt blt_lenA (by rfl) Z.b_len rfl (pda_cons (pd_lc (own := [("span", 2)]) rfl sc__how_many_within.nd (pdi_values (pd_var (i := 0) rfl (by first | exact Or.inl rfl | exact Or.inr (Or.inl rfl) | exact Or.inr (Or.inr rfl)))) (blkOk_by rfl) (fun _ _ _ _ _ => pg_name (i := 2) sc__how_many_within.nd rfl (by first | exact Or.inl rfl | exact Or.inr rfl)) (tg_one 2) (by decide) (fun _ _ _ _ _ => (pdts_one (pdt_w (pdw_and (pdt_cmp cmp_le (pd_ix (pd_var (i := 1) rfl (by first | exact Or.inl rfl | exact Or.inr (Or.inl rfl) | exact Or.inr (Or.inr rfl))) pd_int) (pd_ix (pd_var (i := 2) rfl (by first | exact Or.inl rfl | exact Or.inr (Or.inl rfl) | exact Or.inr (Or.inr rfl))) pd_int) (by rfl)) (pdw_and1 (pdt_cmp cmp_le (pd_ix (pd_var (i := 2) rfl (by first | exact Or.inl rfl | exact Or.inr (Or.inl rfl) | exact Or.inr (Or.inr rfl))) pd_int) (pd_ix (pd_var (i := 1) rfl (by first | exact Or.inl rfl | exact Or.inr (Or.inl rfl) | exact Or.inr (Or.inr rfl))) pd_int) (by rfl))))))) (fun _ _ _ _ _ => (pd_var (i := 2) rfl (by first | exact Or.inl rfl | exact Or.inr (Or.inl rfl) | exact Or.inr (Or.inr rfl))))) pda_nil))))
abbrev st__is_overfull : Stmt := top 19
theorem sc__is_overfull : FnScope ["spans", "stretch", "rate", "first", "last"] ["spans", "stretch", "rate"] (defScope st__is_overfull) := ⟨rfl, rfl, rfl, by decide +kernel, rfl, by decide +kernel, by decide +kernel⟩
def m__is_overfull : DS :=
    (sSeq (sAsg (gT [3, 4]) (dVar 1))
    (sRet (dOp2 fGt (dCallA 2 f__how_many_within (dCons (dVar 0) (dCons (dVar 1) dNil))) (dMulA (dVar 2) (dAdd (dSub (dVar 4) (dVar 3)) (dC (.int 1)))))))
def f__is_overfull : DF := body 5 3 m__is_overfull
theorem ok__is_overfull {w : World} {T : Txt} {mg : Str → Option Value} {base : Heap} (Z : Facts T mg) (D__how_many_within : Def P w T mg base 1 7 "_how_many_within" ["spans", "stretch"] f__how_many_within) (l : Lk T 8 "_is_overfull" "_is_overfull" st__is_overfull) (hg : mg "_is_overfull" = some (.ref (T.fa 8))) : Def P w T mg base 2 8 "_is_overfull" ["spans", "stretch", "rate"] f__is_overfull := by
  refine defD_of (m := m__is_overfull) (k := 1) (N := ["spans", "stretch", "rate", "first", "last"]) (ps := ["spans", "stretch", "rate"]) (st := st__is_overfull) l hg sc__is_overfull (fun _ _ _ _ _ _ us hl => match us, hl with | [_, _, _], _ => rfl) fun cdv A outer s H E xp ft po => ?_
  exact (pds_cons (pds_asg (pg_tup rfl (pgs_cons (pg_name (i := 3) sc__is_overfull.nd rfl (by first | exact Or.inl rfl | exact Or.inr rfl)) (pgs_cons (pg_name (i := 4) sc__is_overfull.nd rfl (by first | exact Or.inl rfl | exact Or.inr rfl)) pgs_nil))) (tg_tup rfl [3, 4] rfl) (pd_var (i := 1) rfl (by first | exact Or.inl rfl | exact Or.inr (Or.inl rfl) | exact Or.inr (Or.inr rfl))))
    (pds_one (pds_ret (pd_cmpD cmp_gt (pd_callA D__how_many_within (ft.mono (by decide)) (by rfl) (pda_cons (pd_var (i := 0) rfl (by first | exact Or.inl rfl | exact Or.inr (Or.inl rfl) | exact Or.inr (Or.inr rfl))) (pda_cons (pd_var (i := 1) rfl (by first | exact Or.inl rfl | exact Or.inr (Or.inl rfl) | exact Or.inr (Or.inr rfl))) pda_nil))) (pd_mulA (pd_var (i := 2) rfl (by first | exact Or.inl rfl | exact Or.inr (Or.inl rfl) | exact Or.inr (Or.inr rfl))) (pd_add (pd_sub (pd_var (i := 4) rfl (by first | exact Or.inl rfl | exact Or.inr (Or.inl rfl) | exact Or.inr (Or.inr rfl))) (pd_var (i := 3) rfl (by first | exact Or.inl rfl | exact Or.inr (Or.inl rfl) | exact Or.inr (Or.inr rfl)))) pd_int)) (by rfl)))))
abbrev st__least_crowd : Stmt := top 18
theorem sc__least_crowd : FnScope ["spans", "rate", "longest", "stretches", "overfull", "first", "last", "_", "months", "stretch"] ["spans", "rate"] (defScope st__least_crowd) := ⟨rfl, rfl, rfl, by decide +kernel, rfl, by decide +kernel, by decide +kernel⟩
def m__least_crowd : DS :=
    (sSeq (sSet 2 (dDiv (dSub (dCB (orB (one gLen) (one gLenK)) (dCons (dVar 0) dNil)) (dC (.int 1))) (dVar 1)))
    (sSeq (sSet 3 (dLc2 (iValsD (dVar 0)) (gT [7, 6]) tYesD (iR2 (dCons (dC (.int 1)) (dCons (dAdd (dVar 2) (dC (.int 1))) dNil))) (g1 8) (asB (dOp2 fLe (dVar 8) (dAdd (dVar 6) (dC (.int 1))))) (dTup (dCons (dAdd (dSub (dVar 6) (dVar 8)) (dC (.int 1))) (dCons (dVar 6) dNil))) [7, 6, 8] [8]))
    (sSeq (sSet 4 (dLcL (dVar 3) (g1 9) (dTruth (dCallA 3 f__is_overfull (dCons (dVar 0) (dCons (dVar 9) (dCons (dVar 1) dNil))))) (dVar 9) [9]))
    (sSeq (sIf (asB (dOp2 fEq (dCB (orB (one gLen) (one gLenK)) (dCons (dVar 4) dNil)) (dC (.int 0)))) (sRet (dC .non)) sNext)
    (sSeq (sAsg (gT [5, 6]) (dCB (orB (two fun i j => if j < i then j else i) (one (gBest PySem.W.minD))) (dCons (dVar 4) dNil)))
    (sRet (dTup (dCons (dVar 5) (dCons (dVar 6) (dCons (dCallA 2 f__how_many_within (dCons (dVar 0) (dCons (dTup (dCons (dVar 5) (dCons (dVar 6) dNil))) dNil))) dNil))))))))))
def f__least_crowd : DF := body 10 2 m__least_crowd
theorem ok__least_crowd {w : World} {T : Txt} {mg : Str → Option Value} {base : Heap} (Z : Facts T mg) (D__how_many_within : Def P w T mg base 1 7 "_how_many_within" ["spans", "stretch"] f__how_many_within) (D__is_overfull : Def P w T mg base 2 8 "_is_overfull" ["spans", "stretch", "rate"] f__is_overfull) (l : Lk T 9 "_least_crowd" "_least_crowd" st__least_crowd) (hg : mg "_least_crowd" = some (.ref (T.fa 9))) : Def P w T mg base 3 9 "_least_crowd" ["spans", "rate"] f__least_crowd := by
  refine defD_of (m := m__least_crowd) (k := 2) (N := ["spans", "rate", "longest", "stretches", "overfull", "first", "last", "_", "months", "stretch"]) (ps := ["spans", "rate"]) (st := st__least_crowd) l hg sc__least_crowd (fun _ _ _ _ _ _ us hl => match us, hl with | [_, _], _ => rfl) fun cdv A outer s H E xp ft po => ?_
  exact (pds_cons (pds_set (i := 2) sc__least_crowd.nd rfl (by first | exact Or.inl rfl | exact Or.inr rfl) (pd_div (pd_sub (pd_blt blt_lenA (by rfl) Z.b_len rfl (pda_cons (pd_var (i := 0) rfl (by first | exact Or.inl rfl | exact Or.inr (Or.inl rfl) | exact Or.inr (Or.inr rfl))) pda_nil)) pd_int) (pd_var (i := 1) rfl (by first | exact Or.inl rfl | exact Or.inr (Or.inl rfl) | exact Or.inr (Or.inr rfl)))))
    (pds_cons (pds_setLc2 (i := 3) (own := [("_", 7), ("last", 6), ("months", 8)]) (vs1 := [8]) rfl sc__least_crowd.nd rfl rfl (pdi_values (pd_var (i := 0) rfl (by first | exact Or.inl rfl | exact Or.inr (Or.inl rfl) | exact Or.inr (Or.inr rfl)))) (blkOk_by rfl) (by decide) (fun _ _ _ _ _ => pg_tup rfl (pgs_cons (pg_name (i := 7) sc__least_crowd.nd rfl (by first | exact Or.inl rfl | exact Or.inr rfl)) (pgs_cons (pg_name (i := 6) sc__least_crowd.nd rfl (by first | exact Or.inl rfl | exact Or.inr rfl)) pgs_nil))) (tg_tup rfl [7, 6] rfl) (by decide) (fun _ _ _ _ _ => pdts_nil) (fun _ _ _ _ _ => (pdi_R2 (by rfl) Z.b_range (pda_cons pd_int (pda_cons (pd_add (pd_var (i := 2) rfl (by first | exact Or.inl rfl | exact Or.inr (Or.inl rfl) | exact Or.inr (Or.inr rfl))) pd_int) pda_nil)))) (fun _ _ _ _ _ => pg_name (i := 8) sc__least_crowd.nd rfl (by first | exact Or.inl rfl | exact Or.inr rfl)) (tg_one 8) (by decide) (fun _ _ _ _ _ => (pdts_one (pdt_cmp cmp_le (pd_var (i := 8) rfl (by first | exact Or.inl rfl | exact Or.inr (Or.inl rfl) | exact Or.inr (Or.inr rfl))) (pd_add (pd_var (i := 6) rfl (by first | exact Or.inl rfl | exact Or.inr (Or.inl rfl) | exact Or.inr (Or.inr rfl))) pd_int) (by rfl)))) (fun _ _ _ _ _ => (pd_tup (pda_cons (pd_add (pd_sub (pd_var (i := 6) rfl (by first | exact Or.inl rfl | exact Or.inr (Or.inl rfl) | exact Or.inr (Or.inr rfl))) (pd_var (i := 8) rfl (by first | exact Or.inl rfl | exact Or.inr (Or.inl rfl) | exact Or.inr (Or.inr rfl)))) pd_int) (pda_cons (pd_var (i := 6) rfl (by first | exact Or.inl rfl | exact Or.inr (Or.inl rfl) | exact Or.inr (Or.inr rfl))) pda_nil)))))
    (pds_cons (pds_setLcL (i := 4) (own := [("stretch", 9)]) rfl sc__least_crowd.nd rfl rfl (pd_var (i := 3) rfl (by first | exact Or.inl rfl | exact Or.inr (Or.inl rfl) | exact Or.inr (Or.inr rfl))) (blkOk_by rfl) (fun _ _ _ _ _ => pg_name (i := 9) sc__least_crowd.nd rfl (by first | exact Or.inl rfl | exact Or.inr rfl)) (tg_one 9) (by decide) (fun _ _ _ _ _ => (pdts_one (pdt_truth (pd_callA D__is_overfull ((ft.blk _ _ _ _ _ _).mono (by decide)) (by rfl) (pda_cons (pd_var (i := 0) rfl (by first | exact Or.inl rfl | exact Or.inr (Or.inl rfl) | exact Or.inr (Or.inr rfl))) (pda_cons (pd_var (i := 9) rfl (by first | exact Or.inl rfl | exact Or.inr (Or.inl rfl) | exact Or.inr (Or.inr rfl))) (pda_cons (pd_var (i := 1) rfl (by first | exact Or.inl rfl | exact Or.inr (Or.inl rfl) | exact Or.inr (Or.inr rfl))) pda_nil))))))) (fun _ _ _ _ _ => (pd_var (i := 9) rfl (by first | exact Or.inl rfl | exact Or.inr (Or.inl rfl) | exact Or.inr (Or.inr rfl)))))
    (pds_cons (pds_if (pdt_cmp (cmp_eq ft.u) (pd_blt blt_lenA (by rfl) Z.b_len rfl (pda_cons (pd_var (i := 4) rfl (by first | exact Or.inl rfl | exact Or.inr (Or.inl rfl) | exact Or.inr (Or.inr rfl))) pda_nil)) pd_int (by rfl)) (pds_one (pds_ret pd_non)) pds_nil)
    (pds_cons (pds_asg (pg_tup rfl (pgs_cons (pg_name (i := 5) sc__least_crowd.nd rfl (by first | exact Or.inl rfl | exact Or.inr rfl)) (pgs_cons (pg_name (i := 6) sc__least_crowd.nd rfl (by first | exact Or.inl rfl | exact Or.inr rfl)) pgs_nil))) (tg_tup rfl [5, 6] rfl) (pd_blt (blt_minA rfl ft.u) (by rfl) Z.b_min rfl (pda_cons (pd_var (i := 4) rfl (by first | exact Or.inl rfl | exact Or.inr (Or.inl rfl) | exact Or.inr (Or.inr rfl))) pda_nil)))
    (pds_one (pds_ret (pd_tup (pda_cons (pd_var (i := 5) rfl (by first | exact Or.inl rfl | exact Or.inr (Or.inl rfl) | exact Or.inr (Or.inr rfl))) (pda_cons (pd_var (i := 6) rfl (by first | exact Or.inl rfl | exact Or.inr (Or.inl rfl) | exact Or.inr (Or.inr rfl))) (pda_cons (pd_callA D__how_many_within (ft.mono (by decide)) (by rfl) (pda_cons (pd_var (i := 0) rfl (by first | exact Or.inl rfl | exact Or.inr (Or.inl rfl) | exact Or.inr (Or.inr rfl))) (pda_cons (pd_tup (pda_cons (pd_var (i := 5) rfl (by first | exact Or.inl rfl | exact Or.inr (Or.inl rfl) | exact Or.inr (Or.inr rfl))) (pda_cons (pd_var (i := 6) rfl (by first | exact Or.inl rfl | exact Or.inr (Or.inl rfl) | exact Or.inr (Or.inr rfl))) pda_nil))) pda_nil))) pda_nil)))))))))))
abbrev st_crowd : Stmt := top 12
theorem sc_crowd : FnScope ["spans", "rate"] ["spans", "rate"] (defScope st_crowd) := ⟨rfl, rfl, rfl, by decide +kernel, rfl, by decide +kernel, by decide +kernel⟩
def gg_crowd_1_rate {α : Type} (us ds ws : List α) : List α := us ++ ((ws).drop 0).take 1
def gd_crowd_1_rate : List D → List D → List D := fun ds es => gg_crowd_1_rate ds [.int 1] es
def gg_crowd_1 {α : Type} (us ds ws : List α) : List α := us ++ ((ds).drop 0).take 1
def gd_crowd_1 : List D → List D → List D := fun ds es => gg_crowd_1 ds [.int 1] es
abbrev ways_crowd : List (Nat × List Str × (List D → List D → List D)) := [(1, ["rate"], gd_crowd_1_rate), (1, [], gd_crowd_1)]
def m_crowd : DS :=
    (sSeq (sDrop (dCallA 2 f__check_spans_and_rate (dCons (dVar 0) (dCons (dVar 1) dNil))))
    (sRet (dCallA 2 f__least_crowd (dCons (dVar 0) (dCons (dVar 1) dNil)))))
def f_crowd : DF := body 2 2 m_crowd
theorem ok_crowd {w : World} {T : Txt} {mg : Str → Option Value} {base : Heap} (Z : Facts T mg) (D__check_spans_and_rate : Def P w T mg base 6 6 "_check_spans_and_rate" ["spans", "rate"] f__check_spans_and_rate) (D__least_crowd : Def P w T mg base 3 9 "_least_crowd" ["spans", "rate"] f__least_crowd) (l : LkD T 10 "crowd" "crowd" st_crowd [.int 1]) (hg : mg "crowd" = some (.ref (T.fa 10))) : DefK P w T mg base 7 10 "crowd" ["spans", "rate"] f_crowd ways_crowd := by
  refine defK_of (m := m_crowd) (k := 6) (N := ["spans", "rate"]) (ps := ["spans", "rate"]) (st := st_crowd) l hg sc_crowd (fun fd F z hz => ?_) fun cdv A outer s H E xp ft po => ?_
  · skip
    rcases List.mem_cons.mp hz with hz | hz
    · subst hz
      refine bd_dfl (dds := [.int 1]) gg_crowd_1_rate F (by simp) (fun _ _ _ => .cons (.int 1) .nil) (fun r d q => r.append ((q.drop 0).take 1)) (fun _ _ _ _ _ _ _ _ _ r d q => r.append ((q.drop 0).take 1)) (fun vs zs h1 h2 => by unfold gg_crowd_1_rate; simp [h1, h2]) ?_
      intro Dv kV doc pm an cdv ct us its ws h1 h2 h3
      match us, its, ws, h1, h2, h3 with
      | [_], [_], [_], _, _, _ => exact ⟨_, rfl, rfl⟩
    rcases List.mem_cons.mp hz with hz | hz
    · subst hz
      refine bd_dfl (dds := [.int 1]) gg_crowd_1 F (by simp) (fun _ _ _ => .cons (.int 1) .nil) (fun r d q => r.append ((d.drop 0).take 1)) (fun _ _ _ _ _ _ _ _ _ r d q => r.append ((d.drop 0).take 1)) (fun vs zs h1 h2 => by unfold gg_crowd_1; simp [h1, h2]) ?_
      intro Dv kV doc pm an cdv ct us its ws h1 h2 h3
      match us, its, ws, h1, h2, h3 with
      | [_], [_], [], _, _, _ => exact ⟨_, rfl, rfl⟩
    exact absurd hz List.not_mem_nil
  · exact (pds_cons (pds_drop (pd_callA D__check_spans_and_rate (ft.mono (by decide)) (by rfl) (pda_cons (pd_var (i := 0) rfl (by first | exact Or.inl rfl | exact Or.inr (Or.inl rfl) | exact Or.inr (Or.inr rfl))) (pda_cons (pd_var (i := 1) rfl (by first | exact Or.inl rfl | exact Or.inr (Or.inl rfl) | exact Or.inr (Or.inr rfl))) pda_nil))))
    (pds_one (pds_ret (pd_callA D__least_crowd (ft.mono (by decide)) (by rfl) (pda_cons (pd_var (i := 0) rfl (by first | exact Or.inl rfl | exact Or.inr (Or.inl rfl) | exact Or.inr (Or.inr rfl))) (pda_cons (pd_var (i := 1) rfl (by first | exact Or.inl rfl | exact Or.inr (Or.inl rfl) | exact Or.inr (Or.inr rfl))) pda_nil))))))
abbrev st_is_crowd : Stmt := top 13
theorem sc_is_crowd : FnScope ["spans", "thing", "rate"] ["spans", "thing", "rate"] (defScope st_is_crowd) := ⟨rfl, rfl, rfl, by decide +kernel, rfl, by decide +kernel, by decide +kernel⟩
def gg_is_crowd_1_rate_thing {α : Type} (us ds ws : List α) : List α := us ++ (((ws).drop 1).take 1 ++ ((ws).drop 0).take 1)
def gd_is_crowd_1_rate_thing : List D → List D → List D := fun ds es => gg_is_crowd_1_rate_thing ds [.int 1] es
def gg_is_crowd_3 {α : Type} (us ds ws : List α) : List α := us
def gd_is_crowd_3 : List D → List D → List D := fun ds es => gg_is_crowd_3 ds [.int 1] es
def gg_is_crowd_0_thing_spans {α : Type} (us ds ws : List α) : List α := us ++ (((ws).drop 1).take 1 ++ (((ws).drop 0).take 1 ++ ((ds).drop 0).take 1))
def gd_is_crowd_0_thing_spans : List D → List D → List D := fun ds es => gg_is_crowd_0_thing_spans ds [.int 1] es
def gg_is_crowd_2 {α : Type} (us ds ws : List α) : List α := us ++ ((ds).drop 0).take 1
def gd_is_crowd_2 : List D → List D → List D := fun ds es => gg_is_crowd_2 ds [.int 1] es
abbrev ways_is_crowd : List (Nat × List Str × (List D → List D → List D)) := [(1, ["rate", "thing"], gd_is_crowd_1_rate_thing), (3, [], gd_is_crowd_3), (0, ["thing", "spans"], gd_is_crowd_0_thing_spans), (2, [], gd_is_crowd_2)]
def m_is_crowd : DS :=
    (sSeq (sDrop (dCallA 2 f__check_spans_and_rate (dCons (dVar 0) (dCons (dVar 2) dNil))))
    (sRet (dAnd (dCallA 1 f__is_span (dCons (dVar 1) dNil)) (dCallA 3 f__is_overfull (dCons (dVar 0) (dCons (dVar 1) (dCons (dVar 2) dNil)))))))
def f_is_crowd : DF := body 3 3 m_is_crowd
theorem ok_is_crowd {w : World} {T : Txt} {mg : Str → Option Value} {base : Heap} (Z : Facts T mg) (D__check_spans_and_rate : Def P w T mg base 6 6 "_check_spans_and_rate" ["spans", "rate"] f__check_spans_and_rate) (D__is_overfull : Def P w T mg base 2 8 "_is_overfull" ["spans", "stretch", "rate"] f__is_overfull) (D__is_span : Def P w T mg base 4 4 "_is_span" ["thing"] f__is_span) (l : LkD T 11 "is_crowd" "is_crowd" st_is_crowd [.int 1]) (hg : mg "is_crowd" = some (.ref (T.fa 11))) : DefK P w T mg base 7 11 "is_crowd" ["spans", "thing", "rate"] f_is_crowd ways_is_crowd := by
  refine defK_of (m := m_is_crowd) (k := 6) (N := ["spans", "thing", "rate"]) (ps := ["spans", "thing", "rate"]) (st := st_is_crowd) l hg sc_is_crowd (fun fd F z hz => ?_) fun cdv A outer s H E xp ft po => ?_
  · skip
    rcases List.mem_cons.mp hz with hz | hz
    · subst hz
      refine bd_dfl (dds := [.int 1]) gg_is_crowd_1_rate_thing F (by simp) (fun _ _ _ => .cons (.int 1) .nil) (fun r d q => r.append (((q.drop 1).take 1).append ((q.drop 0).take 1))) (fun _ _ _ _ _ _ _ _ _ r d q => r.append (((q.drop 1).take 1).append ((q.drop 0).take 1))) (fun vs zs h1 h2 => by unfold gg_is_crowd_1_rate_thing; simp [h1, h2]) ?_
      intro Dv kV doc pm an cdv ct us its ws h1 h2 h3
      match us, its, ws, h1, h2, h3 with
      | [_], [_], [_, _], _, _, _ => exact ⟨_, rfl, rfl⟩
    rcases List.mem_cons.mp hz with hz | hz
    · subst hz
      refine bd_dfl (dds := [.int 1]) gg_is_crowd_3 F (by simp) (fun _ _ _ => .cons (.int 1) .nil) (fun r d q => r) (fun _ _ _ _ _ _ _ _ _ r d q => r) (fun vs zs h1 h2 => by unfold gg_is_crowd_3; simp [h1, h2]) ?_
      intro Dv kV doc pm an cdv ct us its ws h1 h2 h3
      match us, its, ws, h1, h2, h3 with
      | [_, _, _], [_], [], _, _, _ => exact ⟨_, rfl, rfl⟩
    rcases List.mem_cons.mp hz with hz | hz
    · subst hz
      refine bd_dfl (dds := [.int 1]) gg_is_crowd_0_thing_spans F (by simp) (fun _ _ _ => .cons (.int 1) .nil) (fun r d q => r.append (((q.drop 1).take 1).append (((q.drop 0).take 1).append ((d.drop 0).take 1)))) (fun _ _ _ _ _ _ _ _ _ r d q => r.append (((q.drop 1).take 1).append (((q.drop 0).take 1).append ((d.drop 0).take 1)))) (fun vs zs h1 h2 => by unfold gg_is_crowd_0_thing_spans; simp [h1, h2]) ?_
      intro Dv kV doc pm an cdv ct us its ws h1 h2 h3
      match us, its, ws, h1, h2, h3 with
      | [], [_], [_, _], _, _, _ => exact ⟨_, rfl, rfl⟩
    rcases List.mem_cons.mp hz with hz | hz
    · subst hz
      refine bd_dfl (dds := [.int 1]) gg_is_crowd_2 F (by simp) (fun _ _ _ => .cons (.int 1) .nil) (fun r d q => r.append ((d.drop 0).take 1)) (fun _ _ _ _ _ _ _ _ _ r d q => r.append ((d.drop 0).take 1)) (fun vs zs h1 h2 => by unfold gg_is_crowd_2; simp [h1, h2]) ?_
      intro Dv kV doc pm an cdv ct us its ws h1 h2 h3
      match us, its, ws, h1, h2, h3 with
      | [_, _], [_], [], _, _, _ => exact ⟨_, rfl, rfl⟩
    exact absurd hz List.not_mem_nil
  · exact (pds_cons (pds_drop (pd_callA D__check_spans_and_rate (ft.mono (by decide)) (by rfl) (pda_cons (pd_var (i := 0) rfl (by first | exact Or.inl rfl | exact Or.inr (Or.inl rfl) | exact Or.inr (Or.inr rfl))) (pda_cons (pd_var (i := 2) rfl (by first | exact Or.inl rfl | exact Or.inr (Or.inl rfl) | exact Or.inr (Or.inr rfl))) pda_nil))))
    (pds_one (pds_ret (pd_and (pd_callA D__is_span (ft.mono (by decide)) (by rfl) (pda_cons (pd_var (i := 1) rfl (by first | exact Or.inl rfl | exact Or.inr (Or.inl rfl) | exact Or.inr (Or.inr rfl))) pda_nil)) (pd_last (pd_callA D__is_overfull (ft.mono (by decide)) (by rfl) (pda_cons (pd_var (i := 0) rfl (by first | exact Or.inl rfl | exact Or.inr (Or.inl rfl) | exact Or.inr (Or.inr rfl))) (pda_cons (pd_var (i := 1) rfl (by first | exact Or.inl rfl | exact Or.inr (Or.inl rfl) | exact Or.inr (Or.inr rfl))) (pda_cons (pd_var (i := 2) rfl (by first | exact Or.inl rfl | exact Or.inr (Or.inl rfl) | exact Or.inr (Or.inr rfl))) pda_nil)))))))))
abbrev st__law_cell_at : Stmt := top 22
theorem sc__law_cell_at : FnScope ["_law_script", "_law_k"] ["_law_script", "_law_k"] (defScope st__law_cell_at) := ⟨rfl, rfl, rfl, by decide +kernel, rfl, by decide +kernel, by decide +kernel⟩
def m__law_cell_at : DS :=
    (sSeq (sIf (asB (dOp2 fLt (dVar 1) (dCB (orB (one gLen) (one gLenK)) (dCons (dVar 0) dNil)))) (sRet (dIx (dVar 0) (dVar 1))) sNext)
    (sRet (dC (.int 0))))
def f__law_cell_at : DF := body 2 2 m__law_cell_at
theorem ok__law_cell_at {w : World} {T : Txt} {mg : Str → Option Value} {base : Heap} (Z : Facts T mg) (l : Lk T 12 "_law_cell_at" "_law_cell_at" st__law_cell_at) (hg : mg "_law_cell_at" = some (.ref (T.fa 12))) : Def P w T mg base 1 12 "_law_cell_at" ["_law_script", "_law_k"] f__law_cell_at := by
  refine defD_of (m := m__law_cell_at) (k := 0) (N := ["_law_script", "_law_k"]) (ps := ["_law_script", "_law_k"]) (st := st__law_cell_at) l hg sc__law_cell_at (fun _ _ _ _ _ _ us hl => match us, hl with | [_, _], _ => rfl) fun cdv A outer s H E xp ft po => ?_
  exact (pds_cons (pds_if (pdt_cmp cmp_lt (pd_var (i := 1) rfl (by first | exact Or.inl rfl | exact Or.inr (Or.inl rfl) | exact Or.inr (Or.inr rfl))) (pd_blt blt_lenA (by rfl) Z.b_len rfl (pda_cons (pd_var (i := 0) rfl (by first | exact Or.inl rfl | exact Or.inr (Or.inl rfl) | exact Or.inr (Or.inr rfl))) pda_nil)) (by rfl)) (pds_one (pds_ret (pd_ix (pd_var (i := 0) rfl (by first | exact Or.inl rfl | exact Or.inr (Or.inl rfl) | exact Or.inr (Or.inr rfl))) (pd_var (i := 1) rfl (by first | exact Or.inl rfl | exact Or.inr (Or.inl rfl) | exact Or.inr (Or.inr rfl)))))) pds_nil)
    (pds_one (pds_ret pd_int)))
abbrev st__law_pot : Stmt := top 23
theorem sc__law_pot : FnScope ["_law_cell", "_law_number", "_law_j", "_law_more"] ["_law_cell"] (defScope st__law_pot) := ⟨rfl, rfl, rfl, by decide +kernel, rfl, by decide +kernel, by decide +kernel⟩
def m__law_pot : DS :=
    (sSeq (sIf (asB (dOp2 fGe (dVar 0) (dPow (dC (.int 10)) (dC (.int 18))))) (sRet (dNew (dCons (dSub (dVar 0) (dPow (dC (.int 10)) (dC (.int 18)))) dNil))) sNext)
    (sSeq (sSet 1 (dC (.int 0)))
    (sSeq (sForR1 (dCons (dC (.int 64)) dNil) (g1 2)
    (sSeq (sSet 3 (dMod (dMulA (dAdd (dAdd (dMod (dVar 0) (dC (.int 2147483629))) (dMulA (dC (.int 7919)) (dVar 2))) (dC (.int 1))) (dC (.int 48271))) (dC (.int 2147483647))))
    (sSeq (sSet 3 (dMod (dAdd (dAdd (dMulA (dVar 3) (dVar 3)) (dMulA (dC (.int 69621)) (dVar 2))) (dC (.int 7))) (dC (.int 2147483587))))
    (sSet 1 (dAdd (dMulA (dVar 1) (dC (.int 2147483587))) (dVar 3))))))
    (sRet (dNew (dCons (dVar 1) dNil))))))
def f__law_pot : DF := body 4 1 m__law_pot
theorem ok__law_pot {w : World} {T : Txt} {mg : Str → Option Value} {base : Heap} (Z : Facts T mg) (l : Lk T 13 "_law_pot" "_law_pot" st__law_pot) (hg : mg "_law_pot" = some (.ref (T.fa 13))) : Def P w T mg base 1 13 "_law_pot" ["_law_cell"] f__law_pot := by
  refine defD_of (m := m__law_pot) (k := 0) (N := ["_law_cell", "_law_number", "_law_j", "_law_more"]) (ps := ["_law_cell"]) (st := st__law_pot) l hg sc__law_pot (fun _ _ _ _ _ _ us hl => match us, hl with | [_], _ => rfl) fun cdv A outer s H E xp ft po => ?_
  exact (pds_cons (pds_if (pdt_cmp cmp_ge (pd_var (i := 0) rfl (by first | exact Or.inl rfl | exact Or.inr (Or.inl rfl) | exact Or.inr (Or.inr rfl))) (pd_pow pd_int pd_int) (by rfl)) (pds_one (pds_ret (pd_new (pda_cons (pd_sub (pd_var (i := 0) rfl (by first | exact Or.inl rfl | exact Or.inr (Or.inl rfl) | exact Or.inr (Or.inr rfl))) (pd_pow pd_int pd_int)) pda_nil)))) pds_nil)
    (pds_cons (pds_set (i := 1) sc__law_pot.nd rfl (by first | exact Or.inl rfl | exact Or.inr rfl) pd_int)
    (pds_cons (pds_forR1 po rfl (by rfl) Z.b_range (pda_cons pd_int pda_nil) (pg_name (i := 2) sc__law_pot.nd rfl (by first | exact Or.inl rfl | exact Or.inr rfl)) (tg_one 2)
    (pds_cons (pds_set (i := 3) sc__law_pot.nd rfl (by first | exact Or.inl rfl | exact Or.inr rfl) (pd_mod (pd_mulA (pd_add (pd_add (pd_mod (pd_var (i := 0) rfl (by first | exact Or.inl rfl | exact Or.inr (Or.inl rfl) | exact Or.inr (Or.inr rfl))) pd_int) (pd_mulA pd_int (pd_var (i := 2) rfl (by first | exact Or.inl rfl | exact Or.inr (Or.inl rfl) | exact Or.inr (Or.inr rfl))))) pd_int) pd_int) pd_int))
    (pds_cons (pds_set (i := 3) sc__law_pot.nd rfl (by first | exact Or.inl rfl | exact Or.inr rfl) (pd_mod (pd_add (pd_add (pd_mulA (pd_var (i := 3) rfl (by first | exact Or.inl rfl | exact Or.inr (Or.inl rfl) | exact Or.inr (Or.inr rfl))) (pd_var (i := 3) rfl (by first | exact Or.inl rfl | exact Or.inr (Or.inl rfl) | exact Or.inr (Or.inr rfl)))) (pd_mulA pd_int (pd_var (i := 2) rfl (by first | exact Or.inl rfl | exact Or.inr (Or.inl rfl) | exact Or.inr (Or.inr rfl))))) pd_int) pd_int))
    (pds_one (pds_set (i := 1) sc__law_pot.nd rfl (by first | exact Or.inl rfl | exact Or.inr rfl) (pd_add (pd_mulA (pd_var (i := 1) rfl (by first | exact Or.inl rfl | exact Or.inr (Or.inl rfl) | exact Or.inr (Or.inr rfl))) pd_int) (pd_var (i := 3) rfl (by first | exact Or.inl rfl | exact Or.inr (Or.inl rfl) | exact Or.inr (Or.inr rfl)))))))))
    (pds_one (pds_ret (pd_new (pda_cons (pd_var (i := 1) rfl (by first | exact Or.inl rfl | exact Or.inr (Or.inl rfl) | exact Or.inr (Or.inr rfl))) pda_nil)))))))
abbrev st__law_take : Stmt := top 24
theorem sc__law_take : FnScope ["_law_pot_here", "_law_far", "_law_found"] ["_law_pot_here", "_law_far"] (defScope st__law_take) := ⟨rfl, rfl, rfl, by decide +kernel, rfl, by decide +kernel, by decide +kernel⟩
def m__law_take : DS :=
    (sSeq (sSet 2 (dMod (dIx (dVar 0) (dC (.int 0))) (dVar 1)))
    (sSeq (sSetIx (dVar 0) (dC (.int 0)) (dDiv (dIx (dVar 0) (dC (.int 0))) (dVar 1)))
    (sRet (dVar 2))))
def f__law_take : DF := body 3 2 m__law_take
theorem ok__law_take {w : World} {T : Txt} {mg : Str → Option Value} {base : Heap} (Z : Facts T mg) (l : Lk T 14 "_law_take" "_law_take" st__law_take) (hg : mg "_law_take" = some (.ref (T.fa 14))) : Def P w T mg base 1 14 "_law_take" ["_law_pot_here", "_law_far"] f__law_take := by
  refine defD_of (m := m__law_take) (k := 0) (N := ["_law_pot_here", "_law_far", "_law_found"]) (ps := ["_law_pot_here", "_law_far"]) (st := st__law_take) l hg sc__law_take (fun _ _ _ _ _ _ us hl => match us, hl with | [_, _], _ => rfl) fun cdv A outer s H E xp ft po => ?_
  exact (pds_cons (pds_set (i := 2) sc__law_take.nd rfl (by first | exact Or.inl rfl | exact Or.inr rfl) (pd_mod (pd_ix (pd_var (i := 0) rfl (by first | exact Or.inl rfl | exact Or.inr (Or.inl rfl) | exact Or.inr (Or.inr rfl))) pd_int) (pd_var (i := 1) rfl (by first | exact Or.inl rfl | exact Or.inr (Or.inl rfl) | exact Or.inr (Or.inr rfl)))))
    (pds_cons (pds_setIx (pd_div (pd_ix (pd_var (i := 0) rfl (by first | exact Or.inl rfl | exact Or.inr (Or.inl rfl) | exact Or.inr (Or.inr rfl))) pd_int) (pd_var (i := 1) rfl (by first | exact Or.inl rfl | exact Or.inr (Or.inl rfl) | exact Or.inr (Or.inr rfl)))) (pd_var (i := 0) rfl (by first | exact Or.inl rfl | exact Or.inr (Or.inl rfl) | exact Or.inr (Or.inr rfl))) pd_int (fun _ _ a b => pg_sub a b set_list))
    (pds_one (pds_ret (pd_var (i := 2) rfl (by first | exact Or.inl rfl | exact Or.inr (Or.inl rfl) | exact Or.inr (Or.inr rfl)))))))
abbrev st__law_whole : Stmt := top 25
theorem sc__law_whole : FnScope ["_law_stuff"] ["_law_stuff"] (defScope st__law_whole) := ⟨rfl, rfl, rfl, by decide +kernel, rfl, by decide +kernel, by decide +kernel⟩
def m__law_whole : DS :=
    (sRet (dAnd (dCB (bIsi [] isT) (dCons (dVar 0) (dCons (dC (.ty "int")) dNil))) (dNot (dCB (bIsi [] isT) (dCons (dVar 0) (dCons (dC (.ty "bool")) dNil))))))
def f__law_whole : DF := body 1 1 m__law_whole
theorem ok__law_whole {w : World} {T : Txt} {mg : Str → Option Value} {base : Heap} (Z : Facts T mg) (l : Lk T 15 "_law_whole" "_law_whole" st__law_whole) (hg : mg "_law_whole" = some (.ref (T.fa 15))) : Def P w T mg base 1 15 "_law_whole" ["_law_stuff"] f__law_whole := by
  refine defD_of (m := m__law_whole) (k := 0) (N := ["_law_stuff"]) (ps := ["_law_stuff"]) (st := st__law_whole) l hg sc__law_whole (fun _ _ _ _ _ _ us hl => match us, hl with | [_], _ => rfl) fun cdv A outer s H E xp ft po => ?_
  exact (pds_one (pds_ret (pd_and (pd_blt (blt_isi Z.own Z.isT) (by rfl) Z.b_isinstance rfl (pda_cons (pd_var (i := 0) rfl (by first | exact Or.inl rfl | exact Or.inr (Or.inl rfl) | exact Or.inr (Or.inr rfl))) (pda_cons (pd_bt (n := "int") rfl Z.b_int (by rfl)) pda_nil))) (pd_last (pd_not (pd_blt (blt_isi Z.own Z.isT) (by rfl) Z.b_isinstance rfl (pda_cons (pd_var (i := 0) rfl (by first | exact Or.inl rfl | exact Or.inr (Or.inl rfl) | exact Or.inr (Or.inr rfl))) (pda_cons (pd_bt (n := "bool") rfl Z.b_bool (by rfl)) pda_nil))))))))
abbrev st__law_within : Stmt := top 26
theorem sc__law_within : FnScope ["_law_stuff", "_law_low", "_law_high"] ["_law_stuff", "_law_low", "_law_high"] (defScope st__law_within) := ⟨rfl, rfl, rfl, by decide +kernel, rfl, by decide +kernel, by decide +kernel⟩
def m__law_within : DS :=
    (sRet (dAnd (dCallA 1 f__law_whole (dCons (dVar 0) dNil)) (dChain fLe fLe (dVar 1) (dVar 0) (dVar 2))))
def f__law_within : DF := body 3 3 m__law_within
theorem ok__law_within {w : World} {T : Txt} {mg : Str → Option Value} {base : Heap} (Z : Facts T mg) (D__law_whole : Def P w T mg base 1 15 "_law_whole" ["_law_stuff"] f__law_whole) (l : Lk T 16 "_law_within" "_law_within" st__law_within) (hg : mg "_law_within" = some (.ref (T.fa 16))) : Def P w T mg base 2 16 "_law_within" ["_law_stuff", "_law_low", "_law_high"] f__law_within := by
  refine defD_of (m := m__law_within) (k := 1) (N := ["_law_stuff", "_law_low", "_law_high"]) (ps := ["_law_stuff", "_law_low", "_law_high"]) (st := st__law_within) l hg sc__law_within (fun _ _ _ _ _ _ us hl => match us, hl with | [_, _, _], _ => rfl) fun cdv A outer s H E xp ft po => ?_
  exact (pds_one (pds_ret (pd_and (pd_callA D__law_whole (ft.mono (by decide)) (by rfl) (pda_cons (pd_var (i := 0) rfl (by first | exact Or.inl rfl | exact Or.inr (Or.inl rfl) | exact Or.inr (Or.inr rfl))) pda_nil)) (pd_last (pd_chain cmp_le cmp_le (pd_var (i := 1) rfl (by first | exact Or.inl rfl | exact Or.inr (Or.inl rfl) | exact Or.inr (Or.inr rfl))) (pd_var (i := 0) rfl (by first | exact Or.inl rfl | exact Or.inr (Or.inl rfl) | exact Or.inr (Or.inr rfl))) (pd_var (i := 2) rfl (by first | exact Or.inl rfl | exact Or.inr (Or.inl rfl) | exact Or.inr (Or.inr rfl))))))))
abbrev st__law_odd : Stmt := top 27
theorem sc__law_odd : FnScope ["_law_pot_here", "_law_some"] ["_law_pot_here"] (defScope st__law_odd) := ⟨rfl, rfl, rfl, by decide +kernel, rfl, by decide +kernel, by decide +kernel⟩
def m__law_odd : DS :=
    (sSeq (sSet 1 (dLst (dCons (dC .non) (dCons (dC (.bl true)) (dCons (dC (.bl false)) (dCons (dNeg (dC (.int 1))) (dCons (dPow (dC (.int 10)) (dC (.int 30))) (dCons (dC (.str "")) (dCons (dC (.str "a")) (dCons (dC (.str "1")) (dCons (dTup dNil) (dCons (dLst dNil) (dCons (dC (.dic [] [])) (dCons (dLst (dCons (dTup dNil) dNil)) (dCons (dTup (dCons (dTup dNil) dNil)) (dCons (dTup (dCons (dC (.int 0)) dNil)) (dCons (dLst (dCons (dC (.int 0)) dNil)) (dCons (dC (.dic [.inl 0] [.int 1])) (dCons (dTup (dCons (dC (.bl true)) (dCons (dC (.bl true)) dNil))) dNil)))))))))))))))))))
    (sRet (dIx (dVar 1) (dCallA 2 f__law_take (dCons (dVar 0) (dCons (dCB (orB (one gLen) (one gLenK)) (dCons (dVar 1) dNil)) dNil))))))
def f__law_odd : DF := body 2 1 m__law_odd
theorem ok__law_odd {w : World} {T : Txt} {mg : Str → Option Value} {base : Heap} (Z : Facts T mg) (D__law_take : Def P w T mg base 1 14 "_law_take" ["_law_pot_here", "_law_far"] f__law_take) (l : Lk T 17 "_law_odd" "_law_odd" st__law_odd) (hg : mg "_law_odd" = some (.ref (T.fa 17))) : Def P w T mg base 2 17 "_law_odd" ["_law_pot_here"] f__law_odd := by
  refine defD_of (m := m__law_odd) (k := 1) (N := ["_law_pot_here", "_law_some"]) (ps := ["_law_pot_here"]) (st := st__law_odd) l hg sc__law_odd (fun _ _ _ _ _ _ us hl => match us, hl with | [_], _ => rfl) fun cdv A outer s H E xp ft po => ?_
  exact (pds_cons (pds_set (i := 1) sc__law_odd.nd rfl (by first | exact Or.inl rfl | exact Or.inr rfl) (pd_lst (pda_cons pd_non (pda_cons pd_bl (pda_cons pd_bl (pda_cons (pd_neg pd_int) (pda_cons (pd_pow pd_int pd_int) (pda_cons pd_str (pda_cons pd_str (pda_cons pd_str (pda_cons (pd_tup pda_nil) (pda_cons (pd_lst pda_nil) (pda_cons pd_dic0 (pda_cons (pd_lst (pda_cons (pd_tup pda_nil) pda_nil)) (pda_cons (pd_tup (pda_cons (pd_tup pda_nil) pda_nil)) (pda_cons (pd_tup (pda_cons pd_int pda_nil)) (pda_cons (pd_lst (pda_cons pd_int pda_nil)) (pda_cons (pd_dic1 pe_int pe_int fun _ _ => .int _) (pda_cons (pd_tup (pda_cons pd_bl (pda_cons pd_bl pda_nil))) pda_nil)))))))))))))))))))
    (pds_one (pds_ret (pd_ix (pd_var (i := 1) rfl (by first | exact Or.inl rfl | exact Or.inr (Or.inl rfl) | exact Or.inr (Or.inr rfl))) (pd_callA D__law_take (ft.mono (by decide)) (by rfl) (pda_cons (pd_var (i := 0) rfl (by first | exact Or.inl rfl | exact Or.inr (Or.inl rfl) | exact Or.inr (Or.inr rfl))) (pda_cons (pd_blt blt_lenA (by rfl) Z.b_len rfl (pda_cons (pd_var (i := 1) rfl (by first | exact Or.inl rfl | exact Or.inr (Or.inl rfl) | exact Or.inr (Or.inr rfl))) pda_nil)) pda_nil)))))))
abbrev st__law_bent : Stmt := top 28
theorem sc__law_bent : FnScope ["_law_pot_here", "_law_stuff", "_law_way", "_law_at"] ["_law_pot_here", "_law_stuff"] (defScope st__law_bent) := ⟨rfl, rfl, rfl, by decide +kernel, rfl, by decide +kernel, by decide +kernel⟩
def m__law_bentF (f__law_bent : DF) : DS :=
    (sSeq (sIf (tNotD (dTruth (dCB (bIsi [] isT) (dCons (dVar 1) (dCons (dC (.ty "tuple")) dNil))))) (sSeq (sIf (tAndD (dTruth (dCallA 1 f__law_whole (dCons (dVar 1) dNil))) (asB (dOp2 fGt (dCallA 2 f__law_take (dCons (dVar 0) (dCons (dC (.int 3)) dNil))) (dC (.int 0))))) (sRet (dAdd (dVar 1) (dIx (dLst (dCons (dC (.int 1)) (dCons (dNeg (dC (.int 1))) (dCons (dC (.int 9)) (dCons (dC (.int 100)) (dCons (dC (.int 9999)) (dCons (dNeg (dPow (dC (.int 10)) (dC (.int 4)))) dNil))))))) (dCallA 2 f__law_take (dCons (dVar 0) (dCons (dC (.int 6)) dNil)))))) sNext)
    (sRet (dCallA 1 f__law_odd (dCons (dVar 0) dNil)))) sNext)
    (sSeq (sSet 2 (dCallA 2 f__law_take (dCons (dVar 0) (dCons (dC (.int 12)) dNil))))
    (sSeq (sIf (tOrD (asB (dOp2 fEq (dVar 2) (dC (.int 0)))) (asB (dOp2 fEq (dVar 1) (dTup dNil)))) (sRet (dIx (dLst (dCons (dCallA 1 f__law_odd (dCons (dVar 0) dNil)) (dCons (dCB (one gList) (dCons (dVar 1) dNil)) (dCons (dAdd (dVar 1) (dTup (dCons (dCallA 1 f__law_odd (dCons (dVar 0) dNil)) dNil))) (dCons (dAdd (dVar 1) (dSl (dVar 1) (oSome (dNeg (dC (.int 1)))) oNone)) dNil))))) (dCallA 2 f__law_take (dCons (dVar 0) (dCons (dC (.int 4)) dNil))))) sNext)
    (sSeq (sSet 3 (dCallA 2 f__law_take (dCons (dVar 0) (dCons (dCB (orB (one gLen) (one gLenK)) (dCons (dVar 1) dNil)) dNil))))
    (sSeq (sIf (asB (dOp2 fEq (dVar 2) (dC (.int 1)))) (sRet (dAdd (dSl (dVar 1) oNone (oSome (dVar 3))) (dSl (dVar 1) (oSome (dAdd (dVar 3) (dC (.int 1)))) oNone))) sNext)
    (sSeq (sIf (asB (dOp2 fEq (dVar 2) (dC (.int 2)))) (sRet (dAdd (dAdd (dSl (dVar 1) oNone (oSome (dVar 3))) (dSl (dVar 1) (oSome (dVar 3)) (oSome (dAdd (dVar 3) (dC (.int 1)))))) (dSl (dVar 1) (oSome (dVar 3)) oNone))) sNext)
    (sRet (dAdd (dAdd (dSl (dVar 1) oNone (oSome (dVar 3))) (dTup (dCons (dCallA 2 f__law_bent (dCons (dVar 0) (dCons (dIx (dVar 1) (dVar 3)) dNil))) dNil))) (dSl (dVar 1) (oSome (dAdd (dVar 3) (dC (.int 1)))) oNone)))))))))
def f__law_bent1 : DF := body 4 2 (m__law_bentF noF)
def f__law_bent : DF := body 4 2 (m__law_bentF f__law_bent1)
theorem ok__law_bent1 {w : World} {T : Txt} {mg : Str → Option Value} {base : Heap} (Z : Facts T mg) (D__law_odd : Def P w T mg base 2 17 "_law_odd" ["_law_pot_here"] f__law_odd) (D__law_take : Def P w T mg base 1 14 "_law_take" ["_law_pot_here", "_law_far"] f__law_take) (D__law_whole : Def P w T mg base 1 15 "_law_whole" ["_law_stuff"] f__law_whole) (D__law_bent : Def P w T mg base 1 18 "_law_bent" ["_law_pot_here", "_law_stuff"] noF) (l : Lk T 18 "_law_bent" "_law_bent" st__law_bent) (hg : mg "_law_bent" = some (.ref (T.fa 18))) : Def P w T mg base 3 18 "_law_bent" ["_law_pot_here", "_law_stuff"] f__law_bent1 := by
  refine defD_of (m := m__law_bentF noF) (k := 2) (N := ["_law_pot_here", "_law_stuff", "_law_way", "_law_at"]) (ps := ["_law_pot_here", "_law_stuff"]) (st := st__law_bent) l hg sc__law_bent (fun _ _ _ _ _ _ us hl => match us, hl with | [_, _], _ => rfl) fun cdv A outer s H E xp ft po => ?_
  exact (pds_cons (pds_if (pdt_not (pdt_truth (pd_blt (blt_isi Z.own Z.isT) (by rfl) Z.b_isinstance rfl (pda_cons (pd_var (i := 1) rfl (by first | exact Or.inl rfl | exact Or.inr (Or.inl rfl) | exact Or.inr (Or.inr rfl))) (pda_cons (pd_bt (n := "tuple") rfl Z.b_tuple (by rfl)) pda_nil))))) (pds_cons (pds_if (pdt_w (pdw_and (pdt_truth (pd_callA D__law_whole (ft.mono (by decide)) (by rfl) (pda_cons (pd_var (i := 1) rfl (by first | exact Or.inl rfl | exact Or.inr (Or.inl rfl) | exact Or.inr (Or.inr rfl))) pda_nil))) (pdw_and1 (pdt_cmp cmp_gt (pd_callA D__law_take (ft.mono (by decide)) (by rfl) (pda_cons (pd_var (i := 0) rfl (by first | exact Or.inl rfl | exact Or.inr (Or.inl rfl) | exact Or.inr (Or.inr rfl))) (pda_cons pd_int pda_nil))) pd_int (by rfl))))) (pds_one (pds_ret (pd_add (pd_var (i := 1) rfl (by first | exact Or.inl rfl | exact Or.inr (Or.inl rfl) | exact Or.inr (Or.inr rfl))) (pd_ix (pd_lst (pda_cons pd_int (pda_cons (pd_neg pd_int) (pda_cons pd_int (pda_cons pd_int (pda_cons pd_int (pda_cons (pd_neg (pd_pow pd_int pd_int)) pda_nil))))))) (pd_callA D__law_take (ft.mono (by decide)) (by rfl) (pda_cons (pd_var (i := 0) rfl (by first | exact Or.inl rfl | exact Or.inr (Or.inl rfl) | exact Or.inr (Or.inr rfl))) (pda_cons pd_int pda_nil))))))) pds_nil)
    (pds_one (pds_ret (pd_callA D__law_odd (ft.mono (by decide)) (by rfl) (pda_cons (pd_var (i := 0) rfl (by first | exact Or.inl rfl | exact Or.inr (Or.inl rfl) | exact Or.inr (Or.inr rfl))) pda_nil))))) pds_nil)
    (pds_cons (pds_set (i := 2) sc__law_bent.nd rfl (by first | exact Or.inl rfl | exact Or.inr rfl) (pd_callA D__law_take (ft.mono (by decide)) (by rfl) (pda_cons (pd_var (i := 0) rfl (by first | exact Or.inl rfl | exact Or.inr (Or.inl rfl) | exact Or.inr (Or.inr rfl))) (pda_cons pd_int pda_nil))))
    (pds_cons (pds_if (pdt_w (pdw_or (pdt_cmp (cmp_eq ft.u) (pd_var (i := 2) rfl (by first | exact Or.inl rfl | exact Or.inr (Or.inl rfl) | exact Or.inr (Or.inr rfl))) pd_int (by rfl)) (pdw_or1 (pdt_cmp (cmp_eq ft.u) (pd_var (i := 1) rfl (by first | exact Or.inl rfl | exact Or.inr (Or.inl rfl) | exact Or.inr (Or.inr rfl))) (pd_tup pda_nil) (by rfl))))) (pds_one (pds_ret (pd_ix (pd_lst (pda_cons (pd_callA D__law_odd (ft.mono (by decide)) (by rfl) (pda_cons (pd_var (i := 0) rfl (by first | exact Or.inl rfl | exact Or.inr (Or.inl rfl) | exact Or.inr (Or.inr rfl))) pda_nil)) (pda_cons (pd_ty ty_list (by rfl) Z.b_list rfl (pda_cons (pd_var (i := 1) rfl (by first | exact Or.inl rfl | exact Or.inr (Or.inl rfl) | exact Or.inr (Or.inr rfl))) pda_nil)) (pda_cons (pd_add (pd_var (i := 1) rfl (by first | exact Or.inl rfl | exact Or.inr (Or.inl rfl) | exact Or.inr (Or.inr rfl))) (pd_tup (pda_cons (pd_callA D__law_odd (ft.mono (by decide)) (by rfl) (pda_cons (pd_var (i := 0) rfl (by first | exact Or.inl rfl | exact Or.inr (Or.inl rfl) | exact Or.inr (Or.inr rfl))) pda_nil)) pda_nil))) (pda_cons (pd_add (pd_var (i := 1) rfl (by first | exact Or.inl rfl | exact Or.inr (Or.inl rfl) | exact Or.inr (Or.inr rfl))) (pd_slice (pd_var (i := 1) rfl (by first | exact Or.inl rfl | exact Or.inr (Or.inl rfl) | exact Or.inr (Or.inr rfl))) (pdo_some (pd_neg pd_int)) pdo_none)) pda_nil))))) (pd_callA D__law_take (ft.mono (by decide)) (by rfl) (pda_cons (pd_var (i := 0) rfl (by first | exact Or.inl rfl | exact Or.inr (Or.inl rfl) | exact Or.inr (Or.inr rfl))) (pda_cons pd_int pda_nil)))))) pds_nil)
    (pds_cons (pds_set (i := 3) sc__law_bent.nd rfl (by first | exact Or.inl rfl | exact Or.inr rfl) (pd_callA D__law_take (ft.mono (by decide)) (by rfl) (pda_cons (pd_var (i := 0) rfl (by first | exact Or.inl rfl | exact Or.inr (Or.inl rfl) | exact Or.inr (Or.inr rfl))) (pda_cons (pd_blt blt_lenA (by rfl) Z.b_len rfl (pda_cons (pd_var (i := 1) rfl (by first | exact Or.inl rfl | exact Or.inr (Or.inl rfl) | exact Or.inr (Or.inr rfl))) pda_nil)) pda_nil))))
    (pds_cons (pds_if (pdt_cmp (cmp_eq ft.u) (pd_var (i := 2) rfl (by first | exact Or.inl rfl | exact Or.inr (Or.inl rfl) | exact Or.inr (Or.inr rfl))) pd_int (by rfl)) (pds_one (pds_ret (pd_add (pd_slice (pd_var (i := 1) rfl (by first | exact Or.inl rfl | exact Or.inr (Or.inl rfl) | exact Or.inr (Or.inr rfl))) pdo_none (pdo_some (pd_var (i := 3) rfl (by first | exact Or.inl rfl | exact Or.inr (Or.inl rfl) | exact Or.inr (Or.inr rfl))))) (pd_slice (pd_var (i := 1) rfl (by first | exact Or.inl rfl | exact Or.inr (Or.inl rfl) | exact Or.inr (Or.inr rfl))) (pdo_some (pd_add (pd_var (i := 3) rfl (by first | exact Or.inl rfl | exact Or.inr (Or.inl rfl) | exact Or.inr (Or.inr rfl))) pd_int)) pdo_none)))) pds_nil)
    (pds_cons (pds_if (pdt_cmp (cmp_eq ft.u) (pd_var (i := 2) rfl (by first | exact Or.inl rfl | exact Or.inr (Or.inl rfl) | exact Or.inr (Or.inr rfl))) pd_int (by rfl)) (pds_one (pds_ret (pd_add (pd_add (pd_slice (pd_var (i := 1) rfl (by first | exact Or.inl rfl | exact Or.inr (Or.inl rfl) | exact Or.inr (Or.inr rfl))) pdo_none (pdo_some (pd_var (i := 3) rfl (by first | exact Or.inl rfl | exact Or.inr (Or.inl rfl) | exact Or.inr (Or.inr rfl))))) (pd_slice (pd_var (i := 1) rfl (by first | exact Or.inl rfl | exact Or.inr (Or.inl rfl) | exact Or.inr (Or.inr rfl))) (pdo_some (pd_var (i := 3) rfl (by first | exact Or.inl rfl | exact Or.inr (Or.inl rfl) | exact Or.inr (Or.inr rfl)))) (pdo_some (pd_add (pd_var (i := 3) rfl (by first | exact Or.inl rfl | exact Or.inr (Or.inl rfl) | exact Or.inr (Or.inr rfl))) pd_int)))) (pd_slice (pd_var (i := 1) rfl (by first | exact Or.inl rfl | exact Or.inr (Or.inl rfl) | exact Or.inr (Or.inr rfl))) (pdo_some (pd_var (i := 3) rfl (by first | exact Or.inl rfl | exact Or.inr (Or.inl rfl) | exact Or.inr (Or.inr rfl)))) pdo_none)))) pds_nil)
    (pds_one (pds_ret (pd_add (pd_add (pd_slice (pd_var (i := 1) rfl (by first | exact Or.inl rfl | exact Or.inr (Or.inl rfl) | exact Or.inr (Or.inr rfl))) pdo_none (pdo_some (pd_var (i := 3) rfl (by first | exact Or.inl rfl | exact Or.inr (Or.inl rfl) | exact Or.inr (Or.inr rfl))))) (pd_tup (pda_cons (pd_callA D__law_bent (ft.mono (by decide)) (by rfl) (pda_cons (pd_var (i := 0) rfl (by first | exact Or.inl rfl | exact Or.inr (Or.inl rfl) | exact Or.inr (Or.inr rfl))) (pda_cons (pd_ix (pd_var (i := 1) rfl (by first | exact Or.inl rfl | exact Or.inr (Or.inl rfl) | exact Or.inr (Or.inr rfl))) (pd_var (i := 3) rfl (by first | exact Or.inl rfl | exact Or.inr (Or.inl rfl) | exact Or.inr (Or.inr rfl)))) pda_nil))) pda_nil))) (pd_slice (pd_var (i := 1) rfl (by first | exact Or.inl rfl | exact Or.inr (Or.inl rfl) | exact Or.inr (Or.inr rfl))) (pdo_some (pd_add (pd_var (i := 3) rfl (by first | exact Or.inl rfl | exact Or.inr (Or.inl rfl) | exact Or.inr (Or.inr rfl))) pd_int)) pdo_none))))))))))
theorem ok__law_bent {w : World} {T : Txt} {mg : Str → Option Value} {base : Heap} (Z : Facts T mg) (D__law_odd : Def P w T mg base 2 17 "_law_odd" ["_law_pot_here"] f__law_odd) (D__law_take : Def P w T mg base 1 14 "_law_take" ["_law_pot_here", "_law_far"] f__law_take) (D__law_whole : Def P w T mg base 1 15 "_law_whole" ["_law_stuff"] f__law_whole) (D__law_bent : Def P w T mg base 3 18 "_law_bent" ["_law_pot_here", "_law_stuff"] f__law_bent1) (l : Lk T 18 "_law_bent" "_law_bent" st__law_bent) (hg : mg "_law_bent" = some (.ref (T.fa 18))) : Def P w T mg base 4 18 "_law_bent" ["_law_pot_here", "_law_stuff"] f__law_bent := by
  refine defD_of (m := m__law_bentF f__law_bent1) (k := 3) (N := ["_law_pot_here", "_law_stuff", "_law_way", "_law_at"]) (ps := ["_law_pot_here", "_law_stuff"]) (st := st__law_bent) l hg sc__law_bent (fun _ _ _ _ _ _ us hl => match us, hl with | [_, _], _ => rfl) fun cdv A outer s H E xp ft po => ?_
  exact (pds_cons (pds_if (pdt_not (pdt_truth (pd_blt (blt_isi Z.own Z.isT) (by rfl) Z.b_isinstance rfl (pda_cons (pd_var (i := 1) rfl (by first | exact Or.inl rfl | exact Or.inr (Or.inl rfl) | exact Or.inr (Or.inr rfl))) (pda_cons (pd_bt (n := "tuple") rfl Z.b_tuple (by rfl)) pda_nil))))) (pds_cons (pds_if (pdt_w (pdw_and (pdt_truth (pd_callA D__law_whole (ft.mono (by decide)) (by rfl) (pda_cons (pd_var (i := 1) rfl (by first | exact Or.inl rfl | exact Or.inr (Or.inl rfl) | exact Or.inr (Or.inr rfl))) pda_nil))) (pdw_and1 (pdt_cmp cmp_gt (pd_callA D__law_take (ft.mono (by decide)) (by rfl) (pda_cons (pd_var (i := 0) rfl (by first | exact Or.inl rfl | exact Or.inr (Or.inl rfl) | exact Or.inr (Or.inr rfl))) (pda_cons pd_int pda_nil))) pd_int (by rfl))))) (pds_one (pds_ret (pd_add (pd_var (i := 1) rfl (by first | exact Or.inl rfl | exact Or.inr (Or.inl rfl) | exact Or.inr (Or.inr rfl))) (pd_ix (pd_lst (pda_cons pd_int (pda_cons (pd_neg pd_int) (pda_cons pd_int (pda_cons pd_int (pda_cons pd_int (pda_cons (pd_neg (pd_pow pd_int pd_int)) pda_nil))))))) (pd_callA D__law_take (ft.mono (by decide)) (by rfl) (pda_cons (pd_var (i := 0) rfl (by first | exact Or.inl rfl | exact Or.inr (Or.inl rfl) | exact Or.inr (Or.inr rfl))) (pda_cons pd_int pda_nil))))))) pds_nil)
    (pds_one (pds_ret (pd_callA D__law_odd (ft.mono (by decide)) (by rfl) (pda_cons (pd_var (i := 0) rfl (by first | exact Or.inl rfl | exact Or.inr (Or.inl rfl) | exact Or.inr (Or.inr rfl))) pda_nil))))) pds_nil)
    (pds_cons (pds_set (i := 2) sc__law_bent.nd rfl (by first | exact Or.inl rfl | exact Or.inr rfl) (pd_callA D__law_take (ft.mono (by decide)) (by rfl) (pda_cons (pd_var (i := 0) rfl (by first | exact Or.inl rfl | exact Or.inr (Or.inl rfl) | exact Or.inr (Or.inr rfl))) (pda_cons pd_int pda_nil))))
    (pds_cons (pds_if (pdt_w (pdw_or (pdt_cmp (cmp_eq ft.u) (pd_var (i := 2) rfl (by first | exact Or.inl rfl | exact Or.inr (Or.inl rfl) | exact Or.inr (Or.inr rfl))) pd_int (by rfl)) (pdw_or1 (pdt_cmp (cmp_eq ft.u) (pd_var (i := 1) rfl (by first | exact Or.inl rfl | exact Or.inr (Or.inl rfl) | exact Or.inr (Or.inr rfl))) (pd_tup pda_nil) (by rfl))))) (pds_one (pds_ret (pd_ix (pd_lst (pda_cons (pd_callA D__law_odd (ft.mono (by decide)) (by rfl) (pda_cons (pd_var (i := 0) rfl (by first | exact Or.inl rfl | exact Or.inr (Or.inl rfl) | exact Or.inr (Or.inr rfl))) pda_nil)) (pda_cons (pd_ty ty_list (by rfl) Z.b_list rfl (pda_cons (pd_var (i := 1) rfl (by first | exact Or.inl rfl | exact Or.inr (Or.inl rfl) | exact Or.inr (Or.inr rfl))) pda_nil)) (pda_cons (pd_add (pd_var (i := 1) rfl (by first | exact Or.inl rfl | exact Or.inr (Or.inl rfl) | exact Or.inr (Or.inr rfl))) (pd_tup (pda_cons (pd_callA D__law_odd (ft.mono (by decide)) (by rfl) (pda_cons (pd_var (i := 0) rfl (by first | exact Or.inl rfl | exact Or.inr (Or.inl rfl) | exact Or.inr (Or.inr rfl))) pda_nil)) pda_nil))) (pda_cons (pd_add (pd_var (i := 1) rfl (by first | exact Or.inl rfl | exact Or.inr (Or.inl rfl) | exact Or.inr (Or.inr rfl))) (pd_slice (pd_var (i := 1) rfl (by first | exact Or.inl rfl | exact Or.inr (Or.inl rfl) | exact Or.inr (Or.inr rfl))) (pdo_some (pd_neg pd_int)) pdo_none)) pda_nil))))) (pd_callA D__law_take (ft.mono (by decide)) (by rfl) (pda_cons (pd_var (i := 0) rfl (by first | exact Or.inl rfl | exact Or.inr (Or.inl rfl) | exact Or.inr (Or.inr rfl))) (pda_cons pd_int pda_nil)))))) pds_nil)
    (pds_cons (pds_set (i := 3) sc__law_bent.nd rfl (by first | exact Or.inl rfl | exact Or.inr rfl) (pd_callA D__law_take (ft.mono (by decide)) (by rfl) (pda_cons (pd_var (i := 0) rfl (by first | exact Or.inl rfl | exact Or.inr (Or.inl rfl) | exact Or.inr (Or.inr rfl))) (pda_cons (pd_blt blt_lenA (by rfl) Z.b_len rfl (pda_cons (pd_var (i := 1) rfl (by first | exact Or.inl rfl | exact Or.inr (Or.inl rfl) | exact Or.inr (Or.inr rfl))) pda_nil)) pda_nil))))
    (pds_cons (pds_if (pdt_cmp (cmp_eq ft.u) (pd_var (i := 2) rfl (by first | exact Or.inl rfl | exact Or.inr (Or.inl rfl) | exact Or.inr (Or.inr rfl))) pd_int (by rfl)) (pds_one (pds_ret (pd_add (pd_slice (pd_var (i := 1) rfl (by first | exact Or.inl rfl | exact Or.inr (Or.inl rfl) | exact Or.inr (Or.inr rfl))) pdo_none (pdo_some (pd_var (i := 3) rfl (by first | exact Or.inl rfl | exact Or.inr (Or.inl rfl) | exact Or.inr (Or.inr rfl))))) (pd_slice (pd_var (i := 1) rfl (by first | exact Or.inl rfl | exact Or.inr (Or.inl rfl) | exact Or.inr (Or.inr rfl))) (pdo_some (pd_add (pd_var (i := 3) rfl (by first | exact Or.inl rfl | exact Or.inr (Or.inl rfl) | exact Or.inr (Or.inr rfl))) pd_int)) pdo_none)))) pds_nil)
    (pds_cons (pds_if (pdt_cmp (cmp_eq ft.u) (pd_var (i := 2) rfl (by first | exact Or.inl rfl | exact Or.inr (Or.inl rfl) | exact Or.inr (Or.inr rfl))) pd_int (by rfl)) (pds_one (pds_ret (pd_add (pd_add (pd_slice (pd_var (i := 1) rfl (by first | exact Or.inl rfl | exact Or.inr (Or.inl rfl) | exact Or.inr (Or.inr rfl))) pdo_none (pdo_some (pd_var (i := 3) rfl (by first | exact Or.inl rfl | exact Or.inr (Or.inl rfl) | exact Or.inr (Or.inr rfl))))) (pd_slice (pd_var (i := 1) rfl (by first | exact Or.inl rfl | exact Or.inr (Or.inl rfl) | exact Or.inr (Or.inr rfl))) (pdo_some (pd_var (i := 3) rfl (by first | exact Or.inl rfl | exact Or.inr (Or.inl rfl) | exact Or.inr (Or.inr rfl)))) (pdo_some (pd_add (pd_var (i := 3) rfl (by first | exact Or.inl rfl | exact Or.inr (Or.inl rfl) | exact Or.inr (Or.inr rfl))) pd_int)))) (pd_slice (pd_var (i := 1) rfl (by first | exact Or.inl rfl | exact Or.inr (Or.inl rfl) | exact Or.inr (Or.inr rfl))) (pdo_some (pd_var (i := 3) rfl (by first | exact Or.inl rfl | exact Or.inr (Or.inl rfl) | exact Or.inr (Or.inr rfl)))) pdo_none)))) pds_nil)
    (pds_one (pds_ret (pd_add (pd_add (pd_slice (pd_var (i := 1) rfl (by first | exact Or.inl rfl | exact Or.inr (Or.inl rfl) | exact Or.inr (Or.inr rfl))) pdo_none (pdo_some (pd_var (i := 3) rfl (by first | exact Or.inl rfl | exact Or.inr (Or.inl rfl) | exact Or.inr (Or.inr rfl))))) (pd_tup (pda_cons (pd_callA D__law_bent (ft.mono (by decide)) (by rfl) (pda_cons (pd_var (i := 0) rfl (by first | exact Or.inl rfl | exact Or.inr (Or.inl rfl) | exact Or.inr (Or.inr rfl))) (pda_cons (pd_ix (pd_var (i := 1) rfl (by first | exact Or.inl rfl | exact Or.inr (Or.inl rfl) | exact Or.inr (Or.inr rfl))) (pd_var (i := 3) rfl (by first | exact Or.inl rfl | exact Or.inr (Or.inl rfl) | exact Or.inr (Or.inr rfl)))) pda_nil))) pda_nil))) (pd_slice (pd_var (i := 1) rfl (by first | exact Or.inl rfl | exact Or.inr (Or.inl rfl) | exact Or.inr (Or.inr rfl))) (pdo_some (pd_add (pd_var (i := 3) rfl (by first | exact Or.inl rfl | exact Or.inr (Or.inl rfl) | exact Or.inr (Or.inr rfl))) pd_int)) pdo_none))))))))))
abbrev st__law_spans : Stmt := top 29
theorem sc__law_spans : FnScope ["_law_pot_here", "_law_begin", "_law_far", "_law_found", "_law_turn", "_law_first"] ["_law_pot_here"] (defScope st__law_spans) := ⟨rfl, rfl, rfl, by decide +kernel, rfl, by decide +kernel, by decide +kernel⟩
def m__law_spans : DS :=
    (sSeq (sPar 1 2 (dCons (dIx (dLst (dCons (dC (.int 0)) (dCons (dC (.int 500)) (dCons (dC (.int 985)) (dCons (dC (.int 990)) dNil))))) (dCallA 2 f__law_take (dCons (dVar 0) (dCons (dC (.int 4)) dNil)))) (dCons (dIx (dLst (dCons (dC (.int 3)) (dCons (dC (.int 12)) (dCons (dC (.int 30)) dNil)))) (dCallA 2 f__law_take (dCons (dVar 0) (dCons (dC (.int 3)) dNil)))) dNil)))
    (sSeq (sSet 3 dNewD)
    (sSeq (sForR1 (dCons (dCallA 2 f__law_take (dCons (dVar 0) (dCons (dC (.int 13)) dNil))) dNil) (g1 4)
    (sSeq (sSet 5 (dCB (orB (two fun i j => if j < i then j else i) (one (gBest PySem.W.minD))) (dCons (dC (.int 999)) (dCons (dAdd (dVar 1) (dCallA 2 f__law_take (dCons (dVar 0) (dCons (dVar 2) dNil)))) dNil))))
    (sSetK (dVar 3) (dCallA 2 f__law_take (dCons (dVar 0) (dCons (dC (.int 40)) dNil))) (dTup (dCons (dVar 5) (dCons (dCB (orB (two fun i j => if j < i then j else i) (one (gBest PySem.W.minD))) (dCons (dC (.int 999)) (dCons (dAdd (dVar 5) (dCallA 2 f__law_take (dCons (dVar 0) (dCons (dIx (dLst (dCons (dC (.int 1)) (dCons (dC (.int 4)) (dCons (dC (.int 12)) dNil)))) (dCallA 2 f__law_take (dCons (dVar 0) (dCons (dC (.int 3)) dNil)))) dNil)))) dNil))) dNil))))))
    (sRet (dFrzD (dVar 3))))))
def f__law_spans : DF := body 6 1 m__law_spans
theorem ok__law_spans {w : World} {T : Txt} {mg : Str → Option Value} {base : Heap} (Z : Facts T mg) (D__law_take : Def P w T mg base 1 14 "_law_take" ["_law_pot_here", "_law_far"] f__law_take) (l : Lk T 19 "_law_spans" "_law_spans" st__law_spans) (hg : mg "_law_spans" = some (.ref (T.fa 19))) : Def P w T mg base 2 19 "_law_spans" ["_law_pot_here"] f__law_spans := by
  refine defD_of (m := m__law_spans) (k := 1) (N := ["_law_pot_here", "_law_begin", "_law_far", "_law_found", "_law_turn", "_law_first"]) (ps := ["_law_pot_here"]) (st := st__law_spans) l hg sc__law_spans (fun _ _ _ _ _ _ us hl => match us, hl with | [_], _ => rfl) fun cdv A outer s H E xp ft po => ?_
  exact (pds_cons (pds_par (pz := ⟨0, 0, 0, 0⟩) (i := 1) (j := 2) rfl sc__law_spans.nd rfl rfl (by decide) rfl rfl (pda_cons (pd_ix (pd_lst (pda_cons pd_int (pda_cons pd_int (pda_cons pd_int (pda_cons pd_int pda_nil))))) (pd_callA D__law_take (ft.mono (by decide)) (by rfl) (pda_cons (pd_var (i := 0) rfl (by first | exact Or.inl rfl | exact Or.inr (Or.inl rfl) | exact Or.inr (Or.inr rfl))) (pda_cons pd_int pda_nil)))) (pda_cons (pd_ix (pd_lst (pda_cons pd_int (pda_cons pd_int (pda_cons pd_int pda_nil)))) (pd_callA D__law_take (ft.mono (by decide)) (by rfl) (pda_cons (pd_var (i := 0) rfl (by first | exact Or.inl rfl | exact Or.inr (Or.inl rfl) | exact Or.inr (Or.inr rfl))) (pda_cons pd_int pda_nil)))) pda_nil)) (by rfl))
    (pds_cons (pds_set (i := 3) sc__law_spans.nd rfl (by first | exact Or.inl rfl | exact Or.inr rfl) pd_newD)
    (pds_cons (pds_forR1 po rfl (by rfl) Z.b_range (pda_cons (pd_callA D__law_take (ft.mono (by decide)) (by rfl) (pda_cons (pd_var (i := 0) rfl (by first | exact Or.inl rfl | exact Or.inr (Or.inl rfl) | exact Or.inr (Or.inr rfl))) (pda_cons pd_int pda_nil))) pda_nil) (pg_name (i := 4) sc__law_spans.nd rfl (by first | exact Or.inl rfl | exact Or.inr rfl)) (tg_one 4)
    (pds_cons (pds_set (i := 5) sc__law_spans.nd rfl (by first | exact Or.inl rfl | exact Or.inr rfl) (pd_blt (blt_minA rfl ft.u) (by rfl) Z.b_min rfl (pda_cons pd_int (pda_cons (pd_add (pd_var (i := 1) rfl (by first | exact Or.inl rfl | exact Or.inr (Or.inl rfl) | exact Or.inr (Or.inr rfl))) (pd_callA D__law_take (ft.mono (by decide)) (by rfl) (pda_cons (pd_var (i := 0) rfl (by first | exact Or.inl rfl | exact Or.inr (Or.inl rfl) | exact Or.inr (Or.inr rfl))) (pda_cons (pd_var (i := 2) rfl (by first | exact Or.inl rfl | exact Or.inr (Or.inl rfl) | exact Or.inr (Or.inr rfl))) pda_nil)))) pda_nil))))
    (pds_one (pds_setK (pd_tup (pda_cons (pd_var (i := 5) rfl (by first | exact Or.inl rfl | exact Or.inr (Or.inl rfl) | exact Or.inr (Or.inr rfl))) (pda_cons (pd_blt (blt_minA rfl ft.u) (by rfl) Z.b_min rfl (pda_cons pd_int (pda_cons (pd_add (pd_var (i := 5) rfl (by first | exact Or.inl rfl | exact Or.inr (Or.inl rfl) | exact Or.inr (Or.inr rfl))) (pd_callA D__law_take (ft.mono (by decide)) (by rfl) (pda_cons (pd_var (i := 0) rfl (by first | exact Or.inl rfl | exact Or.inr (Or.inl rfl) | exact Or.inr (Or.inr rfl))) (pda_cons (pd_ix (pd_lst (pda_cons pd_int (pda_cons pd_int (pda_cons pd_int pda_nil)))) (pd_callA D__law_take (ft.mono (by decide)) (by rfl) (pda_cons (pd_var (i := 0) rfl (by first | exact Or.inl rfl | exact Or.inr (Or.inl rfl) | exact Or.inr (Or.inr rfl))) (pda_cons pd_int pda_nil)))) pda_nil)))) pda_nil))) pda_nil))) (pd_var (i := 3) rfl (by first | exact Or.inl rfl | exact Or.inr (Or.inl rfl) | exact Or.inr (Or.inr rfl))) (pd_callA D__law_take (ft.mono (by decide)) (by rfl) (pda_cons (pd_var (i := 0) rfl (by first | exact Or.inl rfl | exact Or.inr (Or.inl rfl) | exact Or.inr (Or.inr rfl))) (pda_cons pd_int pda_nil))) (fun _ _ a b => pg_sub a b (set_dict ft.u1))))))
    (pds_one (pds_ret (pd_frzD (pd_var (i := 3) rfl (by first | exact Or.inl rfl | exact Or.inr (Or.inl rfl) | exact Or.inr (Or.inr rfl)))))))))
abbrev st__law_within_of : Stmt := top 30
theorem sc__law_within_of : FnScope ["_law_given", "_law_first", "_law_last", "_law_number"] ["_law_given", "_law_first", "_law_last"] (defScope st__law_within_of) := ⟨rfl, rfl, rfl, by decide +kernel, rfl, by decide +kernel, by decide +kernel⟩
def m__law_within_of : DS :=
    (sRet (dCB (orB (one gLen) (one gLenK)) (dCons (dLc (iKeysD (dVar 0)) (g1 3) (tAndD (asB (dOp2 fLe (dVar 1) (dIx (dIxK (dVar 0) (dVar 3)) (dC (.int 0))))) (asB (dOp2 fLe (dIx (dIxK (dVar 0) (dVar 3)) (dC (.int 1))) (dVar 2)))) (dC (.int 1)) [3]) dNil)))
def f__law_within_of : DF := body 4 3 m__law_within_of
theorem ok__law_within_of {w : World} {T : Txt} {mg : Str → Option Value} {base : Heap} (Z : Facts T mg) (l : Lk T 20 "_law_within_of" "_law_within_of" st__law_within_of) (hg : mg "_law_within_of" = some (.ref (T.fa 20))) : Def P w T mg base 1 20 "_law_within_of" ["_law_given", "_law_first", "_law_last"] f__law_within_of := by
  refine defD_of (m := m__law_within_of) (k := 0) (N := ["_law_given", "_law_first", "_law_last", "_law_number"]) (ps := ["_law_given", "_law_first", "_law_last"]) (st := st__law_within_of) l hg sc__law_within_of (fun _ _ _ _ _ _ us hl => match us, hl with | [_, _, _], _ => rfl) fun cdv A outer s H E xp ft po => ?_
  exact (pds_one (pds_ret (pd_blt blt_lenA (by rfl) Z.b_len rfl (pda_cons (pd_lc (own := [("_law_number", 3)]) rfl sc__law_within_of.nd (pdi_keys (pd_var (i := 0) rfl (by first | exact Or.inl rfl | exact Or.inr (Or.inl rfl) | exact Or.inr (Or.inr rfl)))) (blkOk_by rfl) (fun _ _ _ _ _ => pg_name (i := 3) sc__law_within_of.nd rfl (by first | exact Or.inl rfl | exact Or.inr rfl)) (tg_one 3) (by decide) (fun _ _ _ _ _ => (pdts_one (pdt_w (pdw_and (pdt_cmp cmp_le (pd_var (i := 1) rfl (by first | exact Or.inl rfl | exact Or.inr (Or.inl rfl) | exact Or.inr (Or.inr rfl))) (pd_ix (pd_ixK (ft.blk _ _ _ _ _ _).u (pd_var (i := 0) rfl (by first | exact Or.inl rfl | exact Or.inr (Or.inl rfl) | exact Or.inr (Or.inr rfl))) (pd_var (i := 3) rfl (by first | exact Or.inl rfl | exact Or.inr (Or.inl rfl) | exact Or.inr (Or.inr rfl)))) pd_int) (by rfl)) (pdw_and1 (pdt_cmp cmp_le (pd_ix (pd_ixK (ft.blk _ _ _ _ _ _).u (pd_var (i := 0) rfl (by first | exact Or.inl rfl | exact Or.inr (Or.inl rfl) | exact Or.inr (Or.inr rfl))) (pd_var (i := 3) rfl (by first | exact Or.inl rfl | exact Or.inr (Or.inl rfl) | exact Or.inr (Or.inr rfl)))) pd_int) (pd_var (i := 2) rfl (by first | exact Or.inl rfl | exact Or.inr (Or.inl rfl) | exact Or.inr (Or.inr rfl))) (by rfl))))))) (fun _ _ _ _ _ => pd_int)) pda_nil))))
abbrev st__law_crowd : Stmt := top 31
theorem sc__law_crowd : FnScope ["_law_given", "_law_pace", "_law_ends", "_law_low", "_law_first", "_law_last", "_law_many", "_law_number"] ["_law_given", "_law_pace"] (defScope st__law_crowd) := ⟨rfl, rfl, rfl, by decide +kernel, rfl, by decide +kernel, by decide +kernel⟩
def m__law_crowd : DS :=
    (sSeq (sIf (asB (dOp2 fEq (dCB (orB (one gLen) (one gLenK)) (dCons (dVar 0) dNil)) (dC (.int 0)))) (sRet (dC .non)) sNext)
    (sSeq (sSet 2 (dLc (iKeysD (dVar 0)) (g1 7) tYesD (dIx (dIxK (dVar 0) (dVar 7)) (dC (.int 1))) [7]))
    (sSeq (sSet 3 (dCB (orB (two fun i j => if j > i then j else i) (one (gBest PySem.W.maxD))) (dCons (dC (.int 0)) (dCons (dSub (dCB (orB (two fun i j => if j < i then j else i) (one (gBest PySem.W.minD))) (dCons (dLc (iKeysD (dVar 0)) (g1 7) tYesD (dIx (dIxK (dVar 0) (dVar 7)) (dC (.int 0))) [7]) dNil)) (dC (.int 13))) dNil))))
    (sSeq (sForR2 (dCons (dVar 3) (dCons (dAdd (dCB (orB (two fun i j => if j > i then j else i) (one (gBest PySem.W.maxD))) (dCons (dVar 2) dNil)) (dC (.int 1))) dNil)) (g1 4)
    (sForR2 (dCons (dVar 4) (dCons (dAdd (dCB (orB (two fun i j => if j > i then j else i) (one (gBest PySem.W.maxD))) (dCons (dVar 2) dNil)) (dC (.int 1))) dNil)) (g1 5)
    (sSeq (sSet 6 (dCallA 3 f__law_within_of (dCons (dVar 0) (dCons (dVar 4) (dCons (dVar 5) dNil)))))
    (sIf (asB (dOp2 fGt (dVar 6) (dMulA (dVar 1) (dAdd (dSub (dVar 5) (dVar 4)) (dC (.int 1)))))) (sRet (dTup (dCons (dVar 4) (dCons (dVar 5) (dCons (dVar 6) dNil))))) sNext))))
    (sRet (dC .non))))))
def f__law_crowd : DF := body 8 2 m__law_crowd
theorem ok__law_crowd {w : World} {T : Txt} {mg : Str → Option Value} {base : Heap} (Z : Facts T mg) (D__law_within_of : Def P w T mg base 1 20 "_law_within_of" ["_law_given", "_law_first", "_law_last"] f__law_within_of) (l : Lk T 21 "_law_crowd" "_law_crowd" st__law_crowd) (hg : mg "_law_crowd" = some (.ref (T.fa 21))) : Def P w T mg base 2 21 "_law_crowd" ["_law_given", "_law_pace"] f__law_crowd := by
  refine defD_of (m := m__law_crowd) (k := 1) (N := ["_law_given", "_law_pace", "_law_ends", "_law_low", "_law_first", "_law_last", "_law_many", "_law_number"]) (ps := ["_law_given", "_law_pace"]) (st := st__law_crowd) l hg sc__law_crowd (fun _ _ _ _ _ _ us hl => match us, hl with | [_, _], _ => rfl) fun cdv A outer s H E xp ft po => ?_
  exact (pds_cons (pds_if (pdt_cmp (cmp_eq ft.u) (pd_blt blt_lenA (by rfl) Z.b_len rfl (pda_cons (pd_var (i := 0) rfl (by first | exact Or.inl rfl | exact Or.inr (Or.inl rfl) | exact Or.inr (Or.inr rfl))) pda_nil)) pd_int (by rfl)) (pds_one (pds_ret pd_non)) pds_nil)
    (pds_cons (pds_setLc (i := 2) (own := [("_law_number", 7)]) rfl sc__law_crowd.nd rfl rfl (pdi_keys (pd_var (i := 0) rfl (by first | exact Or.inl rfl | exact Or.inr (Or.inl rfl) | exact Or.inr (Or.inr rfl)))) (blkOk_by rfl) (fun _ _ _ _ _ => pg_name (i := 7) sc__law_crowd.nd rfl (by first | exact Or.inl rfl | exact Or.inr rfl)) (tg_one 7) (by decide) (fun _ _ _ _ _ => pdts_nil) (fun _ _ _ _ _ => (pd_ix (pd_ixK (ft.blk _ _ _ _ _ _).u (pd_var (i := 0) rfl (by first | exact Or.inl rfl | exact Or.inr (Or.inl rfl) | exact Or.inr (Or.inr rfl))) (pd_var (i := 7) rfl (by first | exact Or.inl rfl | exact Or.inr (Or.inl rfl) | exact Or.inr (Or.inr rfl)))) pd_int)))
    (pds_cons (pds_set (i := 3) sc__law_crowd.nd rfl (by first | exact Or.inl rfl | exact Or.inr rfl) (pd_blt (blt_maxA rfl ft.u) (by rfl) Z.b_max rfl (pda_cons pd_int (pda_cons (pd_sub (pd_blt (blt_minA rfl ft.u) (by rfl) Z.b_min rfl (pda_cons (pd_lc (own := [("_law_number", 7)]) rfl sc__law_crowd.nd (pdi_keys (pd_var (i := 0) rfl (by first | exact Or.inl rfl | exact Or.inr (Or.inl rfl) | exact Or.inr (Or.inr rfl)))) (blkOk_by rfl) (fun _ _ _ _ _ => pg_name (i := 7) sc__law_crowd.nd rfl (by first | exact Or.inl rfl | exact Or.inr rfl)) (tg_one 7) (by decide) (fun _ _ _ _ _ => pdts_nil) (fun _ _ _ _ _ => (pd_ix (pd_ixK (ft.blk _ _ _ _ _ _).u (pd_var (i := 0) rfl (by first | exact Or.inl rfl | exact Or.inr (Or.inl rfl) | exact Or.inr (Or.inr rfl))) (pd_var (i := 7) rfl (by first | exact Or.inl rfl | exact Or.inr (Or.inl rfl) | exact Or.inr (Or.inr rfl)))) pd_int))) pda_nil)) pd_int) pda_nil))))
    (pds_cons (pds_forR2 po rfl (by rfl) Z.b_range (pda_cons (pd_var (i := 3) rfl (by first | exact Or.inl rfl | exact Or.inr (Or.inl rfl) | exact Or.inr (Or.inr rfl))) (pda_cons (pd_add (pd_blt (blt_maxA rfl ft.u) (by rfl) Z.b_max rfl (pda_cons (pd_var (i := 2) rfl (by first | exact Or.inl rfl | exact Or.inr (Or.inl rfl) | exact Or.inr (Or.inr rfl))) pda_nil)) pd_int) pda_nil)) (pg_name (i := 4) sc__law_crowd.nd rfl (by first | exact Or.inl rfl | exact Or.inr rfl)) (tg_one 4)
    (pds_one (pds_forR2 po rfl (by rfl) Z.b_range (pda_cons (pd_var (i := 4) rfl (by first | exact Or.inl rfl | exact Or.inr (Or.inl rfl) | exact Or.inr (Or.inr rfl))) (pda_cons (pd_add (pd_blt (blt_maxA rfl ft.u) (by rfl) Z.b_max rfl (pda_cons (pd_var (i := 2) rfl (by first | exact Or.inl rfl | exact Or.inr (Or.inl rfl) | exact Or.inr (Or.inr rfl))) pda_nil)) pd_int) pda_nil)) (pg_name (i := 5) sc__law_crowd.nd rfl (by first | exact Or.inl rfl | exact Or.inr rfl)) (tg_one 5)
    (pds_cons (pds_set (i := 6) sc__law_crowd.nd rfl (by first | exact Or.inl rfl | exact Or.inr rfl) (pd_callA D__law_within_of (ft.mono (by decide)) (by rfl) (pda_cons (pd_var (i := 0) rfl (by first | exact Or.inl rfl | exact Or.inr (Or.inl rfl) | exact Or.inr (Or.inr rfl))) (pda_cons (pd_var (i := 4) rfl (by first | exact Or.inl rfl | exact Or.inr (Or.inl rfl) | exact Or.inr (Or.inr rfl))) (pda_cons (pd_var (i := 5) rfl (by first | exact Or.inl rfl | exact Or.inr (Or.inl rfl) | exact Or.inr (Or.inr rfl))) pda_nil)))))
    (pds_one (pds_if (pdt_cmp cmp_gt (pd_var (i := 6) rfl (by first | exact Or.inl rfl | exact Or.inr (Or.inl rfl) | exact Or.inr (Or.inr rfl))) (pd_mulA (pd_var (i := 1) rfl (by first | exact Or.inl rfl | exact Or.inr (Or.inl rfl) | exact Or.inr (Or.inr rfl))) (pd_add (pd_sub (pd_var (i := 5) rfl (by first | exact Or.inl rfl | exact Or.inr (Or.inl rfl) | exact Or.inr (Or.inr rfl))) (pd_var (i := 4) rfl (by first | exact Or.inl rfl | exact Or.inr (Or.inl rfl) | exact Or.inr (Or.inr rfl)))) pd_int)) (by rfl)) (pds_one (pds_ret (pd_tup (pda_cons (pd_var (i := 4) rfl (by first | exact Or.inl rfl | exact Or.inr (Or.inl rfl) | exact Or.inr (Or.inr rfl))) (pda_cons (pd_var (i := 5) rfl (by first | exact Or.inl rfl | exact Or.inr (Or.inl rfl) | exact Or.inr (Or.inr rfl))) (pda_cons (pd_var (i := 6) rfl (by first | exact Or.inl rfl | exact Or.inr (Or.inl rfl) | exact Or.inr (Or.inr rfl))) pda_nil)))))) pds_nil))))))
    (pds_one (pds_ret pd_non))))))
abbrev st__law_is_span : Stmt := top 32
theorem sc__law_is_span : FnScope ["_law_stuff", "_law_one"] ["_law_stuff"] (defScope st__law_is_span) := ⟨rfl, rfl, rfl, by decide +kernel, rfl, by decide +kernel, by decide +kernel⟩
def m__law_is_span : DS :=
    (sSeq (sIf (tOrD (tNotD (dTruth (dCB (bIsi [] isT) (dCons (dVar 0) (dCons (dC (.ty "tuple")) dNil))))) (tOrD (asB (dOp2 fNe (dCB (orB (one gLen) (one gLenK)) (dCons (dVar 0) dNil)) (dC (.int 2)))) (tNotD (dTruth (dCB (one gAll) (dCons (dLcT (dVar 0) (g1 1) tYesD (dCallA 3 f__law_within (dCons (dVar 1) (dCons (dC (.int 0)) (dCons (dC (.int 999)) dNil)))) [1]) dNil)))))) (sRet (dC (.bl false))) sNext)
    (sRet (dOp2 fLe (dIx (dVar 0) (dC (.int 0))) (dIx (dVar 0) (dC (.int 1))))))
def f__law_is_span : DF := body 2 1 m__law_is_span
theorem ok__law_is_span {w : World} {T : Txt} {mg : Str → Option Value} {base : Heap} (Z : Facts T mg) (D__law_within : Def P w T mg base 2 16 "_law_within" ["_law_stuff", "_law_low", "_law_high"] f__law_within) (l : Lk T 22 "_law_is_span" "_law_is_span" st__law_is_span) (hg : mg "_law_is_span" = some (.ref (T.fa 22))) : Def P w T mg base 3 22 "_law_is_span" ["_law_stuff"] f__law_is_span := by
  refine defD_of (m := m__law_is_span) (k := 2) (N := ["_law_stuff", "_law_one"]) (ps := ["_law_stuff"]) (st := st__law_is_span) l hg sc__law_is_span (fun _ _ _ _ _ _ us hl => match us, hl with | [_], _ => rfl) fun cdv A outer s H E xp ft po => ?_
  exact (pds_cons (pds_if (pdt_w (pdw_or (pdt_not (pdt_truth (pd_blt (blt_isi Z.own Z.isT) (by rfl) Z.b_isinstance rfl (pda_cons (pd_var (i := 0) rfl (by first | exact Or.inl rfl | exact Or.inr (Or.inl rfl) | exact Or.inr (Or.inr rfl))) (pda_cons (pd_bt (n := "tuple") rfl Z.b_tuple (by rfl)) pda_nil))))) (pdw_or (pdt_cmp (cmp_ne ft.u) (pd_blt blt_lenA (by rfl) Z.b_len rfl (pda_cons (pd_var (i := 0) rfl (by first | exact Or.inl rfl | exact Or.inr (Or.inl rfl) | exact Or.inr (Or.inr rfl))) pda_nil)) pd_int (by rfl)) (pdw_or1 (pdt_not (pdt_truth (pd_blt (blt_all rfl) (by rfl) Z.b_all rfl (pda_cons (pd_lcT (own := [("_law_one", 1)]) rfl sc__law_is_span.nd (pd_var (i := 0) rfl (by first | exact Or.inl rfl | exact Or.inr (Or.inl rfl) | exact Or.inr (Or.inr rfl))) (blkOk_by rfl) (fun _ _ _ _ _ => pg_name (i := 1) sc__law_is_span.nd rfl (by first | exact Or.inl rfl | exact Or.inr rfl)) (tg_one 1) (by decide) (fun _ _ _ _ _ => pdts_nil) (fun _ _ _ _ _ => (pd_callA D__law_within ((ft.blk _ _ _ _ _ _).mono (by decide)) (by rfl) (pda_cons (pd_var (i := 1) rfl (by first | exact Or.inl rfl | exact Or.inr (Or.inl rfl) | exact Or.inr (Or.inr rfl))) (pda_cons pd_int (pda_cons pd_int pda_nil)))))) pda_nil)))))))) (pds_one (pds_ret pd_bl)) pds_nil)
    (pds_one (pds_ret (pd_cmpD cmp_le (pd_ix (pd_var (i := 0) rfl (by first | exact Or.inl rfl | exact Or.inr (Or.inl rfl) | exact Or.inr (Or.inr rfl))) pd_int) (pd_ix (pd_var (i := 0) rfl (by first | exact Or.inl rfl | exact Or.inr (Or.inl rfl) | exact Or.inr (Or.inr rfl))) pd_int) (by rfl)))))
abbrev st__law_is_crowd : Stmt := top 33
theorem sc__law_is_crowd : FnScope ["_law_given", "_law_pace", "_law_stuff"] ["_law_given", "_law_pace", "_law_stuff"] (defScope st__law_is_crowd) := ⟨rfl, rfl, rfl, by decide +kernel, rfl, by decide +kernel, by decide +kernel⟩
def m__law_is_crowd : DS :=
    (sSeq (sIf (tNotD (dTruth (dCallA 1 f__law_is_span (dCons (dVar 2) dNil)))) (sRet (dC (.bl false))) sNext)
    (sRet (dOp2 fGt (dCallA 3 f__law_within_of (dCons (dVar 0) (dCons (dIx (dVar 2) (dC (.int 0))) (dCons (dIx (dVar 2) (dC (.int 1))) dNil)))) (dMulA (dVar 1) (dAdd (dSub (dIx (dVar 2) (dC (.int 1))) (dIx (dVar 2) (dC (.int 0)))) (dC (.int 1)))))))
def f__law_is_crowd : DF := body 3 3 m__law_is_crowd
theorem ok__law_is_crowd {w : World} {T : Txt} {mg : Str → Option Value} {base : Heap} (Z : Facts T mg) (D__law_is_span : Def P w T mg base 3 22 "_law_is_span" ["_law_stuff"] f__law_is_span) (D__law_within_of : Def P w T mg base 1 20 "_law_within_of" ["_law_given", "_law_first", "_law_last"] f__law_within_of) (l : Lk T 23 "_law_is_crowd" "_law_is_crowd" st__law_is_crowd) (hg : mg "_law_is_crowd" = some (.ref (T.fa 23))) : Def P w T mg base 4 23 "_law_is_crowd" ["_law_given", "_law_pace", "_law_stuff"] f__law_is_crowd := by
  refine defD_of (m := m__law_is_crowd) (k := 3) (N := ["_law_given", "_law_pace", "_law_stuff"]) (ps := ["_law_given", "_law_pace", "_law_stuff"]) (st := st__law_is_crowd) l hg sc__law_is_crowd (fun _ _ _ _ _ _ us hl => match us, hl with | [_, _, _], _ => rfl) fun cdv A outer s H E xp ft po => ?_
  exact (pds_cons (pds_if (pdt_not (pdt_truth (pd_callA D__law_is_span (ft.mono (by decide)) (by rfl) (pda_cons (pd_var (i := 2) rfl (by first | exact Or.inl rfl | exact Or.inr (Or.inl rfl) | exact Or.inr (Or.inr rfl))) pda_nil)))) (pds_one (pds_ret pd_bl)) pds_nil)
    (pds_one (pds_ret (pd_cmpD cmp_gt (pd_callA D__law_within_of (ft.mono (by decide)) (by rfl) (pda_cons (pd_var (i := 0) rfl (by first | exact Or.inl rfl | exact Or.inr (Or.inl rfl) | exact Or.inr (Or.inr rfl))) (pda_cons (pd_ix (pd_var (i := 2) rfl (by first | exact Or.inl rfl | exact Or.inr (Or.inl rfl) | exact Or.inr (Or.inr rfl))) pd_int) (pda_cons (pd_ix (pd_var (i := 2) rfl (by first | exact Or.inl rfl | exact Or.inr (Or.inl rfl) | exact Or.inr (Or.inr rfl))) pd_int) pda_nil)))) (pd_mulA (pd_var (i := 1) rfl (by first | exact Or.inl rfl | exact Or.inr (Or.inl rfl) | exact Or.inr (Or.inr rfl))) (pd_add (pd_sub (pd_ix (pd_var (i := 2) rfl (by first | exact Or.inl rfl | exact Or.inr (Or.inl rfl) | exact Or.inr (Or.inr rfl))) pd_int) (pd_ix (pd_var (i := 2) rfl (by first | exact Or.inl rfl | exact Or.inr (Or.inl rfl) | exact Or.inr (Or.inr rfl))) pd_int)) pd_int)) (by rfl)))))
abbrev st__law_told : Stmt := top 34
theorem sc__law_told : FnScope ["_law_given", "_law_stuff", "_law_pace"] ["_law_given", "_law_stuff", "_law_pace"] (defScope st__law_told) := ⟨rfl, rfl, rfl, by decide +kernel, rfl, by decide +kernel, by decide +kernel⟩
def m__law_told : DS :=
    (sSeq (sIf (asB (dOp2 fEq (dVar 2) (dC (.int 1)))) (sRet (dLst (dCons (dCall 1 0 gd_crowd_1 f_crowd (dCons (dVar 0) dNil) dNil) (dCons (dCall 2 0 gd_is_crowd_2 f_is_crowd (dCons (dVar 0) (dCons (dVar 1) dNil)) dNil) (dCons (dCall 0 2 gd_is_crowd_0_thing_spans f_is_crowd dNil (dCons (dVar 1) (dCons (dVar 0) dNil))) dNil))))) sNext)
    (sRet (dLst (dCons (dCall 1 1 gd_crowd_1_rate f_crowd (dCons (dVar 0) dNil) (dCons (dVar 2) dNil)) (dCons (dCall 3 0 gd_is_crowd_3 f_is_crowd (dCons (dVar 0) (dCons (dVar 1) (dCons (dVar 2) dNil))) dNil) (dCons (dCall 1 2 gd_is_crowd_1_rate_thing f_is_crowd (dCons (dVar 0) dNil) (dCons (dVar 2) (dCons (dVar 1) dNil))) dNil))))))
def f__law_told : DF := body 3 3 m__law_told
theorem ok__law_told {w : World} {T : Txt} {mg : Str → Option Value} {base : Heap} (Z : Facts T mg) (K_crowd : DefK P w T mg base 7 10 "crowd" ["spans", "rate"] f_crowd ways_crowd) (K_is_crowd : DefK P w T mg base 7 11 "is_crowd" ["spans", "thing", "rate"] f_is_crowd ways_is_crowd) (l : Lk T 24 "_law_told" "_law_told" st__law_told) (hg : mg "_law_told" = some (.ref (T.fa 24))) : Def P w T mg base 8 24 "_law_told" ["_law_given", "_law_stuff", "_law_pace"] f__law_told := by
  refine defD_of (m := m__law_told) (k := 7) (N := ["_law_given", "_law_stuff", "_law_pace"]) (ps := ["_law_given", "_law_stuff", "_law_pace"]) (st := st__law_told) l hg sc__law_told (fun _ _ _ _ _ _ us hl => match us, hl with | [_, _, _], _ => rfl) fun cdv A outer s H E xp ft po => ?_
  exact (pds_cons (pds_if (pdt_cmp (cmp_eq ft.u) (pd_var (i := 2) rfl (by first | exact Or.inl rfl | exact Or.inr (Or.inl rfl) | exact Or.inr (Or.inr rfl))) pd_int (by rfl)) (pds_one (pds_ret (pd_lst (pda_cons (pd_callK K_crowd (List.mem_cons_of_mem _ List.mem_cons_self) (ft.mono (by decide)) (by rfl) (pda_cons (pd_var (i := 0) rfl (by first | exact Or.inl rfl | exact Or.inr (Or.inl rfl) | exact Or.inr (Or.inr rfl))) pda_nil) pdk_nil) (pda_cons (pd_callK K_is_crowd (List.mem_cons_of_mem _ (List.mem_cons_of_mem _ (List.mem_cons_of_mem _ List.mem_cons_self))) (ft.mono (by decide)) (by rfl) (pda_cons (pd_var (i := 0) rfl (by first | exact Or.inl rfl | exact Or.inr (Or.inl rfl) | exact Or.inr (Or.inr rfl))) (pda_cons (pd_var (i := 1) rfl (by first | exact Or.inl rfl | exact Or.inr (Or.inl rfl) | exact Or.inr (Or.inr rfl))) pda_nil)) pdk_nil) (pda_cons (pd_callK0 K_is_crowd (List.mem_cons_of_mem _ (List.mem_cons_of_mem _ List.mem_cons_self)) (ft.mono (by decide)) (by rfl)  (pdk_cons (pd_var (i := 1) rfl (by first | exact Or.inl rfl | exact Or.inr (Or.inl rfl) | exact Or.inr (Or.inr rfl))) (pdk_cons (pd_var (i := 0) rfl (by first | exact Or.inl rfl | exact Or.inr (Or.inl rfl) | exact Or.inr (Or.inr rfl))) pdk_nil))) pda_nil)))))) pds_nil)
    (pds_one (pds_ret (pd_lst (pda_cons (pd_callK K_crowd List.mem_cons_self (ft.mono (by decide)) (by rfl) (pda_cons (pd_var (i := 0) rfl (by first | exact Or.inl rfl | exact Or.inr (Or.inl rfl) | exact Or.inr (Or.inr rfl))) pda_nil) (pdk_cons (pd_var (i := 2) rfl (by first | exact Or.inl rfl | exact Or.inr (Or.inl rfl) | exact Or.inr (Or.inr rfl))) pdk_nil)) (pda_cons (pd_callK K_is_crowd (List.mem_cons_of_mem _ List.mem_cons_self) (ft.mono (by decide)) (by rfl) (pda_cons (pd_var (i := 0) rfl (by first | exact Or.inl rfl | exact Or.inr (Or.inl rfl) | exact Or.inr (Or.inr rfl))) (pda_cons (pd_var (i := 1) rfl (by first | exact Or.inl rfl | exact Or.inr (Or.inl rfl) | exact Or.inr (Or.inr rfl))) (pda_cons (pd_var (i := 2) rfl (by first | exact Or.inl rfl | exact Or.inr (Or.inl rfl) | exact Or.inr (Or.inr rfl))) pda_nil))) pdk_nil) (pda_cons (pd_callK K_is_crowd List.mem_cons_self (ft.mono (by decide)) (by rfl) (pda_cons (pd_var (i := 0) rfl (by first | exact Or.inl rfl | exact Or.inr (Or.inl rfl) | exact Or.inr (Or.inr rfl))) pda_nil) (pdk_cons (pd_var (i := 2) rfl (by first | exact Or.inl rfl | exact Or.inr (Or.inl rfl) | exact Or.inr (Or.inr rfl))) (pdk_cons (pd_var (i := 1) rfl (by first | exact Or.inl rfl | exact Or.inr (Or.inl rfl) | exact Or.inr (Or.inr rfl))) pdk_nil))) pda_nil)))))))
abbrev st_law : Stmt := top 35
theorem sc_law : FnScope ["_law_script", "_law_k", "_law_pot_here", "_law_turn", "_law_given", "_law_pace", "_law_due", "_law_kept", "_law_firsts", "_law_lasts", "_law_things", "_law_lap", "_law_first", "_law_stuff", "_law_so", "_law_one"] ["_law_script"] (defScope st_law) := ⟨rfl, rfl, rfl, by decide +kernel, rfl, by decide +kernel, by decide +kernel⟩
def m_law : DS :=
    (sSeq (sForR1 (dCons (dCB (orB (two fun i j => if j > i then j else i) (one (gBest PySem.W.maxD))) (dCons (dC (.int 1)) (dCons (dCB (orB (two fun i j => if j < i then j else i) (one (gBest PySem.W.minD))) (dCons (dCB (orB (one gLen) (one gLenK)) (dCons (dVar 0) dNil)) (dCons (dC (.int 4)) dNil))) dNil))) dNil) (g1 1)
    (sSeq (sSet 2 (dCallA 1 f__law_pot (dCons (dCallA 2 f__law_cell_at (dCons (dVar 0) (dCons (dVar 1) dNil))) dNil)))
    (sForR1 (dCons (dC (.int 2)) dNil) (g1 3)
    (sSeq (sAsg (gT [4, 5]) (dTup (dCons (dCallA 1 f__law_spans (dCons (dVar 2) dNil)) (dCons (dAdd (dC (.int 1)) (dCallA 2 f__law_take (dCons (dVar 2) (dCons (dIx (dLst (dCons (dC (.int 1)) (dCons (dC (.int 2)) (dCons (dC (.int 4)) dNil)))) (dCallA 2 f__law_take (dCons (dVar 2) (dCons (dC (.int 3)) dNil)))) dNil)))) dNil))))
    (sSeq (sPar 6 7 (dCons (dCallA 2 f__law_crowd (dCons (dVar 4) (dCons (dVar 5) dNil))) (dCons (dCB (orB (one gRepr) (one gReprK)) (dCons (dVar 4) dNil)) dNil)))
    (sSeq (sSet 8 (dSortSet (dAdd (dLc (iKeysD (dVar 4)) (g1 15) tYesD (dIx (dIxK (dVar 4) (dVar 15)) (dC (.int 0))) [15]) (dLst (dCons (dC (.int 0)) (dCons (dC (.int 999)) dNil))))))
    (sSeq (sSet 9 (dSortSet (dAdd (dLc (iKeysD (dVar 4)) (g1 15) tYesD (dIx (dIxK (dVar 4) (dVar 15)) (dC (.int 1))) [15]) (dLst (dCons (dC (.int 0)) (dCons (dC (.int 999)) dNil))))))
    (sSeq (sSet 10 (dNew (dCons (dC .non) (dCons (dTup dNil) (dCons (dLst (dCons (dC (.int 3)) (dCons (dC (.int 4)) dNil))) (dCons (dTup (dCons (dC (.int 4)) (dCons (dC (.int 3)) dNil))) (dCons (dTup (dCons (dC (.int 0)) (dCons (dC (.int 1000)) dNil))) (dCons (dTup (dCons (dNeg (dC (.int 1))) (dCons (dC (.int 3)) dNil))) (dCons (dTup (dCons (dC (.bl true)) (dCons (dC (.int 3)) dNil))) (dCons (dTup (dCons (dC (.int 3)) dNil)) (dCons (dTup (dCons (dC (.int 3)) (dCons (dC (.int 4)) (dCons (dC (.int 5)) dNil)))) (dCons (dCallA 1 f__law_odd (dCons (dVar 2) dNil)) dNil))))))))))))
    (sSeq (sForR1 (dCons (dC (.int 24)) dNil) (g1 11)
    (sSeq (sSet 12 (dCB (orB (two fun i j => if j > i then j else i) (one (gBest PySem.W.maxD))) (dCons (dC (.int 0)) (dCons (dSub (dIx (dVar 8) (dCallA 2 f__law_take (dCons (dVar 2) (dCons (dCB (orB (one gLen) (one gLenK)) (dCons (dVar 8) dNil)) dNil)))) (dCallA 2 f__law_take (dCons (dVar 2) (dCons (dC (.int 3)) dNil)))) dNil))))
    (sDrop (dBm "list" mApp (dVar 10) (dCons (dTup (dCons (dVar 12) (dCons (dCB (orB (two fun i j => if j < i then j else i) (one (gBest PySem.W.minD))) (dCons (dC (.int 999)) (dCons (dAdd (dIx (dVar 9) (dCallA 2 f__law_take (dCons (dVar 2) (dCons (dCB (orB (one gLen) (one gLenK)) (dCons (dVar 9) dNil)) dNil)))) (dCallA 2 f__law_take (dCons (dVar 2) (dCons (dC (.int 2)) dNil)))) dNil))) dNil))) dNil)))))
    (sSeq (sIf (asB (dOp2 fNotN (dVar 6) (dC .non))) (sSet 10 (dAdd (dFrz (dVar 10)) (dLst (dCons (dSl (dVar 6) oNone (oSome (dC (.int 2)))) (dCons (dCB (one gList) (dCons (dSl (dVar 6) oNone (oSome (dC (.int 2)))) dNil)) (dCons (dVar 6) (dCons (dCallA 2 f__law_bent (dCons (dVar 2) (dCons (dSl (dVar 6) oNone (oSome (dC (.int 2)))) dNil))) dNil))))))) sNext)
    (sForL (dFrzA (dVar 10)) (g1 13)
    (sSeq (sSet 14 (dCallA 3 f__law_is_crowd (dCons (dVar 4) (dCons (dVar 5) (dCons (dVar 13) dNil)))))
    (sIf (tOrD (asB (dOp2 fNe (dCB (orB (one gRepr) (one gReprK)) (dCons (dCallA 3 f__law_told (dCons (dVar 4) (dCons (dVar 13) (dCons (dVar 5) dNil)))) dNil)) (dCB (orB (one gRepr) (one gReprK)) (dCons (dLst (dCons (dVar 6) (dCons (dVar 14) (dCons (dVar 14) dNil)))) dNil)))) (asB (dOp2 fNe (dCB (orB (one gRepr) (one gReprK)) (dCons (dVar 4) dNil)) (dVar 7)))) (sRet (dC (.bl false))) sNext)))))))))))))
    (sRet (dC (.bl true))))
def f_law : DF := body 16 1 m_law
theorem ok_law_fd {w : World} {T : Txt} {mg : Str → Option Value} {base : Heap} (Z : Facts T mg) (D__law_bent : Def P w T mg base 4 18 "_law_bent" ["_law_pot_here", "_law_stuff"] f__law_bent) (D__law_cell_at : Def P w T mg base 1 12 "_law_cell_at" ["_law_script", "_law_k"] f__law_cell_at) (D__law_crowd : Def P w T mg base 2 21 "_law_crowd" ["_law_given", "_law_pace"] f__law_crowd) (D__law_is_crowd : Def P w T mg base 4 23 "_law_is_crowd" ["_law_given", "_law_pace", "_law_stuff"] f__law_is_crowd) (D__law_odd : Def P w T mg base 2 17 "_law_odd" ["_law_pot_here"] f__law_odd) (D__law_pot : Def P w T mg base 1 13 "_law_pot" ["_law_cell"] f__law_pot) (D__law_spans : Def P w T mg base 2 19 "_law_spans" ["_law_pot_here"] f__law_spans) (D__law_take : Def P w T mg base 1 14 "_law_take" ["_law_pot_here", "_law_far"] f__law_take) (D__law_told : Def P w T mg base 8 24 "_law_told" ["_law_given", "_law_stuff", "_law_pace"] f__law_told) {fd : FuncData} (F : Fun T.K "law" "law" st_law (T.fa 25) fd) : FnG P w T.K mg base 9 (T.fa 25) fd ["_law_script"] (spM T 1 f_law) := by
  refine fnD_of (m := m_law) (k := 8) (N := ["_law_script", "_law_k", "_law_pot_here", "_law_turn", "_law_given", "_law_pace", "_law_due", "_law_kept", "_law_firsts", "_law_lasts", "_law_things", "_law_lap", "_law_first", "_law_stuff", "_law_so", "_law_one"]) (ps := ["_law_script"]) (st := st_law) F sc_law fun cdv A outer s H E xp hr => ?_
  have ft : Fit ⟨cxOf (L2N.CX P w) P w T.K mg base ["_law_script", "_law_k", "_law_pot_here", "_law_turn", "_law_given", "_law_pace", "_law_due", "_law_kept", "_law_firsts", "_law_lasts", "_law_things", "_law_lap", "_law_first", "_law_stuff", "_law_so", "_law_one"] "law" (defScope st_law) (T.fa 25) cdv A outer s H E, T, xp, fun c d _ H' => E c d H', rfl⟩ 8 := ⟨rfl, hr, takes_def⟩
  have po := passes_def (P := P) (w := w) (K := T.K) (mg := mg) (base := base) (N := ["_law_script", "_law_k", "_law_pot_here", "_law_turn", "_law_given", "_law_pace", "_law_due", "_law_kept", "_law_firsts", "_law_lasts", "_law_things", "_law_lap", "_law_first", "_law_stuff", "_law_so", "_law_one"]) (qual := "law") (sc := defScope st_law) (f := T.fa 25) (cdv := cdv) (A := A) (outer := outer) (s := s) (H := H) (E := E)
  exact (pds_cons (pds_forR1 po rfl (by rfl) Z.b_range (pda_cons (pd_blt (blt_maxA rfl ft.u) (by rfl) Z.b_max rfl (pda_cons pd_int (pda_cons (pd_blt (blt_minA rfl ft.u) (by rfl) Z.b_min rfl (pda_cons (pd_blt blt_lenA (by rfl) Z.b_len rfl (pda_cons (pd_var (i := 0) rfl (by first | exact Or.inl rfl | exact Or.inr (Or.inl rfl) | exact Or.inr (Or.inr rfl))) pda_nil)) (pda_cons pd_int pda_nil))) pda_nil))) pda_nil) (pg_name (i := 1) sc_law.nd rfl (by first | exact Or.inl rfl | exact Or.inr rfl)) (tg_one 1)
    (pds_cons (pds_set (i := 2) sc_law.nd rfl (by first | exact Or.inl rfl | exact Or.inr rfl) (pd_callA D__law_pot (ft.mono (by decide)) (by rfl) (pda_cons (pd_callA D__law_cell_at (ft.mono (by decide)) (by rfl) (pda_cons (pd_var (i := 0) rfl (by first | exact Or.inl rfl | exact Or.inr (Or.inl rfl) | exact Or.inr (Or.inr rfl))) (pda_cons (pd_var (i := 1) rfl (by first | exact Or.inl rfl | exact Or.inr (Or.inl rfl) | exact Or.inr (Or.inr rfl))) pda_nil))) pda_nil)))
    (pds_one (pds_forR1 po rfl (by rfl) Z.b_range (pda_cons pd_int pda_nil) (pg_name (i := 3) sc_law.nd rfl (by first | exact Or.inl rfl | exact Or.inr rfl)) (tg_one 3)
    (pds_cons (pds_asg (pg_tup rfl (pgs_cons (pg_name (i := 4) sc_law.nd rfl (by first | exact Or.inl rfl | exact Or.inr rfl)) (pgs_cons (pg_name (i := 5) sc_law.nd rfl (by first | exact Or.inl rfl | exact Or.inr rfl)) pgs_nil))) (tg_tup rfl [4, 5] rfl) (pd_tup (pda_cons (pd_callA D__law_spans (ft.mono (by decide)) (by rfl) (pda_cons (pd_var (i := 2) rfl (by first | exact Or.inl rfl | exact Or.inr (Or.inl rfl) | exact Or.inr (Or.inr rfl))) pda_nil)) (pda_cons (pd_add pd_int (pd_callA D__law_take (ft.mono (by decide)) (by rfl) (pda_cons (pd_var (i := 2) rfl (by first | exact Or.inl rfl | exact Or.inr (Or.inl rfl) | exact Or.inr (Or.inr rfl))) (pda_cons (pd_ix (pd_lst (pda_cons pd_int (pda_cons pd_int (pda_cons pd_int pda_nil)))) (pd_callA D__law_take (ft.mono (by decide)) (by rfl) (pda_cons (pd_var (i := 2) rfl (by first | exact Or.inl rfl | exact Or.inr (Or.inl rfl) | exact Or.inr (Or.inr rfl))) (pda_cons pd_int pda_nil)))) pda_nil)))) pda_nil))))
    (pds_cons (pds_par (pz := ⟨0, 0, 0, 0⟩) (i := 6) (j := 7) rfl sc_law.nd rfl rfl (by decide) rfl rfl (pda_cons (pd_callA D__law_crowd (ft.mono (by decide)) (by rfl) (pda_cons (pd_var (i := 4) rfl (by first | exact Or.inl rfl | exact Or.inr (Or.inl rfl) | exact Or.inr (Or.inr rfl))) (pda_cons (pd_var (i := 5) rfl (by first | exact Or.inl rfl | exact Or.inr (Or.inl rfl) | exact Or.inr (Or.inr rfl))) pda_nil))) (pda_cons (pd_blt (blt_reprA ft.room.gd ft.u) (by rfl) Z.b_repr rfl (pda_cons (pd_var (i := 4) rfl (by first | exact Or.inl rfl | exact Or.inr (Or.inl rfl) | exact Or.inr (Or.inr rfl))) pda_nil)) pda_nil)) (by rfl))
    (pds_cons (pds_set (i := 8) sc_law.nd rfl (by first | exact Or.inl rfl | exact Or.inr rfl) (pd_sortset rfl (by rfl) Z.b_sorted (by rfl) Z.b_set (pd_add (pd_lc (own := [("_law_one", 15)]) rfl sc_law.nd (pdi_keys (pd_var (i := 4) rfl (by first | exact Or.inl rfl | exact Or.inr (Or.inl rfl) | exact Or.inr (Or.inr rfl)))) (blkOk_by rfl) (fun _ _ _ _ _ => pg_name (i := 15) sc_law.nd rfl (by first | exact Or.inl rfl | exact Or.inr rfl)) (tg_one 15) (by decide) (fun _ _ _ _ _ => pdts_nil) (fun _ _ _ _ _ => (pd_ix (pd_ixK (ft.blk _ _ _ _ _ _).u (pd_var (i := 4) rfl (by first | exact Or.inl rfl | exact Or.inr (Or.inl rfl) | exact Or.inr (Or.inr rfl))) (pd_var (i := 15) rfl (by first | exact Or.inl rfl | exact Or.inr (Or.inl rfl) | exact Or.inr (Or.inr rfl)))) pd_int))) (pd_lst (pda_cons pd_int (pda_cons pd_int pda_nil))))))
    (pds_cons (pds_set (i := 9) sc_law.nd rfl (by first | exact Or.inl rfl | exact Or.inr rfl) (pd_sortset rfl (by rfl) Z.b_sorted (by rfl) Z.b_set (pd_add (pd_lc (own := [("_law_one", 15)]) rfl sc_law.nd (pdi_keys (pd_var (i := 4) rfl (by first | exact Or.inl rfl | exact Or.inr (Or.inl rfl) | exact Or.inr (Or.inr rfl)))) (blkOk_by rfl) (fun _ _ _ _ _ => pg_name (i := 15) sc_law.nd rfl (by first | exact Or.inl rfl | exact Or.inr rfl)) (tg_one 15) (by decide) (fun _ _ _ _ _ => pdts_nil) (fun _ _ _ _ _ => (pd_ix (pd_ixK (ft.blk _ _ _ _ _ _).u (pd_var (i := 4) rfl (by first | exact Or.inl rfl | exact Or.inr (Or.inl rfl) | exact Or.inr (Or.inr rfl))) (pd_var (i := 15) rfl (by first | exact Or.inl rfl | exact Or.inr (Or.inl rfl) | exact Or.inr (Or.inr rfl)))) pd_int))) (pd_lst (pda_cons pd_int (pda_cons pd_int pda_nil))))))
    (pds_cons (pds_set (i := 10) sc_law.nd rfl (by first | exact Or.inl rfl | exact Or.inr rfl) (pd_new (pda_cons pd_non (pda_cons (pd_tup pda_nil) (pda_cons (pd_lst (pda_cons pd_int (pda_cons pd_int pda_nil))) (pda_cons (pd_tup (pda_cons pd_int (pda_cons pd_int pda_nil))) (pda_cons (pd_tup (pda_cons pd_int (pda_cons pd_int pda_nil))) (pda_cons (pd_tup (pda_cons (pd_neg pd_int) (pda_cons pd_int pda_nil))) (pda_cons (pd_tup (pda_cons pd_bl (pda_cons pd_int pda_nil))) (pda_cons (pd_tup (pda_cons pd_int pda_nil)) (pda_cons (pd_tup (pda_cons pd_int (pda_cons pd_int (pda_cons pd_int pda_nil)))) (pda_cons (pd_callA D__law_odd (ft.mono (by decide)) (by rfl) (pda_cons (pd_var (i := 2) rfl (by first | exact Or.inl rfl | exact Or.inr (Or.inl rfl) | exact Or.inr (Or.inr rfl))) pda_nil)) pda_nil))))))))))))
    (pds_cons (pds_forR1 po rfl (by rfl) Z.b_range (pda_cons pd_int pda_nil) (pg_name (i := 11) sc_law.nd rfl (by first | exact Or.inl rfl | exact Or.inr rfl)) (tg_one 11)
    (pds_cons (pds_set (i := 12) sc_law.nd rfl (by first | exact Or.inl rfl | exact Or.inr rfl) (pd_blt (blt_maxA rfl ft.u) (by rfl) Z.b_max rfl (pda_cons pd_int (pda_cons (pd_sub (pd_ix (pd_var (i := 8) rfl (by first | exact Or.inl rfl | exact Or.inr (Or.inl rfl) | exact Or.inr (Or.inr rfl))) (pd_callA D__law_take (ft.mono (by decide)) (by rfl) (pda_cons (pd_var (i := 2) rfl (by first | exact Or.inl rfl | exact Or.inr (Or.inl rfl) | exact Or.inr (Or.inr rfl))) (pda_cons (pd_blt blt_lenA (by rfl) Z.b_len rfl (pda_cons (pd_var (i := 8) rfl (by first | exact Or.inl rfl | exact Or.inr (Or.inl rfl) | exact Or.inr (Or.inr rfl))) pda_nil)) pda_nil)))) (pd_callA D__law_take (ft.mono (by decide)) (by rfl) (pda_cons (pd_var (i := 2) rfl (by first | exact Or.inl rfl | exact Or.inr (Or.inl rfl) | exact Or.inr (Or.inr rfl))) (pda_cons pd_int pda_nil)))) pda_nil))))
    (pds_one (pds_drop (pd_bm mt_app (pd_var (i := 10) rfl (by first | exact Or.inl rfl | exact Or.inr (Or.inl rfl) | exact Or.inr (Or.inr rfl))) (pda_cons (pd_tup (pda_cons (pd_var (i := 12) rfl (by first | exact Or.inl rfl | exact Or.inr (Or.inl rfl) | exact Or.inr (Or.inr rfl))) (pda_cons (pd_blt (blt_minA rfl ft.u) (by rfl) Z.b_min rfl (pda_cons pd_int (pda_cons (pd_add (pd_ix (pd_var (i := 9) rfl (by first | exact Or.inl rfl | exact Or.inr (Or.inl rfl) | exact Or.inr (Or.inr rfl))) (pd_callA D__law_take (ft.mono (by decide)) (by rfl) (pda_cons (pd_var (i := 2) rfl (by first | exact Or.inl rfl | exact Or.inr (Or.inl rfl) | exact Or.inr (Or.inr rfl))) (pda_cons (pd_blt blt_lenA (by rfl) Z.b_len rfl (pda_cons (pd_var (i := 9) rfl (by first | exact Or.inl rfl | exact Or.inr (Or.inl rfl) | exact Or.inr (Or.inr rfl))) pda_nil)) pda_nil)))) (pd_callA D__law_take (ft.mono (by decide)) (by rfl) (pda_cons (pd_var (i := 2) rfl (by first | exact Or.inl rfl | exact Or.inr (Or.inl rfl) | exact Or.inr (Or.inr rfl))) (pda_cons pd_int pda_nil)))) pda_nil))) pda_nil))) pda_nil))))))
    (pds_cons (pds_if (pdt_cmp cmp_isnot (pd_var (i := 6) rfl (by first | exact Or.inl rfl | exact Or.inr (Or.inl rfl) | exact Or.inr (Or.inr rfl))) pd_non (by rfl)) (pds_one (pds_set (i := 10) sc_law.nd rfl (by first | exact Or.inl rfl | exact Or.inr rfl) (pd_add (pd_frz (pd_var (i := 10) rfl (by first | exact Or.inl rfl | exact Or.inr (Or.inl rfl) | exact Or.inr (Or.inr rfl)))) (pd_lst (pda_cons (pd_slice (pd_var (i := 6) rfl (by first | exact Or.inl rfl | exact Or.inr (Or.inl rfl) | exact Or.inr (Or.inr rfl))) pdo_none (pdo_some pd_int)) (pda_cons (pd_ty ty_list (by rfl) Z.b_list rfl (pda_cons (pd_slice (pd_var (i := 6) rfl (by first | exact Or.inl rfl | exact Or.inr (Or.inl rfl) | exact Or.inr (Or.inr rfl))) pdo_none (pdo_some pd_int)) pda_nil)) (pda_cons (pd_var (i := 6) rfl (by first | exact Or.inl rfl | exact Or.inr (Or.inl rfl) | exact Or.inr (Or.inr rfl))) (pda_cons (pd_callA D__law_bent (ft.mono (by decide)) (by rfl) (pda_cons (pd_var (i := 2) rfl (by first | exact Or.inl rfl | exact Or.inr (Or.inl rfl) | exact Or.inr (Or.inr rfl))) (pda_cons (pd_slice (pd_var (i := 6) rfl (by first | exact Or.inl rfl | exact Or.inr (Or.inl rfl) | exact Or.inr (Or.inr rfl))) pdo_none (pdo_some pd_int)) pda_nil))) pda_nil)))))))) pds_nil)
    (pds_one (pds_forL po rfl (pd_frzA (pd_var (i := 10) rfl (by first | exact Or.inl rfl | exact Or.inr (Or.inl rfl) | exact Or.inr (Or.inr rfl)))) (pg_name (i := 13) sc_law.nd rfl (by first | exact Or.inl rfl | exact Or.inr rfl)) (tg_one 13)
    (pds_cons (pds_set (i := 14) sc_law.nd rfl (by first | exact Or.inl rfl | exact Or.inr rfl) (pd_callA D__law_is_crowd (ft.mono (by decide)) (by rfl) (pda_cons (pd_var (i := 4) rfl (by first | exact Or.inl rfl | exact Or.inr (Or.inl rfl) | exact Or.inr (Or.inr rfl))) (pda_cons (pd_var (i := 5) rfl (by first | exact Or.inl rfl | exact Or.inr (Or.inl rfl) | exact Or.inr (Or.inr rfl))) (pda_cons (pd_var (i := 13) rfl (by first | exact Or.inl rfl | exact Or.inr (Or.inl rfl) | exact Or.inr (Or.inr rfl))) pda_nil)))))
    (pds_one (pds_if (pdt_w (pdw_or (pdt_cmp (cmp_ne ft.u) (pd_blt (blt_reprA ft.room.gd ft.u) (by rfl) Z.b_repr rfl (pda_cons (pd_callA D__law_told (ft.mono (by decide)) (by rfl) (pda_cons (pd_var (i := 4) rfl (by first | exact Or.inl rfl | exact Or.inr (Or.inl rfl) | exact Or.inr (Or.inr rfl))) (pda_cons (pd_var (i := 13) rfl (by first | exact Or.inl rfl | exact Or.inr (Or.inl rfl) | exact Or.inr (Or.inr rfl))) (pda_cons (pd_var (i := 5) rfl (by first | exact Or.inl rfl | exact Or.inr (Or.inl rfl) | exact Or.inr (Or.inr rfl))) pda_nil)))) pda_nil)) (pd_blt (blt_reprA ft.room.gd ft.u) (by rfl) Z.b_repr rfl (pda_cons (pd_lst (pda_cons (pd_var (i := 6) rfl (by first | exact Or.inl rfl | exact Or.inr (Or.inl rfl) | exact Or.inr (Or.inr rfl))) (pda_cons (pd_var (i := 14) rfl (by first | exact Or.inl rfl | exact Or.inr (Or.inl rfl) | exact Or.inr (Or.inr rfl))) (pda_cons (pd_var (i := 14) rfl (by first | exact Or.inl rfl | exact Or.inr (Or.inl rfl) | exact Or.inr (Or.inr rfl))) pda_nil)))) pda_nil)) (by rfl)) (pdw_or1 (pdt_cmp (cmp_ne ft.u) (pd_blt (blt_reprA ft.room.gd ft.u) (by rfl) Z.b_repr rfl (pda_cons (pd_var (i := 4) rfl (by first | exact Or.inl rfl | exact Or.inr (Or.inl rfl) | exact Or.inr (Or.inr rfl))) pda_nil)) (pd_var (i := 7) rfl (by first | exact Or.inl rfl | exact Or.inr (Or.inl rfl) | exact Or.inr (Or.inr rfl))) (by rfl))))) (pds_one (pds_ret pd_bl)) pds_nil))))))))))))))))
    (pds_one (pds_ret pd_bl)))
end K32

set_option maxRecDepth 100000
set_option maxHeartbeats 1000000
namespace K32
open PySem PySem.Spec PyProof.Rows L2 Den
/-! ### built-ins of more kinds -/
abbrev lenF : FB := orB (one gLen) (one gLenK)
abbrev minF : FB := orB (two fun i j => if j < i then j else i) (one (gBest PySem.W.minD))
abbrev maxF : FB := orB (two fun i j => if j > i then j else i) (one (gBest PySem.W.maxD))
section
variable {r : DA} {ρ : Rho} {st s1 : Store}
theorem ev_orb {f g : FB} {ds : List D} {z : D} {s2 : Store} (h : r ρ st = .ok ds s1) (hf : f ds s1 = some (z, s2)) : dCB (orB f g) r ρ st = .ok z s2 := by
  unfold dCB orB; rw [h, bind_ok, hf]; rfl
theorem ev_orb2 {f g : FB} {ds : List D} {z : D} {s2 : Store} (h : r ρ st = .ok ds s1) (hf : f ds s1 = none) (hg : g ds s1 = some (z, s2)) : dCB (orB f g) r ρ st = .ok z s2 := by
  unfold dCB orB; rw [h, bind_ok, hf, hg]; rfl
theorem ev_lenI {x : D} {xs : List D} (h : r ρ st = .ok [x] s1) (hx : itemsOf x s1 = some xs) : dCB lenF r ρ st = .ok (.int xs.length) s1 := by
  refine ev_orb h ?_
  have e : gLen x s1 = some (.int xs.length) := by
    cases x <;> first | (unfold itemsOf at hx; cases hx; done) | (unfold gLen; simp only [hx]; rfl)
  unfold one
  dsimp only
  rw [e]
  rfl
theorem ev_lenD {ks : List Key} {xs : List D} (h : r ρ st = .ok [.dic ks xs] s1) (hl : ks.length = xs.length) : dCB lenF r ρ st = .ok (.int ks.length) s1 := by
  refine ev_orb2 h rfl ?_
  unfold one
  dsimp only
  unfold gLenK
  dsimp only
  rw [if_pos hl]
  rfl
theorem ev_min2 {i j : Int} (h : r ρ st = .ok [.int i, .int j] s1) : dCB minF r ρ st = .ok (.int (if j < i then j else i)) s1 := ev_orb h rfl
theorem ev_max2 {i j : Int} (h : r ρ st = .ok [.int i, .int j] s1) : dCB maxF r ρ st = .ok (.int (if j > i then j else i)) s1 := ev_orb h rfl
theorem pure_ints : ∀ ns : List Int, pureL (ns.map D.int) = true
  | [] => rfl
  | n :: r => by simp [pureL, pureD, pure_ints r]
theorem py_ints : ∀ ns : List Int, toPyL (ns.map D.int) = some (ns.map PyData.int)
  | [] => rfl
  | n :: r => by simp [toPyL, toPy, py_ints r]
theorem alike_ints (ns : List Int) : alikeC (ns.map PyData.int) = true := by
  unfold alikeC
  rw [Bool.and_eq_true]
  constructor
  · rw [List.all_eq_true]
    intro x hx
    rw [List.all_eq_true]
    intro y hy
    obtain ⟨a, _, rfl⟩ := List.mem_map.mp hx
    obtain ⟨b, _, rfl⟩ := List.mem_map.mp hy
    exact PySem.W.DatumOrd.alike a b
  · rw [List.all_eq_true]
    intro x hx
    obtain ⟨a, _, rfl⟩ := List.mem_map.mp hx
    rfl
theorem depth_ints : ∀ ns : List Int, PyData.depthAll (ns.map PyData.int) ≤ 1
  | [] => by simp [PyData.depthAll]
  | n :: r => by simp only [List.map_cons, PyData.depthAll, PyData.depth]; have := depth_ints r; omega
theorem ev_bestI {b : PyData → List PyData → PyData} {f : FB} {n m : Int} {ns : List Int} (h : r ρ st = .ok [.lst ((n :: ns).map D.int)] s1) (hf : ∀ x s, f [x] s = none) (hb : b (.int n) (ns.map PyData.int) = .int m) : dCB (orB f (one (gBest b))) r ρ st = .ok (.int m) s1 := by
  refine ev_orb2 h (hf _ _) ?_
  unfold one
  dsimp only
  unfold gBest litemsOf
  dsimp only [Option.bind_some]
  rw [if_pos (pure_ints _), py_ints]
  have a := alike_ints (n :: ns)
  have d := depth_ints (n :: ns)
  rw [List.map_cons] at a d ⊢
  dsimp only
  rw [if_pos ⟨a, by omega⟩, hb]
  rfl
theorem ev_minL {n : Int} {ns : List Int} (h : r ρ st = .ok [.lst ((n :: ns).map D.int)] s1) : dCB minF r ρ st = .ok (.int (ns.foldl min n)) s1 := ev_bestI h (fun x _ => by cases x <;> rfl) (PySem.W.minD_ints n ns)
theorem ev_maxL {n : Int} {ns : List Int} (h : r ρ st = .ok [.lst ((n :: ns).map D.int)] s1) : dCB maxF r ρ st = .ok (.int (ns.foldl max n)) s1 := ev_bestI h (fun x _ => by cases x <;> rfl) (PySem.W.maxD_ints n ns)
end
theorem foldl_min (n : Int) : ∀ ns : List Int, ns.foldl min n ∈ n :: ns ∧ ∀ k ∈ n :: ns, ns.foldl min n ≤ k := by
  intro ns
  induction ns generalizing n with
  | nil => exact ⟨List.mem_cons_self, fun k hk => by rw [List.mem_singleton.mp hk]; exact Int.le_refl _⟩
  | cons a r ih =>
    obtain ⟨h1, h2⟩ := ih (min n a)
    rw [List.foldl_cons]
    refine ⟨?_, fun k hk => ?_⟩
    · rcases List.mem_cons.mp h1 with h | h
      · rw [h]
        rcases Int.le_total n a with q | q
        · rw [Int.min_eq_left q]; exact List.mem_cons_self
        · rw [Int.min_eq_right q]; exact List.mem_cons_of_mem _ List.mem_cons_self
      · exact List.mem_cons_of_mem _ (List.mem_cons_of_mem _ h)
    · have h0 := h2 (min n a) List.mem_cons_self
      rcases List.mem_cons.mp hk with rfl | hk
      · exact Int.le_trans h0 (Int.min_le_left _ _)
      · rcases List.mem_cons.mp hk with rfl | hk
        · exact Int.le_trans h0 (Int.min_le_right _ _)
        · exact h2 k (List.mem_cons_of_mem _ hk)
theorem foldl_max (n : Int) : ∀ ns : List Int, ns.foldl max n ∈ n :: ns ∧ ∀ k ∈ n :: ns, k ≤ ns.foldl max n := by
  intro ns
  induction ns generalizing n with
  | nil => exact ⟨List.mem_cons_self, fun k hk => by rw [List.mem_singleton.mp hk]; exact Int.le_refl _⟩
  | cons a r ih =>
    obtain ⟨h1, h2⟩ := ih (max n a)
    rw [List.foldl_cons]
    refine ⟨?_, fun k hk => ?_⟩
    · rcases List.mem_cons.mp h1 with h | h
      · rw [h]
        rcases Int.le_total n a with q | q
        · rw [Int.max_eq_right q]; exact List.mem_cons_of_mem _ List.mem_cons_self
        · rw [Int.max_eq_left q]; exact List.mem_cons_self
      · exact List.mem_cons_of_mem _ (List.mem_cons_of_mem _ h)
    · have h0 := h2 (max n a) List.mem_cons_self
      rcases List.mem_cons.mp hk with rfl | hk
      · exact Int.le_trans (Int.le_max_left _ _) h0
      · rcases List.mem_cons.mp hk with rfl | hk
        · exact Int.le_trans (Int.le_max_right _ _) h0
        · exact h2 k (List.mem_cons_of_mem _ hk)
/-! ### turns over what stands for spans -/
theorem lcL_on {α : Type} {g : GD} {t : DT} {e : DE} {ρ : Rho} {st : Store} {h : α → D} {p : α → Bool} {f : α → D} : ∀ {S : List α}, (∀ s ∈ S, ∃ ρ', g (h s) ρ = some ρ' ∧ t ρ' st = .ok (p s) st ∧ (p s = true → e ρ' st = .ok (f s) st)) → lcL g t e ρ (S.map h) st = .ok ((S.filter p).map f) st
  | [], _ => rfl
  | s :: S, hy => by
    obtain ⟨ρ', h1, h2, h3⟩ := hy s List.mem_cons_self
    have ih := lcL_on (g := g) (t := t) (e := e) (ρ := ρ) (st := st) (h := h) (p := p) (f := f) (S := S) fun x hx => hy x (List.mem_cons_of_mem _ hx)
    rw [List.map_cons]
    unfold lcL
    rw [h1]
    dsimp only
    rw [h2]
    cases hp : p s with
    | true => simp [noX, h3 hp, ih, hp]
    | false => simp [noX, ih, hp]
theorem ev_lc {mi : DIt} {g : GD} {t : DT} {e : DE} {vs : List Nat} {ρ : Rho} {st s1 s2 : Store} {ds ys : List D} (h : mi ρ st = .ok ds s1) (hx : ds.length ≤ 100000) (hl : lcL g t e (wipeD ρ vs) ds s1 = .ok ys s2) (hy : ys.length ≤ 100000) : dLc mi g t e vs ρ st = .ok (.lst ys) s2 := by
  unfold dLc; rw [h, bind_ok, if_pos hx, hl]; unfold lcEnd; rw [bind_ok, if_pos hy]
/-- a number and its span -/
abbrev Sp := Int × Int × Int
def keysOf (S : List Sp) : List Key := S.map fun s => Sum.inl s.1
def spanD (s : Sp) : D := .tup [.int s.2.1, .int s.2.2]
def valsOf (S : List Sp) : List D := S.map spanD
def dicS (S : List Sp) : D := .dic (keysOf S) (valsOf S)
structure OkS (S : List Sp) : Prop where
  few : S.length ≤ 12
  nd : (S.map (·.1)).Nodup
  num : ∀ s ∈ S, 0 ≤ s.1 ∧ s.1 < 40
  sp : ∀ s ∈ S, 0 ≤ s.2.1 ∧ s.2.1 ≤ s.2.2 ∧ s.2.2 ≤ 999
theorem keys_len (S : List Sp) : (keysOf S).length = (valsOf S).length := by unfold keysOf valsOf; simp
theorem valZ_of : ∀ {S : List Sp}, (S.map (·.1)).Nodup → ∀ s ∈ S, valZ (keysOf S) (valsOf S) (.inl s.1) = some (spanD s)
  | [], _, _, h => by cases h
  | a :: S, nd, s, h => by
    have nd' := List.nodup_cons.mp nd
    unfold valZ keysOf valsOf
    rw [List.map_cons, List.map_cons, List.zip_cons_cons]
    by_cases e : a.1 = s.1
    · have es : s = a := by
        rcases List.mem_cons.mp h with h | h
        · exact h
        · exact absurd (List.mem_map.mpr ⟨s, h, e.symm⟩) nd'.1
      subst es
      rw [List.find?_cons_of_pos (by simp)]
      rfl
    · rw [List.find?_cons_of_neg (by simpa using e)]
      have hs : s ∈ S := by
        rcases List.mem_cons.mp h with h | h
        · exact absurd (congrArg (·.1) h).symm e
        · exact h
      have := valZ_of nd'.2 s hs
      unfold valZ keysOf valsOf at this
      exact this
theorem keyD_int (S : List Sp) : (keysOf S).map keyD' = S.map fun s => D.int s.1 := by
  unfold keysOf
  rw [List.map_map]
  rfl
end K32

set_option maxRecDepth 100000
set_option maxHeartbeats 1000000
namespace K32
open PySem PySem.Spec PyProof.Rows L2 Den
theorem le_ii (i j : Int) : fLe (.int i) (.int j) = some (.bl (decide (i ≤ j))) := rfl
theorem gt_ii (i j : Int) : fGt (.int i) (.int j) = some (.bl (decide (j < i))) := rfl
theorem mul_ii {i j : Int} (hi : i.natAbs < 2 ^ 64) (hj : j.natAbs < 2 ^ 64) : fMulA (.int i) (.int j) = some (.int (i * j)) := Com.fMulA_ints (a := 64) (b := 64) hi hj (by decide) (by decide) (by decide)
/-! ### how many lie within -/
def inSp (f l : Int) (s : Sp) : Bool := decide (f ≤ s.2.1) && decide (s.2.2 ≤ l)
def cnt (S : List Sp) (f l : Int) : Nat := (S.filter (inSp f l)).length
theorem cnt_le (S : List Sp) (f l : Int) : cnt S f l ≤ S.length := List.length_filter_le _ _
section
variable {S : List Sp} {f l p : Int} {st : Store}
theorem ixk {a b : DE} {ρ : Rho} {s : Sp} (h : OkS S) (hs : s ∈ S) (ha : a ρ st = .ok (dicS S) st) (hb : b ρ st = .ok (.int s.1) st) : dIxK a b ρ st = .ok (spanD s) st := by
  unfold dIxK
  rw [ha, bind_ok, hb, bind_ok]
  unfold dicS Den.keyOf
  dsimp only
  rw [valZ_of h.nd s hs]
theorem within_of_d (h : OkS S) : f__law_within_of [dicS S, .int f, .int l] st = .ok (.int (cnt S f l)) st := by
  refine run (N := 4) (n := 3) (m := m__law_within_of) (r := .ret (.int (cnt S f l)) st) rfl ?_ rfl
  have z : lcL (g1 3) (tAndD (asB (dOp2 fLe (dVar 1) (dIx (dIxK (dVar 0) (dVar 3)) (dC (.int 0))))) (asB (dOp2 fLe (dIx (dIxK (dVar 0) (dVar 3)) (dC (.int 1))) (dVar 2)))) (dC (.int 1)) [some (dicS S), some (.int f), some (.int l), none] (S.map fun s => D.int s.1) st = .ok ((S.filter (inSp f l)).map fun _ => .int 1) st := by
    refine lcL_on fun s hs => ⟨[some (dicS S), some (.int f), some (.int l), some (.int s.1)], rfl, ?_, fun _ => rfl⟩
    have k := ixk (a := dVar 0) (b := dVar 3) (ρ := [some (dicS S), some (.int f), some (.int l), some (.int s.1)]) (st := st) h hs rfl rfl
    exact ev_and (ev_asB (ev_op (x := .int f) (y := .int s.2.1) (s1 := st) rfl (ev_ix k rfl rfl) (le_ii _ _))) fun _ => ev_asB (ev_op (ev_ix k rfl rfl) (x := .int s.2.2) (y := .int l) rfl (le_ii _ _))
  have z2 : dLc (iKeysD (dVar 0)) (g1 3) (tAndD (asB (dOp2 fLe (dVar 1) (dIx (dIxK (dVar 0) (dVar 3)) (dC (.int 0))))) (asB (dOp2 fLe (dIx (dIxK (dVar 0) (dVar 3)) (dC (.int 1))) (dVar 2)))) (dC (.int 1)) [3] [some (dicS S), some (.int f), some (.int l), none] st = .ok (.lst ((S.filter (inSp f l)).map fun _ => .int 1)) st := by
    refine ev_lc (ds := S.map fun (s : Sp) => D.int s.1) (s1 := st) ?_ ?_ z ?_
    · rw [← keyD_int]; rfl
    · rw [List.length_map]; have := h.few; omega
    · rw [List.length_map]; have := h.few; have := cnt_le S f l; unfold cnt at this; omega
  have e := ev_lenI (xs := (S.filter (inSp f l)).map fun _ => .int 1) (ev_cons z2 (r := dNil) rfl) rfl
  rw [List.length_map] at e
  exact ex_ret e
theorem how_many_d (h : OkS S) : f__how_many_within [dicS S, .tup [.int f, .int l]] st = .ok (.int (cnt S f l)) st := by
  refine run (N := 3) (n := 2) (m := m__how_many_within) (r := .ret (.int (cnt S f l)) st) rfl ?_ rfl
  have z : lcL (g1 2) (tAndD (asB (dOp2 fLe (dIx (dVar 1) (dC (.int 0))) (dIx (dVar 2) (dC (.int 0))))) (asB (dOp2 fLe (dIx (dVar 2) (dC (.int 1))) (dIx (dVar 1) (dC (.int 1)))))) (dVar 2) [some (dicS S), some (.tup [.int f, .int l]), none] (S.map spanD) st = .ok ((S.filter (inSp f l)).map spanD) st := by
    refine lcL_on fun s hs => ⟨[some (dicS S), some (.tup [.int f, .int l]), some (spanD s)], rfl, ?_, fun _ => rfl⟩
    exact ev_and (ev_asB (ev_op (x := .int f) (y := .int s.2.1) (s1 := st) rfl rfl (le_ii _ _))) fun _ => ev_asB (ev_op (x := .int s.2.2) (y := .int l) (s1 := st) rfl rfl (le_ii _ _))
  have z2 : dLc (iValsD (dVar 0)) (g1 2) (tAndD (asB (dOp2 fLe (dIx (dVar 1) (dC (.int 0))) (dIx (dVar 2) (dC (.int 0))))) (asB (dOp2 fLe (dIx (dVar 2) (dC (.int 1))) (dIx (dVar 1) (dC (.int 1)))))) (dVar 2) [2] [some (dicS S), some (.tup [.int f, .int l]), none] st = .ok (.lst ((S.filter (inSp f l)).map spanD)) st := by
    refine ev_lc (ds := S.map spanD) (s1 := st) rfl ?_ z ?_
    · rw [List.length_map]; have := h.few; omega
    · rw [List.length_map]; have := h.few; have := cnt_le S f l; unfold cnt at this; omega
  have e := ev_lenI (xs := (S.filter (inSp f l)).map spanD) (ev_cons z2 (r := dNil) rfl) rfl
  rw [List.length_map] at e
  exact ex_ret e
/-- more spans within than the stretch has room for -/
def over (S : List Sp) (p f l : Int) : Bool := decide (p * (l - f + 1) < (cnt S f l : Int))
theorem overfull_d (h : OkS S) (hp : p.natAbs < 2 ^ 64) (hf : (l - f + 1).natAbs < 2 ^ 64) : f__is_overfull [dicS S, .tup [.int f, .int l], .int p] st = .ok (.bl (over S p f l)) st := by
  refine run (N := 5) (n := 3) (m := m__is_overfull) (r := .ret (.bl (over S p f l)) st) rfl ?_ rfl
  have q1 : (sAsg (gT [3, 4]) (dVar 1)) [some (dicS S), some (.tup [.int f, .int l]), some (.int p), none, none] st = .nx [some (dicS S), some (.tup [.int f, .int l]), some (.int p), some (.int f), some (.int l)] st := rfl
  refine ex_seq q1 (ex_ret (ev_op (x := .int (cnt S f l)) (y := .int (p * (l - f + 1))) (s1 := st) (ev_call (xs := [dicS S, .tup [.int f, .int l]]) (s1 := st) rfl rfl (how_many_d h)) ?_ (gt_ii _ _)))
  exact ev_op (x := .int p) (y := .int (l - f + 1)) (s1 := st) rfl rfl (mul_ii hp hf)
end
/-! ### is it a span? -/
def isInt : D → Bool
  | .int _ => true
  | _ => false
def plain : D → Bool
  | .non | .bl _ | .int _ | .str _ | .lst _ | .tup _ | .dic _ _ => true
  | _ => false
def inRange (d : D) (lo hi : Int) : Bool := match d with
  | .int i => decide (lo ≤ i) && decide (i ≤ hi)
  | _ => false
theorem whole_eq {d : D} {st : Store} (h : plain d = true) : f_is_whole [d] st = .ok (.bl (isInt d)) st := by
  cases d <;> first | (cases h; done) | kernel_rfl
theorem lwhole_eq {d : D} {st : Store} (h : plain d = true) : f__law_whole [d] st = .ok (.bl (isInt d)) st := whole_eq h
theorem chain_ints {a b c : DE} {ρ : Rho} {st : Store} {i j k : Int} (ha : a ρ st = .ok (.int i) st) (hb : b ρ st = .ok (.int j) st) (hc : c ρ st = .ok (.int k) st) : dChain fLe fLe a b c ρ st = .ok (.bl (decide (i ≤ j) && decide (j ≤ k))) st := by
  unfold dChain
  rw [ha, bind_ok, hb, bind_ok, le_ii]
  by_cases h1 : i ≤ j
  · rw [decide_eq_true h1]
    dsimp only
    rw [hc, bind_ok, le_ii]
    simp
  · rw [decide_eq_false h1]
    simp
theorem ev_andD {a b : DE} {ρ : Rho} {st s1 : Store} {x : Bool} {w : Res D} (h : a ρ st = .ok (.bl x) s1) (g : (if x = true then b ρ s1 else .ok (.bl false) s1) = w) : dAnd a b ρ st = w := by
  unfold dAnd
  rw [h, bind_ok]
  cases x <;> exact g
theorem within_any {d : D} {lo hi : Int} {st : Store} (h : plain d = true) : f_is_within [d, .int lo, .int hi] st = .ok (.bl (inRange d lo hi)) st := by
  refine run (N := 3) (n := 3) (m := m_is_within) (r := .ret (.bl (inRange d lo hi)) st) rfl (ex_ret (ev_andD (ev_call (xs := [d]) (s1 := st) rfl rfl (whole_eq h)) ?_)) rfl
  cases d <;> first | (cases h; done) | rfl | skip
  rename_i i
  exact chain_ints (i := lo) (j := i) (k := hi) rfl rfl rfl
theorem lwithin_any {d : D} {lo hi : Int} {st : Store} (h : plain d = true) : f__law_within [d, .int lo, .int hi] st = .ok (.bl (inRange d lo hi)) st := within_any h
theorem month_any {d : D} {st : Store} (h : plain d = true) : f_is_month [d] st = .ok (.bl (inRange d 0 999)) st :=
  run (N := 1) (n := 1) (m := m_is_month) (r := .ret (.bl (inRange d 0 999)) st) rfl (ex_ret (ev_call (xs := [d, .int 0, .int 999]) (s1 := st) rfl rfl (within_any h))) rfl
theorem number_any {d : D} {st : Store} (h : plain d = true) : f__is_number [d] st = .ok (.bl (inRange d 0 39)) st :=
  run (N := 1) (n := 1) (m := m__is_number) (r := .ret (.bl (inRange d 0 39)) st) rfl (ex_ret (ev_call (xs := [d, .int 0, .int 39]) (s1 := st) rfl rfl (within_any h))) rfl
/-- plain, and so are a tuple's parts -/
def flatT (d : D) : Bool := plain d && match d with
  | .tup xs => xs.all plain
  | _ => true
def le2 (x y : D) : Bool := match x, y with
  | .int i, .int j => decide (i ≤ j)
  | _, _ => false
def isSpan (d : D) : Bool := match d with
  | .tup [x, y] => inRange x 0 999 && (inRange y 0 999 && le2 x y)
  | _ => false
theorem inRange_int {d : D} {lo hi : Int} (h : inRange d lo hi = true) : ∃ i, d = .int i ∧ lo ≤ i ∧ i ≤ hi := by
  unfold inRange at h
  split at h
  · rename_i i
    rw [Bool.and_eq_true, decide_eq_true_eq, decide_eq_true_eq] at h
    exact ⟨i, rfl, h.1, h.2⟩
  · cases h
section
variable {st : Store}
theorem isi_tuple {d : D} {ρ : Rho} {a : DE} (h : plain d = true) (ha : a ρ st = .ok d st) : tNotD (dTruth (dCB (bIsi [] isT) (dCons a (dCons (dC (.ty "tuple")) dNil)))) ρ st = .ok (!(match d with | .tup _ => true | _ => false)) st := by
  refine ev_not (ev_truth (x := .bl (match d with | .tup _ => true | _ => false)) ?_ rfl)
  unfold dCB
  rw [ev_cons ha (r := dCons (dC (.ty "tuple")) dNil) (xs := [.ty "tuple"]) (s2 := st) rfl, bind_ok]
  cases d <;> first | (cases h; done) | kernel_rfl
theorem span_any {d : D} (h : flatT d = true) : f__is_span [d] st = .ok (.bl (isSpan d)) st := by
  unfold flatT at h
  rw [Bool.and_eq_true] at h
  obtain ⟨hp, hq⟩ := h
  have t1 := isi_tuple (st := st) (ρ := [some d, none, none]) (a := dVar 0) hp rfl
  refine run (N := 3) (n := 1) (m := m__is_span) (r := .ret (.bl (isSpan d)) st) rfl ?_ rfl
  cases d with
  | tup xs =>
    have t2 : asB (dOp2 fNe (dCB (orB (one gLen) (one gLenK)) (dCons (dVar 0) dNil)) (dC (.int 2))) [some (.tup xs), none, none] st = .ok (!((xs.length : Int) == 2)) st :=
      ev_asB (ev_op (x := .int xs.length) (y := .int 2) (s1 := st) (ev_lenI (x := .tup xs) (s1 := st) rfl rfl) rfl rfl)
    have t := ev_orF (u := asB (dOp2 fNe (dCB (orB (one gLen) (one gLenK)) (dCons (dVar 0) dNil)) (dC (.int 2)))) t1 t2
    match xs, t, hq with
    | [], t, _ => exact ex_seqR ((ex_if t).trans rfl)
    | [_], t, _ => exact ex_seqR ((ex_if t).trans rfl)
    | [x, y], t, hq =>
      have hx : plain x = true ∧ plain y = true := by simpa using hq
      refine ex_seq ((ex_if t).trans rfl : _ = SRes.nx [some (.tup [x, y]), none, none] st) (ex_seq (rfl : sAsg (gT [1, 2]) (dVar 0) [some (.tup [x, y]), none, none] st = .nx [some (.tup [x, y]), some x, some y] st) (ex_ret ?_))
      refine ev_andD (ev_call (xs := [x]) (s1 := st) rfl rfl (month_any hx.1)) ?_
      show _ = Res.ok (D.bl (inRange x 0 999 && (inRange y 0 999 && le2 x y))) st
      cases h1 : inRange x 0 999 with
      | false => rfl
      | true =>
        rw [if_pos rfl]
        refine ev_andD (ev_call (xs := [y]) (s1 := st) rfl rfl (month_any hx.2)) ?_
        cases h2 : inRange y 0 999 with
        | false => rfl
        | true =>
          obtain ⟨i, rfl, _, _⟩ := inRange_int h1
          obtain ⟨j, rfl, _, _⟩ := inRange_int h2
          rfl
    | x :: y :: z :: r, t, _ =>
      have e : ((((x :: y :: z :: r).length : Nat) : Int) == 2) = false := by
        rw [beq_eq_false_iff_ne]
        simp only [List.length_cons]
        omega
      rw [e] at t
      exact ex_seqR ((ex_if t).trans rfl)
  | _ => first | (cases hp; done) | exact ex_seqR ((ex_if (ev_orT t1)).trans rfl)
end
end K32

set_option maxRecDepth 100000
set_option maxHeartbeats 1000000
namespace K32
open PySem PySem.Spec PyProof.Rows L2 Den
section
variable {S : List Sp} {p : Int} {st : Store}
theorem bools_true {α : Type} : ∀ xs : List α, boolsOf (xs.map fun _ => D.bl true) = some (xs.map fun _ => true)
  | [] => rfl
  | x :: xs => by simp [boolsOf, bools_true xs]
theorem all_true {α : Type} (xs : List α) : gAll (.lst (xs.map fun _ => D.bl true)) st = some (.bl true) := by
  unfold gAll litemsOf
  dsimp only [Option.bind_some]
  rw [bools_true]
  simp
theorem span_ok {s : Sp} (h : OkS S) (hs : s ∈ S) : isSpan (spanD s) = true := by
  obtain ⟨a, b, c⟩ := h.sp s hs
  unfold isSpan spanD inRange le2
  simp only [Bool.and_eq_true, decide_eq_true_eq]
  omega
theorem are_d (h : OkS S) : f__are_spans [dicS S] st = .ok (.bl true) st := by
  refine run (N := 2) (n := 1) (m := m__are_spans) (r := .ret (.bl true) st) rfl ?_ rfl
  have i1 : dCB (bIsi [] isT) (dCons (dVar 0) (dCons (dC (.ty "dict")) dNil)) [some (dicS S), none] st = .ok (.bl true) st := by kernel_rfl
  have t2 : asB (dOp2 fGt (dCB (orB (one gLen) (one gLenK)) (dCons (dVar 0) dNil)) (dC (.int 12))) [some (dicS S), none] st = .ok (decide ((12 : Int) < ((keysOf S).length : Int))) st :=
    ev_asB (ev_op (x := .int (keysOf S).length) (y := .int 12) (s1 := st) (ev_lenD (ks := keysOf S) (xs := valsOf S) (s1 := st) rfl (keys_len S)) rfl (gt_ii _ _))
  have e2 : decide ((12 : Int) < ((keysOf S).length : Int)) = false := by
    have := h.few
    unfold keysOf
    rw [List.length_map, decide_eq_false_iff_not]
    omega
  rw [e2] at t2
  have q1 : (sIf (tOrD (tNotD (dTruth (dCB (bIsi [] isT) (dCons (dVar 0) (dCons (dC (.ty "dict")) dNil))))) (asB (dOp2 fGt (dCB (orB (one gLen) (one gLenK)) (dCons (dVar 0) dNil)) (dC (.int 12))))) (sRet (dC (.bl false))) sNext) [some (dicS S), none] st = .nx [some (dicS S), none] st :=
    (ex_if (ev_orF (ev_not (ev_truth i1 rfl)) t2)).trans rfl
  refine ex_seq q1 ?_
  have z : lcL (g1 1) tYesD (dAnd (dCallA 1 f__is_number (dCons (dVar 1) dNil)) (dCallA 1 f__is_span (dCons (dIxK (dVar 0) (dVar 1)) dNil))) [some (dicS S), none] (S.map fun s => D.int s.1) st = .ok ((S.filter fun _ => true).map fun _ => .bl true) st := by
    refine lcL_on fun s hs => ⟨[some (dicS S), some (.int s.1)], rfl, rfl, fun _ => ?_⟩
    obtain ⟨n0, n1⟩ := h.num s hs
    refine ev_andD (ev_call (xs := [.int s.1]) (s1 := st) rfl rfl (number_any rfl)) ?_
    have e : inRange (.int s.1) 0 39 = true := by
      unfold inRange
      simp only [Bool.and_eq_true, decide_eq_true_eq]
      omega
    rw [e, if_pos rfl]
    have k := ixk (a := dVar 0) (b := dVar 1) (ρ := [some (dicS S), some (.int s.1)]) (st := st) h hs rfl rfl
    have z := span_any (d := spanD s) (st := st) rfl
    rw [span_ok h hs] at z
    exact ev_call (xs := [spanD s]) (s1 := st) (ev_cons k rfl) rfl z
  have z2 : dLc (iKeysD (dVar 0)) (g1 1) tYesD (dAnd (dCallA 1 f__is_number (dCons (dVar 1) dNil)) (dCallA 1 f__is_span (dCons (dIxK (dVar 0) (dVar 1)) dNil))) [1] [some (dicS S), none] st = .ok (.lst ((S.filter fun _ => true).map fun _ => .bl true)) st := by
    refine ev_lc (ds := S.map fun (s : Sp) => D.int s.1) (s1 := st) ?_ ?_ z ?_
    · rw [← keyD_int]; rfl
    · rw [List.length_map]; have := h.few; omega
    · rw [List.length_map]; have := h.few; have := List.length_filter_le (fun _ : Sp => true) S; omega
  exact ex_ret (ev_cb1 (ev_cons z2 (r := dNil) rfl) (all_true _))
theorem check_d (h : OkS S) (h1 : 1 ≤ p) (h4 : p ≤ 4) : f__check_spans_and_rate [dicS S, .int p] st = .ok .non st := by
  have e : inRange (.int p) 1 4 = true := by
    unfold inRange
    simp only [Bool.and_eq_true, decide_eq_true_eq]
    omega
  have w := within_any (d := .int p) (lo := 1) (hi := 4) (st := st) rfl
  rw [e] at w
  refine run (N := 2) (n := 2) (m := m__check_spans_and_rate) (r := .nx [some (dicS S), some (.int p)] st) rfl ?_ rfl
  have q1 : (sIf (tNotD (dTruth (dCallA 1 f__are_spans (dCons (dVar 0) dNil)))) sBad sNext) [some (dicS S), some (.int p)] st = .nx [some (dicS S), some (.int p)] st := (ex_if (ev_not (ev_truth (ev_call (xs := [dicS S]) (s1 := st) rfl rfl (are_d h)) rfl))).trans rfl
  refine ex_seq q1 ?_
  exact (ex_if (ev_not (ev_truth (ev_call (xs := [.int p, .int 1, .int 4]) (s1 := st) rfl rfl w) rfl))).trans rfl
/-! ### is it a crowded stretch? -/
def overD (S : List Sp) (p : Int) (d : D) : Bool := match d with
  | .tup [.int f, .int l] => over S p f l
  | _ => false
def isCrowd (S : List Sp) (p : Int) (d : D) : Bool := isSpan d && overD S p d
theorem isSpan_iff {d : D} (h : isSpan d = true) : ∃ f l, d = .tup [.int f, .int l] ∧ 0 ≤ f ∧ f ≤ l ∧ l ≤ 999 := by
  unfold isSpan at h
  split at h
  · rename_i x y
    rw [Bool.and_eq_true, Bool.and_eq_true] at h
    obtain ⟨h1, h2, h3⟩ := h
    obtain ⟨i, rfl, a, b⟩ := inRange_int h1
    obtain ⟨j, rfl, c, d⟩ := inRange_int h2
    unfold le2 at h3
    exact ⟨i, j, rfl, a, of_decide_eq_true h3, d⟩
  · cases h
theorem small64 {i : Int} (h0 : -10000 ≤ i) (h1 : i ≤ 10000) : i.natAbs < 2 ^ 64 := by
  have : i.natAbs ≤ 10000 := by omega
  exact Nat.lt_of_le_of_lt this (by decide)
theorem is_crowd_d {d : D} (h : OkS S) (h1 : 1 ≤ p) (h4 : p ≤ 4) (hd : flatT d = true) : f_is_crowd [dicS S, d, .int p] st = .ok (.bl (isCrowd S p d)) st := by
  refine run (N := 3) (n := 3) (m := m_is_crowd) (r := .ret (.bl (isCrowd S p d)) st) rfl ?_ rfl
  have q1 : (sDrop (dCallA 2 f__check_spans_and_rate (dCons (dVar 0) (dCons (dVar 2) dNil)))) [some (dicS S), some d, some (.int p)] st = .nx [some (dicS S), some d, some (.int p)] st := ex_drop (ev_call (xs := [dicS S, .int p]) (s1 := st) rfl rfl (check_d h h1 h4))
  refine ex_seq q1 (ex_ret (ev_andD (ev_call (xs := [d]) (s1 := st) rfl rfl (span_any hd)) ?_))
  unfold isCrowd
  cases hs : isSpan d with
  | false => rfl
  | true =>
    obtain ⟨f, l, rfl, a, b, c⟩ := isSpan_iff hs
    rw [if_pos rfl]
    exact ev_call (xs := [dicS S, .tup [.int f, .int l], .int p]) (s1 := st) rfl rfl (overfull_d h (small64 (by omega) (by omega)) (small64 (by omega) (by omega)))
theorem law_span_d {d : D} (h : flatT d = true) : f__law_is_span [d] st = .ok (.bl (isSpan d)) st := by
  unfold flatT at h
  rw [Bool.and_eq_true] at h
  obtain ⟨hp, hq⟩ := h
  have t1 := isi_tuple (st := st) (ρ := [some d, none]) (a := dVar 0) hp rfl
  refine run (N := 2) (n := 1) (m := m__law_is_span) (r := .ret (.bl (isSpan d)) st) rfl ?_ rfl
  cases d with
  | tup xs =>
    have t2 : asB (dOp2 fNe (dCB (orB (one gLen) (one gLenK)) (dCons (dVar 0) dNil)) (dC (.int 2))) [some (.tup xs), none] st = .ok (!((xs.length : Int) == 2)) st :=
      ev_asB (ev_op (x := .int xs.length) (y := .int 2) (s1 := st) (ev_lenI (x := .tup xs) (s1 := st) rfl rfl) rfl rfl)
    match xs, t1, t2, hq with
    | [], t1, t2, _ => exact ex_seqR ((ex_if (ev_orF t1 (ev_orT t2))).trans rfl)
    | [_], t1, t2, _ => exact ex_seqR ((ex_if (ev_orF t1 (ev_orT t2))).trans rfl)
    | x :: y :: z :: r, t1, t2, _ =>
      have e : ((((x :: y :: z :: r).length : Nat) : Int) == 2) = false := by
        rw [beq_eq_false_iff_ne]
        simp only [List.length_cons]
        omega
      rw [e] at t2
      exact ex_seqR ((ex_if (ev_orF t1 (ev_orT t2))).trans rfl)
    | [x, y], t1, t2, hq =>
      have hx : plain x = true ∧ plain y = true := by simpa using hq
      have w1 := lwithin_any (d := x) (lo := 0) (hi := 999) (st := st) hx.1
      have w2 := lwithin_any (d := y) (lo := 0) (hi := 999) (st := st) hx.2
      have z : lcL (g1 1) tYesD (dCallA 3 f__law_within (dCons (dVar 1) (dCons (dC (.int 0)) (dCons (dC (.int 999)) dNil)))) [some (.tup [x, y]), none] [x, y] st = .ok [.bl (inRange x 0 999), .bl (inRange y 0 999)] st := by
        have a1 : dCallA 3 f__law_within (dCons (dVar 1) (dCons (dC (.int 0)) (dCons (dC (.int 999)) dNil))) [some (.tup [x, y]), some x] st = .ok (.bl (inRange x 0 999)) st := ev_call (xs := [x, .int 0, .int 999]) (s1 := st) rfl rfl w1
        have a2 : dCallA 3 f__law_within (dCons (dVar 1) (dCons (dC (.int 0)) (dCons (dC (.int 999)) dNil))) [some (.tup [x, y]), some y] st = .ok (.bl (inRange y 0 999)) st := ev_call (xs := [y, .int 0, .int 999]) (s1 := st) rfl rfl w2
        have g0 : g1 1 x [some (.tup [x, y]), none] = some [some (.tup [x, y]), some x] := rfl
        have g2 : g1 1 y [some (.tup [x, y]), none] = some [some (.tup [x, y]), some y] := rfl
        simp [lcL, g0, g2, tYesD, noX, a1, a2]
      have al : dCB (one gAll) (dCons (dLcT (dVar 0) (g1 1) tYesD (dCallA 3 f__law_within (dCons (dVar 1) (dCons (dC (.int 0)) (dCons (dC (.int 999)) dNil)))) [1]) dNil) [some (.tup [x, y]), none] st = .ok (.bl (inRange x 0 999 && inRange y 0 999)) st := by
        refine ev_cb1 (ev_cons (ev_lcT (xs := [x, y]) (s1 := st) rfl (show 2 ≤ 100000 by decide) z (show 2 ≤ 100000 by decide)) (r := dNil) rfl) ?_
        unfold gAll litemsOf
        simp [boolsOf]
      have t := ev_orF t1 (ev_orF t2 (ev_not (ev_truth al rfl)))
      cases hb : inRange x 0 999 && inRange y 0 999 with
      | false =>
        rw [hb] at t
        have e : isSpan (.tup [x, y]) = false := by
          show (inRange x 0 999 && (inRange y 0 999 && le2 x y)) = false
          rw [← Bool.and_assoc, hb]
          rfl
        rw [e]
        exact ex_seqR ((ex_if t).trans rfl)
      | true =>
        rw [hb] at t
        have e : isSpan (.tup [x, y]) = le2 x y := by
          show (inRange x 0 999 && (inRange y 0 999 && le2 x y)) = _
          rw [← Bool.and_assoc, hb]
          rfl
        rw [e]
        rw [Bool.and_eq_true] at hb
        obtain ⟨i, rfl, _, _⟩ := inRange_int hb.1
        obtain ⟨j, rfl, _, _⟩ := inRange_int hb.2
        exact ex_seq ((ex_if t).trans rfl : _ = SRes.nx [some (.tup [.int i, .int j]), none] st) (ex_ret (ev_op (x := .int i) (y := .int j) (s1 := st) rfl rfl (le_ii _ _)))
  | _ => first | (cases hp; done) | exact ex_seqR ((ex_if (ev_orT t1)).trans rfl)
theorem law_is_crowd_d {d : D} (h : OkS S) (h1 : 1 ≤ p) (h4 : p ≤ 4) (hd : flatT d = true) : f__law_is_crowd [dicS S, .int p, d] st = .ok (.bl (isCrowd S p d)) st := by
  refine run (N := 3) (n := 3) (m := m__law_is_crowd) (r := .ret (.bl (isCrowd S p d)) st) rfl ?_ rfl
  have t : tNotD (dTruth (dCallA 1 f__law_is_span (dCons (dVar 2) dNil))) [some (dicS S), some (.int p), some d] st = .ok (!(isSpan d)) st := ev_not (ev_truth (ev_call (xs := [d]) (s1 := st) rfl rfl (law_span_d hd)) rfl)
  unfold isCrowd
  cases hs : isSpan d with
  | false =>
    rw [hs] at t
    exact ex_seqR ((ex_if t).trans rfl)
  | true =>
    rw [hs] at t
    obtain ⟨f, l, rfl, a, b, c⟩ := isSpan_iff hs
    have q1 := (ex_if (p := sRet (dC (.bl false))) (q := sNext) t).trans (rfl : _ = SRes.nx [some (dicS S), some (.int p), some (.tup [.int f, .int l])] st)
    refine ex_seq q1 (ex_ret (ev_op (x := .int (cnt S f l)) (y := .int (p * (l - f + 1))) (s1 := st) (ev_call (xs := [dicS S, .int f, .int l]) (s1 := st) rfl rfl (within_of_d h)) ?_ (gt_ii _ _)))
    exact ev_op (x := .int p) (y := .int (l - f + 1)) (s1 := st) rfl rfl (mul_ii (small64 (by omega) (by omega)) (small64 (by omega) (by omega)))
end
end K32

set_option maxRecDepth 100000
set_option maxHeartbeats 1000000
namespace K32
/-! ### the least crowded stretch, found in two ways: numbers alone -/
def upI (lo : Int) (n : Nat) : List Int := (List.range n).map fun (i : Nat) => lo + i
theorem mem_ints {lo k : Int} {n : Nat} : k ∈ upI lo n ↔ lo ≤ k ∧ k < lo + n := by
  unfold upI
  rw [List.mem_map]
  constructor
  · rintro ⟨i, hi, rfl⟩
    have := List.mem_range.mp hi
    omega
  · rintro ⟨h1, h2⟩
    exact ⟨(k - lo).toNat, List.mem_range.mpr (by omega), by omega⟩
theorem ints_succ (lo : Int) (n : Nat) : upI lo (n + 1) = lo :: upI (lo + 1) n := by
  unfold upI
  rw [List.range_succ_eq_map, List.map_cons, List.map_map]
  congr 1
  · simp
  · refine List.map_congr_left fun i _ => ?_
    show lo + ((i + 1 : Nat) : Int) = lo + 1 + (i : Int)
    omega
/-- what is found first -/
theorem find_ints {q : Int → Bool} {lo : Int} {n : Nat} : match (upI lo n).find? q with
    | some l => lo ≤ l ∧ l < lo + n ∧ q l = true ∧ ∀ k, lo ≤ k → k < l → q k = false
    | none => ∀ k, lo ≤ k → k < lo + n → q k = false := by
  induction n generalizing lo with
  | zero =>
    show ∀ k, lo ≤ k → k < lo + ((0 : Nat) : Int) → q k = false
    intro k h1 h2
    omega
  | succ n ih =>
    rw [ints_succ]
    cases hq : q lo with
    | true =>
      rw [List.find?_cons_of_pos hq]
      exact ⟨Int.le_refl _, by omega, hq, fun k h1 h2 => by omega⟩
    | false =>
      rw [List.find?_cons_of_neg (by rw [hq]; decide)]
      have h := ih (lo := lo + 1)
      split at h
      · rename_i l e
        obtain ⟨a, b, c, d⟩ := h
        refine ⟨by omega, by omega, c, fun k h1 h2 => ?_⟩
        by_cases hk : k = lo
        · rw [hk]; exact hq
        · exact d k (by omega) h2
      · rename_i e
        intro k h1 h2
        by_cases hk : k = lo
        · rw [hk]; exact hq
        · exact h k (by omega) (by omega)
def firstAt (S : List Sp) (p hi f : Int) : Option Int := (upI f (hi + 1 - f).toNat).find? (over S p f)
def lawRes (S : List Sp) (p lo hi : Int) : Option (Int × Int) := (upI lo (hi + 1 - lo).toNat).findSome? fun f => (firstAt S p hi f).map fun l => (f, l)
theorem firstAt_some {S : List Sp} {p hi f l : Int} (h : firstAt S p hi f = some l) : f ≤ l ∧ l ≤ hi ∧ over S p f l = true ∧ ∀ k, f ≤ k → k < l → over S p f k = false := by
  have z := find_ints (q := over S p f) (lo := f) (n := (hi + 1 - f).toNat)
  unfold firstAt at h
  rw [h] at z
  exact ⟨z.1, by omega, z.2.2.1, z.2.2.2⟩
theorem firstAt_none {S : List Sp} {p hi f : Int} (h : firstAt S p hi f = none) : ∀ k, f ≤ k → k ≤ hi → over S p f k = false := by
  have z := find_ints (q := over S p f) (lo := f) (n := (hi + 1 - f).toNat)
  unfold firstAt at h
  rw [h] at z
  exact fun k h1 h2 => z k h1 (by omega)
theorem lawRes_some {S : List Sp} {p lo hi f l : Int} (h : lawRes S p lo hi = some (f, l)) : lo ≤ f ∧ f ≤ l ∧ l ≤ hi ∧ over S p f l = true ∧ (∀ k, f ≤ k → k < l → over S p f k = false) ∧ ∀ f' k, lo ≤ f' → f' < f → f' ≤ k → k ≤ hi → over S p f' k = false := by
  have go : ∀ (n : Nat) (lo : Int), (upI lo n).findSome? (fun f => (firstAt S p hi f).map fun l => (f, l)) = some (f, l) → lo ≤ f ∧ firstAt S p hi f = some l ∧ ∀ f', lo ≤ f' → f' < f → firstAt S p hi f' = none := by
    intro n
    induction n with
    | zero => intro lo h; cases h
    | succ n ih =>
      intro lo h
      rw [ints_succ, List.findSome?_cons] at h
      cases hq : firstAt S p hi lo with
      | some k =>
        rw [hq] at h
        simp only [Option.map_some, Option.some.injEq, Prod.mk.injEq] at h
        obtain ⟨h1, h2⟩ := h
        subst h1 h2
        exact ⟨Int.le_refl _, hq, fun f' h1 h2 => by omega⟩
      | none =>
        rw [hq] at h
        obtain ⟨a, b, c⟩ := ih (lo + 1) h
        refine ⟨by omega, b, fun f' h1 h2 => ?_⟩
        by_cases e : f' = lo
        · rw [e]; exact hq
        · exact c f' (by omega) h2
  obtain ⟨a, b, c⟩ := go _ _ h
  obtain ⟨b1, b2, b3, b4⟩ := firstAt_some b
  exact ⟨a, b1, b2, b3, b4, fun f' k h1 h2 h3 h4 => firstAt_none (c f' h1 h2) k h3 h4⟩
theorem lawRes_none {S : List Sp} {p lo hi : Int} (h : lawRes S p lo hi = none) : ∀ f k, lo ≤ f → f ≤ hi → f ≤ k → k ≤ hi → over S p f k = false := by
  intro f k h1 h2 h3 h4
  have z := List.findSome?_eq_none_iff.mp h f (mem_ints.mpr ⟨h1, by omega⟩)
  have z2 : firstAt S p hi f = none := by
    cases e : firstAt S p hi f with
    | none => rfl
    | some l => rw [e] at z; cases z
  exact firstAt_none z2 k h3 h4
/-! ### what a crowded stretch is like -/
section
variable {S : List Sp} {p f l : Int}
theorem over_some (h : over S p f l = true) (hp : 1 ≤ p) (hl : f ≤ l) : (∃ s ∈ S, f ≤ s.2.1 ∧ s.2.2 ≤ l) ∧ p * (l - f + 1) ≤ (S.length : Int) - 1 := by
  unfold over at h
  have h' := of_decide_eq_true h
  have c := cnt_le S f l
  have pos : 0 < p * (l - f + 1) := Int.mul_pos (by omega) (by omega)
  refine ⟨?_, by omega⟩
  have ne : 0 < (S.filter (inSp f l)).length := by
    have : 0 < cnt S f l := by omega
    exact this
  obtain ⟨s, hs⟩ := List.exists_mem_of_length_pos ne
  have := List.mem_filter.mp hs
  refine ⟨s, this.1, ?_⟩
  have h2 := this.2
  unfold inSp at h2
  rw [Bool.and_eq_true, decide_eq_true_eq, decide_eq_true_eq] at h2
  exact h2
theorem over_less (h : over S p f l = true) (hp : 1 ≤ p) (hl : f ≤ l) (ho : ∀ s ∈ S, s.2.1 ≤ s.2.2) (no : ∀ s ∈ S, s.2.2 ≠ l) : f ≤ l - 1 ∧ over S p f (l - 1) = true := by
  obtain ⟨⟨s, hs, h1, h2⟩, _⟩ := over_some h hp hl
  have h3 := no s hs
  have h4 := ho s hs
  refine ⟨by omega, ?_⟩
  have e : cnt S f (l - 1) = cnt S f l := by
    unfold cnt
    congr 1
    refine List.filter_congr fun z hz => ?_
    have := no z hz
    unfold inSp
    congr 1
    rw [decide_eq_decide]
    omega
  unfold over at h ⊢
  rw [e, decide_eq_true_eq]
  have h' := of_decide_eq_true h
  have m : p * (l - 1 - f + 1) ≤ p * (l - f + 1) := Int.mul_le_mul_of_nonneg_left (by omega) (by omega)
  omega
end
/-! ### the stretches that are looked at -/
def cands (S : List Sp) (g : Int) : List (Int × Int) := S.flatMap fun s => ((upI 1 g.toNat).filter fun m => decide (m ≤ s.2.2 + 1)).map fun m => (s.2.2 - m + 1, s.2.2)
def overs (S : List Sp) (p : Int) : List (Int × Int) := (cands S (((S.length : Int) - 1) / p)).filter fun q => over S p q.1 q.2
theorem mem_cands {S : List Sp} {g : Int} {q : Int × Int} : q ∈ cands S g ↔ ∃ s ∈ S, q.2 = s.2.2 ∧ 0 ≤ q.1 ∧ q.1 ≤ q.2 ∧ q.2 - q.1 + 1 ≤ g := by
  unfold cands
  rw [List.mem_flatMap]
  constructor
  · rintro ⟨s, hs, hq⟩
    obtain ⟨m, hm, rfl⟩ := List.mem_map.mp hq
    obtain ⟨h1, h2⟩ := List.mem_filter.mp hm
    have h3 := mem_ints.mp h1
    have h4 := of_decide_eq_true h2
    refine ⟨s, hs, rfl, ?_, ?_, ?_⟩ <;> (dsimp only; omega)
  · rintro ⟨s, hs, h1, h2, h3, h4⟩
    refine ⟨s, hs, List.mem_map.mpr ⟨q.2 - q.1 + 1, List.mem_filter.mpr ⟨mem_ints.mpr (by omega), by rw [decide_eq_true_eq]; omega⟩, ?_⟩⟩
    rw [← h1]
    ext <;> first | rfl | (dsimp only; omega)
theorem mem_overs {S : List Sp} {p : Int} {q : Int × Int} : q ∈ overs S p ↔ (∃ s ∈ S, q.2 = s.2.2 ∧ 0 ≤ q.1 ∧ q.1 ≤ q.2 ∧ q.2 - q.1 + 1 ≤ ((S.length : Int) - 1) / p) ∧ over S p q.1 q.2 = true := by
  unfold overs
  rw [List.mem_filter, mem_cands]
def ltP (a b : Int × Int) : Bool := if a.1 = b.1 then decide (a.2 < b.2) else decide (a.1 < b.1)
/-- both ways find the same -/
theorem both {S : List Sp} {p lo hi : Int} (h : OkS S) (hp : 1 ≤ p) (hlo : 0 ≤ lo) (h1 : ∀ s ∈ S, lo ≤ s.2.1 - 13 ∨ lo = 0) (h2 : ∀ s ∈ S, s.2.2 ≤ hi) : match lawRes S p lo hi with
    | some q => q ∈ overs S p ∧ ∀ q' ∈ overs S p, ltP q' q = false
    | none => overs S p = [] := by
  have few : (S.length : Int) ≤ 12 := by have := h.few; omega
  have inr : ∀ q ∈ overs S p, lo ≤ q.1 ∧ q.1 ≤ q.2 ∧ q.2 ≤ hi ∧ over S p q.1 q.2 = true := by
    intro q hq
    obtain ⟨⟨s, hs, e, a, b, c⟩, o⟩ := mem_overs.mp hq
    obtain ⟨⟨z, hz, z1, z2⟩, m⟩ := over_some o hp b
    have w := h.sp z hz
    have m2 : q.2 - q.1 + 1 ≤ p * (q.2 - q.1 + 1) := by
      have := Int.mul_le_mul_of_nonneg_right (a := 1) (b := p) (c := q.2 - q.1 + 1) hp (by omega)
      omega
    refine ⟨?_, b, by rw [e]; exact h2 s hs, o⟩
    rcases h1 z hz with g | g <;> omega
  cases hr : lawRes S p lo hi with
  | none =>
    have z := lawRes_none hr
    show overs S p = []
    refine List.eq_nil_iff_forall_not_mem.mpr fun q hq => ?_
    obtain ⟨a, b, c, d⟩ := inr q hq
    rw [z q.1 q.2 a (by omega) b c] at d
    cases d
  | some q =>
    obtain ⟨f, l⟩ := q
    obtain ⟨a, b, c, d, e, g⟩ := lawRes_some hr
    show (f, l) ∈ overs S p ∧ ∀ q' ∈ overs S p, ltP q' (f, l) = false
    obtain ⟨⟨z, hz, z1, z2⟩, m⟩ := over_some d hp b
    constructor
    · refine mem_overs.mpr ⟨?_, d⟩
      have isEnd : ∃ s ∈ S, s.2.2 = l := by
        refine Classical.byContradiction fun no => ?_
        have no' : ∀ s ∈ S, s.2.2 ≠ l := fun s hs e => no ⟨s, hs, e⟩
        obtain ⟨w1, w2⟩ := over_less d hp b (fun s hs => (h.sp s hs).2.1) no'
        rw [e (l - 1) w1 (by omega)] at w2
        cases w2
      obtain ⟨s, hs, es⟩ := isEnd
      refine ⟨s, hs, es.symm, by dsimp only; omega, b, ?_⟩
      show l - f + 1 ≤ _
      exact Int.le_ediv_of_mul_le (by omega) (by rw [Int.mul_comm]; exact m)
    · intro q' hq'
      obtain ⟨a', b', c', d'⟩ := inr q' hq'
      unfold ltP
      dsimp only
      split
      · rename_i e1
        rw [decide_eq_false_iff_not]
        intro lt
        rw [e1] at b' d'
        rw [e q'.2 b' lt] at d'
        cases d'
      · rw [decide_eq_false_iff_not]
        intro lt
        rw [g q'.1 q'.2 a' lt b' c'] at d'
        cases d'
end K32

set_option maxRecDepth 100000
set_option maxHeartbeats 1000000
namespace K32
open PySem PySem.Spec PyProof.Rows L2 Den
theorem range_up (lo : Int) (n : Nat) : rangeD lo n = (upI lo n).map D.int := by
  unfold rangeD upI
  rw [List.map_map]
  rfl
theorem ex_forR2 {a : DA} {g : GD} {b : DS} {ρ : Rho} {st s1 : Store} {i j : Int} {w : SRes} (h : a ρ st = .ok [.int i, .int j] s1) (hj : big62 i ∧ big62 j) (hw : forL g b (rangeD i (j - i).toNat) ρ s1 = w) : sForR2 a g b ρ st = w := by
  unfold sForR2
  rw [h, into_ok]
  dsimp only
  rw [if_pos hj]
  exact hw
theorem big_of {i : Int} (h0 : -100000 ≤ i) (h1 : i ≤ 100000) : big62 i := by
  unfold big62
  omega
abbrev innB : DS := (sSeq (sSet 6 (dCallA 3 f__law_within_of (dCons (dVar 0) (dCons (dVar 4) (dCons (dVar 5) dNil)))))
    (sIf (asB (dOp2 fGt (dVar 6) (dMulA (dVar 1) (dAdd (dSub (dVar 5) (dVar 4)) (dC (.int 1)))))) (sRet (dTup (dCons (dVar 4) (dCons (dVar 5) (dCons (dVar 6) dNil))))) sNext))
abbrev endE : DE := dAdd (dCB maxF (dCons (dVar 2) dNil)) (dC (.int 1))
abbrev outB2 : DS := sForR2 (dCons (dVar 4) (dCons endE dNil)) (g1 5) innB
theorem law_crowd_cut : m__law_crowd = (sSeq (sIf (asB (dOp2 fEq (dCB lenF (dCons (dVar 0) dNil)) (dC (.int 0)))) (sRet (dC .non)) sNext)
    (sSeq (sSet 2 (dLc (iKeysD (dVar 0)) (g1 7) tYesD (dIx (dIxK (dVar 0) (dVar 7)) (dC (.int 1))) [7]))
    (sSeq (sSet 3 (dCB maxF (dCons (dC (.int 0)) (dCons (dSub (dCB minF (dCons (dLc (iKeysD (dVar 0)) (g1 7) tYesD (dIx (dIxK (dVar 0) (dVar 7)) (dC (.int 0))) [7]) dNil)) (dC (.int 13))) dNil))))
    (sSeq (sForR2 (dCons (dVar 3) (dCons endE dNil)) (g1 4) outB2) (sRet (dC .non)))))) := rfl
section
variable {S : List Sp} {p f lo hi : Int} {st : Store} {es : List D}
def foundD (S : List Sp) (q : Int × Int) : D := .tup [.int q.1, .int q.2, .int (cnt S q.1 q.2)]
theorem turn_d {l : Int} {x6 x7 : Option D} (h : OkS S) (hp : p.natAbs < 2 ^ 64) (hf : (l - f + 1).natAbs < 2 ^ 64) : innB [some (dicS S), some (.int p), some (.lst es), some (.int lo), some (.int f), some (.int l), x6, x7] st =
    if over S p f l = true then .ret (foundD S (f, l)) st else .nx [some (dicS S), some (.int p), some (.lst es), some (.int lo), some (.int f), some (.int l), some (.int (cnt S f l)), x7] st := by
  have q1 : sSet 6 (dCallA 3 f__law_within_of (dCons (dVar 0) (dCons (dVar 4) (dCons (dVar 5) dNil)))) [some (dicS S), some (.int p), some (.lst es), some (.int lo), some (.int f), some (.int l), x6, x7] st = .nx [some (dicS S), some (.int p), some (.lst es), some (.int lo), some (.int f), some (.int l), some (.int (cnt S f l)), x7] st :=
    ex_set (ev_call (xs := [dicS S, .int f, .int l]) (s1 := st) rfl rfl (within_of_d h))
  have t : asB (dOp2 fGt (dVar 6) (dMulA (dVar 1) (dAdd (dSub (dVar 5) (dVar 4)) (dC (.int 1))))) [some (dicS S), some (.int p), some (.lst es), some (.int lo), some (.int f), some (.int l), some (.int (cnt S f l)), x7] st = .ok (over S p f l) st := by
    have m : dMulA (dVar 1) (dAdd (dSub (dVar 5) (dVar 4)) (dC (.int 1))) [some (dicS S), some (.int p), some (.lst es), some (.int lo), some (.int f), some (.int l), some (.int (cnt S f l)), x7] st = .ok (.int (p * (l - f + 1))) st := ev_op (x := .int p) (y := .int (l - f + 1)) (s1 := st) rfl rfl (mul_ii hp hf)
    exact ev_asB (ev_op (x := .int (cnt S f l)) (y := .int (p * (l - f + 1))) (s1 := st) rfl m (gt_ii _ _))
  refine ex_seq q1 ((ex_if t).trans ?_)
  cases over S p f l <;> rfl
theorem inner_d (h : OkS S) (hp : p.natAbs < 2 ^ 64) : ∀ (ls : List Int) {x5 x6 x7 : Option D}, (∀ l ∈ ls, (l - f + 1).natAbs < 2 ^ 64) → match ls.find? (over S p f) with
    | some l => forL (g1 5) innB (ls.map D.int) [some (dicS S), some (.int p), some (.lst es), some (.int lo), some (.int f), x5, x6, x7] st = .ret (foundD S (f, l)) st
    | none => ∃ y5 y6, forL (g1 5) innB (ls.map D.int) [some (dicS S), some (.int p), some (.lst es), some (.int lo), some (.int f), x5, x6, x7] st = .nx [some (dicS S), some (.int p), some (.lst es), some (.int lo), some (.int f), y5, y6, x7] st
  | [], x5, x6, x7, _ => ⟨x5, x6, rfl⟩
  | l :: ls, x5, x6, x7, hl => by
    have t := turn_d (S := S) (p := p) (f := f) (l := l) (lo := lo) (es := es) (st := st) (x6 := x6) (x7 := x7) h hp (hl l List.mem_cons_self)
    have step : forL (g1 5) innB ((l :: ls).map D.int) [some (dicS S), some (.int p), some (.lst es), some (.int lo), some (.int f), x5, x6, x7] st =
        (match innB [some (dicS S), some (.int p), some (.lst es), some (.int lo), some (.int f), some (.int l), x6, x7] st with
          | .nx ρ1 s1 => forL (g1 5) innB (ls.map D.int) ρ1 s1
          | .cnt ρ1 s1 => forL (g1 5) innB (ls.map D.int) ρ1 s1
          | .brk ρ1 s1 => .nx ρ1 s1
          | .ret d s1 => .ret d s1
          | .exc c ds ρ1 s1 => .exc c ds ρ1 s1
          | .bad => .bad) := rfl
    cases ho : over S p f l with
    | true =>
      rw [List.find?_cons_of_pos ho]
      rw [ho, if_pos rfl] at t
      show forL _ _ _ _ _ = _
      rw [step, t]
    | false =>
      rw [List.find?_cons_of_neg (by rw [ho]; decide)]
      rw [ho, if_neg (by decide)] at t
      have ih := inner_d h hp ls (x5 := some (.int l)) (x6 := some (.int (cnt S f l))) (x7 := x7) fun k hk => hl k (List.mem_cons_of_mem _ hk)
      rw [t] at step
      rw [step]
      exact ih
theorem end_d {S : List Sp} {s0 : Sp} {r : List Sp} {x0 x1 x3 x4 x5 x6 x7 : Option D} : endE [x0, x1, some (.lst ((s0.2.2 :: r.map (·.2.2)).map D.int)), x3, x4, x5, x6, x7] st = .ok (.int ((r.map (·.2.2)).foldl max s0.2.2 + 1)) st :=
  ev_op (x := .int ((r.map (·.2.2)).foldl max s0.2.2)) (y := .int 1) (s1 := st) (ev_maxL (n := s0.2.2) (ns := r.map (·.2.2)) (ev_cons (s1 := st) rfl rfl)) rfl rfl
theorem outer_d {s0 : Sp} {r : List Sp} (h : OkS S) (hp : p.natAbs < 2 ^ 64) (hhi : hi = (r.map (·.2.2)).foldl max s0.2.2) (hh : hi ≤ 999) (h0 : 0 ≤ hi) : ∀ (fs : List Int) {x4 x5 x6 x7 : Option D}, (∀ f ∈ fs, 0 ≤ f ∧ f ≤ 999) → match fs.findSome? (fun f => (firstAt S p hi f).map fun l => (f, l)) with
    | some q => forL (g1 4) outB2 (fs.map D.int) [some (dicS S), some (.int p), some (.lst ((s0.2.2 :: r.map (·.2.2)).map D.int)), some (.int lo), x4, x5, x6, x7] st = .ret (foundD S q) st
    | none => ∃ y4 y5 y6, forL (g1 4) outB2 (fs.map D.int) [some (dicS S), some (.int p), some (.lst ((s0.2.2 :: r.map (·.2.2)).map D.int)), some (.int lo), x4, x5, x6, x7] st = .nx [some (dicS S), some (.int p), some (.lst ((s0.2.2 :: r.map (·.2.2)).map D.int)), some (.int lo), y4, y5, y6, x7] st
  | [], x4, x5, x6, x7, _ => ⟨x4, x5, x6, rfl⟩
  | f :: fs, x4, x5, x6, x7, hf => by
    have bf := hf f List.mem_cons_self
    have e := end_d (S := S) (st := st) (s0 := s0) (r := r) (x0 := some (dicS S)) (x1 := some (.int p)) (x3 := some (.int lo)) (x4 := some (.int f)) (x5 := x5) (x6 := x6) (x7 := x7)
    rw [← hhi] at e
    have a : (dCons (dVar 4) (dCons endE dNil)) [some (dicS S), some (.int p), some (.lst ((s0.2.2 :: r.map (·.2.2)).map D.int)), some (.int lo), some (.int f), x5, x6, x7] st = .ok [.int f, .int (hi + 1)] st := ev_cons (s1 := st) rfl (ev_cons e rfl)
    have inn := inner_d (S := S) (p := p) (f := f) (lo := lo) (es := (s0.2.2 :: r.map (·.2.2)).map D.int) (st := st) h hp (upI f (hi + 1 - f).toNat) (x5 := x5) (x6 := x6) (x7 := x7) fun l hl => by
      have := mem_ints.mp hl
      exact small64 (by omega) (by omega)
    have lp : ∀ w, forL (g1 5) innB ((upI f (hi + 1 - f).toNat).map D.int) [some (dicS S), some (.int p), some (.lst ((s0.2.2 :: r.map (·.2.2)).map D.int)), some (.int lo), some (.int f), x5, x6, x7] st = w →
        outB2 [some (dicS S), some (.int p), some (.lst ((s0.2.2 :: r.map (·.2.2)).map D.int)), some (.int lo), some (.int f), x5, x6, x7] st = w := fun w hw =>
      ex_forR2 a ⟨big_of (by omega) (by omega), big_of (by omega) (by omega)⟩ (by rw [range_up]; exact hw)
    have step : forL (g1 4) outB2 ((f :: fs).map D.int) [some (dicS S), some (.int p), some (.lst ((s0.2.2 :: r.map (·.2.2)).map D.int)), some (.int lo), x4, x5, x6, x7] st =
        (match outB2 [some (dicS S), some (.int p), some (.lst ((s0.2.2 :: r.map (·.2.2)).map D.int)), some (.int lo), some (.int f), x5, x6, x7] st with
          | .nx ρ1 s1 => forL (g1 4) outB2 (fs.map D.int) ρ1 s1
          | .cnt ρ1 s1 => forL (g1 4) outB2 (fs.map D.int) ρ1 s1
          | .brk ρ1 s1 => .nx ρ1 s1
          | .ret d s1 => .ret d s1
          | .exc c ds ρ1 s1 => .exc c ds ρ1 s1
          | .bad => .bad) := rfl
    rw [List.findSome?_cons]
    unfold firstAt at *
    split at inn
    · rename_i l hl
      rw [hl]
      dsimp only [Option.map_some]
      rw [step, lp _ inn]
    · rename_i hl
      rw [hl]
      dsimp only [Option.map_none]
      obtain ⟨y5, y6, e2⟩ := inn
      have ih := outer_d h hp hhi hh h0 fs (x4 := some (.int f)) (x5 := y5) (x6 := y6) (x7 := x7) fun k hk => hf k (List.mem_cons_of_mem _ hk)
      rw [lp _ e2] at step
      rw [step]
      exact ih
end
end K32

set_option maxRecDepth 100000
set_option maxHeartbeats 1000000
namespace K32
open PySem PySem.Spec PyProof.Rows L2 Den
/-! ### the least of pairs -/
theorem ltP_iff {a b : Int × Int} : ltP a b = true ↔ a.1 < b.1 ∨ (a.1 = b.1 ∧ a.2 < b.2) := by
  unfold ltP
  split
  · rename_i e
    rw [decide_eq_true_eq]
    omega
  · rename_i e
    rw [decide_eq_true_eq]
    omega
def leastP (x : Int × Int) (xs : List (Int × Int)) : Int × Int := xs.foldl (fun a y => if ltP y a = true then y else a) x
theorem leastP_spec : ∀ (xs : List (Int × Int)) (x : Int × Int), leastP x xs ∈ x :: xs ∧ ∀ y ∈ x :: xs, ltP y (leastP x xs) = false
  | [], x => ⟨List.mem_cons_self, fun y hy => by
      rw [List.mem_singleton.mp hy, ← Bool.not_eq_true]
      show ¬ ltP x x = true
      rw [ltP_iff]
      omega⟩
  | a :: xs, x => by
    have h : leastP x (a :: xs) = leastP (if ltP a x = true then a else x) xs := rfl
    obtain ⟨h1, h2⟩ := leastP_spec xs (if ltP a x = true then a else x)
    rw [h]
    cases hl : ltP a x with
    | true =>
      rw [hl, if_pos rfl] at h1 h2
      rw [if_pos rfl]
      refine ⟨List.mem_cons_of_mem _ h1, fun y hy => ?_⟩
      rcases List.mem_cons.mp hy with rfl | hy
      · have h3 := h2 a List.mem_cons_self
        rw [← Bool.not_eq_true, ltP_iff] at h3 ⊢
        rw [ltP_iff] at hl
        omega
      · exact h2 y hy
    | false =>
      rw [hl, if_neg (by decide)] at h1 h2
      rw [if_neg (by decide)]
      refine ⟨?_, fun y hy => ?_⟩
      · rcases List.mem_cons.mp h1 with h1 | h1
        · rw [h1]; exact List.mem_cons_self
        · exact List.mem_cons_of_mem _ (List.mem_cons_of_mem _ h1)
      · rcases List.mem_cons.mp hy with rfl | hy
        · exact h2 _ List.mem_cons_self
        · rcases List.mem_cons.mp hy with rfl | hy
          · have h3 := h2 x List.mem_cons_self
            rw [← Bool.not_eq_true, ltP_iff] at h3 hl ⊢
            omega
          · exact h2 y (List.mem_cons_of_mem _ hy)
theorem leastP_is {x q : Int × Int} {xs : List (Int × Int)} (hq : q ∈ x :: xs) (hl : ∀ y ∈ x :: xs, ltP y q = false) : leastP x xs = q := by
  obtain ⟨h1, h2⟩ := leastP_spec xs x
  have a := hl _ h1
  have b := h2 _ hq
  rw [← Bool.not_eq_true, ltP_iff] at a b
  have e1 : (leastP x xs).1 = q.1 := by omega
  have e2 : (leastP x xs).2 = q.2 := by omega
  exact Prod.ext e1 e2
def pairD (q : Int × Int) : D := .tup [.int q.1, .int q.2]
theorem pure_pairs : ∀ qs : List (Int × Int), pureL (qs.map pairD) = true
  | [] => rfl
  | q :: r => by simp [pureL, pureD, pairD]; exact pure_pairs r
theorem py_pairs : ∀ qs : List (Int × Int), toPyL (qs.map pairD) = some (qs.map PySem.W.Datum.toD)
  | [] => rfl
  | q :: r => by
    rw [List.map_cons]
    unfold toPyL
    rw [py_pairs r]
    rfl
theorem alike_pairs (qs : List (Int × Int)) : alikeC (qs.map PySem.W.Datum.toD) = true := by
  unfold alikeC
  rw [Bool.and_eq_true]
  constructor
  · rw [List.all_eq_true]
    intro x hx
    rw [List.all_eq_true]
    intro y hy
    obtain ⟨a, _, rfl⟩ := List.mem_map.mp hx
    obtain ⟨b, _, rfl⟩ := List.mem_map.mp hy
    exact PySem.W.DatumOrd.alike a b
  · rw [List.all_eq_true]
    intro x hx
    obtain ⟨a, _, rfl⟩ := List.mem_map.mp hx
    rfl
theorem depth_pairs : ∀ qs : List (Int × Int), PyData.depthAll (qs.map PySem.W.Datum.toD) ≤ 3
  | [] => by simp [PyData.depthAll]
  | q :: r => by
    have h := depth_pairs r
    have e : (PySem.W.Datum.toD q : PyData).depth ≤ 2 := by
      show (PyData.tuple [.int q.1, .int q.2]).depth ≤ 2
      simp only [PyData.depth, PyData.depthAll]
      omega
    simp only [List.map_cons, PyData.depthAll]
    omega
theorem ev_minP {r : DA} {ρ : Rho} {st s1 : Store} {q : Int × Int} {qs : List (Int × Int)} (h : r ρ st = .ok [.lst ((q :: qs).map pairD)] s1) : dCB minF r ρ st = .ok (pairD (leastP q qs)) s1 := by
  refine ev_orb2 h rfl ?_
  unfold one
  dsimp only
  unfold gBest litemsOf
  dsimp only [Option.bind_some]
  rw [if_pos (pure_pairs _), py_pairs]
  have a := alike_pairs (q :: qs)
  have d := depth_pairs (q :: qs)
  rw [List.map_cons] at a d ⊢
  dsimp only
  rw [if_pos ⟨a, by omega⟩, PySem.W.minD_map q qs]
  rfl
/-! ### two clauses -/
theorem lc2L_on {α : Type} {g : GD} {mi : DIt} {g1 : GD} {t1 : DT} {e : DE} {vs1 : List Nat} {ρ : Rho} {st : Store} {h : α → D} {ys : α → List D} : ∀ {S : List α}, (∀ s ∈ S, ∃ ρ' xs, g (h s) ρ = some ρ' ∧ mi ρ' st = .ok xs st ∧ lcL g1 t1 e (wipeD ρ' vs1) xs st = .ok (ys s) st) →
    lc2L g tYesD mi g1 t1 e vs1 ρ (S.map h) st = .ok (S.flatMap ys) st
  | [], _ => rfl
  | s :: S, hy => by
    obtain ⟨ρ', xs, h1, h2, h3⟩ := hy s List.mem_cons_self
    have ih := lc2L_on (g := g) (mi := mi) (g1 := g1) (t1 := t1) (e := e) (vs1 := vs1) (ρ := ρ) (st := st) (h := h) (ys := ys) (S := S) fun x hx => hy x (List.mem_cons_of_mem _ hx)
    rw [List.map_cons, List.flatMap_cons]
    unfold lc2L
    rw [h1]
    simp [tYesD, noX, h2, h3, ih]
/-! ### the law's way -/
def minF1 (s0 : Sp) (r : List Sp) : Int := (r.map (·.2.1)).foldl min s0.2.1
def lowOf (s0 : Sp) (r : List Sp) : Int := if minF1 s0 r - 13 > 0 then minF1 s0 r - 13 else 0
def highOf (s0 : Sp) (r : List Sp) : Int := (r.map (·.2.2)).foldl max s0.2.2
def crowdOf (S : List Sp) (p : Int) : Option (Int × Int) := match S with
  | [] => none
  | s0 :: r => lawRes (s0 :: r) p (lowOf s0 r) (highOf s0 r)
def dueD (S : List Sp) (p : Int) : D := match crowdOf S p with
  | none => .non
  | some q => foundD S q
section
variable {S : List Sp} {p : Int} {st : Store}
theorem bounds {s0 : Sp} {r : List Sp} (h : OkS (s0 :: r)) : 0 ≤ highOf s0 r ∧ highOf s0 r ≤ 999 ∧ 0 ≤ lowOf s0 r ∧ lowOf s0 r ≤ 999 ∧ (∀ s ∈ s0 :: r, s.2.2 ≤ highOf s0 r) ∧ ∀ s ∈ s0 :: r, lowOf s0 r ≤ s.2.1 - 13 ∨ lowOf s0 r = 0 := by
  obtain ⟨m1, m2⟩ := foldl_max s0.2.2 (r.map (·.2.2))
  obtain ⟨n1, n2⟩ := foldl_min s0.2.1 (r.map (·.2.1))
  have e1 : s0.2.2 :: r.map (·.2.2) = (s0 :: r).map (·.2.2) := rfl
  have e2 : s0.2.1 :: r.map (·.2.1) = (s0 :: r).map (·.2.1) := rfl
  rw [e1] at m1 m2
  rw [e2] at n1 n2
  obtain ⟨a, ha, ea⟩ := List.mem_map.mp m1
  obtain ⟨b, hb, eb⟩ := List.mem_map.mp n1
  have wa := h.sp a ha
  have wb := h.sp b hb
  have eh : highOf s0 r = a.2.2 := ea.symm
  have em : minF1 s0 r = b.2.1 := eb.symm
  have el : lowOf s0 r = if b.2.1 - 13 > 0 then b.2.1 - 13 else 0 := by unfold lowOf; rw [em]
  refine ⟨by omega, by omega, ?_, ?_, fun s hs => m2 _ (List.mem_map.mpr ⟨s, hs, rfl⟩), fun s hs => ?_⟩
  · rw [el]; split <;> omega
  · rw [el]; split <;> omega
  · have := n2 _ (List.mem_map.mpr ⟨s, hs, rfl⟩)
    have h3 : b.2.1 ≤ s.2.1 := by rw [eb]; exact this
    rw [el]
    split
    · left; omega
    · right; rfl
theorem fld_d {g : Sp → Int} {i : Int} {ρ : Rho} {x7 : Option D} {x0 x1 x2 x3 x4 x5 x6 : Option D} (h : OkS S) (hi : ∀ s, ixD (spanD s) (.int i) st = some (.int (g s))) : dLc (iKeysD (dVar 0)) (g1 7) tYesD (dIx (dIxK (dVar 0) (dVar 7)) (dC (.int i))) [7] [some (dicS S), x1, x2, x3, x4, x5, x6, x7] st = .ok (.lst ((S.map g).map D.int)) st := by
  have z : lcL (g1 7) tYesD (dIx (dIxK (dVar 0) (dVar 7)) (dC (.int i))) [some (dicS S), x1, x2, x3, x4, x5, x6, none] (S.map fun s => D.int s.1) st = .ok ((S.filter fun _ => true).map fun s => .int (g s)) st := by
    refine lcL_on fun s hs => ⟨[some (dicS S), x1, x2, x3, x4, x5, x6, some (.int s.1)], rfl, rfl, fun _ => ?_⟩
    have k := ixk (a := dVar 0) (b := dVar 7) (ρ := [some (dicS S), x1, x2, x3, x4, x5, x6, some (.int s.1)]) (st := st) h hs rfl rfl
    exact ev_ix k (y := .int i) (s2 := st) rfl (hi s)
  have e : (S.filter fun _ => true).map (fun s => D.int (g s)) = (S.map g).map D.int := by
    rw [List.map_map, List.filter_eq_self.mpr fun _ _ => rfl]
    rfl
  rw [e] at z
  refine ev_lc (ds := S.map fun (s : Sp) => D.int s.1) (s1 := st) ?_ ?_ z ?_
  · rw [← keyD_int]; rfl
  · rw [List.length_map]; have := h.few; omega
  · rw [List.length_map, List.length_map]; have := h.few; omega
theorem len0_d {ρ : Rho} (h0 : dVar 0 ρ st = .ok (dicS S) st) : asB (dOp2 fEq (dCB lenF (dCons (dVar 0) dNil)) (dC (.int 0))) ρ st = .ok ((S.length : Int) == 0) st := by
  have l := ev_lenD (ks := keysOf S) (xs := valsOf S) (ev_cons h0 (r := dNil) rfl) (keys_len S)
  have e : (keysOf S).length = S.length := by unfold keysOf; rw [List.length_map]
  rw [e] at l
  exact ev_asB (ev_op l (y := .int 0) (s2 := st) rfl rfl)
theorem law_crowd_d (h : OkS S) (h1 : 1 ≤ p) (h4 : p ≤ 4) : f__law_crowd [dicS S, .int p] st = .ok (dueD S p) st := by
  refine run (N := 8) (n := 2) (m := m__law_crowd) (r := .ret (dueD S p) st) rfl ?_ rfl
  rw [law_crowd_cut]
  have t := len0_d (S := S) (st := st) (ρ := [some (dicS S), some (.int p), none, none, none, none, none, none]) rfl
  cases S with
  | nil => exact ex_seqR ((ex_if t).trans rfl)
  | cons s0 r =>
    have e0 : (((s0 :: r).length : Int) == 0) = false := by
      rw [beq_eq_false_iff_ne]
      simp only [List.length_cons]
      omega
    rw [e0] at t
    obtain ⟨b1, b2, b3, b4, b5, b6⟩ := bounds h
    have q1 := (ex_if (p := sRet (dC .non)) (q := sNext) t).trans (rfl : _ = SRes.nx [some (dicS (s0 :: r)), some (.int p), none, none, none, none, none, none] st)
    refine ex_seq q1 ?_
    have f2 := fld_d (S := s0 :: r) (st := st) (g := fun s => s.2.2) (i := 1) (ρ := []) (x0 := none) (x1 := some (.int p)) (x2 := none) (x3 := none) (x4 := none) (x5 := none) (x6 := none) (x7 := none) h fun s => rfl
    have q2 : sSet 2 (dLc (iKeysD (dVar 0)) (g1 7) tYesD (dIx (dIxK (dVar 0) (dVar 7)) (dC (.int 1))) [7]) [some (dicS (s0 :: r)), some (.int p), none, none, none, none, none, none] st = .nx [some (dicS (s0 :: r)), some (.int p), some (.lst ((s0.2.2 :: r.map (·.2.2)).map D.int)), none, none, none, none, none] st := ex_set f2
    refine ex_seq q2 ?_
    have f3 := fld_d (S := s0 :: r) (st := st) (g := fun s => s.2.1) (i := 0) (ρ := []) (x0 := none) (x1 := some (.int p)) (x2 := some (.lst ((s0.2.2 :: r.map (·.2.2)).map D.int))) (x3 := none) (x4 := none) (x5 := none) (x6 := none) (x7 := none) h fun s => rfl
    have m3 := ev_minL (n := s0.2.1) (ns := r.map (·.2.1)) (ev_cons f3 (r := dNil) rfl)
    have q3 : sSet 3 (dCB maxF (dCons (dC (.int 0)) (dCons (dSub (dCB minF (dCons (dLc (iKeysD (dVar 0)) (g1 7) tYesD (dIx (dIxK (dVar 0) (dVar 7)) (dC (.int 0))) [7]) dNil)) (dC (.int 13))) dNil))) [some (dicS (s0 :: r)), some (.int p), some (.lst ((s0.2.2 :: r.map (·.2.2)).map D.int)), none, none, none, none, none] st =
        .nx [some (dicS (s0 :: r)), some (.int p), some (.lst ((s0.2.2 :: r.map (·.2.2)).map D.int)), some (.int (lowOf s0 r)), none, none, none, none] st :=
      ex_set (ev_max2 (i := 0) (j := minF1 s0 r - 13) (ev_cons (s1 := st) rfl (ev_cons (ev_op m3 (y := .int 13) (s2 := st) rfl rfl) rfl)))
    refine ex_seq q3 ?_
    have e := end_d (S := s0 :: r) (st := st) (s0 := s0) (r := r) (x0 := some (dicS (s0 :: r))) (x1 := some (.int p)) (x3 := some (.int (lowOf s0 r))) (x4 := none) (x5 := none) (x6 := none) (x7 := none)
    have a : (dCons (dVar 3) (dCons endE dNil)) [some (dicS (s0 :: r)), some (.int p), some (.lst ((s0.2.2 :: r.map (·.2.2)).map D.int)), some (.int (lowOf s0 r)), none, none, none, none] st = .ok [.int (lowOf s0 r), .int (highOf s0 r + 1)] st := ev_cons (s1 := st) rfl (ev_cons e rfl)
    have o := outer_d (S := s0 :: r) (p := p) (lo := lowOf s0 r) (hi := highOf s0 r) (st := st) (s0 := s0) (r := r) h (small64 (by omega) (by omega)) rfl b2 b1 (upI (lowOf s0 r) (highOf s0 r + 1 - lowOf s0 r).toNat) (x4 := none) (x5 := none) (x6 := none) (x7 := none) fun f hf => by
      have := mem_ints.mp hf
      omega
    have lp : ∀ w, forL (g1 4) outB2 ((upI (lowOf s0 r) (highOf s0 r + 1 - lowOf s0 r).toNat).map D.int) [some (dicS (s0 :: r)), some (.int p), some (.lst ((s0.2.2 :: r.map (·.2.2)).map D.int)), some (.int (lowOf s0 r)), none, none, none, none] st = w →
        sForR2 (dCons (dVar 3) (dCons endE dNil)) (g1 4) outB2 [some (dicS (s0 :: r)), some (.int p), some (.lst ((s0.2.2 :: r.map (·.2.2)).map D.int)), some (.int (lowOf s0 r)), none, none, none, none] st = w := fun w hw =>
      ex_forR2 a ⟨big_of (by omega) (by omega), big_of (by omega) (by omega)⟩ (by rw [range_up]; exact hw)
    have ec : crowdOf (s0 :: r) p = (upI (lowOf s0 r) (highOf s0 r + 1 - lowOf s0 r).toNat).findSome? fun f => (firstAt (s0 :: r) p (highOf s0 r) f).map fun l => (f, l) := rfl
    unfold dueD
    rw [ec]
    split at o
    · rename_i q hq
      rw [hq]
      exact ex_seqR (lp _ o)
    · rename_i hq
      rw [hq]
      obtain ⟨y4, y5, y6, e2⟩ := o
      exact ex_seq (lp _ e2) rfl
end
end K32

set_option maxRecDepth 100000
set_option maxHeartbeats 1000000
namespace K32
open PySem PySem.Spec PyProof.Rows L2 Den
section
variable {S : List Sp} {p : Int} {st : Store}
theorem div_ii {i j : Int} (h0 : 0 < j) (h1 : j ≤ 4) : fDiv (.int i) (.int j) = some (.int (i / j)) := by
  have e : decide (0 < j ∧ j.natAbs.log2 < 9000) = true := by
    rw [decide_eq_true_eq]
    refine ⟨h0, ?_⟩
    have : j.natAbs.log2 < 3 := Com.log2_lt (n := 3) (by omega) (by decide)
    omega
  unfold fDiv onI
  dsimp only
  rw [if_pos e]
abbrev mid : DE := dLc2 (iValsD (dVar 0)) (gT [7, 6]) tYesD (iR2 (dCons (dC (.int 1)) (dCons (dAdd (dVar 2) (dC (.int 1))) dNil))) (g1 8) (asB (dOp2 fLe (dVar 8) (dAdd (dVar 6) (dC (.int 1))))) (dTup (dCons (dAdd (dSub (dVar 6) (dVar 8)) (dC (.int 1))) (dCons (dVar 6) dNil))) [7, 6, 8] [8]
theorem cands_len (S : List Sp) (g : Int) (hg : g ≤ 12) : (cands S g).length ≤ S.length * 12 := by
  induction S with
  | nil => exact Nat.le_refl _
  | cons s S ih =>
    have e : cands (s :: S) g = ((upI 1 g.toNat).filter fun m => decide (m ≤ s.2.2 + 1)).map (fun m => (s.2.2 - m + 1, s.2.2)) ++ cands S g := rfl
    have l1 : ((upI 1 g.toNat).filter fun m => decide (m ≤ s.2.2 + 1)).length ≤ 12 := by
      refine Nat.le_trans (List.length_filter_le _ _) ?_
      unfold upI
      rw [List.length_map, List.length_range]
      omega
    rw [e, List.length_append, List.length_map, List.length_cons, Nat.add_mul]
    omega
theorem mid_d {g : Int} (h : OkS S) (hg : g ≤ 12) (h0 : -12 ≤ g) : mid [some (dicS S), some (.int p), some (.int g), none, none, none, none, none, none, none] st = .ok (.lst ((cands S g).map pairD)) st := by
  have z : lc2L (gT [7, 6]) tYesD (iR2 (dCons (dC (.int 1)) (dCons (dAdd (dVar 2) (dC (.int 1))) dNil))) (g1 8) (asB (dOp2 fLe (dVar 8) (dAdd (dVar 6) (dC (.int 1))))) (dTup (dCons (dAdd (dSub (dVar 6) (dVar 8)) (dC (.int 1))) (dCons (dVar 6) dNil))) [8]
      [some (dicS S), some (.int p), some (.int g), none, none, none, none, none, none, none] (S.map spanD) st = .ok (S.flatMap fun s => (((upI 1 g.toNat).filter fun m => decide (m ≤ s.2.2 + 1)).map fun m => D.tup [.int (s.2.2 - m + 1), .int s.2.2])) st := by
    refine lc2L_on fun s hs => ⟨[some (dicS S), some (.int p), some (.int g), none, none, none, some (.int s.2.2), some (.int s.2.1), none, none], (upI 1 g.toNat).map D.int, rfl, ?_, ?_⟩
    · have e : iR2 (dCons (dC (.int 1)) (dCons (dAdd (dVar 2) (dC (.int 1))) dNil)) [some (dicS S), some (.int p), some (.int g), none, none, none, some (.int s.2.2), some (.int s.2.1), none, none] st =
          (if big62 1 ∧ big62 (g + 1) then .ok (rangeD 1 (g + 1 - 1).toNat) st else .bad) := rfl
      rw [e, if_pos ⟨big_of (by omega) (by omega), big_of (by omega) (by omega)⟩, range_up, show g + 1 - 1 = g by omega]
    · refine lcL_on fun m _ => ⟨[some (dicS S), some (.int p), some (.int g), none, none, none, some (.int s.2.2), some (.int s.2.1), some (.int m), none], rfl, ?_, fun _ => rfl⟩
      exact ev_asB (ev_op (x := .int m) (y := .int (s.2.2 + 1)) (s1 := st) rfl rfl (le_ii _ _))
  have e : (S.flatMap fun s => (((upI 1 g.toNat).filter fun m => decide (m ≤ s.2.2 + 1)).map fun m => D.tup [.int (s.2.2 - m + 1), .int s.2.2])) = (cands S g).map pairD := by
    unfold cands
    rw [List.map_flatMap]
    congr 1
    funext s
    rw [List.map_map]
    rfl
  rw [e] at z
  have l := cands_len S g hg
  have few := h.few
  have ed : mid [some (dicS S), some (.int p), some (.int g), none, none, none, none, none, none, none] st = lcEnd (lc2L (gT [7, 6]) tYesD (iR2 (dCons (dC (.int 1)) (dCons (dAdd (dVar 2) (dC (.int 1))) dNil))) (g1 8) (asB (dOp2 fLe (dVar 8) (dAdd (dVar 6) (dC (.int 1))))) (dTup (dCons (dAdd (dSub (dVar 6) (dVar 8)) (dC (.int 1))) (dCons (dVar 6) dNil))) [8]
      [some (dicS S), some (.int p), some (.int g), none, none, none, none, none, none, none] (S.map spanD) st) := rfl
  rw [ed, z]
  unfold lcEnd
  rw [bind_ok, if_pos (by rw [List.length_map]; omega)]
theorem over_den {q : Int × Int} {x3 x4 x5 x6 x7 x8 : Option D} {g : Int} (h : OkS S) (h1 : 1 ≤ p) (h4 : p ≤ 4) (hq : ∃ s ∈ S, q.2 = s.2.2 ∧ 0 ≤ q.1 ∧ q.1 ≤ q.2 ∧ q.2 - q.1 + 1 ≤ g) :
    dTruth (dCallA 3 f__is_overfull (dCons (dVar 0) (dCons (dVar 9) (dCons (dVar 1) dNil)))) [some (dicS S), some (.int p), some (.int g), x3, x4, x5, x6, x7, x8, some (pairD q)] st = .ok (over S p q.1 q.2) st := by
  obtain ⟨s, hs, e, a, b, c⟩ := hq
  have w := h.sp s hs
  exact ev_truth (ev_call (xs := [dicS S, pairD q, .int p]) (s1 := st) rfl rfl (overfull_d (f := q.1) (l := q.2) h (small64 (by omega) (by omega)) (small64 (by omega) (by omega)))) rfl
theorem least_crowd_d (h : OkS S) (h1 : 1 ≤ p) (h4 : p ≤ 4) : f__least_crowd [dicS S, .int p] st = .ok (dueD S p) st := by
  refine run (N := 10) (n := 2) (m := m__least_crowd) (r := .ret (dueD S p) st) rfl ?_ rfl
  have few := h.few
  have eg : (((S.length : Int) - 1) / p) ≤ 12 ∧ -12 ≤ (((S.length : Int) - 1) / p) := by
    constructor
    · exact Int.le_trans (Int.ediv_le_ediv (by omega) (show (S.length : Int) - 1 ≤ 12 * p by have := Int.mul_le_mul_of_nonneg_left (a := 1) (b := p) (c := 12) h1 (by omega); omega)) (by rw [Int.mul_ediv_cancel _ (by omega)]; omega)
    · exact Int.le_ediv_of_mul_le (by omega) (by omega)
  have l0 := ev_lenD (ks := keysOf S) (xs := valsOf S) (r := dCons (dVar 0) dNil) (ρ := [some (dicS S), some (.int p), none, none, none, none, none, none, none, none]) (st := st) (s1 := st) rfl (keys_len S)
  have el : (keysOf S).length = S.length := by unfold keysOf; rw [List.length_map]
  rw [el] at l0
  have q1 : sSet 2 (dDiv (dSub (dCB (orB (one gLen) (one gLenK)) (dCons (dVar 0) dNil)) (dC (.int 1))) (dVar 1)) [some (dicS S), some (.int p), none, none, none, none, none, none, none, none] st = .nx [some (dicS S), some (.int p), some (.int (((S.length : Int) - 1) / p)), none, none, none, none, none, none, none] st :=
    ex_set (ev_op (ev_op l0 (y := .int 1) (s2 := st) rfl rfl) (y := .int p) (s2 := st) rfl (div_ii (by omega) h4))
  refine ex_seq q1 ?_
  have q2 : sSet 3 mid [some (dicS S), some (.int p), some (.int (((S.length : Int) - 1) / p)), none, none, none, none, none, none, none] st = .nx [some (dicS S), some (.int p), some (.int (((S.length : Int) - 1) / p)), some (.lst ((cands S (((S.length : Int) - 1) / p)).map pairD)), none, none, none, none, none, none] st := ex_set (mid_d h eg.1 eg.2)
  refine ex_seq q2 ?_
  have cl := cands_len S (((S.length : Int) - 1) / p) eg.1
  have z3 : lcL (g1 9) (dTruth (dCallA 3 f__is_overfull (dCons (dVar 0) (dCons (dVar 9) (dCons (dVar 1) dNil))))) (dVar 9) [some (dicS S), some (.int p), some (.int (((S.length : Int) - 1) / p)), some (.lst ((cands S (((S.length : Int) - 1) / p)).map pairD)), none, none, none, none, none, none] ((cands S (((S.length : Int) - 1) / p)).map pairD) st = .ok ((overs S p).map pairD) st := by
    refine lcL_on fun q hq => ⟨[some (dicS S), some (.int p), some (.int (((S.length : Int) - 1) / p)), some (.lst ((cands S (((S.length : Int) - 1) / p)).map pairD)), none, none, none, none, none, some (pairD q)], rfl, ?_, fun _ => rfl⟩
    exact over_den h h1 h4 (mem_cands.mp hq)
  have ol : (overs S p).length ≤ (cands S (((S.length : Int) - 1) / p)).length := List.length_filter_le _ _
  have q3 : sSet 4 (dLcL (dVar 3) (g1 9) (dTruth (dCallA 3 f__is_overfull (dCons (dVar 0) (dCons (dVar 9) (dCons (dVar 1) dNil))))) (dVar 9) [9]) [some (dicS S), some (.int p), some (.int (((S.length : Int) - 1) / p)), some (.lst ((cands S (((S.length : Int) - 1) / p)).map pairD)), none, none, none, none, none, none] st =
      .nx [some (dicS S), some (.int p), some (.int (((S.length : Int) - 1) / p)), some (.lst ((cands S (((S.length : Int) - 1) / p)).map pairD)), some (.lst ((overs S p).map pairD)), none, none, none, none, none] st :=
    ex_set (ev_lcL (xs := (cands S (((S.length : Int) - 1) / p)).map pairD) (s1 := st) rfl (by rw [List.length_map]; omega) z3 (by rw [List.length_map]; omega))
  refine ex_seq q3 ?_
  generalize (Int.ediv ((S.length : Int) - 1) p : Int) = g at *
  have t : asB (dOp2 fEq (dCB (orB (one gLen) (one gLenK)) (dCons (dVar 4) dNil)) (dC (.int 0))) [some (dicS S), some (.int p), some (.int (((S.length : Int) - 1) / p)), some (.lst ((cands S (((S.length : Int) - 1) / p)).map pairD)), some (.lst ((overs S p).map pairD)), none, none, none, none, none] st = .ok ((((overs S p).map pairD).length : Int) == 0) st :=
    ev_asB (ev_op (ev_lenI (x := .lst ((overs S p).map pairD)) (xs := (overs S p).map pairD) (s1 := st) rfl rfl) (y := .int 0) (s2 := st) rfl rfl)
  have due : match crowdOf S p with
      | none => overs S p = []
      | some q => q ∈ overs S p ∧ ∀ q' ∈ overs S p, ltP q' q = false := by
    cases S with
    | nil => rfl
    | cons s0 r =>
      obtain ⟨b1, b2, b3, b4, b5, b6⟩ := bounds h
      have z := both (S := s0 :: r) (p := p) (lo := lowOf s0 r) (hi := highOf s0 r) h h1 b3 b6 b5
      have ec : crowdOf (s0 :: r) p = lawRes (s0 :: r) p (lowOf s0 r) (highOf s0 r) := rfl
      rw [ec]
      split at z
      · rename_i q hq; rw [hq]; exact z
      · rename_i hq; rw [hq]; exact z
  unfold dueD
  cases ho : overs S p with
  | nil =>
    rw [ho] at t due
    have en : crowdOf S p = none := by
      cases hc : crowdOf S p with
      | none => rfl
      | some q =>
        rw [hc] at due
        exact absurd due.1 List.not_mem_nil
    rw [en]
    exact ex_seqR ((ex_if t).trans rfl)
  | cons q qs =>
    rw [ho] at t due
    have e0 : (((((q :: qs).map pairD).length : Nat) : Int) == 0) = false := by
      rw [beq_eq_false_iff_ne]
      simp only [List.map_cons, List.length_cons]
      omega
    rw [e0] at t
    obtain ⟨b, eb, hb1, hb2⟩ : ∃ b, crowdOf S p = some b ∧ b ∈ q :: qs ∧ ∀ q' ∈ q :: qs, ltP q' b = false := by
      cases hc : crowdOf S p with
      | none => rw [hc] at due; cases due
      | some b => rw [hc] at due; exact ⟨b, rfl, due⟩
    rw [eb]
    have el : leastP q qs = b := leastP_is hb1 hb2
    have q4 := (ex_if (p := sRet (dC .non)) (q := sNext) t).trans (rfl : _ = SRes.nx [some (dicS S), some (.int p), some (.int (((S.length : Int) - 1) / p)), some (.lst ((cands S (((S.length : Int) - 1) / p)).map pairD)), some (.lst ((q :: qs).map pairD)), none, none, none, none, none] st)
    refine ex_seq q4 ?_
    have m5 := ev_minP (r := dCons (dVar 4) dNil) (ρ := [some (dicS S), some (.int p), some (.int (((S.length : Int) - 1) / p)), some (.lst ((cands S (((S.length : Int) - 1) / p)).map pairD)), some (.lst ((q :: qs).map pairD)), none, none, none, none, none]) (st := st) (s1 := st) (q := q) (qs := qs) rfl
    rw [el] at m5
    have q5 : sAsg (gT [5, 6]) (dCB (orB (two fun i j => if j < i then j else i) (one (gBest PySem.W.minD))) (dCons (dVar 4) dNil)) [some (dicS S), some (.int p), some (.int (((S.length : Int) - 1) / p)), some (.lst ((cands S (((S.length : Int) - 1) / p)).map pairD)), some (.lst ((q :: qs).map pairD)), none, none, none, none, none] st =
        .nx [some (dicS S), some (.int p), some (.int (((S.length : Int) - 1) / p)), some (.lst ((cands S (((S.length : Int) - 1) / p)).map pairD)), some (.lst ((q :: qs).map pairD)), some (.int b.1), some (.int b.2), none, none, none] st := ex_asg m5 rfl
    refine ex_seq q5 (ex_ret (ev_tup (xs := [.int b.1, .int b.2, .int (cnt S b.1 b.2)]) ?_ (show 3 ≤ 100000 by decide)))
    exact ev_cons (s1 := st) rfl (ev_cons (s1 := st) rfl (ev_cons (ev_call (xs := [dicS S, .tup [.int b.1, .int b.2]]) (s1 := st) rfl rfl (how_many_d h)) rfl))
theorem crowd_d (h : OkS S) (h1 : 1 ≤ p) (h4 : p ≤ 4) : f_crowd [dicS S, .int p] st = .ok (dueD S p) st := by
  refine run (N := 2) (n := 2) (m := m_crowd) (r := .ret (dueD S p) st) rfl ?_ rfl
  have q1 : (sDrop (dCallA 2 f__check_spans_and_rate (dCons (dVar 0) (dCons (dVar 1) dNil)))) [some (dicS S), some (.int p)] st = .nx [some (dicS S), some (.int p)] st := ex_drop (ev_call (xs := [dicS S, .int p]) (s1 := st) rfl rfl (check_d h h1 h4))
  exact ex_seq q1 (ex_ret (ev_call (xs := [dicS S, .int p]) (s1 := st) rfl rfl (least_crowd_d h h1 h4)))
/-! ### told by all ways of calling -/
def toldD (S : List Sp) (p : Int) (d : D) : D := .lst [dueD S p, .bl (isCrowd S p d), .bl (isCrowd S p d)]
theorem told_d {d : D} (h : OkS S) (h1 : 1 ≤ p) (h4 : p ≤ 4) (hd : flatT d = true) : f__law_told [dicS S, d, .int p] st = .ok (toldD S p d) st := by
  refine run (N := 3) (n := 3) (m := m__law_told) (r := .ret (toldD S p d) st) rfl ?_ rfl
  have c := crowd_d (st := st) h h1 h4
  have i := is_crowd_d (st := st) h h1 h4 hd
  have t : asB (dOp2 fEq (dVar 2) (dC (.int 1))) [some (dicS S), some d, some (.int p)] st = .ok (p == 1) st := ev_asB (ev_op (x := .int p) (y := .int 1) (s1 := st) rfl rfl rfl)
  cases hp : p == 1 with
  | true =>
    rw [hp] at t
    obtain rfl : p = 1 := eq_of_beq hp
    have a1 : dCall 1 0 gd_crowd_1 f_crowd (dCons (dVar 0) dNil) dNil [some (dicS S), some d, some (.int 1)] st = .ok (dueD S 1) st := c
    have a2 : dCall 2 0 gd_is_crowd_2 f_is_crowd (dCons (dVar 0) (dCons (dVar 1) dNil)) dNil [some (dicS S), some d, some (.int 1)] st = .ok (.bl (isCrowd S 1 d)) st := i
    have a3 : dCall 0 2 gd_is_crowd_0_thing_spans f_is_crowd dNil (dCons (dVar 1) (dCons (dVar 0) dNil)) [some (dicS S), some d, some (.int 1)] st = .ok (.bl (isCrowd S 1 d)) st := i
    exact ex_seqR ((ex_if t).trans (ex_ret (ev_lst (ev_cons a1 (ev_cons a2 (ev_cons a3 rfl))) (show 3 ≤ 100000 by decide))))
  | false =>
    rw [hp] at t
    have a1 : dCall 1 1 gd_crowd_1_rate f_crowd (dCons (dVar 0) dNil) (dCons (dVar 2) dNil) [some (dicS S), some d, some (.int p)] st = .ok (dueD S p) st := c
    have a2 : dCall 3 0 gd_is_crowd_3 f_is_crowd (dCons (dVar 0) (dCons (dVar 1) (dCons (dVar 2) dNil))) dNil [some (dicS S), some d, some (.int p)] st = .ok (.bl (isCrowd S p d)) st := i
    have a3 : dCall 1 2 gd_is_crowd_1_rate_thing f_is_crowd (dCons (dVar 0) dNil) (dCons (dVar 2) (dCons (dVar 1) dNil)) [some (dicS S), some d, some (.int p)] st = .ok (.bl (isCrowd S p d)) st := i
    exact ex_seq ((ex_if t).trans (rfl : _ = SRes.nx [some (dicS S), some d, some (.int p)] st)) (ex_ret (ev_lst (ev_cons a1 (ev_cons a2 (ev_cons a3 rfl))) (show 3 ≤ 100000 by decide)))
end
end K32

set_option maxRecDepth 100000
set_option maxHeartbeats 1000000
namespace K32
open PySem PySem.Spec PyProof.Rows L2 Den
/-! ### draws -/
theorem pot_d {c : Int} {st : Store} : ∃ p, f__law_pot [.int c] st = .ok (.box st.length) (st ++ [.lst [.int p]]) := Com.pot_d
theorem take_d {st : Store} {k : Nat} {far : Int} (h : Pot k st) (hf : 0 < far) (hl : far.natAbs.log2 < 9000 := by decide) : ∃ i st1, 0 ≤ i ∧ i < far ∧ f__law_take [.box k, .int far] st = .ok (.int i) st1 ∧ Chg k st st1 := Com.take_d h hf hl
theorem pot_app {k : Nat} {st : Store} {c : Cell} (h : Pot k st) : Pot k (st ++ [c]) := by
  obtain ⟨p, e⟩ := h
  exact ⟨p, by rw [List.getElem?_append_left (List.getElem?_eq_some_iff.mp e).1]; exact e⟩
theorem chg_app {k : Nat} {st s1 : Store} {c : Cell} (hk : k < st.length) (h : Chg k (st ++ [c]) s1) : ∃ st', s1 = st' ++ [c] ∧ Chg k st st' := by
  obtain ⟨_, p, rfl⟩ := h
  exact ⟨st.set k (.lst [.int p]), List.set_append_left _ _ hk, ⟨hk, p, rfl⟩⟩
theorem take_a {st : Store} {c : Cell} {k : Nat} {far : Int} (h : Pot k st) (hf : 0 < far) (hl : far.natAbs.log2 < 9000 := by decide) : ∃ i st1, 0 ≤ i ∧ i < far ∧ f__law_take [.box k, .int far] (st ++ [c]) = .ok (.int i) (st1 ++ [c]) ∧ Chg k st st1 := by
  obtain ⟨i, s1, h0, h1, e, cc⟩ := take_d (pot_app (c := c) h) hf hl
  obtain ⟨st', rfl, c2⟩ := chg_app h.lt cc
  exact ⟨i, st', h0, h1, e, c2⟩
theorem cell_d {ns : List Int} {k : Nat} {st : Store} : ∃ c, f__law_cell_at [.ro (ns.map D.int), .int k] st = .ok (.int c) st := by
  have t : asB (dOp2 fLt (dVar 1) (dCB (orB (one gLen) (one gLenK)) (dCons (dVar 0) dNil))) [some (.ro (ns.map D.int)), some (.int k)] st = .ok (decide ((k : Int) < ns.length)) st := by
    have e := ev_lenI (r := dCons (dVar 0) dNil) (ρ := [some (.ro (ns.map D.int)), some (.int k)]) (st := st) (s1 := st) (x := .ro (ns.map D.int)) (xs := ns.map D.int) rfl rfl
    rw [List.length_map] at e
    exact ev_asB (ev_op (x := .int k) (y := .int ns.length) (s1 := st) rfl e rfl)
  cases hb : decide ((k : Int) < ns.length) with
  | true =>
    rw [hb] at t
    have hk : k < ns.length := by have := of_decide_eq_true hb; omega
    obtain ⟨x, hx, e⟩ := atI_mem (xs := ns.map D.int) (i := k) (by omega) (by rw [List.length_map]; omega)
    obtain ⟨c, _, rfl⟩ := List.mem_map.mp hx
    exact ⟨c, run (N := 2) (n := 2) (m := m__law_cell_at) (r := .ret (.int c) st) rfl (ex_seqR ((ex_if t).trans (ex_ret (ev_ix (x := .ro (ns.map D.int)) (y := .int k) (s1 := st) rfl rfl e)))) rfl⟩
  | false =>
    rw [hb] at t
    exact ⟨0, run (N := 2) (n := 2) (m := m__law_cell_at) (r := .ret (.int 0) st) rfl (ex_seq (s1 := st) ((ex_if t).trans rfl) rfl) rfl⟩
theorem ix_ints {ns : List Int} {i : Int} {st : Store} (h0 : 0 ≤ i) (h1 : i < ns.length) : ∃ n ∈ ns, ixD (.lst (ns.map D.int)) (.int i) st = some (.int n) := by
  obtain ⟨x, hx, e⟩ := ix_mem (xs := ns.map D.int) (st := st) h0 (by rw [List.length_map]; exact h1)
  obtain ⟨n, hn, rfl⟩ := List.mem_map.mp hx
  exact ⟨n, hn, e⟩
def odds : List D := [.non, .bl true, .bl false, .int (-1), .int (10 ^ 30), .str "", .str "a", .str "1", .tup [], .lst [], .dic [] [], .lst [.tup []], .tup [.tup []], .tup [.int 0], .lst [.int 0], .dic [.inl 0] [.int 1], .tup [.bl true, .bl true]]
theorem odds_flat : ∀ x ∈ odds, flatT x = true := by
  have : odds.all flatT = true := by kernel_rfl
  exact List.all_eq_true.mp this
theorem flat_plain {d : D} (h : flatT d = true) : plain d = true := by
  unfold flatT at h
  rw [Bool.and_eq_true] at h
  exact h.1
theorem odd_d {st : Store} {k : Nat} (h : Pot k st) : ∃ x st1, flatT x = true ∧ f__law_odd [.box k] st = .ok x st1 ∧ Chg k st st1 := by
  obtain ⟨i, st1, h0, h1, e, c⟩ := take_d h (far := 17) (by decide)
  obtain ⟨x, hx, ex⟩ := ix_mem (xs := odds) (st := st1) h0 h1
  refine ⟨x, st1, odds_flat x hx, ?_, c⟩
  refine run (N := 2) (n := 1) (m := m__law_odd) (r := .ret x st1) rfl ?_ rfl
  refine ex_seq (ρ1 := [some (.box k), some (.lst odds)]) (s1 := st) (ex_set (x := .lst odds) (by kernel_rfl)) ?_
  exact ex_ret (x := x) (s1 := st1) (ev_ix (x := .lst odds) (y := .int i) (s1 := st) (s2 := st1) rfl (ev_call (xs := [.box k, .int 17]) (s1 := st) rfl rfl e) ex)
/-! ### spans drawn -/
def putS (S : List Sp) (q : Sp) : List Sp := if (S.any fun s => decide (s.1 = q.1)) = true then S.map (fun s => if s.1 = q.1 then q else s) else S ++ [q]
theorem any_keys (S : List Sp) (i : Int) : ((keysOf S).any fun a => decide (a = Sum.inl i)) = S.any fun s => decide (s.1 = i) := by
  unfold keysOf
  induction S with
  | nil => rfl
  | cons s S ih =>
    rw [List.map_cons, List.any_cons, List.any_cons, ih]
    congr 1
    rw [decide_eq_decide]
    exact ⟨fun h => Sum.inl.inj h, fun h => by rw [h]⟩
theorem putS_eq (S : List Sp) (q : Sp) : putZ (keysOf S) (valsOf S) (.inl q.1) (spanD q) = (keysOf (putS S q), valsOf (putS S q)) := by
  unfold putZ putS
  rw [any_keys]
  split
  · rename_i hx
    clear hx
    congr 1
    · unfold keysOf
      rw [List.map_map]
      refine List.map_congr_left fun s _ => ?_
      show Sum.inl s.1 = Sum.inl (if s.1 = q.1 then q else s).1
      split
      · rename_i e; rw [e]
      · rfl
    · unfold keysOf valsOf
      induction S with
      | nil => rfl
      | cons s S ih =>
        rw [List.map_cons, List.map_cons, List.zip_cons_cons, List.map_cons, List.map_cons, List.map_cons, ih]
        congr 1
        by_cases e : s.1 = q.1
        · rw [if_pos e, if_pos (by rw [e])]
        · rw [if_neg e, if_neg (fun h => e (Sum.inl.inj h))]
  · unfold keysOf valsOf
    rw [List.map_append, List.map_append]
    rfl
theorem putS_len (S : List Sp) (q : Sp) : (putS S q).length ≤ S.length + 1 := by
  unfold putS
  split
  · rw [List.length_map]; omega
  · rw [List.length_append, List.length_singleton]
    exact Nat.le_refl _
theorem putS_mem {S : List Sp} {q s : Sp} (h : s ∈ putS S q) : s = q ∨ s ∈ S := by
  unfold putS at h
  split at h
  · obtain ⟨z, hz, rfl⟩ := List.mem_map.mp h
    split
    · exact .inl rfl
    · exact .inr hz
  · rcases List.mem_append.mp h with h | h
    · exact .inr h
    · exact .inl (List.mem_singleton.mp h)
theorem putS_ok {S : List Sp} {q : Sp} (h : OkS S) (hl : S.length < 12) (h0 : 0 ≤ q.1 ∧ q.1 < 40) (h1 : 0 ≤ q.2.1 ∧ q.2.1 ≤ q.2.2 ∧ q.2.2 ≤ 999) : OkS (putS S q) := by
  refine ⟨by have := putS_len S q; omega, ?_, fun s hs => ?_, fun s hs => ?_⟩
  · unfold putS
    split
    · have e : (S.map fun s => if s.1 = q.1 then q else s).map (·.1) = S.map (·.1) := by
        rw [List.map_map]
        refine List.map_congr_left fun s _ => ?_
        show (if s.1 = q.1 then q else s).1 = s.1
        split
        · rename_i e; exact e.symm
        · rfl
      rw [e]
      exact h.nd
    · rename_i no
      rw [List.map_append, List.nodup_append]
      refine ⟨h.nd, by simp, fun a ha b hb => ?_⟩
      obtain ⟨s, hs, rfl⟩ := List.mem_map.mp ha
      have hb' : b = q.1 := by simpa using hb
      intro e
      apply no
      rw [List.any_eq_true]
      exact ⟨s, hs, by rw [decide_eq_true_eq, e, hb']⟩
  · rcases putS_mem hs with rfl | hs
    · exact h0
    · exact h.num s hs
  · rcases putS_mem hs with rfl | hs
    · exact h1
    · exact h.sp s hs
abbrev spB : DS := (sSeq (sSet 5 (dCB minF (dCons (dC (.int 999)) (dCons (dAdd (dVar 1) (dCallA 2 f__law_take (dCons (dVar 0) (dCons (dVar 2) dNil)))) dNil))))
    (sSetK (dVar 3) (dCallA 2 f__law_take (dCons (dVar 0) (dCons (dC (.int 40)) dNil))) (dTup (dCons (dVar 5) (dCons (dCB minF (dCons (dC (.int 999)) (dCons (dAdd (dVar 5) (dCallA 2 f__law_take (dCons (dVar 0) (dCons (dIx (dLst (dCons (dC (.int 1)) (dCons (dC (.int 4)) (dCons (dC (.int 12)) dNil)))) (dCallA 2 f__law_take (dCons (dVar 0) (dCons (dC (.int 3)) dNil)))) dNil)))) dNil))) dNil)))))
theorem set_last {st : Store} {c d : Cell} : (st ++ [c]).set st.length d = st ++ [d] := by simp
theorem get_last {st : Store} {c : Cell} : (st ++ [c])[st.length]? = some c := by simp
theorem ex_setK {o i a : DE} {ρ : Rho} {st s1 s2 s3 : Store} {x y : D} {k : Nat} {kk : Key} {ks : List Key} {xs : List D} (ha : a ρ st = .ok x s1) (ho : o ρ s1 = .ok (.box k) s2) (hi : i ρ s2 = .ok y s3) (hy : Den.keyOf y = some kk) (hs : s3[k]? = some (.dic ks xs)) (hl : ks.length < 100000) : sSetK o i a ρ st = .nx ρ (s3.set k (.dic (putZ ks xs kk x).1 (putZ ks xs kk x).2)) := by
  unfold sSetK
  rw [ha, into_ok, ho, into_ok, hi, into_ok, hy]
  dsimp only
  rw [hs]
  dsimp only
  rw [if_pos hl]
theorem spB_d {K : Nat} {b far : Int} {S : List Sp} {st : Store} {x4 x5 : Option D} (h : Pot K st) (hS : OkS S) (hl : S.length < 12) (hb : 0 ≤ b) (hf : 0 < far) (hf2 : far.natAbs.log2 < 9000) : ∃ S' st' x5', spB [some (.box K), some (.int b), some (.int far), some (.box st.length), x4, x5] (st ++ [.dic (keysOf S) (valsOf S)]) = .nx [some (.box K), some (.int b), some (.int far), some (.box st.length), x4, x5'] (st' ++ [.dic (keysOf S') (valsOf S')]) ∧ OkS S' ∧ S'.length ≤ S.length + 1 ∧ Chg K st st' := by
  obtain ⟨c, hc⟩ : ∃ c, c = Cell.dic (keysOf S) (valsOf S) := ⟨_, rfl⟩
  obtain ⟨i, s1, i0, i1, e1, c1⟩ := take_a (c := c) h hf hf2
  obtain ⟨w, s2, w0, w1, e2, c2⟩ := take_a (c := c) c1.pot (far := 3) (by decide)
  obtain ⟨g, hg, eg⟩ := ix_ints (ns := [1, 4, 12]) (st := s2 ++ [c]) w0 w1
  have g0 : 0 < g ∧ g ≤ 12 := by
    simp only [List.mem_cons, List.not_mem_nil, or_false] at hg
    omega
  have g2 : g.natAbs.log2 < 9000 := Nat.lt_trans (Com.log2_lt (n := 10) (by omega) (by decide)) (by decide)
  obtain ⟨j, s3, j0, j1, e3, c3⟩ := take_a (c := c) c2.pot g0.1 g2
  obtain ⟨n, s4, n0, n1, e4, c4⟩ := take_a (c := c) c3.pot (far := 40) (by decide)
  have cc := ((c1.trans c2).trans c3).trans c4
  obtain ⟨f, hf'⟩ : ∃ f, (if b + i < 999 then b + i else 999) = f := ⟨_, rfl⟩
  obtain ⟨l, hl'⟩ : ∃ l, (if f + j < 999 then f + j else 999) = l := ⟨_, rfl⟩
  have m1 : dCB minF (dCons (dC (.int 999)) (dCons (dAdd (dVar 1) (dCallA 2 f__law_take (dCons (dVar 0) (dCons (dVar 2) dNil)))) dNil)) [some (.box K), some (.int b), some (.int far), some (.box st.length), x4, x5] (st ++ [c]) = .ok (.int f) (s1 ++ [c]) := by
    rw [← hf']
    exact ev_min2 (i := 999) (j := b + i) (ev_cons (s1 := st ++ [c]) rfl (ev_cons (s1 := s1 ++ [c]) (ev_op (x := .int b) (y := .int i) (s1 := st ++ [c]) (s2 := s1 ++ [c]) rfl (ev_call (xs := [.box K, .int far]) (s1 := st ++ [c]) rfl rfl e1) rfl) rfl))
  have q1 := ex_set (i := 5) m1
  have a3 : dCallA 2 f__law_take (dCons (dVar 0) (dCons (dC (.int 3)) dNil)) [some (.box K), some (.int b), some (.int far), some (.box st.length), x4, some (.int f)] (s1 ++ [c]) = .ok (.int w) (s2 ++ [c]) := ev_call (xs := [.box K, .int 3]) (s1 := s1 ++ [c]) rfl rfl e2
  have a4 : dIx (dLst (dCons (dC (.int 1)) (dCons (dC (.int 4)) (dCons (dC (.int 12)) dNil)))) (dCallA 2 f__law_take (dCons (dVar 0) (dCons (dC (.int 3)) dNil))) [some (.box K), some (.int b), some (.int far), some (.box st.length), x4, some (.int f)] (s1 ++ [c]) = .ok (.int g) (s2 ++ [c]) := ev_ix (x := .lst ([1, 4, 12].map D.int)) (y := .int w) (s1 := s1 ++ [c]) rfl a3 eg
  have a5 : dCallA 2 f__law_take (dCons (dVar 0) (dCons (dIx (dLst (dCons (dC (.int 1)) (dCons (dC (.int 4)) (dCons (dC (.int 12)) dNil)))) (dCallA 2 f__law_take (dCons (dVar 0) (dCons (dC (.int 3)) dNil)))) dNil)) [some (.box K), some (.int b), some (.int far), some (.box st.length), x4, some (.int f)] (s1 ++ [c]) = .ok (.int j) (s3 ++ [c]) :=
    ev_call (xs := [.box K, .int g]) (s1 := s2 ++ [c]) (ev_cons (s1 := s1 ++ [c]) rfl (ev_cons (s1 := s2 ++ [c]) a4 rfl)) rfl e3
  have m2 : dCB minF (dCons (dC (.int 999)) (dCons (dAdd (dVar 5) (dCallA 2 f__law_take (dCons (dVar 0) (dCons (dIx (dLst (dCons (dC (.int 1)) (dCons (dC (.int 4)) (dCons (dC (.int 12)) dNil)))) (dCallA 2 f__law_take (dCons (dVar 0) (dCons (dC (.int 3)) dNil)))) dNil)))) dNil)) [some (.box K), some (.int b), some (.int far), some (.box st.length), x4, some (.int f)] (s1 ++ [c]) = .ok (.int l) (s3 ++ [c]) := by
    rw [← hl']
    exact ev_min2 (i := 999) (j := f + j) (ev_cons (s1 := s1 ++ [c]) rfl (ev_cons (s1 := s3 ++ [c]) (ev_op (x := .int f) (y := .int j) (s1 := s1 ++ [c]) (s2 := s3 ++ [c]) rfl a5 rfl) rfl))
  have v : (dTup (dCons (dVar 5) (dCons (dCB minF (dCons (dC (.int 999)) (dCons (dAdd (dVar 5) (dCallA 2 f__law_take (dCons (dVar 0) (dCons (dIx (dLst (dCons (dC (.int 1)) (dCons (dC (.int 4)) (dCons (dC (.int 12)) dNil)))) (dCallA 2 f__law_take (dCons (dVar 0) (dCons (dC (.int 3)) dNil)))) dNil)))) dNil))) dNil))) [some (.box K), some (.int b), some (.int far), some (.box st.length), x4, some (.int f)] (s1 ++ [c]) = .ok (spanD (n, f, l)) (s3 ++ [c]) :=
    ev_tup (xs := [.int f, .int l]) (ev_cons (s1 := s1 ++ [c]) rfl (ev_cons m2 rfl)) (show 2 ≤ 100000 by decide)
  have a6 : dCallA 2 f__law_take (dCons (dVar 0) (dCons (dC (.int 40)) dNil)) [some (.box K), some (.int b), some (.int far), some (.box st.length), x4, some (.int f)] (s3 ++ [c]) = .ok (.int n) (s4 ++ [c]) := ev_call (xs := [.box K, .int 40]) (s1 := s3 ++ [c]) rfl rfl e4
  have gl : (s4 ++ [c])[st.length]? = some (.dic (keysOf S) (valsOf S)) := by rw [← cc.len, ← hc]; exact get_last
  have o3 : dVar 3 [some (.box K), some (.int b), some (.int far), some (.box st.length), x4, some (.int f)] (s3 ++ [c]) = .ok (.box st.length) (s3 ++ [c]) := rfl
  have kl : (keysOf S).length < 100000 := by unfold keysOf; rw [List.length_map]; omega
  have q2 := ex_setK (kk := .inl n) v o3 a6 rfl gl kl
  have e0 := putS_eq S (n, f, l)
  rw [show (putZ (keysOf S) (valsOf S) (.inl n) (spanD (n, f, l))) = (keysOf (putS S (n, f, l)), valsOf (putS S (n, f, l))) from e0] at q2
  have sl : (s4 ++ [c]).set st.length (Cell.dic (keysOf (putS S (n, f, l))) (valsOf (putS S (n, f, l)))) = s4 ++ [Cell.dic (keysOf (putS S (n, f, l))) (valsOf (putS S (n, f, l)))] := by rw [← cc.len]; exact set_last
  dsimp only at q2
  rw [sl] at q2
  have b1 : 0 ≤ f ∧ f ≤ 999 := by split at hf' <;> omega
  have b2 : f ≤ l ∧ l ≤ 999 := by split at hl' <;> omega
  rw [← hc]
  exact ⟨putS S (n, f, l), s4, _, ex_seq q1 q2, putS_ok hS hl ⟨n0, n1⟩ ⟨b1.1, b2.1, b2.2⟩, putS_len S _, cc⟩
theorem okS_nil : OkS [] := ⟨by decide, by simp, fun _ h => (nomatch h), fun _ h => (nomatch h)⟩
theorem spans_d {K : Nat} {st : Store} (h : Pot K st) : ∃ S st', OkS S ∧ f__law_spans [.box K] st = .ok (dicS S) (st' ++ [.dead]) ∧ Chg K st st' := by
  obtain ⟨i, s1, i0, i1, e1, c1⟩ := take_d h (far := 4) (by decide)
  obtain ⟨b, hb, eb⟩ := ix_ints (ns := [0, 500, 985, 990]) (st := s1) i0 i1
  obtain ⟨j, s2, j0, j1, e2, c2⟩ := take_d c1.pot (far := 3) (by decide)
  obtain ⟨far, hf, ef⟩ := ix_ints (ns := [3, 12, 30]) (st := s2) j0 j1
  obtain ⟨n, s3, n0, n1, e3, c3⟩ := take_a (c := .dic [] []) c2.pot (far := 13) (by decide)
  have b0 : 0 ≤ b := by
    simp only [List.mem_cons, List.not_mem_nil, or_false] at hb
    omega
  have f0 : 0 < far ∧ far ≤ 30 := by
    simp only [List.mem_cons, List.not_mem_nil, or_false] at hf
    omega
  have f2 : far.natAbs.log2 < 9000 := Nat.lt_trans (Com.log2_lt (n := 10) (by omega) (by decide)) (by decide)
  have q1 : sPar 1 2 (dCons (dIx (dLst (dCons (dC (.int 0)) (dCons (dC (.int 500)) (dCons (dC (.int 985)) (dCons (dC (.int 990)) dNil))))) (dCallA 2 f__law_take (dCons (dVar 0) (dCons (dC (.int 4)) dNil)))) (dCons (dIx (dLst (dCons (dC (.int 3)) (dCons (dC (.int 12)) (dCons (dC (.int 30)) dNil)))) (dCallA 2 f__law_take (dCons (dVar 0) (dCons (dC (.int 3)) dNil)))) dNil)) [some (.box K), none, none, none, none, none] st = .nx [some (.box K), some (.int b), some (.int far), none, none, none] s2 := by
    refine ex_par (x := .int b) (y := .int far) (ev_cons (s1 := s1) ?_ (ev_cons ?_ rfl))
    · exact ev_ix (x := .lst ([0, 500, 985, 990].map D.int)) (y := .int i) (s1 := st) rfl (ev_call (xs := [.box K, .int 4]) (s1 := st) rfl rfl e1) eb
    · exact ev_ix (x := .lst ([3, 12, 30].map D.int)) (y := .int j) (s1 := s1) rfl (ev_call (xs := [.box K, .int 3]) (s1 := s1) rfl rfl e2) ef
  have q2 : sSet 3 dNewD [some (.box K), some (.int b), some (.int far), none, none, none] s2 = .nx [some (.box K), some (.int b), some (.int far), some (.box s2.length), none, none] (s2 ++ [.dic [] []]) := rfl
  obtain ⟨ρ', sf, e5, S, st', x4, x5, rfl, rfl, hS, hlen, hc⟩ := forL_upto (g := g1 4) (b := spB) (pre := []) (ds := rangeD 0 n.toNat) (ρ := [some (.box K), some (.int b), some (.int far), some (.box s2.length), none, none]) (st := s3 ++ [.dic [] []])
    (I := fun pre r ρ s => ∃ S st' x4 x5, ρ = [some (.box K), some (.int b), some (.int far), some (.box s2.length), x4, x5] ∧ s = st' ++ [.dic (keysOf S) (valsOf S)] ∧ OkS S ∧ (S.length ≤ pre.length ∧ pre.length + r.length ≤ 12) ∧ Chg K s2 st')
    (fun pre d r ρ s ⟨S, st', x4, x5, e, e', hS, hlen, hc⟩ => by
      subst e e'
      rw [List.length_cons] at hlen
      obtain ⟨S', st2, x5', e6, hS', hl', hc'⟩ := spB_d (K := K) (b := b) (far := far) (S := S) (st := st') (x4 := some d) (x5 := x5) hc.pot hS (by omega) b0 f0.1 f2
      rw [hc.len] at e6
      exact ⟨_, rfl, _, _, e6, S', st2, _, _, rfl, rfl, hS', by rw [List.length_append, List.length_singleton]; omega, hc.trans hc'⟩)
    ⟨[], s3, none, none, rfl, rfl, okS_nil, ⟨Nat.le_refl _, by unfold rangeD; rw [List.length_map, List.length_range, List.length_nil]; omega⟩, c3⟩
  have q3 : sForR1 (dCons (dCallA 2 f__law_take (dCons (dVar 0) (dCons (dC (.int 13)) dNil))) dNil) (g1 4) spB [some (.box K), some (.int b), some (.int far), some (.box s2.length), none, none] (s2 ++ [.dic [] []]) = .nx [some (.box K), some (.int b), some (.int far), some (.box s2.length), x4, x5] (st' ++ [.dic (keysOf S) (valsOf S)]) :=
    ex_forR1 (j := n) (ev_cons (ev_call (xs := [.box K, .int 13]) (s1 := s2 ++ [.dic [] []]) rfl rfl e3) rfl) (big_of (by omega) (by omega)) e5
  refine ⟨S, st', hS, run (N := 6) (n := 1) (m := m__law_spans) (r := .ret (dicS S) (st' ++ [.dead])) rfl (ex_seq q1 (ex_seq q2 (ex_seq q3 ?_))) rfl, (c1.trans c2).trans hc⟩
  have fz : dFrzD (dVar 3) [some (.box K), some (.int b), some (.int far), some (.box s2.length), x4, x5] (st' ++ [.dic (keysOf S) (valsOf S)]) = .ok (dicS S) (st' ++ [.dead]) := by
    have e0 : dFrzD (dVar 3) [some (.box K), some (.int b), some (.int far), some (.box s2.length), x4, x5] (st' ++ [.dic (keysOf S) (valsOf S)]) = (match (st' ++ [Cell.dic (keysOf S) (valsOf S)])[s2.length]? with
        | some (.dic ks xs) => .ok (.dic ks xs) ((st' ++ [Cell.dic (keysOf S) (valsOf S)]).set s2.length .dead)
        | _ => .bad) := rfl
    rw [e0, ← hc.len, get_last, set_last]
    rfl
  exact ex_ret fz
end K32

set_option maxRecDepth 100000
set_option maxHeartbeats 1000000
namespace K32
open PySem PySem.Spec PyProof.Rows L2 Den
/-! ### texts -/
abbrev reprF : FB := orB (one gRepr) (one gReprK)
section
variable {r : DA} {ρ : Rho} {st s1 : Store} {x : D} {p : PyData}
theorem ev_repr (h : r ρ st = .ok [x] s1) (hd : isDic x = false) (hp : toPyR x = some p) (h1 : p.showable = true) (h2 : p.depth ≤ 60) (h3 : p.shown.length ≤ 1000000) : dCB reprF r ρ st = .ok (.str p.shown) s1 := by
  refine ev_orb h ?_
  unfold one
  dsimp only
  unfold gRepr
  rw [if_neg (by rw [hd]; decide), hp]
  dsimp only
  rw [if_pos ⟨h1, h2, h3⟩]
  rfl
theorem ev_reprK (h : r ρ st = .ok [x] s1) (hd : isDic x = true) (hp : toPyR x = some p) (h1 : p.showable = true) (h2 : p.depth ≤ 60) (h3 : p.shown.length ≤ 1000000) : dCB reprF r ρ st = .ok (.str p.shown) s1 := by
  refine ev_orb2 h ?_ ?_
  · unfold one
    dsimp only
    unfold gRepr
    rw [if_pos hd]
    rfl
  · unfold one
    dsimp only
    unfold gReprK
    rw [if_pos hd, hp]
    dsimp only
    rw [if_pos ⟨h1, h2, h3⟩]
    rfl
end
theorem int_show {i : Int} (h0 : -10000 ≤ i) (h1 : i ≤ 10000) : (PyData.int i).showable = true ∧ (PyData.int i).leavesShort 13 = true := by
  have a : i.natAbs < 10 ^ 12 := by
    have : i.natAbs ≤ 10000 := by omega
    exact Nat.lt_of_le_of_lt this (by decide)
  constructor
  · simp only [PyData.showable, decide_eq_true_eq]
    have : i.natAbs < 2 ^ 64 := Nat.lt_trans a (by decide)
    have := Com.log2_lt this (by decide)
    omega
  · rw [PyData.leavesShort, decide_eq_true_eq]
    show (Str.ofString (toString i)).length ≤ 13
    rw [PySem.ofString_length]
    exact int_text_length_le10 (by decide) a
def pyKv (S : List Sp) : List (PyData × PyData) := S.map fun s => (PyData.int s.1, PyData.tuple [.int s.2.1, .int s.2.2])
theorem toPy_vals : ∀ S : List Sp, toPyRL (valsOf S) = some (S.map fun s => PyData.tuple [.int s.2.1, .int s.2.2])
  | [] => rfl
  | s :: S => by
    have ih := toPy_vals S
    unfold valsOf at ih ⊢
    rw [List.map_cons]
    unfold toPyRL
    rw [ih]
    rfl
theorem toPy_dic (S : List Sp) : toPyR (dicS S) = some (.dict (pyKv S)) := by
  unfold dicS
  simp only [toPyR]
  rw [if_pos (keys_len S), toPy_vals, Option.map_some]
  congr 2
  unfold keysOf pyKv
  induction S with
  | nil => rfl
  | cons s S ih =>
    rw [List.map_cons, List.map_cons, List.map_cons, List.map_cons, List.zip_cons_cons, ih]
    rfl
theorem kv_all : ∀ S : List Sp, (∀ s ∈ S, 0 ≤ s.1 ∧ s.1 < 40) → (∀ s ∈ S, 0 ≤ s.2.1 ∧ s.2.1 ≤ s.2.2 ∧ s.2.2 ≤ 999) → PyData.showableKv (pyKv S) = true ∧ PyData.leavesShortKv 13 (pyKv S) = true ∧ PyData.bulkKv (pyKv S) = 4 * S.length ∧ PyData.depthKv (pyKv S) ≤ 1
  | [], _, _ => ⟨rfl, rfl, rfl, by simp [pyKv, PyData.depthKv]⟩
  | s :: S, h1, h2 => by
    obtain ⟨a, b, c, d⟩ := kv_all S (fun s hs => h1 s (List.mem_cons_of_mem _ hs)) (fun s hs => h2 s (List.mem_cons_of_mem _ hs))
    have k1 := h1 s List.mem_cons_self
    have k2 := h2 s List.mem_cons_self
    have i0 := int_show (i := s.1) (by omega) (by omega)
    have i1 := int_show (i := s.2.1) (by omega) (by omega)
    have i2 := int_show (i := s.2.2) (by omega) (by omega)
    have e : pyKv (s :: S) = (PyData.int s.1, PyData.tuple [.int s.2.1, .int s.2.2]) :: pyKv S := rfl
    rw [e]
    refine ⟨?_, ?_, ?_, ?_⟩
    · rw [PyData.showableKv, PyData.showable.eq_def (.tuple _)]
      dsimp only
      rw [PyData.showableAll, PyData.showableAll, PyData.showableAll, a, i0.1, i1.1, i2.1]
      rfl
    · rw [PyData.leavesShortKv, PyData.leavesShort.eq_def _ (.tuple _)]
      dsimp only
      rw [PyData.leavesShortAll, PyData.leavesShortAll, PyData.leavesShortAll, b, i0.2, i1.2, i2.2]
      rfl
    · simp only [PyData.bulkKv, PyData.bulk, PyData.bulkAll, c, List.length_cons]
      omega
    · simp only [PyData.depthKv, PyData.depth, PyData.depthAll]
      omega
theorem repr_dic {S : List Sp} (h : OkS S) : ∃ z, ∀ (r : DA) (ρ : Rho) (st s1 : Store), r ρ st = .ok [dicS S] s1 → dCB reprF r ρ st = .ok (.str z) s1 := by
  obtain ⟨a, b, c, d⟩ := kv_all S h.num h.sp
  refine ⟨_, fun r ρ st s1 e => ev_reprK e rfl (toPy_dic S) ?_ ?_ ?_⟩
  · simp only [PyData.showable]; exact a
  · simp only [PyData.depth]; omega
  · have z := PyData.shown_le_bulk 13 (by decide) (.dict (pyKv S)) (by simp only [PyData.leavesShort]; exact b)
    have few := h.few
    simp only [PyData.bulk] at z
    rw [c] at z
    omega
theorem due_bounds {S : List Sp} {p : Int} {q : Int × Int} (h : OkS S) (he : crowdOf S p = some q) : 0 ≤ q.1 ∧ q.1 ≤ q.2 ∧ q.2 ≤ 999 := by
  cases S with
  | nil => cases he
  | cons s0 r =>
    obtain ⟨b1, b2, b3, b4, b5, b6⟩ := bounds h
    have z := lawRes_some (S := s0 :: r) (p := p) (lo := lowOf s0 r) (hi := highOf s0 r) (f := q.1) (l := q.2) he
    omega
theorem toPy_told (S : List Sp) (p : Int) (d : D) : toPyR (toldD S p d) = some (.list [(match crowdOf S p with | none => PyData.none | some q => .tuple [.int q.1, .int q.2, .int (cnt S q.1 q.2)]), .bool (isCrowd S p d), .bool (isCrowd S p d)]) := by
  unfold toldD dueD
  cases crowdOf S p <;> rfl
theorem repr_told {S : List Sp} {p : Int} {d : D} (h : OkS S) : ∃ z, ∀ (r : DA) (ρ : Rho) (st s1 : Store), r ρ st = .ok [toldD S p d] s1 → dCB reprF r ρ st = .ok (.str z) s1 := by
  have t := toPy_told S p d
  cases hc : crowdOf S p with
  | none =>
    rw [hc] at t
    dsimp only at t
    refine ⟨_, fun r ρ st s1 e => ev_repr e rfl t ?_ ?_ ?_⟩
    · rfl
    · simp only [PyData.depth, PyData.depthAll]; omega
    · have z := PyData.shown_le_bulk 13 (by decide) (.list [.none, .bool (isCrowd S p d), .bool (isCrowd S p d)]) rfl
      simp only [PyData.bulk, PyData.bulkAll] at z
      omega
  | some q =>
    rw [hc] at t
    dsimp only at t
    have b := due_bounds h hc
    have c := cnt_le S q.1 q.2
    have few := h.few
    have i0 := int_show (i := q.1) (by omega) (by omega)
    have i1 := int_show (i := q.2) (by omega) (by omega)
    have i2 := int_show (i := (cnt S q.1 q.2 : Int)) (by omega) (by omega)
    refine ⟨_, fun r ρ st s1 e => ev_repr e rfl t ?_ ?_ ?_⟩
    · rw [PyData.showable.eq_def (.list _)]
      dsimp only
      rw [PyData.showableAll, PyData.showable.eq_def (.tuple _)]
      dsimp only
      rw [PyData.showableAll, PyData.showableAll, PyData.showableAll, i0.1, i1.1, i2.1]
      rfl
    · simp only [PyData.depth, PyData.depthAll]; omega
    · have z := PyData.shown_le_bulk 13 (by decide) (.list [.tuple [.int q.1, .int q.2, .int (cnt S q.1 q.2)], .bool (isCrowd S p d), .bool (isCrowd S p d)]) (by
        rw [PyData.leavesShort.eq_def _ (.list _)]
        dsimp only
        rw [PyData.leavesShortAll, PyData.leavesShort.eq_def _ (.tuple _)]
        dsimp only
        rw [PyData.leavesShortAll, PyData.leavesShortAll, PyData.leavesShortAll, i0.2, i1.2, i2.2]
        rfl)
      simp only [PyData.bulk, PyData.bulkAll] at z
      omega
theorem fNe_str (z : Str) : fNe (.str z) (.str z) = some (.bl false) := by
  unfold fNe strEq
  simp
end K32

set_option maxRecDepth 100000
set_option maxHeartbeats 1000000
namespace K32
open PySem PySem.Spec PyProof.Rows L2 Den
/-! ### a thing bent -/
abbrev bentL : List D := [.int 1, .int (-1), .int 9, .int 100, .int 9999, .int (-10000)]
theorem bent1_d {K : Nat} {i : Int} {st : Store} (h : Pot K st) : ∃ x st1, plain x = true ∧ f__law_bent1 [.box K, .int i] st = .ok x st1 ∧ Chg K st st1 := by
  have t0 := isi_tuple (st := st) (ρ := [some (.box K), some (.int i), none, none]) (a := dVar 1) (d := .int i) rfl rfl
  obtain ⟨j, s1, j0, j1, e1, c1⟩ := take_d h (far := 3) (by decide)
  have w : dTruth (dCallA 1 f__law_whole (dCons (dVar 1) dNil)) [some (.box K), some (.int i), none, none] st = .ok true st := ev_truth (ev_call (xs := [.int i]) (s1 := st) rfl rfl (lwhole_eq (d := .int i) rfl)) rfl
  have g : asB (dOp2 fGt (dCallA 2 f__law_take (dCons (dVar 0) (dCons (dC (.int 3)) dNil))) (dC (.int 0))) [some (.box K), some (.int i), none, none] st = .ok (decide ((0 : Int) < j)) s1 := ev_asB (ev_op (x := .int j) (y := .int 0) (s1 := s1) (s2 := s1) (ev_call (xs := [.box K, .int 3]) (s1 := st) rfl rfl e1) rfl (gt_ii _ _))
  have t := ev_andT (u := asB (dOp2 fGt (dCallA 2 f__law_take (dCons (dVar 0) (dCons (dC (.int 3)) dNil))) (dC (.int 0)))) w g
  cases hj : decide ((0 : Int) < j) with
  | true =>
    rw [hj] at t
    obtain ⟨n, s2, n0, n1, e2, c2⟩ := take_d c1.pot (far := 6) (by decide)
    obtain ⟨x, hx, ex⟩ := ix_ints (ns := [1, -1, 9, 100, 9999, -10000]) (st := s2) n0 n1
    have l6 : (dLst (dCons (dC (.int 1)) (dCons (dNeg (dC (.int 1))) (dCons (dC (.int 9)) (dCons (dC (.int 100)) (dCons (dC (.int 9999)) (dCons (dNeg (dPow (dC (.int 10)) (dC (.int 4)))) dNil))))))) [some (.box K), some (.int i), none, none] s1 = .ok (.lst ([1, -1, 9, 100, 9999, -10000].map D.int)) s1 := by kernel_rfl
    refine ⟨.int (i + x), s2, rfl, run (N := 4) (n := 2) (m := m__law_bentF noF) (r := .ret (.int (i + x)) s2) rfl (ex_seqR ((ex_if t0).trans (ex_seqR ((ex_if t).trans (ex_ret ?_))))) rfl, c1.trans c2⟩
    exact ev_op (x := .int i) (y := .int x) (s1 := s1) (s2 := s2) rfl (ev_ix (y := .int n) l6 (ev_call (xs := [.box K, .int 6]) (s1 := s1) rfl rfl e2) ex) rfl
  | false =>
    rw [hj] at t
    obtain ⟨x, s2, hx, e2, c2⟩ := odd_d c1.pot
    refine ⟨x, s2, flat_plain hx, run (N := 4) (n := 2) (m := m__law_bentF noF) (r := .ret x s2) rfl (ex_seqR ((ex_if t0).trans (ex_seq ((ex_if t).trans rfl : _ = SRes.nx [some (.box K), some (.int i), none, none] s1) (ex_ret (ev_call (xs := [.box K]) (s1 := s1) rfl rfl e2))))) rfl, c1.trans c2⟩
theorem fEq_ii (i j : Int) : fEq (.int i) (.int j) = some (.bl (i == j)) := rfl
theorem pair_ne {f l : Int} : fEq (.tup [.int f, .int l]) (.tup []) = some (.bl false) := by
  rfl
theorem bent_d {K : Nat} {f l : Int} {st : Store} (h : Pot K st) : ∃ x st1, flatT x = true ∧ f__law_bent [.box K, .tup [.int f, .int l]] st = .ok x st1 ∧ Chg K st st1 := by
  have t0 := isi_tuple (st := st) (ρ := [some (.box K), some (.tup [.int f, .int l]), none, none]) (a := dVar 1) (d := .tup [.int f, .int l]) rfl rfl
  obtain ⟨way, s1, w0, w1, e1, c1⟩ := take_d h (far := 12) (by decide)
  have q0 : (sSet 2 (dCallA 2 f__law_take (dCons (dVar 0) (dCons (dC (.int 12)) dNil)))) [some (.box K), some (.tup [.int f, .int l]), none, none] st = .nx [some (.box K), some (.tup [.int f, .int l]), some (.int way), none] s1 := ex_set (ev_call (xs := [.box K, .int 12]) (s1 := st) rfl rfl e1)
  have a1 : asB (dOp2 fEq (dVar 2) (dC (.int 0))) [some (.box K), some (.tup [.int f, .int l]), some (.int way), none] s1 = .ok (way == 0) s1 := ev_asB (ev_op (x := .int way) (y := .int 0) (s1 := s1) rfl rfl (fEq_ii _ _))
  have a2 : asB (dOp2 fEq (dVar 1) (dTup dNil)) [some (.box K), some (.tup [.int f, .int l]), some (.int way), none] s1 = .ok false s1 := ev_asB (ev_op (x := .tup [.int f, .int l]) (y := .tup []) (s1 := s1) rfl rfl pair_ne)
  cases hw : way == 0 with
  | true =>
    rw [hw] at a1
    obtain ⟨o1, s2, ho1, e2, c2⟩ := odd_d c1.pot
    obtain ⟨o2, s3, ho2, e3, c3⟩ := odd_d c2.pot
    obtain ⟨n, s4, n0, n1, e4, c4⟩ := take_d c3.pot (far := 4) (by decide)
    obtain ⟨x, hx, ex⟩ := ix_mem (xs := [o1, .lst [.int f, .int l], .tup [.int f, .int l, o2], .tup [.int f, .int l, .int l]]) (st := s4) n0 n1
    have fx : flatT x = true := by
      simp only [List.mem_cons, List.not_mem_nil, or_false] at hx
      rcases hx with rfl | rfl | rfl | rfl
      · exact ho1
      · rfl
      · have := flat_plain ho2
        simp [flatT, plain, this]
        exact this
      · rfl
    refine ⟨x, s4, fx, run (N := 4) (n := 2) (m := m__law_bentF f__law_bent1) (r := .ret x s4) rfl (ex_seq ((ex_if t0).trans rfl : _ = SRes.nx [some (.box K), some (.tup [.int f, .int l]), none, none] st) (ex_seq q0 (ex_seqR ((ex_if (ev_orT a1)).trans (ex_ret ?_))))) rfl, ((c1.trans c2).trans c3).trans c4⟩
    refine ev_ix (x := .lst [o1, .lst [.int f, .int l], .tup [.int f, .int l, o2], .tup [.int f, .int l, .int l]]) (y := .int n) (s1 := s3) (s2 := s4) ?_ (ev_call (xs := [.box K, .int 4]) (s1 := s3) rfl rfl e4) ex
    refine ev_lst (ev_cons (s1 := s2) (ev_call (xs := [.box K]) (s1 := s1) rfl rfl e2) (ev_cons (x := .lst [.int f, .int l]) (s1 := s2) rfl (ev_cons (s1 := s3) (ev_op (x := .tup [.int f, .int l]) (y := .tup [o2]) (s1 := s2) (s2 := s3) rfl (ev_tup (ev_cons (s1 := s3) (ev_call (xs := [.box K]) (s1 := s2) rfl rfl e3) rfl) (show 1 ≤ 100000 by decide)) rfl) (ev_cons (x := .tup [.int f, .int l, .int l]) (s1 := s3) rfl rfl)))) (show 4 ≤ 100000 by decide)
  | false =>
    rw [hw] at a1
    obtain ⟨at', s2, n0, n1, e2, c2⟩ := take_d c1.pot (far := 2) (by decide)
    have q1 := (ex_if (p := sRet (dIx (dLst (dCons (dCallA 1 f__law_odd (dCons (dVar 0) dNil)) (dCons (dCB (one gList) (dCons (dVar 1) dNil)) (dCons (dAdd (dVar 1) (dTup (dCons (dCallA 1 f__law_odd (dCons (dVar 0) dNil)) dNil))) (dCons (dAdd (dVar 1) (dSl (dVar 1) (oSome (dNeg (dC (.int 1)))) oNone)) dNil))))) (dCallA 2 f__law_take (dCons (dVar 0) (dCons (dC (.int 4)) dNil))))) (q := sNext) (ev_orF a1 a2)).trans (rfl : _ = SRes.nx [some (.box K), some (.tup [.int f, .int l]), some (.int way), none] s1)
    have q2 : (sSet 3 (dCallA 2 f__law_take (dCons (dVar 0) (dCons (dCB (orB (one gLen) (one gLenK)) (dCons (dVar 1) dNil)) dNil)))) [some (.box K), some (.tup [.int f, .int l]), some (.int way), none] s1 = .nx [some (.box K), some (.tup [.int f, .int l]), some (.int way), some (.int at')] s2 := ex_set (ev_call (xs := [.box K, .int 2]) (s1 := s1) rfl rfl e2)
    have b1 : asB (dOp2 fEq (dVar 2) (dC (.int 1))) [some (.box K), some (.tup [.int f, .int l]), some (.int way), some (.int at')] s2 = .ok (way == 1) s2 := ev_asB (ev_op (x := .int way) (y := .int 1) (s1 := s2) rfl rfl (fEq_ii _ _))
    have b2 : asB (dOp2 fEq (dVar 2) (dC (.int 2))) [some (.box K), some (.tup [.int f, .int l]), some (.int way), some (.int at')] s2 = .ok (way == 2) s2 := ev_asB (ev_op (x := .int way) (y := .int 2) (s1 := s2) rfl rfl (fEq_ii _ _))
    have cc := c1.trans c2
    obtain ⟨b, s3, hb, e3, c3⟩ : ∃ b s3, plain b = true ∧ (∀ i, (i = f ∧ at' = 0 ∨ i = l ∧ at' = 1) → f__law_bent1 [.box K, .int i] s2 = .ok b s3) ∧ Chg K s2 s3 := by
      have hat : at' = 0 ∨ at' = 1 := by omega
      rcases hat with rfl | rfl
      · obtain ⟨b, s3, h1, h2, h3⟩ := bent1_d (i := f) c2.pot
        exact ⟨b, s3, h1, (fun i hi => by
          rcases hi with ⟨rfl, _⟩ | ⟨_, z⟩
          · exact h2
          · cases z), h3⟩
      · obtain ⟨b, s3, h1, h2, h3⟩ := bent1_d (i := l) c2.pot
        exact ⟨b, s3, h1, (fun i hi => by
          rcases hi with ⟨_, z⟩ | ⟨rfl, _⟩
          · cases z
          · exact h2), h3⟩
    have fin : ∀ {x : D} {s4 : Store} {q : DS} (hq : q = (sSeq (sIf (asB (dOp2 fEq (dVar 2) (dC (.int 1)))) (sRet (dAdd (dSl (dVar 1) oNone (oSome (dVar 3))) (dSl (dVar 1) (oSome (dAdd (dVar 3) (dC (.int 1)))) oNone))) sNext)
        (sSeq (sIf (asB (dOp2 fEq (dVar 2) (dC (.int 2)))) (sRet (dAdd (dAdd (dSl (dVar 1) oNone (oSome (dVar 3))) (dSl (dVar 1) (oSome (dVar 3)) (oSome (dAdd (dVar 3) (dC (.int 1)))))) (dSl (dVar 1) (oSome (dVar 3)) oNone))) sNext)
        (sRet (dAdd (dAdd (dSl (dVar 1) oNone (oSome (dVar 3))) (dTup (dCons (dCallA 2 f__law_bent1 (dCons (dVar 0) (dCons (dIx (dVar 1) (dVar 3)) dNil))) dNil))) (dSl (dVar 1) (oSome (dAdd (dVar 3) (dC (.int 1)))) oNone)))))), q [some (.box K), some (.tup [.int f, .int l]), some (.int way), some (.int at')] s2 = .ret x s4 → f__law_bent [.box K, .tup [.int f, .int l]] st = .ok x s4 := fun hq hr => by
      subst hq
      exact run (N := 4) (n := 2) (m := m__law_bentF f__law_bent1) rfl (ex_seq ((ex_if t0).trans rfl : _ = SRes.nx [some (.box K), some (.tup [.int f, .int l]), none, none] st) (ex_seq q0 (ex_seq q1 (ex_seq q2 hr)))) rfl
    have hat : at' = 0 ∨ at' = 1 := by omega
    cases h1 : way == 1 with
    | true =>
      rw [h1] at b1
      rcases hat with rfl | rfl
      · exact ⟨.tup [.int l], s2, rfl, fin rfl (ex_seqR ((ex_if b1).trans rfl)), cc⟩
      · exact ⟨.tup [.int f], s2, rfl, fin rfl (ex_seqR ((ex_if b1).trans rfl)), cc⟩
    | false =>
      rw [h1] at b1
      cases h2 : way == 2 with
      | true =>
        rw [h2] at b2
        rcases hat with rfl | rfl
        · exact ⟨.tup [.int f, .int f, .int l], s2, rfl, fin rfl (ex_seq ((ex_if b1).trans rfl : _ = SRes.nx [some (.box K), some (.tup [.int f, .int l]), some (.int way), some (.int 0)] s2) (ex_seqR ((ex_if b2).trans rfl))), cc⟩
        · exact ⟨.tup [.int f, .int l, .int l], s2, rfl, fin rfl (ex_seq ((ex_if b1).trans rfl : _ = SRes.nx [some (.box K), some (.tup [.int f, .int l]), some (.int way), some (.int 1)] s2) (ex_seqR ((ex_if b2).trans rfl))), cc⟩
      | false =>
        rw [h2] at b2
        rcases hat with rfl | rfl
        · refine ⟨.tup [b, .int l], s3, by simp [flatT, hb]; exact ⟨rfl, rfl⟩, fin rfl (ex_seq ((ex_if b1).trans rfl : _ = SRes.nx [some (.box K), some (.tup [.int f, .int l]), some (.int way), some (.int 0)] s2) (ex_seq ((ex_if b2).trans rfl : _ = SRes.nx [some (.box K), some (.tup [.int f, .int l]), some (.int way), some (.int 0)] s2) (ex_ret ?_))), cc.trans c3⟩
          exact ev_op (x := .tup [b]) (y := .tup [.int l]) (s1 := s3) (s2 := s3) (ev_op (x := .tup []) (y := .tup [b]) (s1 := s2) (s2 := s3) rfl (ev_tup (ev_cons (s1 := s3) (ev_call (xs := [.box K, .int f]) (s1 := s2) rfl rfl (e3 f (.inl ⟨rfl, rfl⟩))) rfl) (show 1 ≤ 100000 by decide)) rfl) rfl rfl
        · refine ⟨.tup [.int f, b], s3, by simp [flatT, hb]; exact ⟨rfl, rfl⟩, fin rfl (ex_seq ((ex_if b1).trans rfl : _ = SRes.nx [some (.box K), some (.tup [.int f, .int l]), some (.int way), some (.int 1)] s2) (ex_seq ((ex_if b2).trans rfl : _ = SRes.nx [some (.box K), some (.tup [.int f, .int l]), some (.int way), some (.int 1)] s2) (ex_ret ?_))), cc.trans c3⟩
          exact ev_op (x := .tup [.int f, b]) (y := .tup []) (s1 := s3) (s2 := s3) (ev_op (x := .tup [.int f]) (y := .tup [b]) (s1 := s2) (s2 := s3) rfl (ev_tup (ev_cons (s1 := s3) (ev_call (xs := [.box K, .int l]) (s1 := s2) rfl rfl (e3 l (.inr ⟨rfl, rfl⟩))) rfl) (show 1 ≤ 100000 by decide)) rfl) rfl rfl
end K32

set_option maxRecDepth 100000
set_option maxHeartbeats 1000000
namespace K32
open PySem PySem.Spec PyProof.Rows L2 Den
def gpE : DS := (sAsg (gT [4, 5]) (dTup (dCons (dCallA 1 f__law_spans (dCons (dVar 2) dNil)) (dCons (dAdd (dC (.int 1)) (dCallA 2 f__law_take (dCons (dVar 2) (dCons (dIx (dLst (dCons (dC (.int 1)) (dCons (dC (.int 2)) (dCons (dC (.int 4)) dNil)))) (dCallA 2 f__law_take (dCons (dVar 2) (dCons (dC (.int 3)) dNil)))) dNil)))) dNil))))
def dkE : DS := (sPar 6 7 (dCons (dCallA 2 f__law_crowd (dCons (dVar 4) (dCons (dVar 5) dNil))) (dCons (dCB (orB (one gRepr) (one gReprK)) (dCons (dVar 4) dNil)) dNil)))
def fiE : DS := (sSet 8 (dSortSet (dAdd (dLc (iKeysD (dVar 4)) (g1 15) tYesD (dIx (dIxK (dVar 4) (dVar 15)) (dC (.int 0))) [15]) (dLst (dCons (dC (.int 0)) (dCons (dC (.int 999)) dNil))))))
def laE : DS := (sSet 9 (dSortSet (dAdd (dLc (iKeysD (dVar 4)) (g1 15) tYesD (dIx (dIxK (dVar 4) (dVar 15)) (dC (.int 1))) [15]) (dLst (dCons (dC (.int 0)) (dCons (dC (.int 999)) dNil))))))
def thE : DS := (sSet 10 (dNew (dCons (dC .non) (dCons (dTup dNil) (dCons (dLst (dCons (dC (.int 3)) (dCons (dC (.int 4)) dNil))) (dCons (dTup (dCons (dC (.int 4)) (dCons (dC (.int 3)) dNil))) (dCons (dTup (dCons (dC (.int 0)) (dCons (dC (.int 1000)) dNil))) (dCons (dTup (dCons (dNeg (dC (.int 1))) (dCons (dC (.int 3)) dNil))) (dCons (dTup (dCons (dC (.bl true)) (dCons (dC (.int 3)) dNil))) (dCons (dTup (dCons (dC (.int 3)) dNil)) (dCons (dTup (dCons (dC (.int 3)) (dCons (dC (.int 4)) (dCons (dC (.int 5)) dNil)))) (dCons (dCallA 1 f__law_odd (dCons (dVar 2) dNil)) dNil))))))))))))
def lapB : DS := (sSeq (sSet 12 (dCB (orB (two fun i j => if j > i then j else i) (one (gBest PySem.W.maxD))) (dCons (dC (.int 0)) (dCons (dSub (dIx (dVar 8) (dCallA 2 f__law_take (dCons (dVar 2) (dCons (dCB (orB (one gLen) (one gLenK)) (dCons (dVar 8) dNil)) dNil)))) (dCallA 2 f__law_take (dCons (dVar 2) (dCons (dC (.int 3)) dNil)))) dNil))))
    (sDrop (dBm "list" mApp (dVar 10) (dCons (dTup (dCons (dVar 12) (dCons (dCB (orB (two fun i j => if j < i then j else i) (one (gBest PySem.W.minD))) (dCons (dC (.int 999)) (dCons (dAdd (dIx (dVar 9) (dCallA 2 f__law_take (dCons (dVar 2) (dCons (dCB (orB (one gLen) (one gLenK)) (dCons (dVar 9) dNil)) dNil)))) (dCallA 2 f__law_take (dCons (dVar 2) (dCons (dC (.int 2)) dNil)))) dNil))) dNil))) dNil))))
def lapF : DS := (sForR1 (dCons (dC (.int 24)) dNil) (g1 11)
    lapB)
def moreE : DS := (sIf (asB (dOp2 fNotN (dVar 6) (dC .non))) (sSet 10 (dAdd (dFrz (dVar 10)) (dLst (dCons (dSl (dVar 6) oNone (oSome (dC (.int 2)))) (dCons (dCB (one gList) (dCons (dSl (dVar 6) oNone (oSome (dC (.int 2)))) dNil)) (dCons (dVar 6) (dCons (dCallA 2 f__law_bent (dCons (dVar 2) (dCons (dSl (dVar 6) oNone (oSome (dC (.int 2)))) dNil))) dNil))))))) sNext)
def eachB : DS := (sSeq (sSet 14 (dCallA 3 f__law_is_crowd (dCons (dVar 4) (dCons (dVar 5) (dCons (dVar 13) dNil)))))
    (sIf (tOrD (asB (dOp2 fNe (dCB (orB (one gRepr) (one gReprK)) (dCons (dCallA 3 f__law_told (dCons (dVar 4) (dCons (dVar 13) (dCons (dVar 5) dNil)))) dNil)) (dCB (orB (one gRepr) (one gReprK)) (dCons (dLst (dCons (dVar 6) (dCons (dVar 14) (dCons (dVar 14) dNil)))) dNil)))) (asB (dOp2 fNe (dCB (orB (one gRepr) (one gReprK)) (dCons (dVar 4) dNil)) (dVar 7)))) (sRet (dC (.bl false))) sNext))
def eachF : DS := (sForL (dFrzA (dVar 10)) (g1 13)
    eachB)
def turnB : DS := (sSeq gpE
    (sSeq dkE
    (sSeq fiE
    (sSeq laE
    (sSeq thE
    (sSeq lapF
    (sSeq moreE
    eachF)))))))
def cellB : DS := (sSeq (sSet 2 (dCallA 1 f__law_pot (dCons (dCallA 2 f__law_cell_at (dCons (dVar 0) (dCons (dVar 1) dNil))) dNil)))
    (sForR1 (dCons (dC (.int 2)) dNil) (g1 3)
    turnB))
def cellsE : DA := (dCons (dCB (orB (two fun i j => if j > i then j else i) (one (gBest PySem.W.maxD))) (dCons (dC (.int 1)) (dCons (dCB (orB (two fun i j => if j < i then j else i) (one (gBest PySem.W.minD))) (dCons (dCB (orB (one gLen) (one gLenK)) (dCons (dVar 0) dNil)) (dCons (dC (.int 4)) dNil))) dNil))) dNil)
theorem law_cut : m_law = sSeq (sForR1 cellsE (g1 1) cellB) (sRet (dC (.bl true))) := rfl
/-- in the bounds that a month has -/
def inB (is : List Int) : Prop := is ≠ [] ∧ is.length < 64 ∧ ∀ i ∈ is, 0 ≤ i ∧ i ≤ 999
theorem intsOf_ints : ∀ is : List Int, intsOfD (is.map D.int) = some is
  | [] => rfl
  | i :: r => by
    rw [List.map_cons]
    unfold intsOfD
    rw [intsOf_ints r]
    rfl
theorem sort_len : ∀ l : List Int, (sortU l).length ≤ l.length := by
  have ins : ∀ (k : Int) (l : List Int), (insU k l).length ≤ l.length + 1 := by
    intro k l
    induction l with
    | nil => simp [insU]
    | cons a r ih =>
      unfold insU
      split
      · simp
      · split
        · simp
        · simp only [List.length_cons]; omega
  intro l
  induction l with
  | nil => simp [sortU]
  | cons a r ih =>
    unfold sortU
    have := ins a (sortU r)
    rw [List.length_cons]
    omega
theorem ends_d {S : List Sp} {ρ : Rho} {st : Store} {f : Sp → Int} {e : DE} (h : OkS S) (hv : dVar 4 (wipeD ρ [15]) st = .ok (dicS S) st) (hv0 : dVar 4 ρ st = .ok (dicS S) st)
    (hf : ∀ s ∈ S, 0 ≤ f s ∧ f s ≤ 999) (he : ∀ s ∈ S, ∃ ρ', g1 15 (.int s.1) (wipeD ρ [15]) = some ρ' ∧ e ρ' st = .ok (.int (f s)) st) :
    ∃ is, dSortSet (dAdd (dLc (iKeysD (dVar 4)) (g1 15) tYesD e [15]) (dLst (dCons (dC (.int 0)) (dCons (dC (.int 999)) dNil)))) ρ st = .ok (.lst (is.map D.int)) st ∧ inB is := by
  have few := h.few
  have z : lcL (g1 15) tYesD e (wipeD ρ [15]) (S.map fun s => D.int s.1) st = .ok ((S.filter fun _ => true).map fun s => .int (f s)) st := by
    refine lcL_on fun s hs => ?_
    obtain ⟨ρ', a, b⟩ := he s hs
    exact ⟨ρ', a, rfl, fun _ => b⟩
  rw [List.filter_eq_self.mpr fun _ _ => rfl] at z
  have z2 : dLc (iKeysD (dVar 4)) (g1 15) tYesD e [15] ρ st = .ok (.lst (S.map fun s => .int (f s))) st := by
    refine ev_lc (ds := S.map fun (s : Sp) => D.int s.1) (s1 := st) ?_ ?_ z ?_
    · rw [← keyD_int]
      unfold iKeysD
      rw [hv0]
      rfl
    · rw [List.length_map]; omega
    · rw [List.length_map]; omega
  have e1 : (S.map fun s => D.int (f s)) ++ [D.int 0, .int 999] = ((S.map f) ++ [0, 999]).map D.int := by
    rw [List.map_append, List.map_map]
    rfl
  have z3 : (dAdd (dLc (iKeysD (dVar 4)) (g1 15) tYesD e [15]) (dLst (dCons (dC (.int 0)) (dCons (dC (.int 999)) dNil)))) ρ st = .ok (.lst (((S.map f) ++ [0, 999]).map D.int)) st := by
    refine ev_op z2 (y := .lst [.int 0, .int 999]) (s2 := st) rfl ?_
    rw [← e1]
    have : fCatL (.lst (S.map fun s => D.int (f s))) (.lst [.int 0, .int 999]) = some (.lst ((S.map fun s => D.int (f s)) ++ [.int 0, .int 999])) := by
      unfold fCatL
      dsimp only
      rw [if_pos (by rw [List.length_map]; simp only [List.length_cons, List.length_nil]; omega)]
    unfold fAdd
    rw [this]
    rfl
  refine ⟨sortU ((S.map f) ++ [0, 999]), ?_, ?_, ?_, ?_⟩
  · unfold dSortSet gSortSet litemsOf
    rw [z3, bind_ok]
    dsimp only [Option.bind_some]
    rw [intsOf_ints, Option.bind_some, if_pos (by rw [List.length_append, List.length_map]; simp only [List.length_cons, List.length_nil]; omega)]
  · intro e
    have : (0 : Int) ∈ sortU ((S.map f) ++ [0, 999]) := (sortU_mem 0 _).2 (by simp)
    rw [e] at this
    cases this
  · have := sort_len ((S.map f) ++ [0, 999])
    rw [List.length_append, List.length_map] at this
    simp only [List.length_cons, List.length_nil] at this
    omega
  · intro i hi
    rcases List.mem_append.mp ((sortU_mem i _).1 hi) with hi | hi
    · obtain ⟨s, hs, rfl⟩ := List.mem_map.mp hi
      exact hf s hs
    · simp only [List.mem_cons, List.not_mem_nil, or_false] at hi
      omega
section
variable {ns : List Int} {k K : Nat} {S : List Sp} {p : Int} {st : Store} {x3 x4 x5 x6 x7 x8 x9 x10 x11 x12 x13 x14 x15 : Option D}
theorem gp_d (h : Pot K st) : ∃ S p st1, OkS S ∧ 1 ≤ p ∧ p ≤ 4 ∧ gpE [some (.ro (ns.map D.int)), some (.int k), some (.box K), x3, x4, x5, x6, x7, x8, x9, x10, x11, x12, x13, x14, x15] st = .nx [some (.ro (ns.map D.int)), some (.int k), some (.box K), x3, some (dicS S), some (.int p), x6, x7, x8, x9, x10, x11, x12, x13, x14, x15] st1 ∧ Pot K st1 := by
  obtain ⟨S, st', hS, e, c⟩ := spans_d h
  have h1 : Pot K (st' ++ [Cell.dead]) := pot_app c.pot
  generalize (st' ++ [Cell.dead] : Store) = s0 at e h1
  obtain ⟨w, s2, w0, w1, e2, c2⟩ := take_d h1 (far := 3) (by decide)
  obtain ⟨g, hg, eg⟩ := ix_ints (ns := [1, 2, 4]) (st := s2) w0 w1
  have g0 : 0 < g ∧ g ≤ 4 := by
    simp only [List.mem_cons, List.not_mem_nil, or_false] at hg
    omega
  have g2 : g.natAbs.log2 < 9000 := Nat.lt_trans (Com.log2_lt (n := 10) (by omega) (by decide)) (by decide)
  obtain ⟨j, s3, j0, j1, e3, c3⟩ := take_d c2.pot g0.1 g2
  refine ⟨S, 1 + j, s3, hS, by omega, by omega, ?_, c3.pot⟩
  have a0 : dCallA 1 f__law_spans (dCons (dVar 2) dNil) [some (.ro (ns.map D.int)), some (.int k), some (.box K), x3, x4, x5, x6, x7, x8, x9, x10, x11, x12, x13, x14, x15] st = .ok (dicS S) s0 := ev_call (xs := [.box K]) (s1 := st) rfl rfl e
  have a1 : dCallA 2 f__law_take (dCons (dVar 2) (dCons (dC (.int 3)) dNil)) [some (.ro (ns.map D.int)), some (.int k), some (.box K), x3, x4, x5, x6, x7, x8, x9, x10, x11, x12, x13, x14, x15] s0 = .ok (.int w) s2 := ev_call (xs := [.box K, .int 3]) (s1 := s0) rfl rfl e2
  have a2 : dIx (dLst (dCons (dC (.int 1)) (dCons (dC (.int 2)) (dCons (dC (.int 4)) dNil)))) (dCallA 2 f__law_take (dCons (dVar 2) (dCons (dC (.int 3)) dNil))) [some (.ro (ns.map D.int)), some (.int k), some (.box K), x3, x4, x5, x6, x7, x8, x9, x10, x11, x12, x13, x14, x15] s0 = .ok (.int g) s2 := ev_ix (x := .lst ([1, 2, 4].map D.int)) (y := .int w) (s1 := s0) rfl a1 eg
  have a3 : dCallA 2 f__law_take (dCons (dVar 2) (dCons (dIx (dLst (dCons (dC (.int 1)) (dCons (dC (.int 2)) (dCons (dC (.int 4)) dNil)))) (dCallA 2 f__law_take (dCons (dVar 2) (dCons (dC (.int 3)) dNil)))) dNil)) [some (.ro (ns.map D.int)), some (.int k), some (.box K), x3, x4, x5, x6, x7, x8, x9, x10, x11, x12, x13, x14, x15] s0 = .ok (.int j) s3 := ev_call (xs := [.box K, .int g]) (s1 := s2) (ev_cons (s1 := s0) rfl (ev_cons (s1 := s2) a2 rfl)) rfl e3
  have a4 : dAdd (dC (.int 1)) (dCallA 2 f__law_take (dCons (dVar 2) (dCons (dIx (dLst (dCons (dC (.int 1)) (dCons (dC (.int 2)) (dCons (dC (.int 4)) dNil)))) (dCallA 2 f__law_take (dCons (dVar 2) (dCons (dC (.int 3)) dNil)))) dNil))) [some (.ro (ns.map D.int)), some (.int k), some (.box K), x3, x4, x5, x6, x7, x8, x9, x10, x11, x12, x13, x14, x15] s0 = .ok (.int (1 + j)) s3 := ev_op (x := .int 1) (y := .int j) (s1 := s0) (s2 := s3) rfl a3 rfl
  have a5 := ev_tup (xs := [dicS S, .int (1 + j)]) (ev_cons a0 (ev_cons (r := dNil) a4 rfl)) (show 2 ≤ 100000 by decide)
  have a6 : gT [4, 5] (.tup [dicS S, .int (1 + j)]) [some (.ro (ns.map D.int)), some (.int k), some (.box K), x3, x4, x5, x6, x7, x8, x9, x10, x11, x12, x13, x14, x15] = some [some (.ro (ns.map D.int)), some (.int k), some (.box K), x3, some (dicS S), some (.int (1 + j)), x6, x7, x8, x9, x10, x11, x12, x13, x14, x15] := rfl
  exact ex_asg a5 a6
theorem dk_d {z : Str} (h : OkS S) (h1 : 1 ≤ p) (h4 : p ≤ 4) (hz : ∀ (r : DA) (ρ : Rho) (st s1 : Store), r ρ st = .ok [dicS S] s1 → dCB reprF r ρ st = .ok (.str z) s1) : dkE [some (.ro (ns.map D.int)), some (.int k), some (.box K), x3, some (dicS S), some (.int p), x6, x7, x8, x9, x10, x11, x12, x13, x14, x15] st = .nx [some (.ro (ns.map D.int)), some (.int k), some (.box K), x3, some (dicS S), some (.int p), some (dueD S p), some (.str z), x8, x9, x10, x11, x12, x13, x14, x15] st :=
  ex_par (ev_cons (ev_call (xs := [dicS S, .int p]) (s1 := st) rfl rfl (law_crowd_d h h1 h4)) (ev_cons (hz _ _ st st rfl) rfl))
theorem fi_d {z : Str} (h : OkS S) : ∃ fs, fiE [some (.ro (ns.map D.int)), some (.int k), some (.box K), x3, some (dicS S), some (.int p), some (dueD S p), some (.str z), x8, x9, x10, x11, x12, x13, x14, x15] st = .nx [some (.ro (ns.map D.int)), some (.int k), some (.box K), x3, some (dicS S), some (.int p), some (dueD S p), some (.str z), some (.lst (fs.map D.int)), x9, x10, x11, x12, x13, x14, x15] st ∧ inB fs := by
  obtain ⟨is, e, hi⟩ := ends_d (S := S) (ρ := [some (.ro (ns.map D.int)), some (.int k), some (.box K), x3, some (dicS S), some (.int p), some (dueD S p), some (.str z), x8, x9, x10, x11, x12, x13, x14, x15]) (st := st) (f := fun s => s.2.1) (e := dIx (dIxK (dVar 4) (dVar 15)) (dC (.int 0))) h rfl rfl (fun s hs => by have := h.sp s hs; omega)
    (fun s hs => ⟨[some (.ro (ns.map D.int)), some (.int k), some (.box K), x3, some (dicS S), some (.int p), some (dueD S p), some (.str z), x8, x9, x10, x11, x12, x13, x14, some (.int s.1)], rfl, ev_ix (ixk (a := dVar 4) (b := dVar 15) (st := st) h hs rfl rfl) (y := .int 0) (s2 := st) rfl rfl⟩)
  exact ⟨is, ex_set e, hi⟩
theorem la_d {z : Str} {fs : List Int} (h : OkS S) : ∃ ls, laE [some (.ro (ns.map D.int)), some (.int k), some (.box K), x3, some (dicS S), some (.int p), some (dueD S p), some (.str z), some (.lst (fs.map D.int)), x9, x10, x11, x12, x13, x14, x15] st = .nx [some (.ro (ns.map D.int)), some (.int k), some (.box K), x3, some (dicS S), some (.int p), some (dueD S p), some (.str z), some (.lst (fs.map D.int)), some (.lst (ls.map D.int)), x10, x11, x12, x13, x14, x15] st ∧ inB ls := by
  obtain ⟨is, e, hi⟩ := ends_d (S := S) (ρ := [some (.ro (ns.map D.int)), some (.int k), some (.box K), x3, some (dicS S), some (.int p), some (dueD S p), some (.str z), some (.lst (fs.map D.int)), x9, x10, x11, x12, x13, x14, x15]) (st := st) (f := fun s => s.2.2) (e := dIx (dIxK (dVar 4) (dVar 15)) (dC (.int 1))) h rfl rfl (fun s hs => by have := h.sp s hs; omega)
    (fun s hs => ⟨[some (.ro (ns.map D.int)), some (.int k), some (.box K), x3, some (dicS S), some (.int p), some (dueD S p), some (.str z), some (.lst (fs.map D.int)), x9, x10, x11, x12, x13, x14, some (.int s.1)], rfl, ev_ix (ixk (a := dVar 4) (b := dVar 15) (st := st) h hs rfl rfl) (y := .int 1) (s2 := st) rfl rfl⟩)
  exact ⟨is, ex_set e, hi⟩
abbrev th9 : List D := [.non, .tup [], .lst [.int 3, .int 4], .tup [.int 4, .int 3], .tup [.int 0, .int 1000], .tup [.int (-1), .int 3], .tup [.bl true, .int 3], .tup [.int 3], .tup [.int 3, .int 4, .int 5]]
theorem th_d {z : Str} {fs ls : List Int} (h : Pot K st) : ∃ n xs st1, thE [some (.ro (ns.map D.int)), some (.int k), some (.box K), x3, some (dicS S), some (.int p), some (dueD S p), some (.str z), some (.lst (fs.map D.int)), some (.lst (ls.map D.int)), x10, x11, x12, x13, x14, x15] st = .nx [some (.ro (ns.map D.int)), some (.int k), some (.box K), x3, some (dicS S), some (.int p), some (dueD S p), some (.str z), some (.lst (fs.map D.int)), some (.lst (ls.map D.int)), some (.box n), x11, x12, x13, x14, x15] st1 ∧ Pot K st1 ∧ n ≠ K ∧ st1[n]? = some (.lst xs) ∧ (∀ x ∈ xs, flatT x = true) ∧ xs.length = 10 := by
  obtain ⟨o, s1, ho, e, c⟩ := odd_d h
  refine ⟨s1.length, th9 ++ [o], s1 ++ [.lst (th9 ++ [o])], ?_, pot_app c.pot, ?_, get_last, fun x hx => ?_, rfl⟩
  · refine ex_set (ev_new ?_ (show 10 ≤ 100000 by decide))
    have a : dCallA 1 f__law_odd (dCons (dVar 2) dNil) [some (.ro (ns.map D.int)), some (.int k), some (.box K), x3, some (dicS S), some (.int p), some (dueD S p), some (.str z), some (.lst (fs.map D.int)), some (.lst (ls.map D.int)), x10, x11, x12, x13, x14, x15] st = .ok o s1 := ev_call (xs := [.box K]) (s1 := st) rfl rfl e
    exact ev_cons (s1 := st) rfl (ev_cons (s1 := st) rfl (ev_cons (s1 := st) rfl (ev_cons (s1 := st) rfl (ev_cons (s1 := st) rfl (ev_cons (s1 := st) rfl (ev_cons (s1 := st) rfl (ev_cons (s1 := st) rfl (ev_cons (s1 := st) rfl (ev_cons a rfl)))))))))
  · have := c.pot.lt
    omega
  · rcases List.mem_append.mp hx with hx | hx
    · have z : th9.all flatT = true := by kernel_rfl
      exact List.all_eq_true.mp z x hx
    · rw [List.mem_singleton.mp hx]; exact ho
theorem lap_d {z : Str} {fs ls : List Int} {n : Nat} {xs : List D} (hf : inB fs) (hl : inB ls) (h : Pot K st) (hn : n ≠ K) (hs : st[n]? = some (.lst xs)) (hx : ∀ x ∈ xs, flatT x = true) (few : xs.length < 1000) : ∃ i xs' st1, lapB [some (.ro (ns.map D.int)), some (.int k), some (.box K), x3, some (dicS S), some (.int p), some (dueD S p), some (.str z), some (.lst (fs.map D.int)), some (.lst (ls.map D.int)), some (.box n), x11, x12, x13, x14, x15] st = .nx [some (.ro (ns.map D.int)), some (.int k), some (.box K), x3, some (dicS S), some (.int p), some (dueD S p), some (.str z), some (.lst (fs.map D.int)), some (.lst (ls.map D.int)), some (.box n), x11, some (.int i), x13, x14, x15] st1 ∧ Pot K st1 ∧ st1[n]? = some (.lst xs') ∧ (∀ x ∈ xs', flatT x = true) ∧ xs'.length = xs.length + 1 := by
  have lf : 0 < (fs.length : Int) := by
    cases fs with
    | nil => exact absurd rfl hf.1
    | cons a r => rw [List.length_cons]; omega
  have lln : 0 < (ls.length : Int) := by
    cases ls with
    | nil => exact absurd rfl hl.1
    | cons a r => rw [List.length_cons]; omega
  have lf2 : (fs.length : Int).natAbs.log2 < 9000 := Nat.lt_trans (Com.log2_lt (n := 10) (by have := hf.2.1; omega) (by decide)) (by decide)
  have lln2 : (ls.length : Int).natAbs.log2 < 9000 := Nat.lt_trans (Com.log2_lt (n := 10) (by have := hl.2.1; omega) (by decide)) (by decide)
  obtain ⟨a, s1, a0, a1, e1, c1⟩ := take_d h lf lf2
  obtain ⟨b, hb, eb⟩ := ix_ints (ns := fs) (st := s1) a0 a1
  obtain ⟨d, s2, d0, d1, e2, c2⟩ := take_d c1.pot (far := 3) (by decide)
  obtain ⟨u, s3, u0, u1, e3, c3⟩ := take_d c2.pot lln lln2
  obtain ⟨v, hv, ev⟩ := ix_ints (ns := ls) (st := s3) u0 u1
  obtain ⟨w, s4, w0, w1, e4, c4⟩ := take_d c3.pot (far := 2) (by decide)
  have lenE : ∀ (i : Nat) (is : List Int) (ρ : Rho) (s : Store), dVar i ρ s = .ok (.lst (is.map D.int)) s → dCB (orB (one gLen) (one gLenK)) (dCons (dVar i) dNil) ρ s = .ok (.int is.length) s := fun i is ρ s hi => by
    have := ev_lenI (r := dCons (dVar i) dNil) (ρ := ρ) (st := s) (s1 := s) (x := .lst (is.map D.int)) (xs := is.map D.int) (ev_cons hi rfl) rfl
    rw [List.length_map] at this
    exact this
  obtain ⟨i, hi⟩ : ∃ i, (if b - d > 0 then b - d else 0) = i := ⟨_, rfl⟩
  obtain ⟨j, hj⟩ : ∃ j, (if v + w < 999 then v + w else 999) = j := ⟨_, rfl⟩
  have k1 : dCallA 2 f__law_take (dCons (dVar 2) (dCons (dCB (orB (one gLen) (one gLenK)) (dCons (dVar 8) dNil)) dNil)) [some (.ro (ns.map D.int)), some (.int k), some (.box K), x3, some (dicS S), some (.int p), some (dueD S p), some (.str z), some (.lst (fs.map D.int)), some (.lst (ls.map D.int)), some (.box n), x11, x12, x13, x14, x15] st = .ok (.int a) s1 := ev_call (xs := [.box K, .int fs.length]) (s1 := st) (ev_cons (s1 := st) rfl (ev_cons (lenE 8 fs _ st rfl) rfl)) rfl e1
  have k2 : dIx (dVar 8) (dCallA 2 f__law_take (dCons (dVar 2) (dCons (dCB (orB (one gLen) (one gLenK)) (dCons (dVar 8) dNil)) dNil))) [some (.ro (ns.map D.int)), some (.int k), some (.box K), x3, some (dicS S), some (.int p), some (dueD S p), some (.str z), some (.lst (fs.map D.int)), some (.lst (ls.map D.int)), some (.box n), x11, x12, x13, x14, x15] st = .ok (.int b) s1 := ev_ix (x := .lst (fs.map D.int)) (y := .int a) (s1 := st) rfl k1 eb
  have k3 : dCallA 2 f__law_take (dCons (dVar 2) (dCons (dC (.int 3)) dNil)) [some (.ro (ns.map D.int)), some (.int k), some (.box K), x3, some (dicS S), some (.int p), some (dueD S p), some (.str z), some (.lst (fs.map D.int)), some (.lst (ls.map D.int)), some (.box n), x11, x12, x13, x14, x15] s1 = .ok (.int d) s2 := ev_call (xs := [.box K, .int 3]) (s1 := s1) rfl rfl e2
  have k4 : dCB maxF (dCons (dC (.int 0)) (dCons (dSub (dIx (dVar 8) (dCallA 2 f__law_take (dCons (dVar 2) (dCons (dCB (orB (one gLen) (one gLenK)) (dCons (dVar 8) dNil)) dNil)))) (dCallA 2 f__law_take (dCons (dVar 2) (dCons (dC (.int 3)) dNil)))) dNil)) [some (.ro (ns.map D.int)), some (.int k), some (.box K), x3, some (dicS S), some (.int p), some (dueD S p), some (.str z), some (.lst (fs.map D.int)), some (.lst (ls.map D.int)), some (.box n), x11, x12, x13, x14, x15] st = .ok (.int i) s2 := by
    rw [← hi]
    exact ev_max2 (i := 0) (j := b - d) (ev_cons (s1 := st) rfl (ev_cons (s1 := s2) (ev_op (x := .int b) (y := .int d) (s1 := s1) (s2 := s2) k2 k3 rfl) rfl))
  have q1 := ex_set (i := 12) k4
  have m1 : dCallA 2 f__law_take (dCons (dVar 2) (dCons (dCB (orB (one gLen) (one gLenK)) (dCons (dVar 9) dNil)) dNil)) [some (.ro (ns.map D.int)), some (.int k), some (.box K), x3, some (dicS S), some (.int p), some (dueD S p), some (.str z), some (.lst (fs.map D.int)), some (.lst (ls.map D.int)), some (.box n), x11, some (.int i), x13, x14, x15] s2 = .ok (.int u) s3 := ev_call (xs := [.box K, .int ls.length]) (s1 := s2) (ev_cons (s1 := s2) rfl (ev_cons (lenE 9 ls _ s2 rfl) rfl)) rfl e3
  have m2 : dIx (dVar 9) (dCallA 2 f__law_take (dCons (dVar 2) (dCons (dCB (orB (one gLen) (one gLenK)) (dCons (dVar 9) dNil)) dNil))) [some (.ro (ns.map D.int)), some (.int k), some (.box K), x3, some (dicS S), some (.int p), some (dueD S p), some (.str z), some (.lst (fs.map D.int)), some (.lst (ls.map D.int)), some (.box n), x11, some (.int i), x13, x14, x15] s2 = .ok (.int v) s3 := ev_ix (x := .lst (ls.map D.int)) (y := .int u) (s1 := s2) rfl m1 ev
  have m3 : dCallA 2 f__law_take (dCons (dVar 2) (dCons (dC (.int 2)) dNil)) [some (.ro (ns.map D.int)), some (.int k), some (.box K), x3, some (dicS S), some (.int p), some (dueD S p), some (.str z), some (.lst (fs.map D.int)), some (.lst (ls.map D.int)), some (.box n), x11, some (.int i), x13, x14, x15] s3 = .ok (.int w) s4 := ev_call (xs := [.box K, .int 2]) (s1 := s3) rfl rfl e4
  have m4 : dCB minF (dCons (dC (.int 999)) (dCons (dAdd (dIx (dVar 9) (dCallA 2 f__law_take (dCons (dVar 2) (dCons (dCB (orB (one gLen) (one gLenK)) (dCons (dVar 9) dNil)) dNil)))) (dCallA 2 f__law_take (dCons (dVar 2) (dCons (dC (.int 2)) dNil)))) dNil)) [some (.ro (ns.map D.int)), some (.int k), some (.box K), x3, some (dicS S), some (.int p), some (dueD S p), some (.str z), some (.lst (fs.map D.int)), some (.lst (ls.map D.int)), some (.box n), x11, some (.int i), x13, x14, x15] s2 = .ok (.int j) s4 := by
    rw [← hj]
    exact ev_min2 (i := 999) (j := v + w) (ev_cons (s1 := s2) rfl (ev_cons (s1 := s4) (ev_op (x := .int v) (y := .int w) (s1 := s3) (s2 := s4) m2 m3 rfl) rfl))
  have cc := ((c1.trans c2).trans c3).trans c4
  have hs4 : s4[n]? = some (.lst xs) := by rw [cc.other hn]; exact hs
  have lt4 : n < s4.length := (List.getElem?_eq_some_iff.mp hs4).1
  have s2n : s2[n]? = some (.lst xs) := by rw [(c1.trans c2).other hn]; exact hs
  refine ⟨i, xs ++ [.tup [.int i, .int j]], s4.set n (.lst (xs ++ [.tup [.int i, .int j]])), ex_seq q1 (ex_drop (x := .non) (ev_bm (x := .box n) (ds := [.tup [.int i, .int j]]) (s1 := s2) (s2 := s4) rfl ?_ (ev_cons (ev_tup (xs := [.int i, .int j]) (ev_cons (s1 := s2) rfl (ev_cons m4 rfl)) (show 2 ≤ 100000 by decide)) rfl) ?_)), ?_, ?_, fun x hx' => ?_, by rw [List.length_append, List.length_singleton]⟩
  · show ("list" == "list" && (litemsOf (.box n) s2).isSome) = true
    unfold litemsOf
    dsimp only
    rw [s2n]
    rfl
  · unfold mApp
    dsimp only
    rw [hs4]
    dsimp only
    rw [if_pos (by omega)]
  · obtain ⟨q, hq⟩ := cc.pot
    exact ⟨q, by rw [List.getElem?_set_ne hn]; exact hq⟩
  · rw [List.getElem?_set_self lt4]
  · rcases List.mem_append.mp hx' with hx' | hx'
    · exact hx x hx'
    · rw [List.mem_singleton.mp hx']; rfl
end
end K32

set_option maxRecDepth 100000
set_option maxHeartbeats 1000000
namespace K32
open PySem PySem.Spec PyProof.Rows L2 Den
section
variable {ns : List Int} {k K : Nat} {S : List Sp} {p : Int} {st : Store} {x2 x3 x4 x5 x6 x7 x8 x9 x10 x11 x12 x13 x14 x15 : Option D}
/-- the things, in a box or told for good -/
def Things (y : D) (ys : List D) (K : Nat) (st : Store) : Prop := (∀ x ∈ ys, flatT x = true) ∧ Pot K st ∧ ((∃ n, y = .box n ∧ n ≠ K ∧ st[n]? = some (.lst ys)) ∨ y = .lst ys)
theorem pot_set {n : Nat} {c : Cell} (h : Pot K st) (hn : n ≠ K) : Pot K (st.set n c) := by
  obtain ⟨q, hq⟩ := h
  exact ⟨q, by rw [List.getElem?_set_ne hn]; exact hq⟩
theorem more_d {z : Str} {fs ls : List Int} {n : Nat} {xs : List D} (h : Pot K st) (hn : n ≠ K) (hs : st[n]? = some (.lst xs)) (hx : ∀ x ∈ xs, flatT x = true) (few : xs.length ≤ 1000) : ∃ y ys st1, moreE [some (.ro (ns.map D.int)), some (.int k), some (.box K), x3, some (dicS S), some (.int p), some (dueD S p), some (.str z), some (.lst (fs.map D.int)), some (.lst (ls.map D.int)), some (.box n), x11, x12, x13, x14, x15] st = .nx [some (.ro (ns.map D.int)), some (.int k), some (.box K), x3, some (dicS S), some (.int p), some (dueD S p), some (.str z), some (.lst (fs.map D.int)), some (.lst (ls.map D.int)), some y, x11, x12, x13, x14, x15] st1 ∧ Things y ys K st1 := by
  unfold dueD
  cases hc : crowdOf S p with
  | none =>
    refine ⟨.box n, xs, st, ?_, hx, h, .inl ⟨n, rfl, hn, hs⟩⟩
    have t : asB (dOp2 fNotN (dVar 6) (dC .non)) [some (.ro (ns.map D.int)), some (.int k), some (.box K), x3, some (dicS S), some (.int p), some .non, some (.str z), some (.lst (fs.map D.int)), some (.lst (ls.map D.int)), some (.box n), x11, x12, x13, x14, x15] st = .ok false st := rfl
    exact (ex_if t).trans rfl
  | some q =>
    dsimp only
    have t : asB (dOp2 fNotN (dVar 6) (dC .non)) [some (.ro (ns.map D.int)), some (.int k), some (.box K), x3, some (dicS S), some (.int p), some (foundD S q), some (.str z), some (.lst (fs.map D.int)), some (.lst (ls.map D.int)), some (.box n), x11, x12, x13, x14, x15] st = .ok true st := rfl
    obtain ⟨b, s2, hb, e, c⟩ := bent_d (f := q.1) (l := q.2) (pot_set (n := n) (c := Cell.dead) h hn)
    have a1 : dFrz (dVar 10) [some (.ro (ns.map D.int)), some (.int k), some (.box K), x3, some (dicS S), some (.int p), some (foundD S q), some (.str z), some (.lst (fs.map D.int)), some (.lst (ls.map D.int)), some (.box n), x11, x12, x13, x14, x15] st = .ok (.lst xs) (st.set n Cell.dead) := by
      have e0 : dFrz (dVar 10) [some (.ro (ns.map D.int)), some (.int k), some (.box K), x3, some (dicS S), some (.int p), some (foundD S q), some (.str z), some (.lst (fs.map D.int)), some (.lst (ls.map D.int)), some (.box n), x11, x12, x13, x14, x15] st = frzAt n st := rfl
      rw [e0]
      unfold frzAt
      rw [hs]
    generalize (st.set n Cell.dead : Store) = s1 at e a1 c
    have a2 : dSl (dVar 6) oNone (oSome (dC (.int 2))) [some (.ro (ns.map D.int)), some (.int k), some (.box K), x3, some (dicS S), some (.int p), some (foundD S q), some (.str z), some (.lst (fs.map D.int)), some (.lst (ls.map D.int)), some (.box n), x11, x12, x13, x14, x15] s1 = .ok (.tup [.int q.1, .int q.2]) s1 := rfl
    have a3 : dCB (one gList) (dCons (dSl (dVar 6) oNone (oSome (dC (.int 2)))) dNil) [some (.ro (ns.map D.int)), some (.int k), some (.box K), x3, some (dicS S), some (.int p), some (foundD S q), some (.str z), some (.lst (fs.map D.int)), some (.lst (ls.map D.int)), some (.box n), x11, x12, x13, x14, x15] s1 = .ok (.lst [.int q.1, .int q.2]) s1 := ev_cb1 (ev_cons a2 rfl) rfl
    have a4 : dCallA 2 f__law_bent (dCons (dVar 2) (dCons (dSl (dVar 6) oNone (oSome (dC (.int 2)))) dNil)) [some (.ro (ns.map D.int)), some (.int k), some (.box K), x3, some (dicS S), some (.int p), some (foundD S q), some (.str z), some (.lst (fs.map D.int)), some (.lst (ls.map D.int)), some (.box n), x11, x12, x13, x14, x15] s1 = .ok b s2 := ev_call (xs := [.box K, .tup [.int q.1, .int q.2]]) (s1 := s1) (ev_cons (s1 := s1) rfl (ev_cons a2 rfl)) rfl e
    have a5 : (dLst (dCons (dSl (dVar 6) oNone (oSome (dC (.int 2)))) (dCons (dCB (one gList) (dCons (dSl (dVar 6) oNone (oSome (dC (.int 2)))) dNil)) (dCons (dVar 6) (dCons (dCallA 2 f__law_bent (dCons (dVar 2) (dCons (dSl (dVar 6) oNone (oSome (dC (.int 2)))) dNil))) dNil))))) [some (.ro (ns.map D.int)), some (.int k), some (.box K), x3, some (dicS S), some (.int p), some (foundD S q), some (.str z), some (.lst (fs.map D.int)), some (.lst (ls.map D.int)), some (.box n), x11, x12, x13, x14, x15] s1 = .ok (.lst [.tup [.int q.1, .int q.2], .lst [.int q.1, .int q.2], foundD S q, b]) s2 :=
      ev_lst (ev_cons a2 (ev_cons a3 (ev_cons (x := foundD S q) (s1 := s1) rfl (ev_cons a4 rfl)))) (show 4 ≤ 100000 by decide)
    have a6 : fAdd (.lst xs) (.lst [.tup [.int q.1, .int q.2], .lst [.int q.1, .int q.2], foundD S q, b]) = some (.lst (xs ++ [.tup [.int q.1, .int q.2], .lst [.int q.1, .int q.2], foundD S q, b])) := by
      have : fCatL (.lst xs) (.lst [.tup [.int q.1, .int q.2], .lst [.int q.1, .int q.2], foundD S q, b]) = some (.lst (xs ++ [.tup [.int q.1, .int q.2], .lst [.int q.1, .int q.2], foundD S q, b])) := by
        unfold fCatL
        dsimp only
        rw [if_pos (by simp only [List.length_cons, List.length_nil]; omega)]
      unfold fAdd
      rw [this]
      rfl
    refine ⟨_, xs ++ [.tup [.int q.1, .int q.2], .lst [.int q.1, .int q.2], foundD S q, b], s2, (ex_if t).trans (ex_set (ev_op a1 a5 a6)), fun x hx' => ?_, c.pot, .inr rfl⟩
    rcases List.mem_append.mp hx' with hx' | hx'
    · exact hx x hx'
    · simp only [List.mem_cons, List.not_mem_nil, or_false] at hx'
      rcases hx' with rfl | rfl | rfl | rfl
      · rfl
      · rfl
      · rfl
      · exact hb
theorem each_d {z : Str} {d : D} (hS : OkS S) (h1 : 1 ≤ p) (h4 : p ≤ 4) (hd : flatT d = true) (hz : ∀ (r : DA) (ρ : Rho) (st s1 : Store), r ρ st = .ok [dicS S] s1 → dCB reprF r ρ st = .ok (.str z) s1) : eachB [some (.ro (ns.map D.int)), some (.int k), some (.box K), x3, some (dicS S), some (.int p), some (dueD S p), some (.str z), x8, x9, x10, x11, x12, some d, x14, x15] st = .nx [some (.ro (ns.map D.int)), some (.int k), some (.box K), x3, some (dicS S), some (.int p), some (dueD S p), some (.str z), x8, x9, x10, x11, x12, some d, some (.bl (isCrowd S p d)), x15] st := by
  obtain ⟨w, hw⟩ := repr_told (S := S) (p := p) (d := d) hS
  have q1 : sSet 14 (dCallA 3 f__law_is_crowd (dCons (dVar 4) (dCons (dVar 5) (dCons (dVar 13) dNil)))) [some (.ro (ns.map D.int)), some (.int k), some (.box K), x3, some (dicS S), some (.int p), some (dueD S p), some (.str z), x8, x9, x10, x11, x12, some d, x14, x15] st = .nx [some (.ro (ns.map D.int)), some (.int k), some (.box K), x3, some (dicS S), some (.int p), some (dueD S p), some (.str z), x8, x9, x10, x11, x12, some d, some (.bl (isCrowd S p d)), x15] st := ex_set (ev_call (xs := [dicS S, .int p, d]) (s1 := st) rfl rfl (law_is_crowd_d hS h1 h4 hd))
  have a1 : dCallA 3 f__law_told (dCons (dVar 4) (dCons (dVar 13) (dCons (dVar 5) dNil))) [some (.ro (ns.map D.int)), some (.int k), some (.box K), x3, some (dicS S), some (.int p), some (dueD S p), some (.str z), x8, x9, x10, x11, x12, some d, some (.bl (isCrowd S p d)), x15] st = .ok (toldD S p d) st := ev_call (xs := [dicS S, d, .int p]) (s1 := st) rfl rfl (told_d hS h1 h4 hd)
  have a2 : (dCons (dCallA 3 f__law_told (dCons (dVar 4) (dCons (dVar 13) (dCons (dVar 5) dNil)))) dNil) [some (.ro (ns.map D.int)), some (.int k), some (.box K), x3, some (dicS S), some (.int p), some (dueD S p), some (.str z), x8, x9, x10, x11, x12, some d, some (.bl (isCrowd S p d)), x15] st = .ok [toldD S p d] st := ev_cons a1 rfl
  have a3 : (dCons (dLst (dCons (dVar 6) (dCons (dVar 14) (dCons (dVar 14) dNil)))) dNil) [some (.ro (ns.map D.int)), some (.int k), some (.box K), x3, some (dicS S), some (.int p), some (dueD S p), some (.str z), x8, x9, x10, x11, x12, some d, some (.bl (isCrowd S p d)), x15] st = .ok [toldD S p d] st := rfl
  have a4 : (dCons (dVar 4) dNil) [some (.ro (ns.map D.int)), some (.int k), some (.box K), x3, some (dicS S), some (.int p), some (dueD S p), some (.str z), x8, x9, x10, x11, x12, some d, some (.bl (isCrowd S p d)), x15] st = .ok [dicS S] st := rfl
  have t1 := ev_asB (ev_op (hw _ _ _ _ a2) (hw _ _ _ _ a3) (fNe_str w))
  have t2 := ev_asB (ev_op (hz _ _ _ _ a4) (b := dVar 7) (s2 := st) rfl (fNe_str z))
  exact ex_seq q1 ((ex_if (ev_orF t1 t2)).trans rfl)
theorem frz_d {y : D} {ys : List D} {ρ : Rho} (h : Things y ys K st) (hv : dVar 10 ρ st = .ok y st) : ∃ st1, dFrzA (dVar 10) ρ st = .ok (.lst ys) st1 ∧ Pot K st1 := by
  obtain ⟨_, hp, h⟩ := h
  unfold dFrzA
  rw [hv, bind_ok]
  rcases h with ⟨n, rfl, hn, hs⟩ | rfl
  · refine ⟨st.set n .dead, ?_, pot_set hp hn⟩
    show frzAt n st = _
    unfold frzAt
    rw [hs]
  · exact ⟨st, rfl, hp⟩
theorem all_d {z : Str} {y : D} {ys : List D} {fs ls : List Int} (hS : OkS S) (h1 : 1 ≤ p) (h4 : p ≤ 4) (h : Things y ys K st) (hz : ∀ (r : DA) (ρ : Rho) (st s1 : Store), r ρ st = .ok [dicS S] s1 → dCB reprF r ρ st = .ok (.str z) s1) : ∃ y13 y14 st1, eachF [some (.ro (ns.map D.int)), some (.int k), some (.box K), x3, some (dicS S), some (.int p), some (dueD S p), some (.str z), some (.lst (fs.map D.int)), some (.lst (ls.map D.int)), some y, x11, x12, x13, x14, x15] st = .nx [some (.ro (ns.map D.int)), some (.int k), some (.box K), x3, some (dicS S), some (.int p), some (dueD S p), some (.str z), some (.lst (fs.map D.int)), some (.lst (ls.map D.int)), some y, x11, x12, y13, y14, x15] st1 ∧ Pot K st1 := by
  obtain ⟨s1, e, hp⟩ := frz_d (ρ := [some (.ro (ns.map D.int)), some (.int k), some (.box K), x3, some (dicS S), some (.int p), some (dueD S p), some (.str z), some (.lst (fs.map D.int)), some (.lst (ls.map D.int)), some y, x11, x12, x13, x14, x15]) h rfl
  obtain ⟨ρ', s2, e2, ⟨y13, y14, rfl⟩, hs2⟩ := forL_inv (g := g1 13) (b := eachB) (ds := ys) (ρ := [some (.ro (ns.map D.int)), some (.int k), some (.box K), x3, some (dicS S), some (.int p), some (dueD S p), some (.str z), some (.lst (fs.map D.int)), some (.lst (ls.map D.int)), some y, x11, x12, x13, x14, x15]) (st := s1)
    (I := fun ρ s => (∃ y13 y14, ρ = [some (.ro (ns.map D.int)), some (.int k), some (.box K), x3, some (dicS S), some (.int p), some (dueD S p), some (.str z), some (.lst (fs.map D.int)), some (.lst (ls.map D.int)), some y, x11, x12, y13, y14, x15]) ∧ s = s1)
    (fun d hd ρ s hI => by
      obtain ⟨⟨y13, y14, rfl⟩, rfl⟩ := hI
      exact ⟨_, rfl, _, _, each_d (ns := ns) (k := k) (K := K) (x3 := x3) (x8 := some (.lst (fs.map D.int))) (x9 := some (.lst (ls.map D.int))) (x10 := some y) (x11 := x11) (x12 := x12) (x14 := y14) (x15 := x15) hS h1 h4 (h.1 d hd) hz, ⟨_, _, rfl⟩, rfl⟩)
    ⟨⟨_, _, rfl⟩, rfl⟩
  exact ⟨y13, y14, s2, ex_forL e e2, by rw [hs2]; exact hp⟩
theorem laps_d {z : Str} {fs ls : List Int} {n : Nat} {xs : List D} (hf : inB fs) (hl : inB ls) (h : Pot K st) (hn : n ≠ K) (hs : st[n]? = some (.lst xs)) (hx : ∀ x ∈ xs, flatT x = true) (few : xs.length = 10) : ∃ y11 y12 xs' st1, lapF [some (.ro (ns.map D.int)), some (.int k), some (.box K), x3, some (dicS S), some (.int p), some (dueD S p), some (.str z), some (.lst (fs.map D.int)), some (.lst (ls.map D.int)), some (.box n), x11, x12, x13, x14, x15] st = .nx [some (.ro (ns.map D.int)), some (.int k), some (.box K), x3, some (dicS S), some (.int p), some (dueD S p), some (.str z), some (.lst (fs.map D.int)), some (.lst (ls.map D.int)), some (.box n), y11, y12, x13, x14, x15] st1 ∧ Pot K st1 ∧ st1[n]? = some (.lst xs') ∧ (∀ x ∈ xs', flatT x = true) ∧ xs'.length ≤ 1000 := by
  obtain ⟨ρ', s2, e2, y11, y12, xs', rfl, hp, hs', hx', hlen⟩ := forL_upto (g := g1 11) (b := lapB) (pre := []) (ds := rangeD 0 24) (ρ := [some (.ro (ns.map D.int)), some (.int k), some (.box K), x3, some (dicS S), some (.int p), some (dueD S p), some (.str z), some (.lst (fs.map D.int)), some (.lst (ls.map D.int)), some (.box n), x11, x12, x13, x14, x15]) (st := st)
    (I := fun pre r ρ s => ∃ y11 y12 xs', ρ = [some (.ro (ns.map D.int)), some (.int k), some (.box K), x3, some (dicS S), some (.int p), some (dueD S p), some (.str z), some (.lst (fs.map D.int)), some (.lst (ls.map D.int)), some (.box n), y11, y12, x13, x14, x15] ∧ Pot K s ∧ s[n]? = some (.lst xs') ∧ (∀ x ∈ xs', flatT x = true) ∧ (xs'.length = 10 + pre.length ∧ pre.length + r.length = 24))
    (fun pre d r ρ s hI => by
      obtain ⟨y11, y12, xs', rfl, hp, hs', hx', hlen, hr⟩ := hI
      rw [List.length_cons] at hr
      obtain ⟨i, xs2, s3, e, a, b, c, l⟩ := lap_d (ns := ns) (k := k) (S := S) (p := p) (z := z) (x3 := x3) (x11 := some d) (x12 := y12) (x13 := x13) (x14 := x14) (x15 := x15) hf hl hp hn hs' hx' (by omega)
      exact ⟨_, rfl, _, _, e, _, _, xs2, rfl, a, b, c, by rw [l, hlen, List.length_append, List.length_singleton]; omega, by rw [List.length_append, List.length_singleton]; omega⟩)
    ⟨_, _, xs, rfl, h, hs, hx, by rw [few]; rfl, by rw [range_len]; rfl⟩
  refine ⟨y11, y12, xs', s2, ex_forR1 (j := 24) (s1 := st) rfl (big_of (by decide) (by decide)) e2, hp, hs', hx', ?_⟩
  rw [List.nil_append, range_len] at hlen
  omega
theorem turn_all (h : Pot K st) : ∃ y4 y5 y6 y7 y8 y9 y10 y11 y12 y13 y14 st1, turnB [some (.ro (ns.map D.int)), some (.int k), some (.box K), x3, x4, x5, x6, x7, x8, x9, x10, x11, x12, x13, x14, x15] st = .nx [some (.ro (ns.map D.int)), some (.int k), some (.box K), x3, y4, y5, y6, y7, y8, y9, y10, y11, y12, y13, y14, x15] st1 ∧ Pot K st1 := by
  obtain ⟨S, p, s1, hS, h1, h4, e1, p1⟩ := gp_d (ns := ns) (k := k) (x3 := x3) (x4 := x4) (x5 := x5) (x6 := x6) (x7 := x7) (x8 := x8) (x9 := x9) (x10 := x10) (x11 := x11) (x12 := x12) (x13 := x13) (x14 := x14) (x15 := x15) h
  obtain ⟨z, hz⟩ := repr_dic hS
  have e2 := dk_d (ns := ns) (k := k) (K := K) (st := s1) (x3 := x3) (x6 := x6) (x7 := x7) (x8 := x8) (x9 := x9) (x10 := x10) (x11 := x11) (x12 := x12) (x13 := x13) (x14 := x14) (x15 := x15) hS h1 h4 hz
  obtain ⟨fs, e3, hf⟩ := fi_d (ns := ns) (k := k) (K := K) (p := p) (z := z) (st := s1) (x3 := x3) (x8 := x8) (x9 := x9) (x10 := x10) (x11 := x11) (x12 := x12) (x13 := x13) (x14 := x14) (x15 := x15) hS
  obtain ⟨ls, e4, hl⟩ := la_d (ns := ns) (k := k) (K := K) (p := p) (z := z) (st := s1) (fs := fs) (x3 := x3) (x9 := x9) (x10 := x10) (x11 := x11) (x12 := x12) (x13 := x13) (x14 := x14) (x15 := x15) hS
  obtain ⟨n, xs, s2, e5, p2, hn, hs, hx, lx⟩ := th_d (ns := ns) (k := k) (K := K) (S := S) (p := p) (z := z) (fs := fs) (ls := ls) (x3 := x3) (x10 := x10) (x11 := x11) (x12 := x12) (x13 := x13) (x14 := x14) (x15 := x15) p1
  obtain ⟨y11, y12, xs', s3, e6, p3, hs', hx', lx'⟩ := laps_d (ns := ns) (k := k) (S := S) (p := p) (z := z) (x3 := x3) (x11 := x11) (x12 := x12) (x13 := x13) (x14 := x14) (x15 := x15) hf hl p2 hn hs hx lx
  obtain ⟨y, ys, s4, e7, ht⟩ := more_d (ns := ns) (k := k) (S := S) (p := p) (z := z) (fs := fs) (ls := ls) (x3 := x3) (x11 := y11) (x12 := y12) (x13 := x13) (x14 := x14) (x15 := x15) p3 hn hs' hx' lx'
  obtain ⟨y13, y14, s5, e8, p5⟩ := all_d (ns := ns) (k := k) (z := z) (fs := fs) (ls := ls) (x3 := x3) (x11 := y11) (x12 := y12) (x13 := x13) (x14 := x14) (x15 := x15) hS h1 h4 ht hz
  exact ⟨_, _, _, _, _, _, _, _, _, _, _, s5, ex_seq e1 (ex_seq e2 (ex_seq e3 (ex_seq e4 (ex_seq e5 (ex_seq e6 (ex_seq e7 e8)))))), p5⟩
theorem cell_all : ∃ y2 y3 y4 y5 y6 y7 y8 y9 y10 y11 y12 y13 y14 y15 st1, cellB [some (.ro (ns.map D.int)), some (.int k), x2, x3, x4, x5, x6, x7, x8, x9, x10, x11, x12, x13, x14, x15] st = .nx [some (.ro (ns.map D.int)), some (.int k), y2, y3, y4, y5, y6, y7, y8, y9, y10, y11, y12, y13, y14, y15] st1 := by
  obtain ⟨c, e⟩ := cell_d (ns := ns) (k := k) (st := st)
  obtain ⟨v, e2⟩ := pot_d (c := c) (st := st)
  have a1 : dCallA 2 f__law_cell_at (dCons (dVar 0) (dCons (dVar 1) dNil)) [some (.ro (ns.map D.int)), some (.int k), x2, x3, x4, x5, x6, x7, x8, x9, x10, x11, x12, x13, x14, x15] st = .ok (.int c) st := ev_call (xs := [.ro (ns.map D.int), .int k]) (s1 := st) rfl rfl e
  have q1 := ex_set (i := 2) (ev_call (n := 1) (xs := [.int c]) (s1 := st) (ev_cons (r := dNil) a1 rfl) rfl e2)
  have hp : Pot st.length (st ++ [.lst [.int v]]) := ⟨v, get_last⟩
  generalize (st ++ [Cell.lst [D.int v]] : Store) = s1 at q1 hp
  obtain ⟨ρ', s2, e3, hI⟩ := forL_inv (g := g1 3) (b := turnB) (ds := rangeD 0 2) (ρ := [some (.ro (ns.map D.int)), some (.int k), some (.box st.length), x3, x4, x5, x6, x7, x8, x9, x10, x11, x12, x13, x14, x15]) (st := s1)
    (I := fun ρ s => (∃ y3 y4 y5 y6 y7 y8 y9 y10 y11 y12 y13 y14 y15, ρ = [some (.ro (ns.map D.int)), some (.int k), some (.box st.length), y3, y4, y5, y6, y7, y8, y9, y10, y11, y12, y13, y14, y15]) ∧ Pot st.length s)
    (fun d hd ρ s hI => by
      obtain ⟨⟨y3, y4, y5, y6, y7, y8, y9, y10, y11, y12, y13, y14, y15, rfl⟩, hp⟩ := hI
      obtain ⟨z4, z5, z6, z7, z8, z9, z10, z11, z12, z13, z14, s3, e, hp3⟩ := turn_all (ns := ns) (k := k) (x3 := some d) (x4 := y4) (x5 := y5) (x6 := y6) (x7 := y7) (x8 := y8) (x9 := y9) (x10 := y10) (x11 := y11) (x12 := y12) (x13 := y13) (x14 := y14) (x15 := y15) hp
      exact ⟨_, rfl, _, _, e, ⟨_, _, _, _, _, _, _, _, _, _, _, _, _, rfl⟩, hp3⟩)
    ⟨⟨_, _, _, _, _, _, _, _, _, _, _, _, _, rfl⟩, hp⟩
  obtain ⟨⟨y3, y4, y5, y6, y7, y8, y9, y10, y11, y12, y13, y14, y15, rfl⟩, _⟩ := hI
  exact ⟨_, _, _, _, _, _, _, _, _, _, _, _, _, _, s2, ex_seq q1 (ex_forR1 (j := 2) (s1 := s1) rfl (big_of (by decide) (by decide)) e3)⟩
theorem cells_d {rest : Rho} : ∃ n : Int, cellsE (some (.ro (ns.map D.int)) :: rest) st = .ok [.int n] st ∧ big62 n := by
  have el := ev_lenI (r := dCons (dVar 0) dNil) (ρ := some (.ro (ns.map D.int)) :: rest) (st := st) (s1 := st) (x := .ro (ns.map D.int)) (xs := ns.map D.int) rfl rfl
  rw [List.length_map] at el
  have e2 := ev_min2 (r := dCons (dCB (orB (one gLen) (one gLenK)) (dCons (dVar 0) dNil)) (dCons (dC (.int 4)) dNil)) (i := ns.length) (j := 4) (ev_cons el (rfl : _ = Res.ok [D.int 4] st))
  have e3 := ev_max2 (r := dCons (dC (.int 1)) (dCons (dCB minF (dCons (dCB (orB (one gLen) (one gLenK)) (dCons (dVar 0) dNil)) (dCons (dC (.int 4)) dNil))) dNil)) (i := 1) (ev_cons (x := .int 1) (s1 := st) rfl (ev_cons e2 rfl))
  refine ⟨_, ev_cons e3 rfl, ?_⟩
  unfold big62
  split <;> split <;> omega
end
theorem mirror (ns : List Int) (h : ns.length ≤ 63) : ∃ st, f_law [.ro (ns.map D.int)] [] = .ok (.bl true) st := by
  obtain ⟨n, e0, hn⟩ := cells_d (ns := ns) (st := []) (rest := List.replicate 15 none)
  obtain ⟨ρ', st', e, hI⟩ := forL_inv (g := g1 1) (b := cellB) (ds := rangeD 0 n.toNat) (ρ := some (.ro (ns.map D.int)) :: List.replicate 15 none) (st := [])
    (I := fun ρ s => ∃ y1 y2 y3 y4 y5 y6 y7 y8 y9 y10 y11 y12 y13 y14 y15, ρ = [some (.ro (ns.map D.int)), y1, y2, y3, y4, y5, y6, y7, y8, y9, y10, y11, y12, y13, y14, y15])
    (fun d hd ρ s hI => by
      obtain ⟨y1, y2, y3, y4, y5, y6, y7, y8, y9, y10, y11, y12, y13, y14, y15, rfl⟩ := hI
      obtain ⟨k, hk, rfl⟩ := mem_range hd
      rw [Int.zero_add]
      obtain ⟨z2, z3, z4, z5, z6, z7, z8, z9, z10, z11, z12, z13, z14, z15, s1, e⟩ := cell_all (ns := ns) (k := k) (st := s) (x2 := y2) (x3 := y3) (x4 := y4) (x5 := y5) (x6 := y6) (x7 := y7) (x8 := y8) (x9 := y9) (x10 := y10) (x11 := y11) (x12 := y12) (x13 := y13) (x14 := y14) (x15 := y15)
      exact ⟨_, rfl, _, _, e, _, _, _, _, _, _, _, _, _, _, _, _, _, _, _, rfl⟩)
    ⟨_, _, _, _, _, _, _, _, _, _, _, _, _, _, _, rfl⟩
  refine ⟨st', Den.run (N := 16) (n := 1) (m := m_law) (r := .ret (.bl true) st') rfl ?_ rfl⟩
  rw [law_cut]
  exact ex_seq (s1 := st') (ex_forR1 (j := n) (s1 := []) e0 hn e) rfl
end K32

set_option maxRecDepth 100000
set_option maxHeartbeats 4000000
namespace K32
open PySem PySem.Spec PyProof.Rows L2 Den
def tagC : Tag → Value
  | .ty n => .type n
  | .ow _ => .none
def chk (K : PySem.W.Frag) : Bool := tyTab.all fun q => PySem.W.kitOne K (tagC q.1) (tagC q.2.1) == some q.2.2
def txt (K : PySem.W.Frag) (fs : List Addr) : Txt := ⟨K, fun _ => 0, fun i => fs.getD i 0, fun _ => []⟩
theorem ty_only : ∀ q ∈ tyTab, (∃ n, q.1 = .ty n) ∧ ∃ n, q.2.1 = .ty n := by
  intro q hq
  unfold tyTab at hq
  obtain ⟨a, _, hq⟩ := List.mem_flatMap.mp hq
  obtain ⟨b, _, rfl⟩ := List.mem_map.mp hq
  exact ⟨⟨_, rfl⟩, ⟨_, rfl⟩⟩
theorem chk_ok {K : PySem.W.Frag} {fs : List Addr} (h : chk K = true) : IsT (txt K fs) isT := isTab_ok fun q hq => by
  obtain ⟨⟨n, e1⟩, ⟨m, e2⟩⟩ := ty_only q hq
  have z := eq_of_beq (List.all_eq_true.mp h q hq)
  rw [e1, e2] at z ⊢
  exact z
theorem all {w : World} {K : PySem.W.Frag} {h : Heap} {mg : Str → Option Value} {fa : Addr} (X : K.In h) (G : h.Ns mainGlobals mg) (hfa : mg "law" = some (.ref fa))
    {f0 f1 f2 f3 f4 f5 f6 f7 f8 f9 f10 f11 f12 f13 f14 f15 f16 f17 f18 f19 f20 f21 f22 f23 f24 f25 tD10 tD11 : Addr}
    {oc0 oc1 oc2 oc3 oc4 oc5 oc6 oc7 oc8 oc9 oc10 oc11 oc12 oc13 oc14 oc15 oc16 oc17 oc18 oc19 oc20 oc21 oc22 oc23 oc24 oc25 : Value} {od0 od1 od2 od3 od4 od5 od6 od7 od8 od9 od10 od11 od12 od13 od14 od15 od16 od17 od18 od19 od20 od21 od22 od23 od24 od25 : Option Addr} {an0 an1 an2 an3 an4 an5 an6 an7 an8 an9 an10 an11 an12 an13 an14 an15 an16 an17 an18 an19 an20 an21 an22 an23 an24 an25 : Option Addr} {kV0 kV1 kV2 kV3 kV4 kV5 kV6 kV7 kV8 kV9 kV10 kV11 kV12 kV13 kV14 kV15 kV16 kV17 kV18 kV19 kV20 kV21 kV22 kV23 kV24 kV25 : Value} {dc0 dc1 dc2 dc3 dc4 dc5 dc6 dc7 dc8 dc9 dc10 dc11 dc12 dc13 dc14 dc15 dc16 dc17 dc18 dc19 dc20 dc21 dc22 dc23 dc24 dc25 : Value} {pm0 pm1 pm2 pm3 pm4 pm5 pm6 pm7 pm8 pm9 pm10 pm11 pm12 pm13 pm14 pm15 pm16 pm17 pm18 pm19 pm20 pm21 pm22 pm23 pm24 pm25 : Value} {cd0 cd1 cd2 cd3 cd4 cd5 cd6 cd7 cd8 cd9 cd10 cd11 cd12 cd13 cd14 cd15 cd16 cd17 cd18 cd19 cd20 cd21 cd22 cd23 cd24 cd25 : Value} {ct0 ct1 ct2 ct3 ct4 ct5 ct6 ct7 ct8 ct9 ct10 ct11 ct12 ct13 ct14 ct15 ct16 ct17 ct18 ct19 ct20 ct21 ct22 ct23 ct24 ct25 : Value} {sl0 sl1 sl2 sl3 sl4 sl5 sl6 sl7 sl8 sl9 sl10 sl11 sl12 sl13 sl14 sl15 sl16 sl17 sl18 sl19 sl20 sl21 sl22 sl23 sl24 sl25 : Array (Option Value)}
    {oD10 : Value} {dD10 : Option Addr} {nD10 : Nat} {t10 : Tok} {slD10 : Array (Option Value)} {oD11 : Value} {dD11 : Option Addr} {nD11 : Nat} {t11 : Tok} {slD11 : Array (Option Value)}
    {t_MOST_NUMBER : Tok} {t_MONTHS : Tok} {t_MOST_SPANS : Tok}
    (v_MOST_NUMBER : PySem.W.nsIn K mainGlobals "MOST_NUMBER" = some (some (.int 39 t_MOST_NUMBER)))
    (v_MONTHS : PySem.W.nsIn K mainGlobals "MONTHS" = some (some (.int 1000 t_MONTHS)))
    (v_MOST_SPANS : PySem.W.nsIn K mainGlobals "MOST_SPANS" = some (some (.int 12 t_MOST_SPANS)))
    (a0 : PySem.W.nsIn K mainGlobals "is_whole" = some (some (.ref f0)))
    (l0 : K.lookup f0 = some ⟨oc0, od0, .func (PySem.W.fnOf "is_whole" "is_whole" (defArgs st_is_whole) (defBody st_is_whole) (defScope st_is_whole) .none kV0 dc0 pm0 an0 cd0 ct0), sl0⟩)
    (q0 : PySem.W.codeIn K cd0 "is_whole" = true)
    (k0 : PySem.W.keepIn K (.ref f0) = true)
    (a1 : PySem.W.nsIn K mainGlobals "is_within" = some (some (.ref f1)))
    (l1 : K.lookup f1 = some ⟨oc1, od1, .func (PySem.W.fnOf "is_within" "is_within" (defArgs st_is_within) (defBody st_is_within) (defScope st_is_within) .none kV1 dc1 pm1 an1 cd1 ct1), sl1⟩)
    (q1 : PySem.W.codeIn K cd1 "is_within" = true)
    (k1 : PySem.W.keepIn K (.ref f1) = true)
    (a2 : PySem.W.nsIn K mainGlobals "is_month" = some (some (.ref f2)))
    (l2 : K.lookup f2 = some ⟨oc2, od2, .func (PySem.W.fnOf "is_month" "is_month" (defArgs st_is_month) (defBody st_is_month) (defScope st_is_month) .none kV2 dc2 pm2 an2 cd2 ct2), sl2⟩)
    (q2 : PySem.W.codeIn K cd2 "is_month" = true)
    (k2 : PySem.W.keepIn K (.ref f2) = true)
    (a3 : PySem.W.nsIn K mainGlobals "_is_number" = some (some (.ref f3)))
    (l3 : K.lookup f3 = some ⟨oc3, od3, .func (PySem.W.fnOf "_is_number" "_is_number" (defArgs st__is_number) (defBody st__is_number) (defScope st__is_number) .none kV3 dc3 pm3 an3 cd3 ct3), sl3⟩)
    (q3 : PySem.W.codeIn K cd3 "_is_number" = true)
    (k3 : PySem.W.keepIn K (.ref f3) = true)
    (a4 : PySem.W.nsIn K mainGlobals "_is_span" = some (some (.ref f4)))
    (l4 : K.lookup f4 = some ⟨oc4, od4, .func (PySem.W.fnOf "_is_span" "_is_span" (defArgs st__is_span) (defBody st__is_span) (defScope st__is_span) .none kV4 dc4 pm4 an4 cd4 ct4), sl4⟩)
    (q4 : PySem.W.codeIn K cd4 "_is_span" = true)
    (k4 : PySem.W.keepIn K (.ref f4) = true)
    (a5 : PySem.W.nsIn K mainGlobals "_are_spans" = some (some (.ref f5)))
    (l5 : K.lookup f5 = some ⟨oc5, od5, .func (PySem.W.fnOf "_are_spans" "_are_spans" (defArgs st__are_spans) (defBody st__are_spans) (defScope st__are_spans) .none kV5 dc5 pm5 an5 cd5 ct5), sl5⟩)
    (q5 : PySem.W.codeIn K cd5 "_are_spans" = true)
    (k5 : PySem.W.keepIn K (.ref f5) = true)
    (a6 : PySem.W.nsIn K mainGlobals "_check_spans_and_rate" = some (some (.ref f6)))
    (l6 : K.lookup f6 = some ⟨oc6, od6, .func (PySem.W.fnOf "_check_spans_and_rate" "_check_spans_and_rate" (defArgs st__check_spans_and_rate) (defBody st__check_spans_and_rate) (defScope st__check_spans_and_rate) .none kV6 dc6 pm6 an6 cd6 ct6), sl6⟩)
    (q6 : PySem.W.codeIn K cd6 "_check_spans_and_rate" = true)
    (k6 : PySem.W.keepIn K (.ref f6) = true)
    (a7 : PySem.W.nsIn K mainGlobals "_how_many_within" = some (some (.ref f7)))
    (l7 : K.lookup f7 = some ⟨oc7, od7, .func (PySem.W.fnOf "_how_many_within" "_how_many_within" (defArgs st__how_many_within) (defBody st__how_many_within) (defScope st__how_many_within) .none kV7 dc7 pm7 an7 cd7 ct7), sl7⟩)
    (q7 : PySem.W.codeIn K cd7 "_how_many_within" = true)
    (k7 : PySem.W.keepIn K (.ref f7) = true)
    (a8 : PySem.W.nsIn K mainGlobals "_is_overfull" = some (some (.ref f8)))
    (l8 : K.lookup f8 = some ⟨oc8, od8, .func (PySem.W.fnOf "_is_overfull" "_is_overfull" (defArgs st__is_overfull) (defBody st__is_overfull) (defScope st__is_overfull) .none kV8 dc8 pm8 an8 cd8 ct8), sl8⟩)
    (q8 : PySem.W.codeIn K cd8 "_is_overfull" = true)
    (k8 : PySem.W.keepIn K (.ref f8) = true)
    (a9 : PySem.W.nsIn K mainGlobals "_least_crowd" = some (some (.ref f9)))
    (l9 : K.lookup f9 = some ⟨oc9, od9, .func (PySem.W.fnOf "_least_crowd" "_least_crowd" (defArgs st__least_crowd) (defBody st__least_crowd) (defScope st__least_crowd) .none kV9 dc9 pm9 an9 cd9 ct9), sl9⟩)
    (q9 : PySem.W.codeIn K cd9 "_least_crowd" = true)
    (k9 : PySem.W.keepIn K (.ref f9) = true)
    (a10 : PySem.W.nsIn K mainGlobals "crowd" = some (some (.ref f10)))
    (l10 : K.lookup f10 = some ⟨oc10, od10, .func (PySem.W.fnOf "crowd" "crowd" (defArgs st_crowd) (defBody st_crowd) (defScope st_crowd) (.ref tD10) kV10 dc10 pm10 an10 cd10 ct10), sl10⟩)
    (q10 : PySem.W.codeIn K cd10 "crowd" = true)
    (k10 : PySem.W.keepIn K (.ref f10) = true)
    (lD10 : K.lookup tD10 = some ⟨oD10, dD10, .seq #[.int 1 t10] nD10, slD10⟩)
    (a11 : PySem.W.nsIn K mainGlobals "is_crowd" = some (some (.ref f11)))
    (l11 : K.lookup f11 = some ⟨oc11, od11, .func (PySem.W.fnOf "is_crowd" "is_crowd" (defArgs st_is_crowd) (defBody st_is_crowd) (defScope st_is_crowd) (.ref tD11) kV11 dc11 pm11 an11 cd11 ct11), sl11⟩)
    (q11 : PySem.W.codeIn K cd11 "is_crowd" = true)
    (k11 : PySem.W.keepIn K (.ref f11) = true)
    (lD11 : K.lookup tD11 = some ⟨oD11, dD11, .seq #[.int 1 t11] nD11, slD11⟩)
    (a12 : PySem.W.nsIn K mainGlobals "_law_cell_at" = some (some (.ref f12)))
    (l12 : K.lookup f12 = some ⟨oc12, od12, .func (PySem.W.fnOf "_law_cell_at" "_law_cell_at" (defArgs st__law_cell_at) (defBody st__law_cell_at) (defScope st__law_cell_at) .none kV12 dc12 pm12 an12 cd12 ct12), sl12⟩)
    (q12 : PySem.W.codeIn K cd12 "_law_cell_at" = true)
    (k12 : PySem.W.keepIn K (.ref f12) = true)
    (a13 : PySem.W.nsIn K mainGlobals "_law_pot" = some (some (.ref f13)))
    (l13 : K.lookup f13 = some ⟨oc13, od13, .func (PySem.W.fnOf "_law_pot" "_law_pot" (defArgs st__law_pot) (defBody st__law_pot) (defScope st__law_pot) .none kV13 dc13 pm13 an13 cd13 ct13), sl13⟩)
    (q13 : PySem.W.codeIn K cd13 "_law_pot" = true)
    (k13 : PySem.W.keepIn K (.ref f13) = true)
    (a14 : PySem.W.nsIn K mainGlobals "_law_take" = some (some (.ref f14)))
    (l14 : K.lookup f14 = some ⟨oc14, od14, .func (PySem.W.fnOf "_law_take" "_law_take" (defArgs st__law_take) (defBody st__law_take) (defScope st__law_take) .none kV14 dc14 pm14 an14 cd14 ct14), sl14⟩)
    (q14 : PySem.W.codeIn K cd14 "_law_take" = true)
    (k14 : PySem.W.keepIn K (.ref f14) = true)
    (a15 : PySem.W.nsIn K mainGlobals "_law_whole" = some (some (.ref f15)))
    (l15 : K.lookup f15 = some ⟨oc15, od15, .func (PySem.W.fnOf "_law_whole" "_law_whole" (defArgs st__law_whole) (defBody st__law_whole) (defScope st__law_whole) .none kV15 dc15 pm15 an15 cd15 ct15), sl15⟩)
    (q15 : PySem.W.codeIn K cd15 "_law_whole" = true)
    (k15 : PySem.W.keepIn K (.ref f15) = true)
    (a16 : PySem.W.nsIn K mainGlobals "_law_within" = some (some (.ref f16)))
    (l16 : K.lookup f16 = some ⟨oc16, od16, .func (PySem.W.fnOf "_law_within" "_law_within" (defArgs st__law_within) (defBody st__law_within) (defScope st__law_within) .none kV16 dc16 pm16 an16 cd16 ct16), sl16⟩)
    (q16 : PySem.W.codeIn K cd16 "_law_within" = true)
    (k16 : PySem.W.keepIn K (.ref f16) = true)
    (a17 : PySem.W.nsIn K mainGlobals "_law_odd" = some (some (.ref f17)))
    (l17 : K.lookup f17 = some ⟨oc17, od17, .func (PySem.W.fnOf "_law_odd" "_law_odd" (defArgs st__law_odd) (defBody st__law_odd) (defScope st__law_odd) .none kV17 dc17 pm17 an17 cd17 ct17), sl17⟩)
    (q17 : PySem.W.codeIn K cd17 "_law_odd" = true)
    (k17 : PySem.W.keepIn K (.ref f17) = true)
    (a18 : PySem.W.nsIn K mainGlobals "_law_bent" = some (some (.ref f18)))
    (l18 : K.lookup f18 = some ⟨oc18, od18, .func (PySem.W.fnOf "_law_bent" "_law_bent" (defArgs st__law_bent) (defBody st__law_bent) (defScope st__law_bent) .none kV18 dc18 pm18 an18 cd18 ct18), sl18⟩)
    (q18 : PySem.W.codeIn K cd18 "_law_bent" = true)
    (k18 : PySem.W.keepIn K (.ref f18) = true)
    (a19 : PySem.W.nsIn K mainGlobals "_law_spans" = some (some (.ref f19)))
    (l19 : K.lookup f19 = some ⟨oc19, od19, .func (PySem.W.fnOf "_law_spans" "_law_spans" (defArgs st__law_spans) (defBody st__law_spans) (defScope st__law_spans) .none kV19 dc19 pm19 an19 cd19 ct19), sl19⟩)
    (q19 : PySem.W.codeIn K cd19 "_law_spans" = true)
    (k19 : PySem.W.keepIn K (.ref f19) = true)
    (a20 : PySem.W.nsIn K mainGlobals "_law_within_of" = some (some (.ref f20)))
    (l20 : K.lookup f20 = some ⟨oc20, od20, .func (PySem.W.fnOf "_law_within_of" "_law_within_of" (defArgs st__law_within_of) (defBody st__law_within_of) (defScope st__law_within_of) .none kV20 dc20 pm20 an20 cd20 ct20), sl20⟩)
    (q20 : PySem.W.codeIn K cd20 "_law_within_of" = true)
    (k20 : PySem.W.keepIn K (.ref f20) = true)
    (a21 : PySem.W.nsIn K mainGlobals "_law_crowd" = some (some (.ref f21)))
    (l21 : K.lookup f21 = some ⟨oc21, od21, .func (PySem.W.fnOf "_law_crowd" "_law_crowd" (defArgs st__law_crowd) (defBody st__law_crowd) (defScope st__law_crowd) .none kV21 dc21 pm21 an21 cd21 ct21), sl21⟩)
    (q21 : PySem.W.codeIn K cd21 "_law_crowd" = true)
    (k21 : PySem.W.keepIn K (.ref f21) = true)
    (a22 : PySem.W.nsIn K mainGlobals "_law_is_span" = some (some (.ref f22)))
    (l22 : K.lookup f22 = some ⟨oc22, od22, .func (PySem.W.fnOf "_law_is_span" "_law_is_span" (defArgs st__law_is_span) (defBody st__law_is_span) (defScope st__law_is_span) .none kV22 dc22 pm22 an22 cd22 ct22), sl22⟩)
    (q22 : PySem.W.codeIn K cd22 "_law_is_span" = true)
    (k22 : PySem.W.keepIn K (.ref f22) = true)
    (a23 : PySem.W.nsIn K mainGlobals "_law_is_crowd" = some (some (.ref f23)))
    (l23 : K.lookup f23 = some ⟨oc23, od23, .func (PySem.W.fnOf "_law_is_crowd" "_law_is_crowd" (defArgs st__law_is_crowd) (defBody st__law_is_crowd) (defScope st__law_is_crowd) .none kV23 dc23 pm23 an23 cd23 ct23), sl23⟩)
    (q23 : PySem.W.codeIn K cd23 "_law_is_crowd" = true)
    (k23 : PySem.W.keepIn K (.ref f23) = true)
    (a24 : PySem.W.nsIn K mainGlobals "_law_told" = some (some (.ref f24)))
    (l24 : K.lookup f24 = some ⟨oc24, od24, .func (PySem.W.fnOf "_law_told" "_law_told" (defArgs st__law_told) (defBody st__law_told) (defScope st__law_told) .none kV24 dc24 pm24 an24 cd24 ct24), sl24⟩)
    (q24 : PySem.W.codeIn K cd24 "_law_told" = true)
    (k24 : PySem.W.keepIn K (.ref f24) = true)
    (a25 : PySem.W.nsIn K mainGlobals "law" = some (some (.ref f25)))
    (l25 : K.lookup f25 = some ⟨oc25, od25, .func (PySem.W.fnOf "law" "law" (defArgs st_law) (defBody st_law) (defScope st_law) .none kV25 dc25 pm25 an25 cd25 ct25), sl25⟩)
    (q25 : PySem.W.codeIn K cd25 "law" = true)
    (k25 : PySem.W.keepIn K (.ref f25) = true)
    (b_int : PySem.W.nsIn K mainGlobals "int" = some none)
    (b_bool : PySem.W.nsIn K mainGlobals "bool" = some none)
    (b_tuple : PySem.W.nsIn K mainGlobals "tuple" = some none)
    (b_dict : PySem.W.nsIn K mainGlobals "dict" = some none)
    (b_list : PySem.W.nsIn K mainGlobals "list" = some none)
    (b_isinstance : PySem.W.nsIn K mainGlobals "isinstance" = some none)
    (b_max : PySem.W.nsIn K mainGlobals "max" = some none)
    (b_min : PySem.W.nsIn K mainGlobals "min" = some none)
    (b_len : PySem.W.nsIn K mainGlobals "len" = some none)
    (b_range : PySem.W.nsIn K mainGlobals "range" = some none)
    (b_all : PySem.W.nsIn K mainGlobals "all" = some none)
    (b_repr : PySem.W.nsIn K mainGlobals "repr" = some none)
    (b_sorted : PySem.W.nsIn K mainGlobals "sorted" = some none)
    (b_set : PySem.W.nsIn K mainGlobals "set" = some none)
    (ck : chk K = true) :
    ∃ (T : Txt) (fd : FuncData) (m : DF), T.K = K ∧ (∀ (s : Shared) (u : Value), BindsTo s fd ⟨[u], []⟩ [("_law_script", u)]) ∧ (∀ ns : List Int, ns.length ≤ 63 → ∃ st, m [.ro (ns.map D.int)] [] = .ok (.bl true) st) ∧
        ∀ base : Heap, T.K.In base → base.Ns mainGlobals mg → FnG P w T.K mg base 9 fa fd ["_law_script"] (spM T 1 m) := by
  have e := hfa.symm.trans (PySem.W.mg_of X G a25)
  have e' : f25 = fa := by cases e; rfl
  subst e'
  have Z : Facts (txt K [f0, f1, f2, f3, f4, f5, f6, f7, f8, f9, f10, f11, f12, f13, f14, f15, f16, f17, f18, f19, f20, f21, f22, f23, f24, f25]) mg := {
    isT := chk_ok ck
    own := fun c hc => by cases hc
    g_MOST_NUMBER := ⟨.int 39, .int 39 t_MOST_NUMBER, ⟨fun xp G ι => .int _⟩, ⟨_, rfl⟩, PySem.W.mg_of X G v_MOST_NUMBER⟩
    g_MONTHS := ⟨.int 1000, .int 1000 t_MONTHS, ⟨fun xp G ι => .int _⟩, ⟨_, rfl⟩, PySem.W.mg_of X G v_MONTHS⟩
    g_MOST_SPANS := ⟨.int 12, .int 12 t_MOST_SPANS, ⟨fun xp G ι => .int _⟩, ⟨_, rfl⟩, PySem.W.mg_of X G v_MOST_SPANS⟩
    b_int := PySem.W.mg_none_of X G b_int
    b_bool := PySem.W.mg_none_of X G b_bool
    b_tuple := PySem.W.mg_none_of X G b_tuple
    b_dict := PySem.W.mg_none_of X G b_dict
    b_list := PySem.W.mg_none_of X G b_list
    b_isinstance := PySem.W.mg_none_of X G b_isinstance
    b_max := PySem.W.mg_none_of X G b_max
    b_min := PySem.W.mg_none_of X G b_min
    b_len := PySem.W.mg_none_of X G b_len
    b_range := PySem.W.mg_none_of X G b_range
    b_all := PySem.W.mg_none_of X G b_all
    b_repr := PySem.W.mg_none_of X G b_repr
    b_sorted := PySem.W.mg_none_of X G b_sorted
    b_set := PySem.W.mg_none_of X G b_set }
  have F25 := fun_mk (st := st_law) l25 q25 k25
  refine ⟨txt K [f0, f1, f2, f3, f4, f5, f6, f7, f8, f9, f10, f11, f12, f13, f14, f15, f16, f17, f18, f19, f20, f21, f22, f23, f24, f25], PySem.W.fnOf "law" "law" (defArgs st_law) (defBody st_law) (defScope st_law) .none kV25 dc25 pm25 an25 cd25 ct25, f_law, rfl, fun s u => ?_, mirror, fun base _ _ => ?_⟩
  · exact .of_eq rfl
  · skip
    have D_is_whole := ok_is_whole (w := w) (base := base) Z  ⟨⟨_, fun_mk (st := st_is_whole) l0 q0 k0⟩⟩ (PySem.W.mg_of X G a0)
    have D_is_within := ok_is_within (w := w) (base := base) Z D_is_whole ⟨⟨_, fun_mk (st := st_is_within) l1 q1 k1⟩⟩ (PySem.W.mg_of X G a1)
    have D_is_month := ok_is_month (w := w) (base := base) Z D_is_within ⟨⟨_, fun_mk (st := st_is_month) l2 q2 k2⟩⟩ (PySem.W.mg_of X G a2)
    have D__is_number := ok__is_number (w := w) (base := base) Z D_is_within ⟨⟨_, fun_mk (st := st__is_number) l3 q3 k3⟩⟩ (PySem.W.mg_of X G a3)
    have D__is_span := ok__is_span (w := w) (base := base) Z D_is_month ⟨⟨_, fun_mk (st := st__is_span) l4 q4 k4⟩⟩ (PySem.W.mg_of X G a4)
    have D__are_spans := ok__are_spans (w := w) (base := base) Z D__is_number D__is_span ⟨⟨_, fun_mk (st := st__are_spans) l5 q5 k5⟩⟩ (PySem.W.mg_of X G a5)
    have D__check_spans_and_rate := ok__check_spans_and_rate (w := w) (base := base) Z D__are_spans D_is_within ⟨⟨_, fun_mk (st := st__check_spans_and_rate) l6 q6 k6⟩⟩ (PySem.W.mg_of X G a6)
    have D__how_many_within := ok__how_many_within (w := w) (base := base) Z  ⟨⟨_, fun_mk (st := st__how_many_within) l7 q7 k7⟩⟩ (PySem.W.mg_of X G a7)
    have D__is_overfull := ok__is_overfull (w := w) (base := base) Z D__how_many_within ⟨⟨_, fun_mk (st := st__is_overfull) l8 q8 k8⟩⟩ (PySem.W.mg_of X G a8)
    have D__least_crowd := ok__least_crowd (w := w) (base := base) Z D__how_many_within D__is_overfull ⟨⟨_, fun_mk (st := st__least_crowd) l9 q9 k9⟩⟩ (PySem.W.mg_of X G a9)
    have K_crowd := ok_crowd (w := w) (base := base) Z D__check_spans_and_rate D__least_crowd ⟨⟨_, ⟨⟨_, _, _, _, _, _, _, _, _, _, rfl, l10, q10, .inr ⟨by simp, tD10, _, [.int 1 t10], nD10, rfl, lD10, rfl, .cons ⟨_, rfl⟩ .nil⟩, .inl rfl⟩, k10⟩⟩⟩ (PySem.W.mg_of X G a10)
    have K_is_crowd := ok_is_crowd (w := w) (base := base) Z D__check_spans_and_rate D__is_overfull D__is_span ⟨⟨_, ⟨⟨_, _, _, _, _, _, _, _, _, _, rfl, l11, q11, .inr ⟨by simp, tD11, _, [.int 1 t11], nD11, rfl, lD11, rfl, .cons ⟨_, rfl⟩ .nil⟩, .inl rfl⟩, k11⟩⟩⟩ (PySem.W.mg_of X G a11)
    have D__law_cell_at := ok__law_cell_at (w := w) (base := base) Z  ⟨⟨_, fun_mk (st := st__law_cell_at) l12 q12 k12⟩⟩ (PySem.W.mg_of X G a12)
    have D__law_pot := ok__law_pot (w := w) (base := base) Z  ⟨⟨_, fun_mk (st := st__law_pot) l13 q13 k13⟩⟩ (PySem.W.mg_of X G a13)
    have D__law_take := ok__law_take (w := w) (base := base) Z  ⟨⟨_, fun_mk (st := st__law_take) l14 q14 k14⟩⟩ (PySem.W.mg_of X G a14)
    have D__law_whole := ok__law_whole (w := w) (base := base) Z  ⟨⟨_, fun_mk (st := st__law_whole) l15 q15 k15⟩⟩ (PySem.W.mg_of X G a15)
    have D__law_within := ok__law_within (w := w) (base := base) Z D__law_whole ⟨⟨_, fun_mk (st := st__law_within) l16 q16 k16⟩⟩ (PySem.W.mg_of X G a16)
    have D__law_odd := ok__law_odd (w := w) (base := base) Z D__law_take ⟨⟨_, fun_mk (st := st__law_odd) l17 q17 k17⟩⟩ (PySem.W.mg_of X G a17)
    have D__law_bent0 : Def P w (txt K [f0, f1, f2, f3, f4, f5, f6, f7, f8, f9, f10, f11, f12, f13, f14, f15, f16, f17, f18, f19, f20, f21, f22, f23, f24, f25]) mg base 1 18 "_law_bent" ["_law_pot_here", "_law_stuff"] noF := def_no ⟨⟨_, fun_mk (st := st__law_bent) l18 q18 k18⟩⟩ (PySem.W.mg_of X G a18) (fun _ _ _ _ _ _ us hl => match us, hl with | [_, _], _ => rfl)
    have D__law_bent1 := ok__law_bent1 (w := w) (base := base) Z D__law_odd D__law_take D__law_whole D__law_bent0 ⟨⟨_, fun_mk (st := st__law_bent) l18 q18 k18⟩⟩ (PySem.W.mg_of X G a18)
    have D__law_bent := ok__law_bent (w := w) (base := base) Z D__law_odd D__law_take D__law_whole D__law_bent1 ⟨⟨_, fun_mk (st := st__law_bent) l18 q18 k18⟩⟩ (PySem.W.mg_of X G a18)
    have D__law_spans := ok__law_spans (w := w) (base := base) Z D__law_take ⟨⟨_, fun_mk (st := st__law_spans) l19 q19 k19⟩⟩ (PySem.W.mg_of X G a19)
    have D__law_within_of := ok__law_within_of (w := w) (base := base) Z  ⟨⟨_, fun_mk (st := st__law_within_of) l20 q20 k20⟩⟩ (PySem.W.mg_of X G a20)
    have D__law_crowd := ok__law_crowd (w := w) (base := base) Z D__law_within_of ⟨⟨_, fun_mk (st := st__law_crowd) l21 q21 k21⟩⟩ (PySem.W.mg_of X G a21)
    have D__law_is_span := ok__law_is_span (w := w) (base := base) Z D__law_within ⟨⟨_, fun_mk (st := st__law_is_span) l22 q22 k22⟩⟩ (PySem.W.mg_of X G a22)
    have D__law_is_crowd := ok__law_is_crowd (w := w) (base := base) Z D__law_is_span D__law_within_of ⟨⟨_, fun_mk (st := st__law_is_crowd) l23 q23 k23⟩⟩ (PySem.W.mg_of X G a23)
    have D__law_told := ok__law_told (w := w) (base := base) Z K_crowd K_is_crowd ⟨⟨_, fun_mk (st := st__law_told) l24 q24 k24⟩⟩ (PySem.W.mg_of X G a24)
    exact ok_law_fd (w := w) (base := base) Z D__law_bent D__law_cell_at D__law_crowd D__law_is_crowd D__law_odd D__law_pot D__law_spans D__law_take D__law_told F25
end K32

open PySem PySem.W PyProof.Rows
set_option maxRecDepth 100000 in
set_option maxHeartbeats 0 in
theorem PySem.Challenge.cw_dimcellar_k32_crowded_stretches_holds : PySem.Challenge.rw_dimcellar_k32_crowded_stretches.Holds := by
  w_on; o_law; k_head; (case hw => w_witness2)
  k_fill
  refine Den.walk_den (n := 63) (k := 9) (x := "_law_script") rfl (by decide) rfl ⟨⟨rfl, by decide, by decide⟩, rfl⟩ (fun w h Y => PySem.W.kIn_of Y) ?F
  case F =>
    intro w mg fa h KX G hmg
    refine' K32.all KX G hmg ?v_MOST_NUMBER ?v_MONTHS ?v_MOST_SPANS ?a0 ?l0 ?q0 ?k0 ?a1 ?l1 ?q1 ?k1 ?a2 ?l2 ?q2 ?k2 ?a3 ?l3 ?q3 ?k3 ?a4 ?l4 ?q4 ?k4 ?a5 ?l5 ?q5 ?k5 ?a6 ?l6 ?q6 ?k6 ?a7 ?l7 ?q7 ?k7 ?a8 ?l8 ?q8 ?k8 ?a9 ?l9 ?q9 ?k9 ?a10 ?l10 ?q10 ?k10 ?lD10 ?a11 ?l11 ?q11 ?k11 ?lD11 ?a12 ?l12 ?q12 ?k12 ?a13 ?l13 ?q13 ?k13 ?a14 ?l14 ?q14 ?k14 ?a15 ?l15 ?q15 ?k15 ?a16 ?l16 ?q16 ?k16 ?a17 ?l17 ?q17 ?k17 ?a18 ?l18 ?q18 ?k18 ?a19 ?l19 ?q19 ?k19 ?a20 ?l20 ?q20 ?k20 ?a21 ?l21 ?q21 ?k21 ?a22 ?l22 ?q22 ?k22 ?a23 ?l23 ?q23 ?k23 ?a24 ?l24 ?q24 ?k24 ?a25 ?l25 ?q25 ?k25 ?b_int ?b_bool ?b_tuple ?b_dict ?b_list ?b_isinstance ?b_max ?b_min ?b_len ?b_range ?b_all ?b_repr ?b_sorted ?b_set ?ck
    (case v_MOST_NUMBER => k_is)
    (case v_MONTHS => k_is)
    (case v_MOST_SPANS => k_is)
    (case a0 => k_is)
    (case l0 => k_is)
    (case q0 => k_is)
    (case k0 => k_is)
    (case a1 => k_is)
    (case l1 => k_is)
    (case q1 => k_is)
    (case k1 => k_is)
    (case a2 => k_is)
    (case l2 => k_is)
    (case q2 => k_is)
    (case k2 => k_is)
    (case a3 => k_is)
    (case l3 => k_is)
    (case q3 => k_is)
    (case k3 => k_is)
    (case a4 => k_is)
    (case l4 => k_is)
    (case q4 => k_is)
    (case k4 => k_is)
    (case a5 => k_is)
    (case l5 => k_is)
    (case q5 => k_is)
    (case k5 => k_is)
    (case a6 => k_is)
    (case l6 => k_is)
    (case q6 => k_is)
    (case k6 => k_is)
    (case a7 => k_is)
    (case l7 => k_is)
    (case q7 => k_is)
    (case k7 => k_is)
    (case a8 => k_is)
    (case l8 => k_is)
    (case q8 => k_is)
    (case k8 => k_is)
    (case a9 => k_is)
    (case l9 => k_is)
    (case q9 => k_is)
    (case k9 => k_is)
    (case a10 => k_is)
    (case l10 => k_is)
    (case q10 => k_is)
    (case k10 => k_is)
    (case lD10 => k_is)
    (case a11 => k_is)
    (case l11 => k_is)
    (case q11 => k_is)
    (case k11 => k_is)
    (case lD11 => k_is)
    (case a12 => k_is)
    (case l12 => k_is)
    (case q12 => k_is)
    (case k12 => k_is)
    (case a13 => k_is)
    (case l13 => k_is)
    (case q13 => k_is)
    (case k13 => k_is)
    (case a14 => k_is)
    (case l14 => k_is)
    (case q14 => k_is)
    (case k14 => k_is)
    (case a15 => k_is)
    (case l15 => k_is)
    (case q15 => k_is)
    (case k15 => k_is)
    (case a16 => k_is)
    (case l16 => k_is)
    (case q16 => k_is)
    (case k16 => k_is)
    (case a17 => k_is)
    (case l17 => k_is)
    (case q17 => k_is)
    (case k17 => k_is)
    (case a18 => k_is)
    (case l18 => k_is)
    (case q18 => k_is)
    (case k18 => k_is)
    (case a19 => k_is)
    (case l19 => k_is)
    (case q19 => k_is)
    (case k19 => k_is)
    (case a20 => k_is)
    (case l20 => k_is)
    (case q20 => k_is)
    (case k20 => k_is)
    (case a21 => k_is)
    (case l21 => k_is)
    (case q21 => k_is)
    (case k21 => k_is)
    (case a22 => k_is)
    (case l22 => k_is)
    (case q22 => k_is)
    (case k22 => k_is)
    (case a23 => k_is)
    (case l23 => k_is)
    (case q23 => k_is)
    (case k23 => k_is)
    (case a24 => k_is)
    (case l24 => k_is)
    (case q24 => k_is)
    (case k24 => k_is)
    (case a25 => k_is)
    (case l25 => k_is)
    (case q25 => k_is)
    (case k25 => k_is)
    (case b_int => k_is)
    (case b_bool => k_is)
    (case b_tuple => k_is)
    (case b_dict => k_is)
    (case b_list => k_is)
    (case b_isinstance => k_is)
    (case b_max => k_is)
    (case b_min => k_is)
    (case b_len => k_is)
    (case b_range => k_is)
    (case b_all => k_is)
    (case b_repr => k_is)
    (case b_sorted => k_is)
    (case b_set => k_is)
    (case ck => kernel_rfl)

