import PyProof.Rows.All
import Wide.All
import OpenK.AllK
import Wide.FinOn
import HandS.ForExc
import HandS.ExcInit
import HandS.HotCalls
import HandS.Defaults
import HandS.Flow
import HandS.Wide
import HandS.TupAny
import HandS.Text
import HandS.Deep
import HandS.IsInst
import HandS.RaiseMore
import HandS.SetFor
import HandS.Style
import HandS.Comp
import HandS.ExcIs
import HandS.Dict
import HandS.Ends
import HandS.Walk
import HandS.Small
import KE.DataMinMax
import HandS.Strs
import KE.KExcIs
import HandS.ExcValue
import HandS.ExcField
import HandS.More
import KE.KCallOwn
import OpenK.KOps
import HandS.FStr
import HandS.OwnEq
import KE.DataCmp
import KE.DataFind
import HandS.Iter
import HandS.StrMore
import KE.GoesEnumKw
import KE.KUnpackStar
import PyProof.NeKinds
import PyProof.ReprUnder
import PyProof.ReprNest
import PyProof.ReprDict
import PyProof.ReprBulk
import PyProof.Rows.ReprOcc
import PyProof.ReprLen
import HandS.ForSpec
import PySem.Challenge.RW_dimcellar_k73_lists_refused
set_option Elab.async false
set_option linter.all false
set_option maxRecDepth 100000
set_option maxHeartbeats 4000000
/-! Den: what a piece of the text is worth, as a Lean function over plain data; the store tells what may change. -/
namespace Den
open PySem L2

/-! ### data -/
inductive D where
  | non
  | bl (b : Bool)
  | int (i : Int)
  | str (x : Str)
  | ty (n : String)
  | cl (i : Nat)
  | fn (i : Nat)
  | lst (xs : List D)
  | ro (xs : List D)
  | tup (xs : List D)
  | dic (ks : List Key) (xs : List D)
  | ins (c : Nat) (xs : List D)
  | exc (c : Nat) (xs : List D)
  | err (c : Nat) (xs : List D)
  | box (k : Nat)

/-- what may change: a list, an instance; dead: handed out for good -/
inductive Cell where
  | lst (xs : List D)
  | ins (c : Nat) (xs : List D)
  | dic (ks : List Key) (xs : List D)
  | dead
def Cell.live : Cell → Bool
  | .dead => false
  | _ => true
abbrev Store := List Cell

/-- the text's classes and defs by number -/
structure Txt where
  K : PySem.W.Frag
  ca : Nat → Addr
  fa : Nat → Addr
  fl : Nat → List Str
/-- where the store's cells stand; what is hidden besides (a list on its way) -/
structure Io where
  ad : List Addr
  hd : List Addr
def Io.add (ι : Io) (p : Addr) : Io := ⟨ι.ad ++ [p], ι.hd⟩
theorem Io.add_at (ι : Io) (p : Addr) : (ι.add p).ad[ι.ad.length]? = some p := by
  unfold Io.add
  simp
abbrev XT := List (Addr × Nat × Option Addr)

mutual
inductive Rep (T : Txt) (xp : XT) (G : Hp) (ι : Io) : V → D → Prop
  | non : Rep T xp G ι .non .non
  | bl (b : Bool) : Rep T xp G ι (.bl b) (.bl b)
  | int (i : Int) : Rep T xp G ι (.int i) (.int i)
  | str (x : Str) : Rep T xp G ι (.str x) (.str x)
  | ty (n : String) : Rep T xp G ι (.ty n) (.ty n)
  | cl (i : Nat) : Rep T xp G ι (.ref (T.ca i)) (.cl i)
  | fn (i : Nat) : Rep T xp G ι (.ref (T.fa i)) (.fn i)
  | lst {a : Addr} {xs : List V} {ds : List D} : G a = some (.lst xs) → RepL T xp G ι xs ds → Rep T xp G ι (.ref a) (.lst ds)
  | ro {a : Addr} {xs : List V} {ds : List D} : SqL T.K G a xs → RepL T xp G ι xs ds → Rep T xp G ι (.ref a) (.ro ds)
  | tup {a : Addr} {xs : List V} {ds : List D} : SqT T.K G a xs → RepL T xp G ι xs ds → Rep T xp G ι (.ref a) (.tup ds)
  | dic {a : Addr} {o : Obj} {ks : List Key} {xs : List V} {ds : List D} : G a = some (.frz o (.dK (ks.zip xs))) → ks.length = xs.length → RepL T xp G ι xs ds → Rep T xp G ι (.ref a) (.dic ks ds)
  | ins {a dx : Addr} {c : Nat} {xs : List V} {ds : List D} : G a = some (.ins (T.ca c) dx ((T.fl c).zip xs)) → xs.length ≤ (T.fl c).length → RepL T xp G ι xs ds → Rep T xp G ι (.ref a) (.ins c ds)
  | exc {a : Addr} {c : Nat} {ds : List D} : (a, c, none) ∈ xp → ds = [] → Rep T xp G ι (.ref a) (.exc c ds)
  | excd {a d : Addr} {c : Nat} {xs : List V} {ds : List D} : (a, c, some d) ∈ xp → G d = some (.xd ((T.fl c).zip xs)) → xs.length ≤ (T.fl c).length → RepL T xp G ι xs ds → ds ≠ [] → Rep T xp G ι (.ref a) (.exc c ds)
  | err {a : Addr} {c : Nat} {ds : List D} : G a = some (exo a (T.ca c) none) → ds = [] → Rep T xp G ι (.ref a) (.err c ds)
  | errd {a d : Addr} {c : Nat} {fs : List (Str × V)} {xs : List V} {ds : List D} : G a = some (exo a (T.ca c) (some d)) → G d = some (exd d fs) → (∀ (i : Nat) (f : Str), (T.fl c)[i]? = some f → fs.lookup f = xs[i]?) → RepL T xp G ι xs ds → Rep T xp G ι (.ref a) (.err c ds)
  | box {k : Nat} {a : Addr} : ι.ad[k]? = some a → Rep T xp G ι (.ref a) (.box k)
inductive RepL (T : Txt) (xp : XT) (G : Hp) (ι : Io) : List V → List D → Prop
  | nil : RepL T xp G ι [] []
  | cons {v : V} {vs : List V} {d : D} {ds : List D} : Rep T xp G ι v d → RepL T xp G ι vs ds → RepL T xp G ι (v :: vs) (d :: ds)
end

/-- what stands stays -/
def Le (G G' : Hp) : Prop := ∀ a o, G a = some o → G' a = some o
structure Pre (ι ι' : Io) : Prop where
  ad : ∀ (k : Nat) (a : Addr), ι.ad[k]? = some a → ι'.ad[k]? = some a
  hd : ι'.hd = ι.hd
theorem Le.refl (G : Hp) : Le G G := fun _ _ h => h
theorem Le.trans {A B C : Hp} (h : Le A B) (g : Le B C) : Le A C := fun a o e => g a o (h a o e)
theorem Pre.refl (ι : Io) : Pre ι ι := ⟨fun _ _ h => h, rfl⟩
theorem Pre.trans {a b c : Io} (h : Pre a b) (g : Pre b c) : Pre a c := ⟨fun k x e => g.ad k x (h.ad k x e), g.hd.trans h.hd⟩
theorem le_rd {G G' : Hp} (e : Le G G') {a : Addr} {u : HO} (h : Rd G a u) : Rd G' a u := by
  rcases h with h | ⟨o, h⟩
  · exact .inl (e _ _ h)
  · exact .inr ⟨o, e _ _ h⟩
theorem le_l {K : PySem.W.Frag} {G G' : Hp} (e : Le G G') {a : Addr} {xs : List V} (h : SqL K G a xs) : SqL K G' a xs := h.elim (fun x => .inl (le_rd e x)) .inr
theorem le_t {K : PySem.W.Frag} {G G' : Hp} (e : Le G G') {a : Addr} {xs : List V} (h : SqT K G a xs) : SqT K G' a xs := h.elim (fun x => .inl (le_rd e x)) .inr

section
variable {T : Txt} {xp : XT} {G G' : Hp} {ι ι' : Io}
mutual
theorem Rep.monoA (e : Le G G') (p : ∀ (k : Nat) (a : Addr), ι.ad[k]? = some a → ι'.ad[k]? = some a) : ∀ {v : V} {d : D}, Rep T xp G ι v d → Rep T xp G' ι' v d
  | _, _, .non => .non
  | _, _, .bl b => .bl b
  | _, _, .int i => .int i
  | _, _, .str x => .str x
  | _, _, .ty n => .ty n
  | _, _, .cl i => .cl i
  | _, _, .fn i => .fn i
  | _, _, .lst h r => .lst (e _ _ h) (RepL.monoA e p r)
  | _, _, .ro h r => .ro (le_l e h) (RepL.monoA e p r)
  | _, _, .tup h r => .tup (le_t e h) (RepL.monoA e p r)
  | _, _, .dic h l r => .dic (e _ _ h) l (RepL.monoA e p r)
  | _, _, .ins h l r => .ins (e _ _ h) l (RepL.monoA e p r)
  | _, _, .exc h l => .exc h l
  | _, _, .excd h g l r n => .excd h (e _ _ g) l (RepL.monoA e p r) n
  | _, _, .err h l => .err (e _ _ h) l
  | _, _, .errd h g k r => .errd (e _ _ h) (e _ _ g) k (RepL.monoA e p r)
  | _, _, .box h => .box (p _ _ h)
theorem RepL.monoA (e : Le G G') (p : ∀ (k : Nat) (a : Addr), ι.ad[k]? = some a → ι'.ad[k]? = some a) : ∀ {v : List V} {d : List D}, RepL T xp G ι v d → RepL T xp G' ι' v d
  | _, _, .nil => .nil
  | _, _, .cons h r => .cons (Rep.monoA e p h) (RepL.monoA e p r)
end
theorem Rep.mono (e : Le G G') (p : Pre ι ι') {v : V} {d : D} (h : Rep T xp G ι v d) : Rep T xp G' ι' v d := h.monoA e p.ad
theorem RepL.mono (e : Le G G') (p : Pre ι ι') {v : List V} {d : List D} (h : RepL T xp G ι v d) : RepL T xp G' ι' v d := h.monoA e p.ad
theorem Rep.re (p : ι'.ad = ι.ad) {v : V} {d : D} (h : Rep T xp G ι v d) : Rep T xp G ι' v d := h.monoA (Le.refl _) fun k a e => by rw [p]; exact e
theorem RepL.re (p : ι'.ad = ι.ad) {v : List V} {d : List D} (h : RepL T xp G ι v d) : RepL T xp G ι' v d := h.monoA (Le.refl _) fun k a e => by rw [p]; exact e
theorem RepL.length : ∀ {v : List V} {d : List D}, RepL T xp G ι v d → v.length = d.length
  | _, _, .nil => rfl
  | _, _, .cons _ r => congrArg Nat.succ r.length
theorem RepL.append : ∀ {v w : List V} {d e : List D}, RepL T xp G ι v d → RepL T xp G ι w e → RepL T xp G ι (v ++ w) (d ++ e)
  | _, _, _, _, .nil, q => q
  | _, _, _, _, .cons h r, q => .cons h (r.append q)
theorem RepL.get : ∀ {v : List V} {d : List D} {i : Nat} {x : D}, RepL T xp G ι v d → d[i]? = some x → ∃ u, v[i]? = some u ∧ Rep T xp G ι u x
  | _, _, _, _, .nil, e => by simp at e
  | _, _, 0, _, .cons h _, e => by simp at e; exact ⟨_, by simp, e ▸ h⟩
  | _, _, i + 1, _, .cons _ r, e => by
    obtain ⟨u, h1, h2⟩ := r.get (i := i) (by simpa using e)
    exact ⟨u, by simpa using h1, h2⟩
theorem RepL.getV : ∀ {v : List V} {d : List D} {i : Nat} {u : V}, RepL T xp G ι v d → v[i]? = some u → ∃ x, d[i]? = some x ∧ Rep T xp G ι u x
  | _, _, _, _, .nil, e => by simp at e
  | _, _, 0, _, .cons h _, e => by simp at e; exact ⟨_, by simp, e ▸ h⟩
  | _, _, i + 1, _, .cons _ r, e => by
    obtain ⟨u, h1, h2⟩ := r.getV (i := i) (by simpa using e)
    exact ⟨u, by simpa using h1, h2⟩
theorem RepL.set : ∀ {v : List V} {d : List D} (i : Nat) {u : V} {x : D}, RepL T xp G ι v d → Rep T xp G ι u x → RepL T xp G ι (v.set i u) (d.set i x)
  | _, _, _, _, _, .nil, _ => .nil
  | _, _, 0, _, _, .cons _ r, q => .cons q r
  | _, _, i + 1, _, _, .cons h r, q => .cons h (r.set i q)
theorem RepL.take : ∀ {v : List V} {d : List D} (n : Nat), RepL T xp G ι v d → RepL T xp G ι (v.take n) (d.take n)
  | _, _, 0, _ => .nil
  | _, _, _ + 1, .nil => .nil
  | _, _, n + 1, .cons h r => .cons h (r.take n)
theorem RepL.drop : ∀ {v : List V} {d : List D} (n : Nat), RepL T xp G ι v d → RepL T xp G ι (v.drop n) (d.drop n)
  | _, _, 0, q => q
  | _, _, _ + 1, .nil => .nil
  | _, _, n + 1, .cons _ r => r.drop n
theorem RepL.reverse : ∀ {v : List V} {d : List D}, RepL T xp G ι v d → RepL T xp G ι v.reverse d.reverse
  | _, _, .nil => .nil
  | _, _, .cons h r => by
    rw [List.reverse_cons, List.reverse_cons]
    exact r.reverse.append (.cons h .nil)
theorem RepL.dropLast {v : List V} {d : List D} (h : RepL T xp G ι v d) : RepL T xp G ι v.dropLast d.dropLast := by
  rw [List.dropLast_eq_take, List.dropLast_eq_take, h.length]
  exact h.take _
end

/-! ### the store over the heap -/
def liveB (ι : Io) (st : Store) (a : Addr) : Bool := (ι.ad.zip st).any fun p => decide (p.1 = a) && p.2.live
def hidden (ι : Io) (st : Store) (a : Addr) : Bool := liveB ι st a || decide (a ∈ ι.hd)
def hide (ι : Io) (st : Store) (H : Hp) : Hp := fun a => if hidden ι st a = true then none else H a
theorem hide_sub {ι : Io} {st : Store} {H : Hp} {a : Addr} {o : HO} (h : hide ι st H a = some o) : H a = some o := by
  unfold hide at h
  split at h
  · cases h
  · exact h
def CellR (T : Txt) (xp : XT) (G : Hp) (ι : Io) (H : Hp) (a : Addr) : Cell → Prop
  | .lst ds => ∃ xs, H a = some (.lst xs) ∧ RepL T xp G ι xs ds
  | .ins c ds => ∃ dx xs, H a = some (.ins (T.ca c) dx ((T.fl c).zip xs)) ∧ xs.length ≤ (T.fl c).length ∧ RepL T xp G ι xs ds
  | .dic ks ds => ∃ xs, H a = some (.dK (ks.zip xs)) ∧ ks.length = xs.length ∧ RepL T xp G ι xs ds
  | .dead => True
structure RelSt (T : Txt) (xp : XT) (ι : Io) (st : Store) (H : Hp) : Prop where
  len : ι.ad.length = st.length
  nd : ι.ad.Nodup
  there : ∀ a ∈ ι.ad, ∃ o, H a = some o
  hdn : ∀ a ∈ ι.hd, (∃ o, H a = some o) ∧ a ∉ ι.ad
  ok : ∀ (k : Nat) (a : Addr) (c : Cell), ι.ad[k]? = some a → st[k]? = some c → CellR T xp (hide ι st H) ι H a c
structure Step (ι : Io) (st : Store) (H : Hp) (ι' : Io) (st' : Store) (H' : Hp) : Prop where
  pre : Pre ι ι'
  ex : Le (hide ι st H) (hide ι' st' H')
  hd : ∀ a ∈ ι.hd, H' a = H a
theorem Step.refl (ι : Io) (st : Store) (H : Hp) : Step ι st H ι st H := ⟨Pre.refl _, Le.refl _, fun _ _ => rfl⟩
theorem Step.trans {a b c : Io} {s t u : Store} {H1 H2 H3 : Hp} (h : Step a s H1 b t H2) (g : Step b t H2 c u H3) : Step a s H1 c u H3 := ⟨h.pre.trans g.pre, h.ex.trans g.ex, fun x hx => (g.hd x (by rw [h.pre.hd]; exact hx)).trans (h.hd x hx)⟩

/-! ### results -/
inductive Res (α : Type) where
  | ok (a : α) (st : Store)
  | exc (c : Nat) (xs : List D) (st : Store)
  | bad
def Res.bind {α β : Type} (m : Res α) (k : α → Store → Res β) : Res β := match m with
  | .ok a st => k a st
  | .exc c xs st => .exc c xs st
  | .bad => .bad
@[simp] theorem bind_ok {α β : Type} (a : α) (st : Store) (k : α → Store → Res β) : (Res.ok a st).bind k = k a st := rfl
@[simp] theorem bind_exc {α β : Type} (c : Nat) (xs : List D) (st : Store) (k : α → Store → Res β) : (Res.exc c xs st).bind k = .exc c xs st := rfl
@[simp] theorem bind_bad {α β : Type} (k : α → Store → Res β) : (Res.bad : Res α).bind k = .bad := rfl

/-- an exception's own dict -/
def XdR (T : Txt) (xp : XT) (ι : Io) (st : Store) (H : Hp) (dx : Option Addr) (c : Nat) (ds : List D) : Prop :=
  (dx = none ∧ ds = []) ∨ ∃ d xs, dx = some d ∧ H d = some (.xd ((T.fl c).zip xs)) ∧ hide ι st H d = H d ∧ xs.length ≤ (T.fl c).length ∧ RepL T xp (hide ι st H) ι xs ds ∧ ds ≠ []

section
variable (T : Txt) (xp : XT) (W : Value → Option Addr → Hp → Prop) (ι : Io) (st : Store) (H : Hp)
def Post {α β : Type} (R : Hp → Io → β → α → Prop) (Q : β → Hp → Prop) : Res α → Prop
  | .ok d st' => ∀ v ι' H', Step ι st H ι' st' H' → RelSt T xp ι' st' H' → R (hide ι' st' H') ι' v d → Q v H'
  | .exc c ds st' => ∀ ι' H' dx, Step ι st H ι' st' H' → RelSt T xp ι' st' H' → XdR T xp ι' st' H' dx c ds → W (.ref (T.ca c)) dx H'
  | .bad => False
end
section
variable {T : Txt} {xp : XT} {W : Value → Option Addr → Hp → Prop} {ι ι1 : Io} {st st1 : Store} {H H1 : Hp}
theorem Post.step {α β : Type} {R : Hp → Io → β → α → Prop} {Q : β → Hp → Prop} {r : Res α} (h : Post T xp W ι st H R Q r) (s : Step ι st H ι1 st1 H1) : Post T xp W ι1 st1 H1 R Q r := by
  cases r with
  | ok d st' => exact fun v ι' H' s1 => h v ι' H' (s.trans s1)
  | exc c ds st' => exact fun ι' H' dx s1 => h ι' H' dx (s.trans s1)
  | bad => exact h
theorem post_bind {α β γ δ : Type} {m : Res α} {k : α → Store → Res γ} {R : Hp → Io → β → α → Prop} {Q : β → Hp → Prop} {R2 : Hp → Io → δ → γ → Prop} {Q2 : δ → Hp → Prop} (h : Post T xp W ι st H R2 Q2 (m.bind k))
    (hk : ∀ d s1 v ι1 H1, Step ι st H ι1 s1 H1 → RelSt T xp ι1 s1 H1 → R (hide ι1 s1 H1) ι1 v d → Post T xp W ι1 s1 H1 R2 Q2 (k d s1) → Q v H1) : Post T xp W ι st H R Q m := by
  cases m with
  | ok d s1 => exact fun v ι1 H1 s r e => hk d s1 v ι1 H1 s r e (Post.step h s)
  | exc c ds s1 => exact h
  | bad => exact h
end

/-! ### a def's slots -/
abbrev Rho := List (Option D)
structure EnvR (T : Txt) (xp : XT) (G : Hp) (ι : Io) (ρ : Rho) (σ : St) : Prop where
  len : ρ.length = σ.length
  at_ : ∀ (i : Nat) (d : D), ρ[i]? = some (some d) → ∃ v, σ[i]? = some (some v) ∧ Rep T xp G ι v d
theorem EnvR.mono {T : Txt} {xp : XT} {G G' : Hp} {ι ι' : Io} {ρ : Rho} {σ : St} (h : EnvR T xp G ι ρ σ) (e : Le G G') (p : Pre ι ι') : EnvR T xp G' ι' ρ σ :=
  ⟨h.len, fun i d q => let ⟨v, a, b⟩ := h.at_ i d q; ⟨v, a, b.mono e p⟩⟩
theorem EnvR.step {T : Txt} {xp : XT} {ι ι' : Io} {st st' : Store} {H H' : Hp} {ρ : Rho} {σ : St} (h : EnvR T xp (hide ι st H) ι ρ σ) (s : Step ι st H ι' st' H') : EnvR T xp (hide ι' st' H') ι' ρ σ := h.mono s.ex s.pre
theorem EnvR.set {T : Txt} {xp : XT} {G : Hp} {ι : Io} {ρ : Rho} {σ : St} (h : EnvR T xp G ι ρ σ) (i : Nat) {v : V} {d : D} (r : Rep T xp G ι v d) : EnvR T xp G ι (ρ.set i (some d)) (σ.set i (some v)) := by
  refine ⟨by simp [h.len], fun j e q => ?_⟩
  rw [List.getElem?_set] at q ⊢
  split at q
  · rename_i hij
    subst hij
    split at q
    · rename_i hl
      cases q
      exact ⟨v, by rw [if_pos rfl, if_pos (by rw [← h.len]; exact hl)], r⟩
    · cases q
  · rename_i hij
    rw [if_neg hij]
    exact h.at_ j e q

abbrev DE := Rho → Store → Res D
abbrev DA := Rho → Store → Res (List D)
abbrev DT := Rho → Store → Res Bool

/-! ### readings -/
section
variable (T : Txt) (xp : XT) (W : WX)
def tD (m : DE) : TE := fun σ H Q => ∃ ρ st ι, EnvR T xp (hide ι st H) ι ρ σ ∧ RelSt T xp ι st H ∧ Post T xp (fun c d H => W c d σ H) ι st H (Rep T xp) Q (m ρ st)
def tDA (m : DA) : TA := fun σ H Q => ∃ ρ st ι, EnvR T xp (hide ι st H) ι ρ σ ∧ RelSt T xp ι st H ∧ Post T xp (fun c d H => W c d σ H) ι st H (RepL T xp) Q (m ρ st)
def tDT (m : DT) : TT := fun σ H Q => ∃ ρ st ι, EnvR T xp (hide ι st H) ι ρ σ ∧ RelSt T xp ι st H ∧ Post T xp (fun c d H => W c d σ H) ι st H (fun _ _ (a b : Bool) => a = b) Q (m ρ st)
end
theorem PE.imp {X : Cx} {e : Expr} {t t' : TE} (h : PE X e t) (i : ∀ σ H Q, t' σ H Q → t σ H Q) : PE X e t' := ⟨fun pins s σ H Q I q => h.run pins s σ H Q I (i σ H Q q)⟩
theorem PA.imp {X : Cx} {e : List Expr} {t t' : TA} (h : PA X e t) (i : ∀ σ H Q, t' σ H Q → t σ H Q) : PA X e t' := ⟨fun p pins s σ H Q I q => h.run p pins s σ H Q I (i σ H Q q)⟩
theorem PT.imp {X : Cx} {e : Expr} {t t' : TT} (h : PT X e t) (i : ∀ σ H Q, t' σ H Q → t σ H Q) : PT X e t' := ⟨fun pins s σ H Q I q => h.run pins s σ H Q I (i σ H Q q)⟩
theorem PS.imp {X : Cx} {e : Stmt} {t t' : TS} (h : PS X e t) (i : ∀ D σ H, t' D σ H → t D σ H) : PS X e t' := ⟨fun pins s σ H D I q => h.run pins s σ H D I (i D σ H q)⟩
theorem PSs.imp {X : Cx} {e : List Stmt} {t t' : TS} (h : PSs X e t) (i : ∀ D σ H, t' D σ H → t D σ H) : PSs X e t' := ⟨fun pins s σ H D I q => h.run pins s σ H D I (i D σ H q)⟩
/-- a piece and what it is worth -/
structure Ctx where
  X : Cx
  T : Txt
  xp : XT
  W : WX
  hK : X.K = T.K
abbrev PD (C : Ctx) (e : Expr) (m : DE) : Prop := PE C.X e (tD C.T C.xp C.W m)
abbrev PDA (C : Ctx) (e : List Expr) (m : DA) : Prop := PA C.X e (tDA C.T C.xp C.W m)
abbrev PDT (C : Ctx) (e : Expr) (m : DT) : Prop := PT C.X e (tDT C.T C.xp C.W m)

/-! ### names, constants -/
def dVar (i : Nat) : DE := fun ρ st => match ρ[i]? with
  | some (some d) => .ok d st
  | _ => .bad
def dC (d : D) : DE := fun _ st => .ok d st
section
variable {C : Ctx}
theorem pd_var {i : Nat} {x : Str} {pos : Pos} (hN : C.X.N[i]? = some x) (hv : Vis C.X.env.scope x) (hd : (x == ("__debug__" : Str)) = false := by decide) (hcd : (x == ("__classdict__" : Str)) = false := by decide) : PD C (.Name x pos) (dVar i) := by
  refine PE.imp (pe_var hN hv hd hcd) fun σ H Q ⟨ρ, st, ι, e, r, p⟩ => ?_
  unfold dVar at p
  split at p
  · rename_i d hd
    obtain ⟨v, hv, rv⟩ := e.at_ i d hd
    exact ⟨v, hv, p v ι H (Step.refl _ _ _) r rv⟩
  · exact p.elim
theorem pd_c {e : Expr} {v : V} {d : D} (h : PE C.X e (tC v)) (r : ∀ G ι, Rep C.T C.xp G ι v d) : PD C e (dC d) :=
  PE.imp h fun σ H Q ⟨ρ, st, ι, _, rl, p⟩ => p v ι H (Step.refl _ _ _) rl (r _ _)
theorem pd_int {i j pos} : PD C (.Constant (.int i) j pos) (dC (.int i)) := pd_c pe_int fun _ _ => .int i
theorem pd_bl {b j pos} : PD C (.Constant (.bool b) j pos) (dC (.bl b)) := pd_c pe_bl fun _ _ => .bl b
theorem pd_non {j pos} : PD C (.Constant .none j pos) (dC .non) := pd_c pe_non fun _ _ => .non
theorem pd_str {x j pos} : PD C (.Constant (.str x) j pos) (dC (.str x)) := pd_c pe_str fun _ _ => .str x

/-! ### two-place operations -/
def dOp2 (f : D → D → Option D) (a b : DE) : DE := fun ρ st => (a ρ st).bind fun x s1 => (b ρ s1).bind fun y s2 => match f x y with
  | some z => .ok z s2
  | none => .bad
/-- an operation on values that is worth f -/
def OpD (C : Ctx) (r : R2) (f : D → D → Option D) : Prop := ∀ ι st H x y dx dy dz (Q : VK), RelSt C.T C.xp ι st H → Rep C.T C.xp (hide ι st H) ι x dx → Rep C.T C.xp (hide ι st H) ι y dy → f dx dy = some dz →
  (∀ v ι' H', Step ι st H ι' st H' → RelSt C.T C.xp ι' st H' → Rep C.T C.xp (hide ι' st H') ι' v dz → Q v H') → r x y H Q
theorem tOp_of {r : R2} {f : D → D → Option D} {ma mb : DE} (hr : OpD C r f) : ∀ σ H Q, tD C.T C.xp C.W (dOp2 f ma mb) σ H Q → tOp r (tD C.T C.xp C.W ma) (tD C.T C.xp C.W mb) σ H Q := fun σ H Q ⟨ρ, st, ι, e, rl, p⟩ => by
  refine ⟨ρ, st, ι, e, rl, post_bind p fun d s1 v ι1 H1 st1 rl1 rv p1 => ?_⟩
  refine ⟨ρ, s1, ι1, e.step st1, rl1, post_bind p1 fun d2 s2 v2 ι2 H2 st2 rl2 rv2 p2 => ?_⟩
  cases hf : f d d2 with
  | none =>
    rw [hf] at p2
    exact p2.elim
  | some z =>
    rw [hf] at p2
    exact hr ι2 s2 H2 v v2 d d2 z Q rl2 (rv.mono st2.ex st2.pre) rv2 hf fun v' ι' H' s' r' e' => p2 v' ι' H' s' r' e'
theorem pd_op {op : Operator} {r : R2} {f : D → D → Option D} {a b : Expr} {ma mb : DE} {pos : Pos} (ho : OpR C.X (binaryOp op) r) (hr : OpD C r f) (ha : PD C a ma) (hb : PD C b mb) : PD C (.BinOp a op b pos) (dOp2 f ma mb) :=
  PE.imp (pe_op ho ha hb) (tOp_of hr)
theorem pd_cmp {op : CmpOp} {r : R2} {f : D → D → Option D} {a b : Expr} {ma mb : DE} {pos : Pos} (ho : OpR C.X (compareOp op) r) (hr : OpD C r f) (ha : PD C a ma) (hb : PD C b mb) (hm : behindInMarks op b = false) : PD C (.Compare a [op] [b] pos) (dOp2 f ma mb) :=
  PE.imp (pe_cmpR ho ha hb hm) (tOp_of hr)
theorem OpR.or {g : Value → Value → Sem Value} {r r' : R2} (h : OpR C.X g r) (h' : OpR C.X g r') : OpR C.X g (fun x y H Q => r x y H Q ∨ r' x y H Q) := by
  intro pins s σ H x y v u Q I rx ry q
  rcases q with q | q
  · exact h pins s σ H x y v u Q I rx ry q
  · exact h' pins s σ H x y v u Q I rx ry q
end
end Den

set_option maxRecDepth 100000
set_option maxHeartbeats 4000000
namespace Den
open PySem L2

section
variable {T : Txt} {xp : XT} {ι : Io} {st : Store} {H : Hp} {p : Addr} {o : HO}
theorem live_mem {a : Addr} (h : liveB ι st a = true) : a ∈ ι.ad := by
  unfold liveB at h
  obtain ⟨q, hq, e⟩ := List.any_eq_true.mp h
  have e1 : q.1 = a := by
    have := (Bool.and_eq_true _ _ ▸ e : _ ∧ _).1
    exact of_decide_eq_true this
  rw [← e1]
  exact (List.of_mem_zip hq).1
theorem live_at {a : Addr} {k : Nat} {c : Cell} (hk : ι.ad[k]? = some a) (hs : st[k]? = some c) (hc : c.live = true) : liveB ι st a = true := by
  unfold liveB
  refine List.any_eq_true.mpr ⟨(a, c), ?_, by simp [hc]⟩
  refine List.mem_of_getElem? (i := k) ?_
  rw [List.getElem?_zip_eq_some]
  exact ⟨hk, hs⟩
theorem live_get {a : Addr} (h : liveB ι st a = true) : ∃ (k : Nat) (c : Cell), ι.ad[k]? = some a ∧ st[k]? = some c ∧ c.live = true := by
  unfold liveB at h
  obtain ⟨q, hq, e⟩ := List.any_eq_true.mp h
  obtain ⟨e1, e2⟩ : decide (q.1 = a) = true ∧ q.2.live = true := by simpa using e
  obtain ⟨k, hk⟩ := List.getElem?_of_mem hq
  rw [List.getElem?_zip_eq_some] at hk
  exact ⟨k, q.2, by rw [hk.1, of_decide_eq_true e1], hk.2, e2⟩
theorem nodup_at {a : Addr} {i j : Nat} (nd : ι.ad.Nodup) (hi : ι.ad[i]? = some a) (hj : ι.ad[j]? = some a) : i = j := by
  obtain ⟨h1, e1⟩ := List.getElem?_eq_some_iff.mp hi
  obtain ⟨h2, e2⟩ := List.getElem?_eq_some_iff.mp hj
  exact (List.getElem_inj nd).mp (e1.trans e2.symm)
theorem CellR.mono {G G' : Hp} {ι' : Io} {H' : Hp} {a : Addr} {c : Cell} (h : CellR T xp G ι H a c) (e : Le G G') (q : Pre ι ι') (hh : H' a = H a) : CellR T xp G' ι' H' a c := by
  cases c with
  | lst ds =>
    obtain ⟨xs, h1, h2⟩ := h
    exact ⟨xs, hh.trans h1, h2.mono e q⟩
  | ins c ds =>
    obtain ⟨dx, xs, h1, h2, h3⟩ := h
    exact ⟨dx, xs, hh.trans h1, h2, h3.mono e q⟩
  | dic ks ds =>
    obtain ⟨xs, h1, h2, h3⟩ := h
    exact ⟨xs, hh.trans h1, h2, h3.mono e q⟩
  | dead => trivial
theorem RelSt.ne (r : RelSt T xp ι st H) (hp : H p = none) : p ∉ ι.ad := fun h => by
  obtain ⟨o, e⟩ := r.there p h
  rw [hp] at e
  cases e
theorem RelSt.neh (r : RelSt T xp ι st H) (hp : H p = none) : p ∉ ι.hd := fun h => by
  obtain ⟨⟨o, e⟩, _⟩ := r.hdn p h
  rw [hp] at e
  cases e
theorem RelSt.nolive (r : RelSt T xp ι st H) (hp : H p = none) : hidden ι st p = false := by
  unfold hidden
  rw [Bool.or_eq_false_iff]
  exact ⟨Bool.eq_false_iff.mpr fun h => r.ne hp (live_mem h), decide_eq_false (r.neh hp)⟩
theorem hide_no {a : Addr} (h : ¬ hidden ι st a = true) : hide ι st H a = H a := if_neg h
theorem hide_at {a : Addr} {u : HO} (h : hide ι st H a = some u) : ¬ hidden ι st a = true := fun z => by
  unfold hide at h
  rw [if_pos z] at h
  cases h
theorem hide_upd (hp : H p = none) : Le (hide ι st H) (hide ι st (upd H p o)) := fun a u h => by
  have h' := hide_sub h
  have ne : a ≠ p := ne_of_none h' hp
  rw [hide_no (hide_at h), upd_ne ne]
  exact h'
/-- a new object that nobody changes -/
theorem RelSt.new (r : RelSt T xp ι st H) (hp : H p = none) : RelSt T xp ι st (upd H p o) ∧ Step ι st H ι st (upd H p o) ∧ hide ι st (upd H p o) p = some o := by
  have hl : Le (hide ι st H) (hide ι st (upd H p o)) := hide_upd hp
  refine ⟨⟨r.len, r.nd, fun a ha => ?_, fun a ha => ?_, fun k a c hk hc => ?_⟩, ⟨Pre.refl _, hl, fun a ha => upd_ne fun e => r.neh hp (e ▸ ha)⟩, ?_⟩
  · obtain ⟨u, e⟩ := r.there a ha
    exact ⟨u, by rw [upd_ne (ne_of_none e hp)]; exact e⟩
  · obtain ⟨⟨u, e⟩, n⟩ := r.hdn a ha
    exact ⟨⟨u, by rw [upd_ne (ne_of_none e hp)]; exact e⟩, n⟩
  · obtain ⟨u, e⟩ := r.there a (List.mem_of_getElem? hk)
    exact (r.ok k a c hk hc).mono hl (Pre.refl _) (upd_ne (ne_of_none e hp))
  · rw [hide_no (by rw [r.nolive hp]; decide), upd_same]
theorem live_app {a : Addr} {c : Cell} (r : ι.ad.length = st.length) : liveB (ι.add p) (st ++ [c]) a = (liveB ι st a || (decide (p = a) && c.live)) := by
  unfold liveB Io.add
  rw [List.zip_append r, List.any_append]
  simp
/-- a new object that may change -/
theorem RelSt.newMut {c : Cell} (r : RelSt T xp ι st H) (hp : H p = none) (hc : c.live = true) (ho : ∀ ι', Pre ι ι' → CellR T xp (hide ι st H) ι' (upd H p o) p c) :
    RelSt T xp (ι.add p) (st ++ [c]) (upd H p o) ∧ Step ι st H (ι.add p) (st ++ [c]) (upd H p o) := by
  have hpre : Pre ι (ι.add p) := ⟨fun k a e => by
    unfold Io.add
    dsimp only
    rw [List.getElem?_append_left (List.getElem?_eq_some_iff.mp e).1]
    exact e, rfl⟩
  have hl : Le (hide ι st H) (hide (ι.add p) (st ++ [c]) (upd H p o)) := fun a u h => by
    have h' := hide_sub h
    have ne : a ≠ p := ne_of_none h' hp
    have hn := hide_at h
    rw [hide_no, upd_ne ne]
    · exact h'
    · intro z
      apply hn
      unfold hidden at z ⊢
      rw [live_app r.len, decide_eq_false (Ne.symm ne), Bool.false_and, Bool.or_false] at z
      exact z
  refine ⟨⟨by simp [r.len, Io.add], ?_, fun a ha => ?_, fun a ha => ?_, fun k a d hk hd => ?_⟩, ⟨hpre, hl, fun a ha => upd_ne fun e => r.neh hp (e ▸ ha)⟩⟩
  · refine List.nodup_append.mpr ⟨r.nd, by simp, fun a ha b hb e => ?_⟩
    have : b = p := by simpa using hb
    exact r.ne hp (by rw [← this, ← e]; exact ha)
  · by_cases e : a = p
    · exact ⟨o, by rw [e, upd_same]⟩
    · have ha' : a ∈ ι.ad := by
        rcases List.mem_append.mp ha with h | h
        · exact h
        · exact absurd (by simpa using h) e
      obtain ⟨u, q⟩ := r.there a ha'
      exact ⟨u, by rw [upd_ne e]; exact q⟩
  · obtain ⟨⟨u, e⟩, n⟩ := r.hdn a ha
    have ne : a ≠ p := ne_of_none e hp
    refine ⟨⟨u, by rw [upd_ne ne]; exact e⟩, fun z => ?_⟩
    rcases List.mem_append.mp z with h | h
    · exact n h
    · exact ne (by simpa using h)
  · by_cases hlt : k < ι.ad.length
    · have hk' : ι.ad[k]? = some a := by
        unfold Io.add at hk
        dsimp only at hk
        rw [List.getElem?_append_left hlt] at hk
        exact hk
      rw [List.getElem?_append_left (by rw [← r.len]; exact hlt)] at hd
      obtain ⟨u, q⟩ := r.there a (List.mem_of_getElem? hk')
      exact (r.ok k a d hk' hd).mono hl hpre (upd_ne (ne_of_none q hp))
    · unfold Io.add at hk
      dsimp only at hk
      have hk' := (List.getElem?_eq_some_iff.mp hk).1
      rw [List.length_append, List.length_singleton] at hk'
      have ek : k = ι.ad.length := by omega
      rw [ek, List.getElem?_append_right (Nat.le_refl _)] at hk
      rw [ek, r.len, List.getElem?_append_right (Nat.le_refl _)] at hd
      have ea : p = a := by simpa using hk
      have ed : c = d := by simpa using hd
      rw [← ea, ← ed]
      exact (ho _ hpre).mono hl (Pre.refl _) rfl
theorem live_set {k : Nat} {c c' : Cell} {a : Addr} (nd : ι.ad.Nodup) (hs : st[k]? = some c) (hc : c.live = c'.live) : liveB ι (st.set k c') a = liveB ι st a := by
  have key : ∀ (x y : Store) (cx cy : Cell), x[k]? = some cx → y = x.set k cy → cx.live = cy.live → liveB ι x a = true → liveB ι y a = true := by
    intro x y cx cy hx hy hl h
    obtain ⟨j, d, h1, h2, h3⟩ := live_get h
    by_cases e : j = k
    · have : d = cx := by rw [e, hx] at h2; exact (Option.some.inj h2).symm
      refine live_at (k := j) (c := cy) h1 ?_ (by rw [← hl, ← this]; exact h3)
      rw [hy, e, List.getElem?_set_self (List.getElem?_eq_some_iff.mp hx).1]
    · refine live_at (k := j) (c := d) h1 ?_ h3
      rw [hy, List.getElem?_set_ne (Ne.symm e)]
      exact h2
  have lt := (List.getElem?_eq_some_iff.mp hs).1
  rw [Bool.eq_iff_iff]
  constructor
  · refine key (st.set k c') st c' c ?_ ?_ hc.symm
    · rw [List.getElem?_set_self lt]
    · rw [List.set_set]
      obtain ⟨_, e⟩ := List.getElem?_eq_some_iff.mp hs
      rw [← e, List.set_getElem_self]
  · exact key st (st.set k c') c c' hs rfl hc
theorem RelSt.nohd (r : RelSt T xp ι st H) {a : Addr} (h : a ∈ ι.ad) : a ∉ ι.hd := fun z => (r.hdn a z).2 h
/-- what may change is changed -/
theorem RelSt.write {k : Nat} {a : Addr} {c c' : Cell} (r : RelSt T xp ι st H) (hk : ι.ad[k]? = some a) (hs : st[k]? = some c) (hc : c.live = true) (hc' : c'.live = true) (ho : CellR T xp (hide ι st H) ι (upd H a o) a c') :
    RelSt T xp ι (st.set k c') (upd H a o) ∧ Step ι st H ι (st.set k c') (upd H a o) := by
  have ha := List.mem_of_getElem? hk
  have hl : hide ι (st.set k c') (upd H a o) = hide ι st H := by
    funext b
    unfold hide hidden
    rw [live_set r.nd hs (hc.trans hc'.symm)]
    split
    · rfl
    · rename_i hn
      refine upd_ne fun e => hn ?_
      rw [e, live_at hk hs hc]
      rfl
  have lt := (List.getElem?_eq_some_iff.mp hs).1
  refine ⟨⟨by simp [r.len], r.nd, fun b hb => ?_, fun b hb => ?_, fun j b d hj hd => ?_⟩, ⟨Pre.refl _, by rw [hl]; exact Le.refl _, fun b hb => upd_ne fun e => r.nohd ha (e ▸ hb)⟩⟩
  · by_cases e : b = a
    · exact ⟨o, by rw [e, upd_same]⟩
    · obtain ⟨u, q⟩ := r.there b hb
      exact ⟨u, by rw [upd_ne e]; exact q⟩
  · obtain ⟨⟨u, q⟩, n⟩ := r.hdn b hb
    exact ⟨⟨u, by rw [upd_ne fun e => n (by rw [e]; exact ha)]; exact q⟩, n⟩
  · rw [hl]
    by_cases e : j = k
    · subst e
      rw [List.getElem?_set_self lt] at hd
      have eb : a = b := by rw [hk] at hj; exact Option.some.inj hj
      rw [← eb, ← Option.some.inj hd]
      exact ho
    · rw [List.getElem?_set_ne (Ne.symm e)] at hd
      refine (r.ok j b d hj hd).mono (Le.refl _) (Pre.refl _) (upd_ne fun z => e ?_)
      exact nodup_at r.nd (z ▸ hj) hk
/-- what might change is handed out: it changes no more -/
theorem RelSt.freeze {k : Nat} {a : Addr} {c : Cell} (r : RelSt T xp ι st H) (hk : ι.ad[k]? = some a) (hs : st[k]? = some c) :
    RelSt T xp ι (st.set k .dead) H ∧ Step ι st H ι (st.set k .dead) H ∧ hide ι (st.set k .dead) H a = H a := by
  have lt := (List.getElem?_eq_some_iff.mp hs).1
  have nl : liveB ι (st.set k .dead) a = false := Bool.eq_false_iff.mpr fun h => by
    obtain ⟨j, d, h1, h2, h3⟩ := live_get h
    have e : j = k := nodup_at r.nd h1 hk
    rw [e, List.getElem?_set_self lt] at h2
    cases h2
    cases h3
  have hl : Le (hide ι st H) (hide ι (st.set k .dead) H) := fun b u h => by
    have hn := hide_at h
    rw [hide_no]
    · exact hide_sub h
    · intro z
      apply hn
      unfold hidden at z ⊢
      rw [Bool.or_eq_true] at z ⊢
      rcases z with z | z
      · obtain ⟨j, d, h1, h2, h3⟩ := live_get z
        by_cases e : j = k
        · rw [e, List.getElem?_set_self lt] at h2
          cases h2
          cases h3
        · rw [List.getElem?_set_ne (Ne.symm e)] at h2
          exact .inl (live_at h1 h2 h3)
      · exact .inr z
  refine ⟨⟨by simp [r.len], r.nd, r.there, r.hdn, fun j b d hj hd => ?_⟩, ⟨Pre.refl _, hl, fun _ _ => rfl⟩, ?_⟩
  · by_cases e : j = k
    · rw [e, List.getElem?_set_self lt] at hd
      cases hd
      trivial
    · rw [List.getElem?_set_ne (Ne.symm e)] at hd
      exact (r.ok j b d hj hd).mono hl (Pre.refl _) rfl
  · refine hide_no ?_
    unfold hidden
    rw [nl, Bool.false_or, decide_eq_true_eq]
    exact r.nohd (List.mem_of_getElem? hk)
/-- a cell that is told for good as something else -/
theorem RelSt.freezeW {k : Nat} {a : Addr} {c : Cell} {o : HO} (r : RelSt T xp ι st H) (hk : ι.ad[k]? = some a) (hs : st[k]? = some c) (hc : c.live = true) :
    RelSt T xp ι (st.set k .dead) (upd H a o) ∧ Step ι st H ι (st.set k .dead) (upd H a o) ∧ hide ι (st.set k .dead) (upd H a o) a = some o := by
  obtain ⟨r1, s1, e1⟩ := r.freeze hk hs
  have ha : a ∈ ι.ad := List.mem_of_getElem? hk
  have same : ∀ b, b ≠ a → hide ι (st.set k .dead) (upd H a o) b = hide ι (st.set k .dead) H b := fun b hb => by
    unfold hide
    rw [upd_ne hb]
  have vis : ¬ hidden ι (st.set k .dead) a = true := by
    obtain ⟨u, hu⟩ := r.there a ha
    exact hide_at (e1.trans hu)
  have hl : Le (hide ι st H) (hide ι (st.set k .dead) (upd H a o)) := fun b u h => by
    have hb : b ≠ a := fun z => by
      have hn := hide_at h
      apply hn
      unfold hidden
      rw [z, live_at hk hs hc]
      rfl
    rw [same b hb]
    exact s1.ex b u h
  refine ⟨⟨r1.len, r1.nd, fun b hb => ?_, fun b hb => ?_, fun j b d hj hd => ?_⟩, ⟨Pre.refl _, hl, fun b hb => ?_⟩, ?_⟩
  · by_cases e : b = a
    · exact ⟨o, by rw [e, upd_same]⟩
    · obtain ⟨u, hu⟩ := r1.there b hb
      exact ⟨u, by rw [upd_ne e]; exact hu⟩
  · obtain ⟨⟨u, hu⟩, hn⟩ := r1.hdn b hb
    have e : b ≠ a := fun z => hn (z ▸ ha)
    exact ⟨⟨u, by rw [upd_ne e]; exact hu⟩, hn⟩
  · by_cases e : j = k
    · have lt := (List.getElem?_eq_some_iff.mp hs).1
      rw [e, List.getElem?_set_self lt] at hd
      cases hd
      trivial
    · have hb : b ≠ a := fun z => e (nodup_at r.nd (by rw [hj, z]) hk)
      rw [List.getElem?_set_ne (Ne.symm e)] at hd
      exact (r.ok j b d hj hd).mono hl (Pre.refl _) (upd_ne hb)
  · exact upd_ne fun z => r.nohd ha (z ▸ hb)
  · rw [hide_no vis, upd_same]
/-- a list on its way: hidden while it is made -/
def Io.under (ι : Io) (p : Addr) : Io := ⟨ι.ad, p :: ι.hd⟩
theorem hide_under (hp : H p = none) : hide (ι.under p) st (upd H p o) = hide ι st H := by
  funext a
  unfold hide hidden
  show (if (liveB ι st a || decide (a ∈ p :: ι.hd)) = true then none else upd H p o a) = _
  by_cases e : a = p
  · subst e
    rw [if_pos (by simp), hp]
    split <;> rfl
  · rw [upd_ne e]
    simp [e]
theorem RelSt.under (r : RelSt T xp ι st H) (hp : H p = none) : RelSt T xp (ι.under p) st (upd H p o) := by
  refine ⟨r.len, r.nd, fun a ha => ?_, fun a ha => ?_, fun k a c hk hc => ?_⟩
  · obtain ⟨u, e⟩ := r.there a ha
    exact ⟨u, by rw [upd_ne (ne_of_none e hp)]; exact e⟩
  · rcases List.mem_cons.mp ha with rfl | ha
    · exact ⟨⟨o, upd_same⟩, r.ne hp⟩
    · obtain ⟨⟨u, e⟩, n⟩ := r.hdn a ha
      exact ⟨⟨u, by rw [upd_ne (ne_of_none e hp)]; exact e⟩, n⟩
  · obtain ⟨u, e⟩ := r.there a (List.mem_of_getElem? hk)
    rw [hide_under hp]
    have := r.ok k a c hk hc
    have hh : upd H p o a = H a := upd_ne (ne_of_none e hp)
    cases c with
    | lst ds =>
      obtain ⟨xs, h1, h2⟩ := this
      exact ⟨xs, hh.trans h1, RepL.re (ι := ι) (ι' := ι.under p) rfl h2⟩
    | ins c ds =>
      obtain ⟨dx, xs, h1, h2, h3⟩ := this
      exact ⟨dx, xs, hh.trans h1, h2, RepL.re (ι := ι) (ι' := ι.under p) rfl h3⟩
    | dic ks ds =>
      obtain ⟨xs, h1, h2, h3⟩ := this
      exact ⟨xs, hh.trans h1, h2, RepL.re (ι := ι) (ι' := ι.under p) rfl h3⟩
    | dead => trivial
end

/-! ### arguments, displays -/
def dNil : DA := fun _ st => .ok [] st
def dCons (a : DE) (r : DA) : DA := fun ρ st => (a ρ st).bind fun x s1 => (r ρ s1).bind fun xs s2 => .ok (x :: xs) s2
def dTup (a : DA) : DE := fun ρ st => (a ρ st).bind fun xs s1 => if xs.length ≤ 100000 then .ok (.tup xs) s1 else .bad
def dLst (a : DA) : DE := fun ρ st => (a ρ st).bind fun xs s1 => if xs.length ≤ 100000 then .ok (.lst xs) s1 else .bad
/-- a display that is changed later -/
def dNew (a : DA) : DE := fun ρ st => (a ρ st).bind fun xs s1 => if xs.length ≤ 100000 then .ok (.box s1.length) (s1 ++ [.lst xs]) else .bad
theorem line_ok {n : Nat} (h : n ≤ 100000) : n ≤ sizeLine := Nat.le_trans h (by decide)
theorem line_lt {n : Nat} (h : n < 100000) : n < sizeLine := Nat.lt_of_lt_of_le h (by decide)
section
variable {C : Ctx}
theorem pda_nil : PDA C [] dNil := PA.imp pa_nil fun σ H Q ⟨ρ, st, ι, _, rl, p⟩ => p [] ι H (Step.refl _ _ _) rl .nil
theorem pda_cons {e : Expr} {es : List Expr} {m : DE} {r : DA} (he : PD C e m) (hr : PDA C es r) (hs : starEach (e :: es) C.X.env = (false, eval e C.X.env) :: starEach es C.X.env := by rfl) : PDA C (e :: es) (dCons m r) :=
  PA.imp (pa_cons he hr hs) fun σ H Q ⟨ρ, st, ι, e, rl, p⟩ => by
    refine ⟨ρ, st, ι, e, rl, post_bind p fun d s1 v ι1 H1 st1 rl1 rv p1 => ?_⟩
    refine ⟨ρ, s1, ι1, e.step st1, rl1, post_bind p1 fun ds s2 vs ι2 H2 st2 rl2 rv2 p2 => ?_⟩
    exact p2 (v :: vs) ι2 H2 (Step.refl _ _ _) rl2 (.cons (rv.mono st2.ex st2.pre) rv2)
theorem pd_tup {es : List Expr} {m : DA} {x1 pos} (h : PDA C es m) : PD C (.Tuple es x1 pos) (dTup m) :=
  PE.imp (pe_tup h) fun σ H Q ⟨ρ, st, ι, e, rl, p⟩ => by
    refine ⟨ρ, st, ι, e, rl, post_bind p fun ds s1 vs ι1 H1 st1 rl1 rv p1 => ?_⟩
    split at p1
    · rename_i hl
      refine ⟨line_ok (by rw [rv.length]; exact hl), fun a ha => ?_⟩
      obtain ⟨r1, s1', h1⟩ := rl1.new (o := .tup vs) ha
      exact p1 _ ι1 _ s1' r1 (.tup (SqT.of h1) (rv.mono s1'.ex s1'.pre))
    · exact p1.elim
theorem pd_lst {es : List Expr} {m : DA} {pos} (h : PDA C es m) : PD C (.List es pos) (dLst m) :=
  PE.imp (pe_lst h) fun σ H Q ⟨ρ, st, ι, e, rl, p⟩ => by
    refine ⟨ρ, st, ι, e, rl, post_bind p fun ds s1 vs ι1 H1 st1 rl1 rv p1 => ?_⟩
    split at p1
    · rename_i hl
      refine ⟨line_ok (by rw [rv.length]; exact hl), fun a ha => ?_⟩
      obtain ⟨r1, s1', h1⟩ := rl1.new (o := .lst vs) ha
      exact p1 _ ι1 _ s1' r1 (.lst h1 (rv.mono s1'.ex s1'.pre))
    · exact p1.elim
theorem pd_new {es : List Expr} {m : DA} {pos} (h : PDA C es m) : PD C (.List es pos) (dNew m) :=
  PE.imp (pe_lst h) fun σ H Q ⟨ρ, st, ι, e, rl, p⟩ => by
    refine ⟨ρ, st, ι, e, rl, post_bind p fun ds s1 vs ι1 H1 st1 rl1 rv p1 => ?_⟩
    split at p1
    · rename_i hl
      refine ⟨line_ok (by rw [rv.length]; exact hl), fun a ha => ?_⟩
      obtain ⟨r1, s1'⟩ := rl1.newMut (o := .lst vs) (c := .lst ds) ha rfl fun ι' hp => ⟨vs, upd_same, rv.mono (Le.refl _) hp⟩
      refine p1 _ _ _ s1' r1 (.box ?_)
      rw [← rl1.len]
      exact Io.add_at _ _
    · exact p1.elim
end
end Den

set_option maxRecDepth 100000
set_option maxHeartbeats 4000000
/-! Den, the calls: a def's promise where no repr runs around it (the guards are told). -/
namespace Den
open PySem PySem.Spec PyProof.Rows L2

structure RoomG (k : Nat) (A : Around) : Prop where
  room : Room k A
  gd : A.guards = some []
theorem RoomG.mono {j k : Nat} {A : Around} (r : RoomG k A) (h : j ≤ k) : RoomG j A := ⟨r.room.mono h, r.gd⟩
theorem RoomG.deeper {k : Nat} {A : Around} (r : RoomG (k + 1) A) (env : Env) : RoomG k (A.deeper env) := ⟨r.room.deeper env, r.gd⟩
theorem make_guards {A : Around} {C : Addr} {us : List Value} {kw : List (Str × Value)} : (A.under (.builtin "type.__call__" ⟨.ref C :: us, kw⟩)).guards = A.guards := by
  have h : (Code.builtin "type.__call__" ⟨.ref C :: us, kw⟩).guards = [] := by
    unfold Code.guards
    rw [if_neg]
    simp [Code.isGuard, guardIds]
  show pushGuards (Code.guards (.builtin "type.__call__" ⟨.ref C :: us, kw⟩)) A.guards = A.guards
  rw [h]
  cases A.guards <;> rfl
theorem RoomG.make {k : Nat} {A : Around} (r : RoomG (k + 1) A) (C : Addr) (us : List Value) (kw : List (Str × Value)) : RoomG k (A.under (.builtin "type.__call__" ⟨.ref C :: us, kw⟩)) := ⟨r.room.make C us kw, make_guards.trans r.gd⟩

structure FnG (P : Program) (w : World) (K : PySem.W.Frag) (mg : Str → Option Value) (base : Heap) (k : Nat) (f : Addr) (fd : FuncData) (ps : List Str) (sp : Sp) : Prop where
  len : ∀ vs H Q E, sp vs H Q E → vs.length = ps.length
  run : ∀ (A : Around) (outer : List Env) (s : Shared) (H : Hp) (args : Args) (us : List Value) (vs : List V) (Q : VK) (E : XK), RoomG k A → Env0 P w K mg base A outer s H → BindsTo s fd args (ps.zip us) →
    Vals vs us → sp vs H Q E → codeAny (model P w) A (.call (.ref f) args) (CR (L2N.CX P w) outer P w H s Q E) s

theorem FnG.mono {P : Program} {w : World} {K : PySem.W.Frag} {mg : Str → Option Value} {base : Heap} {j k : Nat} {f : Addr} {fd : FuncData} {ps : List Str} {sp : Sp} (F : FnG P w K mg base j f fd ps sp) (h : j ≤ k) : FnG P w K mg base k f fd ps sp :=
  ⟨F.len, fun A outer s H args us vs Q E hr => F.run A outer s H args us vs Q E (hr.mono h)⟩

section
variable {X : Cx} {k : Nat} {f C : Addr} {fd : FuncData} {ps : List Str} {sp : Sp} {pins : List (Addr × Obj)} {σ : L2.St} {H : Hp} {s : Shared} {Q : VK} {E : XK} {W : WX}
def Ended (X : Cx) (pins : List (Addr × Obj)) (σ : L2.St) (Q : VK) (r : Result) (s' : Shared) : Prop := match r with
  | .ok (.ret u) => EP X pins σ Q u s'
  | .ok _ => False
  | .error e => X.xe e s'
/-- behind a call, whichever way it ends -/
theorem ends_of {r : Result} {s' : Shared} (I : Inv X pins σ H s) (tk : L2N.Takes X W) (hW : ∀ cls d H', E cls d H' → W cls d σ H') (q : CR (L2N.CX X.prog X.w) X.stack X.prog X.w H s Q E r s') :
    Ended X pins σ Q r s' := by
  match r, q with
  | .error e, q => exact tk e s' (L2N.XE.of_call I hW q)
  | .ok (.ret u), q => exact I.after q
  | .ok .next, q => exact q
  | .ok .brk, q => exact q
  | .ok .cont, q => exact q
theorem run_fnG {us us' : List Value} {vs : List V} (F : FnG X.prog X.w X.K X.mg X.base k f fd ps sp) (hr : RoomG k X.A) (tk : L2N.Takes X W) (hW : ∀ cls d H', E cls d H' → W cls d σ H')
    (I : Inv X pins σ H s) (hb : BindsTo s fd ⟨us, []⟩ (ps.zip us')) (r : Vals vs us') (h : sp vs H Q E) : wpAny (model X.prog X.w) X.A (call (.ref f) us) (EP X pins σ Q) X.xe s := by
  have z := F.run X.A X.stack s H ⟨us, []⟩ us' vs Q E hr I.env0 hb r h
  refine wpAny_call (codeAny_mono z fun res s' q => ?_)
  have e : Ended X pins σ Q res s' := ends_of I tk hW q
  clear q
  match res, e with
  | .error e', q' => exact q'
  | .ok (.ret u), q' => exact q'
  | .ok .next, q' => exact False.elim q'
  | .ok .brk, q' => exact False.elim q'
  | .ok .cont, q' => exact False.elim q'
/-- C(..) by C's __init__ -/
theorem run_makeG {us us' : List Value} {vs : List V} (M : Mk X.K C f) (F : FnG X.prog X.w X.K X.mg X.base k f fd ps sp) (hr : RoomG (k + 1) X.A) (tk : L2N.Takes X W) (hW : ∀ cls d H', E cls d H' → W cls d σ H')
    (I : Inv X pins σ H s) (hb : ∀ s' x, X.K.In s'.heap → BindsTo s' fd ⟨.ref x :: us, []⟩ (ps.zip (.ref x :: us'))) (r : Vals vs us')
    (h : ∀ x dx, H x = none → H dx = none → dx ≠ x → sp (.ref x :: vs) (upd (upd H dx (.own x)) x (.ins C dx [])) (fun v H2 => v = .non ∧ Q (.ref x) H2) E) :
    wpAny (model X.prog X.w) X.A (call (.ref C) us) (EP X pins σ Q) X.xe s := by
  have n0 : H s.heap.objs.size = none := I.hok.fresh (Nat.le_refl _)
  have n1 : H (s.heap.objs.size + 1) = none := I.hok.fresh (Nat.le_succ _)
  have hq := h (s.heap.objs.size + 1) s.heap.objs.size n1 n0 (Nat.ne_of_lt (Nat.lt_succ_self _))
  have I2 := Inv.made (C := C) I
  have rr : Vals (V.ref (s.heap.objs.size + 1) :: vs) (Value.ref (s.heap.objs.size + 1) :: us') := .cons rfl r
  have run := F.run _ X.stack _ _ ⟨Value.ref (s.heap.objs.size + 1) :: us, []⟩ _ _ _ E (hr.make C us []) (I2.env0.make C us []) (hb _ (s.heap.objs.size + 1) I2.kIn) rr hq
  refine wpAny_call (make_map (f := f) I.kIn M.makes M.init (beq_iff_eq.mp M.fn) (codeAny_mono run fun res s' q => ?_))
  have e : Ended X pins σ (fun v H2 => v = .non ∧ Q (.ref (s.heap.objs.size + 1)) H2) res s' := ends_of I2 tk (E := E) hW q
  clear q
  match res, e with
  | .error e', q' => exact q'
  | .ok (.ret u), ⟨v, H', I3, rv, ev, q3⟩ =>
    subst ev
    exact ⟨rv, ⟨V.ref (s.heap.objs.size + 1), H', I3, rfl, q3⟩⟩
  | .ok .next, q' => exact False.elim q'
  | .ok .brk, q' => exact False.elim q'
  | .ok .cont, q' => exact False.elim q'
end

/-! ### a def by its body -/
section
variable {P : Program} {w : World} {K : PySem.W.Frag} {mg : Str → Option Value} {base : Heap}
theorem fnG_of {x qual : Str} {st : Stmt} {f : Addr} {fd : FuncData} {N ps : List Str} {k : Nat} {sp : Sp} (F : Fun K x qual st f fd) (S : FnScope N ps (defScope st)) (len : ∀ vs H Q E, sp vs H Q E → vs.length = ps.length)
    (hbody : ∀ (cdv : Value) (A : Around) (outer : List Env) (s : Shared) (H : Hp) (vs : List V) (Q : VK) (E : XK), RoomG k (A.deeper (envOfC qual (defScope st) s.heap.objs.size f cdv)) → sp vs H Q E →
      ∃ t, PSs (cxOf (L2N.CX P w) P w K mg base N qual (defScope st) f cdv A outer s H E) (defBody st) t ∧ t { nx := fun _ H' => Q .non H', rt := Q } (start N vs) H) :
    FnG P w K mg base (k + 1) f fd ps sp := by
  obtain ⟨oc, od, kV, doc, pm, an, cdv, ct, osl, efd, lk, hcd⟩ := F.ex
  subst efd
  refine ⟨len, fun A outer s H args us vs Q E hr e0 hb r hsp => ?_⟩
  have hl := len _ _ _ _ hsp
  have kin : K.In s.heap := e0.mod.kin.keeps fun b o q => (e0.bs b o q).1
  have nol : s.heap.NoLimit := e0.mod.nolimit.keeps fun b o q => (e0.bs b o q).1
  refine codeAny_call_function hr.room.depth (kin _ _ lk) rfl S.co S.gen rfl (PySem.W.codeRec_of kin hcd) (hb _ _ _ _ ?_)
  refine wpAny_newFunctionEnv_cells S.kind (fun y hy => ?_) fun env he s1 x => ?_
  · obtain ⟨n, v⟩ := y
    refine (S.par n (List.of_mem_zip hy).1).elim .inl fun q => .inr ⟨q, ?_⟩
    exact PySem.W.cellsFrom_some _ _ _ (.inl q)
  · subst he
    refine ⟨nol.keeps x.toInCall.keep, codeAny_func ?_⟩
    obtain ⟨t, ht, hq⟩ := hbody cdv A outer s H vs Q E (hr.deeper _) hsp
    have I := inv_start (CX := L2N.CX P w) (E := E) S hr.room.hd e0 hl r x
    refine wpAny_mono (ht.run [] s1 (start N vs) H _ I hq) (fun fl s' hs => ?_) fun e s' hs => hs
    match fl, hs with
    | .ret u, ⟨v, σ', H', J, rv, q⟩ => exact ⟨v, H', J.os, J.bare, J.base, J.hok, rv, q⟩
    | .next, ⟨σ', H', J, q⟩ => exact ⟨V.non, H', J.os, J.bare, J.base, J.hok, rfl, q⟩
    | .brk, ⟨_, _, _, q⟩ => exact q.elim
    | .cont, ⟨_, _, _, q⟩ => exact q.elim
end
end Den

set_option maxRecDepth 100000
set_option maxHeartbeats 4000000
/-! Den: defs called, instances made, methods called. -/
namespace Den
open PySem PySem.Spec L2

/-- a def that is worth m: its arguments as data, the store ahead; the answer, the store behind -/
abbrev DF := List D → Store → Res D
def spM (T : Txt) (n : Nat) (m : DF) : Sp := fun vs H Q E => vs.length = n ∧ ∃ xp ds st ι, RepL T xp (hide ι st H) ι vs ds ∧ RelSt T xp ι st H ∧ Post T xp (fun c d H => E c d H) ι st H (Rep T xp) Q (m ds st)

/-- how a call binds, at the data -/
def Bd (T : Txt) (fd : FuncData) (ps : List Str) (n : Nat) (ks : List Str) (gD : List D → List D → List D) : Prop := ∃ g gV, KBn T.K fd ps n ks g gV ∧
  (∀ vs zs, vs.length = n → zs.length = ks.length → (gV vs zs).length = ps.length) ∧
  ∀ xp G ι vs ds zs es, RepL T xp G ι vs ds → RepL T xp G ι zs es → RepL T xp G ι (gV vs zs) (gD ds es)

def dCall (n m : Nat) (gD : List D → List D → List D) (f : DF) (a k : DA) : DE := fun ρ st => (a ρ st).bind fun ds s1 => (k ρ s1).bind fun es s2 => if ds.length = n ∧ es.length = m then f (gD ds es) s2 else .bad
/-- an instance that changes later -/
def dMakeM (c n m : Nat) (gD : List D → List D → List D) (f : DF) (a k : DA) : DE := fun ρ st => (a ρ st).bind fun ds s1 => (k ρ s1).bind fun es s2 => if ds.length = n ∧ es.length = m then
  (f (gD (.box s2.length :: ds) es) (s2 ++ [.ins c []])).bind fun r s3 => match r with
    | .non => .ok (.box s2.length) s3
    | _ => .bad
  else .bad
/-- what might change changes no more -/
def frzAt (k : Nat) : Store → Res D := fun st => match st[k]? with
  | some (.ins c xs) => .ok (.ins c xs) (st.set k .dead)
  | some (.lst xs) => .ok (.lst xs) (st.set k .dead)
  | _ => .bad
def dFrz (a : DE) : DE := fun ρ st => (a ρ st).bind fun d s1 => match d with
  | .box k => frzAt k s1
  | _ => .bad
/-- an instance that is as __init__ leaves it, for good -/
def dMake (c n m : Nat) (gD : List D → List D → List D) (f : DF) (a k : DA) : DE := dFrz (dMakeM c n m gD f a k)

section
variable {C : Ctx}
abbrev PDK (C : Ctx) (kws : List Keyword) (m : DA) : Prop := PK C.X kws (tDA C.T C.xp C.W m)
theorem PK.imp {X : Cx} {e : List Keyword} {t t' : TA} (h : PK X e t) (i : ∀ σ H Q, t' σ H Q → t σ H Q) : PK X e t' := ⟨fun p pins s σ H Q I q => h.run p pins s σ H Q I (i σ H Q q)⟩
theorem pdk_nil : PDK C [] dNil := PK.imp pk_nil fun σ H Q ⟨ρ, st, ι, _, rl, p⟩ => p [] ι H (Step.refl _ _ _) rl .nil
theorem pdk_cons {e : Expr} {es : List Keyword} {nm : Option Str} {kpos : Pos} {m : DE} {r : DA} (he : PD C e m) (hr : PDK C es r) : PDK C (⟨nm, e, kpos⟩ :: es) (dCons m r) :=
  PK.imp (pk_cons he hr) fun σ H Q ⟨ρ, st, ι, e, rl, p⟩ => by
    refine ⟨ρ, st, ι, e, rl, post_bind p fun d s1 v ι1 H1 st1 rl1 rv p1 => ?_⟩
    refine ⟨ρ, s1, ι1, e.step st1, rl1, post_bind p1 fun ds s2 vs ι2 H2 st2 rl2 rv2 p2 => ?_⟩
    exact p2 (v :: vs) ι2 H2 (Step.refl _ _ _) rl2 (.cons (rv.mono st2.ex st2.pre) rv2)

/-- the arguments of a call, then the call: the function value fv is one that stays -/
theorem args_call {pos : Pos} {pins : List (Addr × Obj)} {s : Shared} {σ : L2.St} {H : Hp} {fv : Value} {first : List Value} {e : Expr} {es : List Expr} {kws : List Keyword} {ks : List Str} {ma mk : DA} {Q : Value → Shared → Prop} (ha : PDA C (e :: es) ma) (hkw : PDK C kws mk)
    (I : Inv C.X pins σ H s) (hk : PySem.W.keepIn C.X.K fv = true) (h : tDA C.T C.xp C.W ma σ H fun vs H1 => tDA C.T C.xp C.W mk σ H1 fun zs H2 => ∀ us ws s2, Inv C.X pins σ H2 s2 → Vals vs us → Vals zs ws → wpAny (model C.X.prog C.X.w) C.X.A (call fv (first ++ us) (ks.zip ws)) Q C.X.xe s2)
    (hall : (backToKw pos (keywordEach kws C.X.env)).all (·.1.isSome) = true) (hks : (backToKw pos (keywordEach kws C.X.env)).filterMap (·.1) = ks) (he : starEach (e :: es) C.X.env = (false, eval e C.X.env) :: starEach es C.X.env)
    (hpl : ((backTo pos (starEach (e :: es) C.X.env)).any (·.1) || (backToKw pos (keywordEach kws C.X.env)).any (·.1.isNone)) = false) :
    wpAny (model C.X.prog C.X.w) C.X.A (callWith pos fv first (backTo pos (starEach (e :: es) C.X.env)) (backToKw pos (keywordEach kws C.X.env))) Q C.X.xe s := by
  refine PySem.W.callWith_KW (h₀ := C.X.base) I.ok.mod.kin hk hall (thn (ha.run pos pins s σ H _ I h) fun us s1 ⟨vs, H1, I1, r, q⟩ => ?_) hpl he
  refine thn (hkw.run pos pins s1 σ H1 _ I1 q) fun ws s2 ⟨zs, H2, I2, rz, q2⟩ => ⟨I2.kIn, ?_⟩
  rw [hks]
  exact q2 us ws s2 I2 r rz
theorem args_call0 {pos : Pos} {pins : List (Addr × Obj)} {s : Shared} {σ : L2.St} {H : Hp} {fv : Value} {first : List Value} {kws : List Keyword} {ks : List Str} {mk : DA} {Q : Value → Shared → Prop} (hkw : PDK C kws mk)
    (I : Inv C.X pins σ H s) (hk : PySem.W.keepIn C.X.K fv = true) (h : tDA C.T C.xp C.W mk σ H fun zs H2 => ∀ ws s2, Inv C.X pins σ H2 s2 → Vals zs ws → wpAny (model C.X.prog C.X.w) C.X.A (call fv (first ++ []) (ks.zip ws)) Q C.X.xe s2)
    (hall : (backToKw pos (keywordEach kws C.X.env)).all (·.1.isSome) = true) (hks : (backToKw pos (keywordEach kws C.X.env)).filterMap (·.1) = ks)
    (hpl : ((backTo pos (starEach [] C.X.env)).any (·.1) || (backToKw pos (keywordEach kws C.X.env)).any (·.1.isNone)) = false) :
    wpAny (model C.X.prog C.X.w) C.X.A (callWith pos fv first (backTo pos (starEach [] C.X.env)) (backToKw pos (keywordEach kws C.X.env))) Q C.X.xe s := by
  refine PySem.W.callWith_KW0 (h₀ := C.X.base) I.ok.mod.kin hk hall ?_ hpl
  refine thn (hkw.run pos pins s σ H _ I h) fun ws s2 ⟨zs, H2, I2, rz, q2⟩ => ⟨I2.kIn, ?_⟩
  rw [hks]
  exact q2 ws s2 I2 rz

variable {f : Addr} {fd : FuncData} {ps ks : List Str} {k n : Nat} {gD : List D → List D → List D} {m : DF} {x : Str} {p pos : Pos} {e : Expr} {es : List Expr} {kws : List Keyword} {ma mk : DA}
abbrev FnD (C : Ctx) (k : Nat) (f : Addr) (fd : FuncData) (ps : List Str) (m : DF) : Prop := FnG C.X.prog C.X.w C.X.K C.X.mg C.X.base k f fd ps (spM C.T ps.length m)

/-- the callee, its arguments known -/
theorem call_den {pins : List (Addr × Obj)} {s : Shared} {σ : L2.St} {H : Hp} {us ws : List Value} {vs zs : List V} {ds es : List D} {st : Store} {ι : Io} {Q : VK} (F : FnD C k f fd ps m) (hr : RoomG k C.X.A) (tk : L2N.Takes C.X C.W) (hb : Bd C.T fd ps n ks gD)
    (I : Inv C.X pins σ H s) (r : Vals vs us) (rz : Vals zs ws) (l1 : vs.length = n) (l2 : zs.length = ks.length) (rd : RepL C.T C.xp (hide ι st H) ι vs ds) (re : RepL C.T C.xp (hide ι st H) ι zs es) (rl : RelSt C.T C.xp ι st H)
    (h : Post C.T C.xp (fun c d H => C.W c d σ H) ι st H (Rep C.T C.xp) Q (m (gD ds es) st)) : wpAny (model C.X.prog C.X.w) C.X.A (call (.ref f) us (ks.zip ws)) (EP C.X pins σ Q) C.X.xe s := by
  obtain ⟨g, gV, b, bl, bD⟩ := hb
  have z := F.run C.X.A C.X.stack s H ⟨us, ks.zip ws⟩ (g us ws) (gV vs zs) Q (fun c d H' => C.W c d σ H') hr I.env0 (b.to s us ws (by rw [← C.hK]; exact I.kIn) (r.length.symm.trans l1) (rz.length.symm.trans l2)) (b.rel r rz)
    ⟨bl vs zs l1 l2, C.xp, gD ds es, st, ι, bD _ _ _ _ _ _ _ rd re, rl, h⟩
  refine wpAny_call (codeAny_mono z fun res s' q => ?_)
  have e : Ended C.X pins σ Q res s' := ends_of I tk (fun _ _ _ h => h) q
  clear q
  match res, e with
  | .error e', q' => exact q'
  | .ok (.ret u), q' => exact q'
  | .ok .next, q' => exact False.elim q'
  | .ok .brk, q' => exact False.elim q'
  | .ok .cont, q' => exact False.elim q'
theorem pd_call (F : FnD C k f fd ps m) (hr : RoomG k C.X.A) (tk : L2N.Takes C.X C.W) (hb : Bd C.T fd ps n ks gD) (hg : Gl C.X x) (hm : C.X.mg x = some (.ref f)) (hk : PySem.W.keepIn C.X.K (.ref f) = true) (ha : PDA C (e :: es) ma) (hkw : PDK C kws mk)
    (hall : (backToKw pos (keywordEach kws C.X.env)).all (·.1.isSome) = true := by rfl) (hks : (backToKw pos (keywordEach kws C.X.env)).filterMap (·.1) = ks := by rfl) (hdb : (x == ("__debug__" : Str)) = false := by decide)
    (he : starEach (e :: es) C.X.env = (false, eval e C.X.env) :: starEach es C.X.env := by rfl) (hpl : ((backTo pos (starEach (e :: es) C.X.env)).any (·.1) || (backToKw pos (keywordEach kws C.X.env)).any (·.1.isNone)) = false := by rfl) :
    PD C (.Call (.Name x p) (e :: es) kws pos) (dCall n ks.length gD m ma mk) := by
  refine ⟨fun pins s σ H Q I ⟨ρ, st, ι, er, rl, h⟩ => ?_⟩
  refine wpAny_Call_Name_kw (ld_glob I hg hm ?_ hdb)
  refine args_call (ks := ks) ha hkw I hk ⟨ρ, st, ι, er, rl, post_bind h fun ds s1 vs ι1 H1 st1 rl1 rv p1 => ⟨ρ, s1, ι1, er.step st1, rl1, post_bind p1 fun es s2 zs ι2 H2 st2 rl2 rv2 p2 => ?_⟩⟩ hall hks he hpl
  intro us ws s3 I3 r rz
  split at p2
  · rename_i hl
    exact call_den F hr tk hb I3 r rz (rv.length.trans hl.1) (rv2.length.trans hl.2) (rv.mono st2.ex st2.pre) rv2 rl2 p2
  · exact p2.elim
theorem pd_call0 (F : FnD C k f fd ps m) (hr : RoomG k C.X.A) (tk : L2N.Takes C.X C.W) (hb : Bd C.T fd ps 0 ks gD) (hg : Gl C.X x) (hm : C.X.mg x = some (.ref f)) (hk : PySem.W.keepIn C.X.K (.ref f) = true) (hkw : PDK C kws mk)
    (hall : (backToKw pos (keywordEach kws C.X.env)).all (·.1.isSome) = true := by rfl) (hks : (backToKw pos (keywordEach kws C.X.env)).filterMap (·.1) = ks := by rfl) (hdb : (x == ("__debug__" : Str)) = false := by decide)
    (hpl : ((backTo pos (starEach [] C.X.env)).any (·.1) || (backToKw pos (keywordEach kws C.X.env)).any (·.1.isNone)) = false := by rfl) :
    PD C (.Call (.Name x p) [] kws pos) (dCall 0 ks.length gD m dNil mk) := by
  refine ⟨fun pins s σ H Q I ⟨ρ, st, ι, er, rl, h⟩ => ?_⟩
  refine wpAny_Call_Name_kw (ld_glob I hg hm ?_ hdb)
  refine args_call0 (ks := ks) hkw I hk ⟨ρ, st, ι, er, rl, post_bind (k := fun es s2 => if ([] : List D).length = 0 ∧ es.length = ks.length then m (gD [] es) s2 else .bad) h fun es s2 zs ι2 H2 st2 rl2 rv2 p2 => ?_⟩ hall hks hpl
  intro ws s3 I3 rz
  split at p2
  · rename_i hl
    exact call_den (vs := []) F hr tk hb I3 .nil rz rfl (rv2.length.trans hl.2) .nil rv2 rl2 p2
  · exact p2.elim

/-! ### instances -/
theorem frz_den {xp : XT} {T : Txt} {W : Value → Option Addr → Hp → Prop} {ι : Io} {st : Store} {H : Hp} {i : Nat} {a : Addr} {Q : VK} (rl : RelSt T xp ι st H) (hi : ι.ad[i]? = some a) (h : Post T xp W ι st H (Rep T xp) Q (frzAt i st)) : Q (.ref a) H := by
  unfold frzAt at h
  split at h
  · rename_i c xs hs
    obtain ⟨dx, ys, h1, h2, h3⟩ := rl.ok i a _ hi hs
    obtain ⟨r, s, e⟩ := rl.freeze hi hs
    exact h _ ι H s r (.ins (e.trans h1) h2 (h3.mono s.ex s.pre))
  · rename_i xs hs
    obtain ⟨ys, h1, h3⟩ := rl.ok i a _ hi hs
    obtain ⟨r, s, e⟩ := rl.freeze hi hs
    exact h _ ι H s r (.lst (e.trans h1) (h3.mono s.ex s.pre))
  · exact h.elim
theorem pd_frz {e : Expr} {me : DE} (h : PD C e me) : PD C e (dFrz me) := PE.imp h fun σ H Q ⟨ρ, st, ι, er, rl, p⟩ => by
  refine ⟨ρ, st, ι, er, rl, post_bind p fun d s1 v ι1 H1 st1 rl1 rv p1 => ?_⟩
  cases rv with
  | box hk => exact frz_den rl1 hk p1
  | _ => exact p1.elim
theorem make_den {c : Nat} {pins : List (Addr × Obj)} {s : Shared} {σ : L2.St} {H : Hp} {us ws : List Value} {vs zs : List V} {ds es : List D} {st : Store} {ι : Io} {Q : VK} (M : Mk C.X.K (C.T.ca c) f) (F : FnD C k f fd ps m) (hr : RoomG (k + 1) C.X.A) (tk : L2N.Takes C.X C.W)
    (hb : Bd C.T fd ps (n + 1) ks gD) (I : Inv C.X pins σ H s) (r : Vals vs us) (rz : Vals zs ws) (l1 : vs.length = n) (l2 : zs.length = ks.length) (rd : RepL C.T C.xp (hide ι st H) ι vs ds) (re : RepL C.T C.xp (hide ι st H) ι zs es) (rl : RelSt C.T C.xp ι st H)
    (h : Post C.T C.xp (fun c d H => C.W c d σ H) ι st H (Rep C.T C.xp) Q ((m (gD (.box st.length :: ds) es) (st ++ [.ins c []])).bind fun r s3 => match r with
      | .non => .ok (.box st.length) s3
      | _ => .bad)) : wpAny (model C.X.prog C.X.w) C.X.A (call (.ref (C.T.ca c)) us (ks.zip ws)) (EP C.X pins σ Q) C.X.xe s := by
  obtain ⟨g, gV, b, bl, bD⟩ := hb
  have n0 : H s.heap.objs.size = none := I.hok.fresh (Nat.le_refl _)
  have n1 : H (s.heap.objs.size + 1) = none := I.hok.fresh (Nat.le_succ _)
  have ne : s.heap.objs.size + 1 ≠ s.heap.objs.size := Nat.succ_ne_self _
  obtain ⟨ra, sa, _⟩ := rl.new (o := .own (s.heap.objs.size + 1)) n0
  obtain ⟨rb, sb⟩ := ra.newMut (p := s.heap.objs.size + 1) (o := .ins (C.T.ca c) s.heap.objs.size []) (c := .ins c []) (by rw [upd_ne ne]; exact n1) rfl fun ι' _ => ⟨s.heap.objs.size, [], by rw [upd_same]; simp, Nat.zero_le _, .nil⟩
  have sab := sa.trans sb
  have I2 := Inv.made (C := C.T.ca c) I
  have r1 : Vals (V.ref (s.heap.objs.size + 1) :: vs) (Value.ref (s.heap.objs.size + 1) :: us) := .cons rfl r
  have e1 : (Value.ref (s.heap.objs.size + 1) :: us).length = n + 1 := r1.length.symm.trans (congrArg Nat.succ l1)
  have rself : Rep C.T C.xp (hide (ι.add (s.heap.objs.size + 1)) (st ++ [.ins c []]) (upd (upd H s.heap.objs.size (.own (s.heap.objs.size + 1))) (s.heap.objs.size + 1) (.ins (C.T.ca c) s.heap.objs.size []))) (ι.add (s.heap.objs.size + 1)) (.ref (s.heap.objs.size + 1)) (.box st.length) := by
    refine .box ?_
    rw [← rl.len]
    exact Io.add_at _ _
  have hp := post_bind (R := Rep C.T C.xp) (Q := fun v H2 => v = V.non ∧ Q (.ref (s.heap.objs.size + 1)) H2) (Post.step h sab) fun d s1 v ι1 H1 st1 rl1 rv p1 => by
    cases rv with
    | non =>
      refine ⟨rfl, ?_⟩
      refine p1 _ ι1 H1 (Step.refl _ _ _) rl1 (.box (st1.pre.ad _ _ ?_))
      rw [← rl.len]
      exact Io.add_at _ _
    | _ => exact p1.elim
  have z := F.run _ C.X.stack _ _ ⟨Value.ref (s.heap.objs.size + 1) :: us, ks.zip ws⟩ _ _ _ (fun c d H' => C.W c d σ H') (hr.make (C.T.ca c) us (ks.zip ws)) (I2.env0.make (C.T.ca c) us (ks.zip ws))
    (b.to _ (Value.ref (s.heap.objs.size + 1) :: us) ws (by rw [← C.hK]; exact I2.kIn) e1 (rz.length.symm.trans l2)) (b.rel r1 rz)
    ⟨bl _ _ (congrArg Nat.succ l1) l2, C.xp, _, _, _, bD _ _ _ _ _ _ _ (.cons rself (rd.mono sab.ex sab.pre)) (re.mono sab.ex sab.pre), rb, hp⟩
  refine wpAny_call (make_map (f := f) I.kIn M.makes M.init (beq_iff_eq.mp M.fn) (codeAny_mono z fun res s' q => ?_))
  have e : Ended C.X pins σ (fun v H2 => v = .non ∧ Q (.ref (s.heap.objs.size + 1)) H2) res s' := ends_of I2 tk (fun _ _ _ h => h) q
  clear q
  match res, e with
  | .error e', q' => exact q'
  | .ok (.ret u), ⟨v, H', I3, rv, ev, q3⟩ =>
    subst ev
    exact ⟨rv, ⟨V.ref (s.heap.objs.size + 1), H', I3, rfl, q3⟩⟩
  | .ok .next, q' => exact False.elim q'
  | .ok .brk, q' => exact False.elim q'
  | .ok .cont, q' => exact False.elim q'
theorem pd_makeM {c : Nat} (M : Mk C.X.K (C.T.ca c) f) (F : FnD C k f fd ps m) (hr : RoomG (k + 1) C.X.A) (tk : L2N.Takes C.X C.W) (hb : Bd C.T fd ps (n + 1) ks gD) (hg : Gl C.X x) (hm : C.X.mg x = some (.ref (C.T.ca c))) (ha : PDA C (e :: es) ma) (hkw : PDK C kws mk)
    (hall : (backToKw pos (keywordEach kws C.X.env)).all (·.1.isSome) = true := by rfl) (hks : (backToKw pos (keywordEach kws C.X.env)).filterMap (·.1) = ks := by rfl) (hdb : (x == ("__debug__" : Str)) = false := by decide)
    (he : starEach (e :: es) C.X.env = (false, eval e C.X.env) :: starEach es C.X.env := by rfl) (hpl : ((backTo pos (starEach (e :: es) C.X.env)).any (·.1) || (backToKw pos (keywordEach kws C.X.env)).any (·.1.isNone)) = false := by rfl) :
    PD C (.Call (.Name x p) (e :: es) kws pos) (dMakeM c n ks.length gD m ma mk) := by
  refine ⟨fun pins s σ H Q I ⟨ρ, st, ι, er, rl, h⟩ => ?_⟩
  refine wpAny_Call_Name_kw (ld_glob I hg hm ?_ hdb)
  refine args_call (ks := ks) ha hkw I M.kp ⟨ρ, st, ι, er, rl, post_bind h fun ds s1 vs ι1 H1 st1 rl1 rv p1 => ⟨ρ, s1, ι1, er.step st1, rl1, post_bind p1 fun es s2 zs ι2 H2 st2 rl2 rv2 p2 => ?_⟩⟩ hall hks he hpl
  intro us ws s3 I3 r rz
  split at p2
  · rename_i hl
    exact make_den M F hr tk hb I3 r rz (rv.length.trans hl.1) (rv2.length.trans hl.2) (rv.mono st2.ex st2.pre) rv2 rl2 p2
  · exact p2.elim
def mkBody (c j : Nat) (gD : List D → List D → List D) (m : DF) (es : List D) (s2 : Store) : Res D := if ([] : List D).length = 0 ∧ es.length = j then
    (m (gD (.box s2.length :: []) es) (s2 ++ [.ins c []])).bind fun r s3 => match r with
      | .non => .ok (.box s2.length) s3
      | _ => .bad else .bad
theorem pd_makeM0 {c : Nat} (M : Mk C.X.K (C.T.ca c) f) (F : FnD C k f fd ps m) (hr : RoomG (k + 1) C.X.A) (tk : L2N.Takes C.X C.W) (hb : Bd C.T fd ps 1 ks gD) (hg : Gl C.X x) (hm : C.X.mg x = some (.ref (C.T.ca c))) (hkw : PDK C kws mk)
    (hall : (backToKw pos (keywordEach kws C.X.env)).all (·.1.isSome) = true := by rfl) (hks : (backToKw pos (keywordEach kws C.X.env)).filterMap (·.1) = ks := by rfl) (hdb : (x == ("__debug__" : Str)) = false := by decide)
    (hpl : ((backTo pos (starEach [] C.X.env)).any (·.1) || (backToKw pos (keywordEach kws C.X.env)).any (·.1.isNone)) = false := by rfl) :
    PD C (.Call (.Name x p) [] kws pos) (dMakeM c 0 ks.length gD m dNil mk) := by
  refine ⟨fun pins s σ H Q I ⟨ρ, st, ι, er, rl, h⟩ => ?_⟩
  refine wpAny_Call_Name_kw (ld_glob I hg hm ?_ hdb)
  have h' : Post C.T C.xp (fun c d H => C.W c d σ H) ι st H (Rep C.T C.xp) Q ((mk ρ st).bind fun es s2 => mkBody c ks.length gD m es s2) := h
  refine args_call0 (ks := ks) hkw I M.kp ⟨ρ, st, ι, er, rl, post_bind h' fun es s2 zs ι2 H2 st2 rl2 rv2 p2 => ?_⟩ hall hks hpl
  unfold mkBody at p2
  intro ws s3 I3 rz
  split at p2
  · rename_i hl
    exact make_den (n := 0) (vs := []) M F hr tk hb I3 .nil rz rfl (rv2.length.trans hl.2) .nil rv2 rl2 p2
  · exact p2.elim

/-! ### a def's promise from its body -/
end
end Den

set_option maxRecDepth 100000
set_option maxHeartbeats 4000000
/-! Den: attributes and methods of instances, statements, blocks. -/
namespace Den
open PySem PySem.Spec L2

/-! ### names beside values -/
theorem lookup_zip {α : Type} {f : Str} : ∀ {ns : List Str} {xs : List α} {i : Nat}, ns.Nodup → ns[i]? = some f → (ns.zip xs).lookup f = xs[i]?
  | [], _, _, _, h => by simp at h
  | _ :: _, [], _, _, _ => by simp
  | n :: ns, x :: xs, 0, _, h => by
    simp at h
    subst h
    simp [List.lookup]
  | n :: ns, x :: xs, i + 1, nd, h => by
    have h' : ns[i]? = some f := by simpa using h
    have ne : (f == n) = false := beq_eq_false_iff_ne.mpr fun e => (List.nodup_cons.mp nd).1 (e ▸ List.mem_of_getElem? h')
    show List.lookup f ((n, x) :: ns.zip xs) = _
    simp only [List.lookup, ne]
    rw [lookup_zip (List.nodup_cons.mp nd).2 h']
    simp
theorem lookup_zip_no {α : Type} {f : Str} : ∀ {ns : List Str} {xs : List α}, f ∉ ns → (ns.zip xs).lookup f = none
  | [], _, _ => by simp
  | _ :: _, [], _ => by simp
  | n :: ns, x :: xs, h => by
    have ne : (f == n) = false := beq_eq_false_iff_ne.mpr fun e => h (e ▸ List.mem_cons_self)
    show List.lookup f ((n, x) :: ns.zip xs) = _
    simp only [List.lookup, ne]
    exact lookup_zip_no fun z => h (List.mem_cons_of_mem _ z)
theorem putF_set {f : Str} {y : V} : ∀ {ns : List Str} {xs : List V} {i : Nat}, ns.Nodup → ns[i]? = some f → i < xs.length → putF f y (ns.zip xs) = ns.zip (xs.set i y)
  | [], _, _, _, h, _ => by simp at h
  | _ :: _, [], _, _, _, h => by simp at h
  | n :: ns, x :: xs, 0, _, h, _ => by
    simp at h
    subst h
    show putF n y ((n, x) :: ns.zip xs) = (n, y) :: ns.zip xs
    unfold putF
    rw [if_pos rfl]
  | n :: ns, x :: xs, i + 1, nd, h, hl => by
    have h' : ns[i]? = some f := by simpa using h
    have ne : n ≠ f := fun e => (List.nodup_cons.mp nd).1 (e ▸ List.mem_of_getElem? h')
    show putF f y ((n, x) :: ns.zip xs) = (n, x) :: ns.zip (xs.set i y)
    unfold putF
    rw [if_neg ne, putF_set (List.nodup_cons.mp nd).2 h' (by simpa using hl)]
theorem putF_new {f : Str} {y : V} : ∀ {ns : List Str} {xs : List V}, ns.Nodup → ns[xs.length]? = some f → putF f y (ns.zip xs) = ns.zip (xs ++ [y])
  | [], _, _, h => by simp at h
  | n :: ns, [], _, h => by
    simp at h
    subst h
    simp [putF]
  | n :: ns, x :: xs, nd, h => by
    have h' : ns[xs.length]? = some f := by simpa using h
    have ne : n ≠ f := fun e => (List.nodup_cons.mp nd).1 (e ▸ List.mem_of_getElem? h')
    show putF f y ((n, x) :: ns.zip xs) = (n, x) :: ns.zip (xs ++ [y])
    unfold putF
    rw [if_neg ne, putF_new (List.nodup_cons.mp nd).2 h']

/-- a class of the text whose instances are plain -/
structure ClsD (T : Txt) (c : Nat) : Prop where
  cl : Cls T.K (T.ca c)
  na : ∀ f ∈ T.fl c, NoAttr T.K (T.ca c) f
  nd : (T.fl c).Nodup
  few : (T.fl c).length < 900

/-- the fields of an instance of c, wherever it is told -/
def fieldsOf (c : Nat) (d : D) (st : Store) : Option (List D) := match d with
  | .ins c' xs => if c' = c then some xs else none
  | .box k => match st[k]? with
    | some (.ins c' xs) => if c' = c then some xs else none
    | _ => none
  | _ => none
section
variable {T : Txt} {xp : XT} {ι : Io} {st : Store} {H : Hp} {c : Nat}
theorem inst_of {v : V} {d : D} {ds : List D} (rl : RelSt T xp ι st H) (r : Rep T xp (hide ι st H) ι v d) (h : fieldsOf c d st = some ds) :
    ∃ a dx xs, v = .ref a ∧ H a = some (.ins (T.ca c) dx ((T.fl c).zip xs)) ∧ xs.length ≤ (T.fl c).length ∧ RepL T xp (hide ι st H) ι xs ds := by
  unfold fieldsOf at h
  cases r with
  | ins h1 h2 h3 =>
    dsimp only at h
    split at h
    · rename_i e
      subst e
      cases h
      exact ⟨_, _, _, rfl, hide_sub h1, h2, h3⟩
    · cases h
  | box hk =>
    dsimp only at h
    split at h
    · rename_i c' xs hs
      split at h
      · rename_i e
        subst e
        cases h
        obtain ⟨dx, ys, h1, h2, h3⟩ := rl.ok _ _ _ hk hs
        exact ⟨_, _, _, rfl, h1, h2, h3⟩
      · cases h
    · cases h
  | _ => cases h
end
def dFld (c i : Nat) (o : DE) : DE := fun ρ st => (o ρ st).bind fun d s1 => match (fieldsOf c d s1).bind (·[i]?) with
  | some x => .ok x s1
  | none => .bad
def dMeth (c n m : Nat) (gD : List D → List D → List D) (f : DF) (o : DE) (a k : DA) : DE := fun ρ st => (o ρ st).bind fun d s0 => if (fieldsOf c d s0).isSome = true then
  (a ρ s0).bind fun ds s1 => (k ρ s1).bind fun es s2 => if ds.length = n ∧ es.length = m then f (gD (d :: ds) es) s2 else .bad
  else .bad
section
variable {C : Ctx} {c i n k : Nat} {f : Addr} {fd : FuncData} {ps ks : List Str} {gD : List D → List D → List D} {m : DF} {x : Str} {p pos apos : Pos} {e o : Expr} {es : List Expr} {kws : List Keyword} {ma mk : DA} {mo : DE}
theorem pd_fld {fn : Str} (hc : ClsD C.T c) (hi : (C.T.fl c)[i]? = some fn) (ho : PD C o mo) (hb : attributeBase o fn C.X.env (eval o C.X.env) = eval o C.X.env := by rfl) : PD C (.Attribute o fn pos) (dFld c i mo) :=
  PE.imp (pe_fld ho hb) fun σ H Q ⟨ρ, st, ι, er, rl, p⟩ => by
    refine ⟨ρ, st, ι, er, rl, post_bind p fun d s1 v ι1 H1 st1 rl1 rv p1 => ?_⟩
    cases hf : fieldsOf c d s1 with
    | none =>
      rw [hf] at p1
      exact p1.elim
    | some ds =>
      rw [hf] at p1
      cases hx : ds[i]? with
      | none =>
        simp only [Option.bind_some, hx] at p1
        exact p1.elim
      | some y =>
        simp only [Option.bind_some, hx] at p1
        obtain ⟨a, dx, xs, ev, ha, hl, rx⟩ := inst_of rl1 rv hf
        obtain ⟨u, hu, ru⟩ := rx.get hx
        refine ⟨a, C.T.ca c, dx, _, u, ev, ha, by rw [C.hK]; exact hc.cl, by rw [C.hK]; exact hc.na fn (List.mem_of_getElem? hi), ?_, p1 u ι1 H1 (Step.refl _ _ _) rl1 ru⟩
        rw [lookup_zip hc.nd hi]
        exact hu
theorem meth_first {fn : Str} {pl : Sem Bool} {A : Around} {E : Value → Shared → Prop} {pins : List (Addr × Obj)} {s : Shared} {σ : L2.St} {H : Hp} {v : V} {u : Value} {d : D} {st : Store} {ι : Io} {Q : Value × List Value → Shared → Prop} (I : Inv C.X pins σ H s) (hc : ClsD C.T c) (hm : Meth C.X.K (C.T.ca c) fn f) (hn : fn ∉ C.T.fl c)
    (rl : RelSt C.T C.xp ι st H) (rv : Rep C.T C.xp (hide ι st H) ι v d) (ru : RelV v u) (hf : (fieldsOf c d st).isSome = true) (h : ∀ a, v = .ref a → Q (.ref f, [.ref a]) s) : wpAny (model C.X.prog C.X.w) A (getMethod u fn pl) Q E s := by
  obtain ⟨ds, hds⟩ := Option.isSome_iff_exists.mp hf
  obtain ⟨a, dx, xs, ev, ha, hl, rx⟩ := inst_of rl rv hds
  subst ev
  obtain rfl : u = Value.ref a := ru
  exact getmeth_ok I ha (by rw [C.hK]; exact hc.cl) hm (lookup_zip_no hn) (h a rfl)
theorem pd_meth {fn : Str} {pl : Sem Bool} (hc : ClsD C.T c) (hm : Meth C.X.K (C.T.ca c) fn f) (hn : fn ∉ C.T.fl c) (F : FnD C k f fd ps m) (hr : RoomG k C.X.A) (tk : L2N.Takes C.X C.W) (hb : Bd C.T fd ps (n + 1) ks gD) (ho : PD C o mo) (ha : PDA C (e :: es) ma) (hkw : PDK C kws mk)
    (hall : (backToKw pos (keywordEach kws C.X.env)).all (·.1.isSome) = true := by rfl) (hks : (backToKw pos (keywordEach kws C.X.env)).filterMap (·.1) = ks := by rfl)
    (he : starEach (e :: es) C.X.env = (false, eval e C.X.env) :: starEach es C.X.env := by rfl) (hpl : ((backTo pos (starEach (e :: es) C.X.env)).any (·.1) || (backToKw pos (keywordEach kws C.X.env)).any (·.1.isNone)) = false := by rfl)
    (ht : eval (.Call (.Attribute o fn apos) (e :: es) kws pos) C.X.env = (do
      let ov ← eval o C.X.env
      standAt apos.atName
      let (f, first) ← holding [ov] (getMethod ov fn pl)
      callWith pos f first (backTo pos (starEach (e :: es) C.X.env)) (backToKw pos (keywordEach kws C.X.env))) := by rfl) :
    PD C (.Call (.Attribute o fn apos) (e :: es) kws pos) (dMeth c n ks.length gD m mo ma mk) := by
  refine ⟨fun pins s σ H Q I ⟨ρ, st, ι, er, rl, h⟩ => ?_⟩
  refine PySem.W.methodCall_KW (pl := pl) (thn (ho.run pins s σ H _ I ⟨ρ, st, ι, er, rl, post_bind (Q := fun v H1 => ∃ d s0 ι0, Rep C.T C.xp (hide ι0 s0 H1) ι0 v d ∧ RelSt C.T C.xp ι0 s0 H1 ∧ EnvR C.T C.xp (hide ι0 s0 H1) ι0 ρ σ ∧ (fieldsOf c d s0).isSome = true ∧
    Post C.T C.xp (fun c d H => C.W c d σ H) ι0 s0 H1 (Rep C.T C.xp) Q ((ma ρ s0).bind fun ds s1 => (mk ρ s1).bind fun es s2 => if ds.length = n ∧ es.length = ks.length then m (gD (d :: ds) es) s2 else .bad)) h
      fun d s0 v ι0 H0 st0 rl0 rv p0 => ?_⟩) fun u s1 ⟨v, H1, I1, ru, d, s0, ι0, rv, rl0, er0, hf, p0⟩ => ?_) ht
  · split at p0
    · rename_i hf
      exact ⟨d, s0, ι0, rv, rl0, er.step st0, hf, p0⟩
    · exact p0.elim
  · refine meth_first I1 hc hm hn rl0 rv ru hf fun a ea => ?_
    subst ea
    refine args_call (ks := ks) (first := [.ref a]) ha hkw I1 hm.kp ⟨ρ, s0, ι0, er0, rl0, post_bind p0 fun ds s1 vs ι1 H1 st1 rl1 rv1 p1 => ⟨ρ, s1, ι1, er0.step st1, rl1, post_bind p1 fun es s2 zs ι2 H2 st2 rl2 rv2 p2 => ?_⟩⟩ hall hks he hpl
    intro us ws s3 I3 r rz
    split at p2
    · rename_i hl
      exact call_den (n := n + 1) (us := .ref a :: us) (vs := .ref a :: _) F hr tk hb I3 (.cons rfl r) rz (congrArg Nat.succ (rv1.length.trans hl.1)) (rv2.length.trans hl.2) (.cons (rv.mono (st1.ex.trans st2.ex) (st1.pre.trans st2.pre)) (rv1.mono st2.ex st2.pre)) rv2 rl2 p2
    · exact p2.elim
theorem pd_meth0 {fn : Str} {pl : Sem Bool} (hc : ClsD C.T c) (hm : Meth C.X.K (C.T.ca c) fn f) (hn : fn ∉ C.T.fl c) (F : FnD C k f fd ps m) (hr : RoomG k C.X.A) (tk : L2N.Takes C.X C.W) (hb : Bd C.T fd ps 1 ks gD) (ho : PD C o mo) (hkw : PDK C kws mk)
    (hall : (backToKw pos (keywordEach kws C.X.env)).all (·.1.isSome) = true := by rfl) (hks : (backToKw pos (keywordEach kws C.X.env)).filterMap (·.1) = ks := by rfl)
    (hpl : ((backTo pos (starEach [] C.X.env)).any (·.1) || (backToKw pos (keywordEach kws C.X.env)).any (·.1.isNone)) = false := by rfl)
    (ht : eval (.Call (.Attribute o fn apos) [] kws pos) C.X.env = (do
      let ov ← eval o C.X.env
      standAt apos.atName
      let (f, first) ← holding [ov] (getMethod ov fn pl)
      callWith pos f first (backTo pos (starEach [] C.X.env)) (backToKw pos (keywordEach kws C.X.env))) := by rfl) :
    PD C (.Call (.Attribute o fn apos) [] kws pos) (dMeth c 0 ks.length gD m mo dNil mk) := by
  refine ⟨fun pins s σ H Q I ⟨ρ, st, ι, er, rl, h⟩ => ?_⟩
  refine PySem.W.methodCall_KW (pl := pl) (thn (ho.run pins s σ H _ I ⟨ρ, st, ι, er, rl, post_bind (Q := fun v H1 => ∃ d s0 ι0, Rep C.T C.xp (hide ι0 s0 H1) ι0 v d ∧ RelSt C.T C.xp ι0 s0 H1 ∧ EnvR C.T C.xp (hide ι0 s0 H1) ι0 ρ σ ∧ (fieldsOf c d s0).isSome = true ∧
    Post C.T C.xp (fun c d H => C.W c d σ H) ι0 s0 H1 (Rep C.T C.xp) Q ((mk ρ s0).bind fun es s2 => if ([] : List D).length = 0 ∧ es.length = ks.length then m (gD [d] es) s2 else .bad)) h
      fun d s0 v ι0 H0 st0 rl0 rv p0 => ?_⟩) fun u s1 ⟨v, H1, I1, ru, d, s0, ι0, rv, rl0, er0, hf, p0⟩ => ?_) ht
  · split at p0
    · rename_i hf
      exact ⟨d, s0, ι0, rv, rl0, er.step st0, hf, p0⟩
    · exact p0.elim
  · refine meth_first I1 hc hm hn rl0 rv ru hf fun a ea => ?_
    subst ea
    refine args_call0 (ks := ks) (first := [.ref a]) hkw I1 hm.kp ⟨ρ, s0, ι0, er0, rl0, post_bind p0 fun es s2 zs ι2 H2 st2 rl2 rv2 p2 => ?_⟩ hall hks hpl
    intro ws s3 I3 rz
    split at p2
    · rename_i hl
      exact call_den (n := 1) (us := [.ref a]) (vs := [.ref a]) F hr tk hb I3 (.cons rfl .nil) rz rfl (rv2.length.trans hl.2) (.cons (rv.mono st2.ex st2.pre) .nil) rv2 rl2 p2
    · exact p2.elim
end

/-! ### statements -/
inductive SRes where
  | nx (ρ : Rho) (st : Store)
  | ret (d : D) (st : Store)
  | brk (ρ : Rho) (st : Store)
  | cnt (ρ : Rho) (st : Store)
  | exc (c : Nat) (xs : List D) (ρ : Rho) (st : Store)
  | bad
abbrev DS := Rho → Store → SRes
/-- a piece's answer, then a statement's end; what is raised leaves the slots as they are -/
def Res.into {α : Type} (m : Res α) (ρ : Rho) (k : α → Store → SRes) : SRes := match m with
  | .ok a st => k a st
  | .exc c xs st => .exc c xs ρ st
  | .bad => .bad
@[simp] theorem into_ok {α : Type} (a : α) (st : Store) (ρ : Rho) (k : α → Store → SRes) : (Res.ok a st).into ρ k = k a st := rfl
@[simp] theorem into_exc {α : Type} (c : Nat) (xs : List D) (st : Store) (ρ : Rho) (k : α → Store → SRes) : (Res.exc c xs st : Res α).into ρ k = .exc c xs ρ st := rfl
@[simp] theorem into_bad {α : Type} (ρ : Rho) (k : α → Store → SRes) : (Res.bad : Res α).into ρ k = .bad := rfl
/-- then what follows -/
def SRes.then (r : SRes) (k : Rho → Store → SRes) : SRes := match r with
  | .nx ρ st => k ρ st
  | r => r
@[simp] theorem then_nx (ρ : Rho) (st : Store) (k : Rho → Store → SRes) : (SRes.nx ρ st).then k = k ρ st := rfl
@[simp] theorem then_ret (d : D) (st : Store) (k : Rho → Store → SRes) : (SRes.ret d st).then k = .ret d st := rfl
@[simp] theorem then_exc (c : Nat) (xs : List D) (ρ : Rho) (st : Store) (k : Rho → Store → SRes) : (SRes.exc c xs ρ st).then k = .exc c xs ρ st := rfl

section
variable (T : Txt) (xp : XT) (W : WX) (ι : Io) (st : Store) (H : Hp) (E : Ends)
def PostS : SRes → Prop
  | .nx ρ st' => ∀ σ ι' H', Step ι st H ι' st' H' → RelSt T xp ι' st' H' → EnvR T xp (hide ι' st' H') ι' ρ σ → E.nx σ H'
  | .ret d st' => ∀ v ι' H', Step ι st H ι' st' H' → RelSt T xp ι' st' H' → Rep T xp (hide ι' st' H') ι' v d → E.rt v H'
  | .brk ρ st' => ∀ σ ι' H', Step ι st H ι' st' H' → RelSt T xp ι' st' H' → EnvR T xp (hide ι' st' H') ι' ρ σ → E.bk σ H'
  | .cnt ρ st' => ∀ σ ι' H', Step ι st H ι' st' H' → RelSt T xp ι' st' H' → EnvR T xp (hide ι' st' H') ι' ρ σ → E.ct σ H'
  | .exc c ds ρ st' => ∀ σ ι' H' dx, Step ι st H ι' st' H' → RelSt T xp ι' st' H' → EnvR T xp (hide ι' st' H') ι' ρ σ → XdR T xp ι' st' H' dx c ds → W (.ref (T.ca c)) dx σ H'
  | .bad => False
end
section
variable {T : Txt} {xp : XT} {W : WX} {ι ι1 : Io} {st st1 : Store} {H H1 : Hp} {E : Ends}
theorem PostS.step {r : SRes} (h : PostS T xp W ι st H E r) (s : Step ι st H ι1 st1 H1) : PostS T xp W ι1 st1 H1 E r := by
  cases r with
  | nx ρ st' => exact fun σ ι' H' s1 => h σ ι' H' (s.trans s1)
  | ret d st' => exact fun v ι' H' s1 => h v ι' H' (s.trans s1)
  | brk ρ st' => exact fun σ ι' H' s1 => h σ ι' H' (s.trans s1)
  | cnt ρ st' => exact fun σ ι' H' s1 => h σ ι' H' (s.trans s1)
  | exc c ds ρ st' => exact fun σ ι' H' dx s1 => h σ ι' H' dx (s.trans s1)
  | bad => exact h
/-- an expression's end, then the statement's -/
theorem post_into {α β : Type} {m : Res α} {ρ : Rho} {σ : L2.St} {k : α → Store → SRes} {R : Hp → Io → β → α → Prop} {Q : β → Hp → Prop} (h : PostS T xp W ι st H E (m.into ρ k)) (er : EnvR T xp (hide ι st H) ι ρ σ)
    (hk : ∀ d s1 v ι1 H1, Step ι st H ι1 s1 H1 → RelSt T xp ι1 s1 H1 → EnvR T xp (hide ι1 s1 H1) ι1 ρ σ → R (hide ι1 s1 H1) ι1 v d → PostS T xp W ι1 s1 H1 E (k d s1) → Q v H1) : Post T xp (fun c d H => W c d σ H) ι st H R Q m := by
  cases m with
  | ok d s1 => exact fun v ι1 H1 s r e => hk d s1 v ι1 H1 s r (er.step s) e (PostS.step h s)
  | exc c ds s1 => exact fun ι1 H1 dx s r e => h σ ι1 H1 dx s r (er.step s) e
  | bad => exact h
end
def tDS (T : Txt) (xp : XT) (W : WX) (m : DS) : TS := fun D σ H => ∃ ρ st ι, EnvR T xp (hide ι st H) ι ρ σ ∧ RelSt T xp ι st H ∧ PostS T xp W ι st H D (m ρ st)
abbrev PDS (C : Ctx) (s : Stmt) (m : DS) : Prop := PS C.X s (tDS C.T C.xp C.W m)
abbrev PDSs (C : Ctx) (s : List Stmt) (m : DS) : Prop := PSs C.X s (tDS C.T C.xp C.W m)

def sNext : DS := fun ρ st => .nx ρ st
def sSeq (a b : DS) : DS := fun ρ st => (a ρ st).then b
def sSet (i : Nat) (a : DE) : DS := fun ρ st => (a ρ st).into ρ fun d s1 => .nx (ρ.set i (some d)) s1
def sRet (a : DE) : DS := fun ρ st => (a ρ st).into ρ fun d s1 => .ret d s1
def sDrop (a : DE) : DS := fun ρ st => (a ρ st).into ρ fun _ s1 => .nx ρ s1
def sIf (t : DT) (a b : DS) : DS := fun ρ st => (t ρ st).into ρ fun x s1 => match x with
  | true => a ρ s1
  | false => b ρ s1
def sRetN : DS := fun _ st => .ret .non st
section
variable {C : Ctx} {s : Stmt} {rest : List Stmt} {m mr : DS} {e : Expr} {me : DE} {pos pos' : Pos}
theorem pds_nil : PDSs C [] sNext := PSs.imp pss_nil fun D σ H ⟨ρ, st, ι, er, rl, p⟩ => p σ ι H (Step.refl _ _ _) rl er
theorem pds_cons (h : PDS C s m) (hr : PDSs C rest mr) : PDSs C (s :: rest) (sSeq m mr) := PSs.imp (pss_cons h hr) fun D σ H ⟨ρ, st, ι, er, rl, p⟩ => by
  refine ⟨ρ, st, ι, er, rl, ?_⟩
  unfold sSeq at p
  cases hm : m ρ st with
  | nx ρ1 s1 =>
    rw [hm] at p
    exact fun σ1 ι1 H1 st1 rl1 er1 => ⟨ρ1, s1, ι1, er1, rl1, PostS.step p st1⟩
  | ret d s1 =>
    rw [hm] at p
    exact p
  | brk ρ1 s1 =>
    rw [hm] at p
    exact p
  | cnt ρ1 s1 =>
    rw [hm] at p
    exact p
  | exc c ds ρ1 s1 =>
    rw [hm] at p
    exact p
  | bad =>
    rw [hm] at p
    exact p
theorem pds_one (h : PDS C s m) : PDSs C [s] m := pss_one h
theorem pds_pass : PDS C (.Pass pos) sNext := PS.imp ps_pass fun D σ H ⟨ρ, st, ι, er, rl, p⟩ => p σ ι H (Step.refl _ _ _) rl er
theorem pds_set {i : Nat} {x : Str} (hN : C.X.N.Nodup) (hi : C.X.N[i]? = some x) (hx : Loc C.X.env.scope x) (he : PD C e me) (hs : swapsWith e (some (.Name x pos')) pos.line C.X.env = pure false := by rfl)
    (hf : C.X.fn x = true ∨ C.X.env.scope.names.lookup x = some .local := by first | exact .inl rfl | exact .inr rfl | assumption) : PDS C (.Assign [.Name x pos'] e pos) (sSet i me) :=
  PS.imp (ps_set hN hi hx he hs hf) fun D σ H ⟨ρ, st, ι, er, rl, p⟩ => by
    refine ⟨ρ, st, ι, er, rl, post_into p er fun d s1 v ι1 H1 st1 rl1 er1 rv p1 => ?_⟩
    exact p1 _ ι1 H1 (Step.refl _ _ _) rl1 (er1.set i rv)
theorem pds_ret (he : PD C e me) : PDS C (.Return (some e) pos) (sRet me) :=
  PS.imp (ps_ret he) fun D σ H ⟨ρ, st, ι, er, rl, p⟩ => ⟨ρ, st, ι, er, rl, post_into p er fun d s1 v ι1 H1 st1 rl1 er1 rv p1 => p1 v ι1 H1 (Step.refl _ _ _) rl1 rv⟩
theorem pds_retN : PDS C (.Return none pos) sRetN := PS.imp ps_retN fun D σ H ⟨ρ, st, ι, er, rl, p⟩ => p .non ι H (Step.refl _ _ _) rl .non
theorem pds_drop (he : PD C e me) (hs : swapsWith e none pos.line C.X.env = pure false := by rfl) : PDS C (.Expr e pos) (sDrop me) :=
  PS.imp (ps_expr he hs) fun D σ H ⟨ρ, st, ι, er, rl, p⟩ => ⟨ρ, st, ι, er, rl, post_into p er fun d s1 v ι1 H1 st1 rl1 er1 rv p1 => p1 σ ι1 H1 (Step.refl _ _ _) rl1 er1⟩
theorem pds_if {t : DT} {a b : List Stmt} {ma mb : DS} (ht : PDT C e t) (ha : PDSs C a ma) (hb : PDSs C b mb) : PDS C (.If e a b pos) (sIf t ma mb) :=
  PS.imp (ps_if ht ha hb) fun D σ H ⟨ρ, st, ι, er, rl, p⟩ => ⟨ρ, st, ι, er, rl, post_into (R := fun _ _ (a b : Bool) => a = b) p er fun d s1 v ι1 H1 st1 rl1 er1 rv p1 => by
    have e : v = d := rv
    subst e
    cases v with
    | true => exact iteT ⟨ρ, s1, ι1, er1, rl1, p1⟩
    | false => exact iteF ⟨ρ, s1, ι1, er1, rl1, p1⟩⟩
end

/-! ### a def's promise -/
/-- what a body is worth as a def -/
def body (N n : Nat) (m : DS) : DF := fun ds st => if ds.length = n then (match m (ds.map some ++ List.replicate (N - n) none) st with
  | .nx _ st' => .ok .non st'
  | .ret d st' => .ok d st'
  | .exc c xs _ st' => .exc c xs st'
  | _ => .bad) else .bad
theorem start_env {T : Txt} {xp : XT} {G : Hp} {ι : Io} {N : List Str} {vs : List V} {ds : List D} (r : RepL T xp G ι vs ds) : EnvR T xp G ι (ds.map some ++ List.replicate (N.length - ds.length) none) (L2.start N vs) := by
  unfold L2.start
  refine ⟨by simp [r.length], fun i d h => ?_⟩
  by_cases hi : i < ds.length
  · rw [List.getElem?_append_left (by simpa using hi), List.getElem?_map] at h
    cases hd : ds[i]? with
    | none => rw [hd] at h; cases h
    | some y =>
      rw [hd] at h
      cases h
      obtain ⟨u, hu, ru⟩ := r.get hd
      exact ⟨u, by rw [List.getElem?_append_left (by simpa [r.length] using hi), List.getElem?_map, hu]; rfl, ru⟩
  · rw [List.getElem?_append_right (by simpa using hi), List.getElem?_replicate] at h
    split at h <;> cases h
/-- THE RULE: a def by its body -/
theorem fnD_of {P : Program} {w : World} {mg : Str → Option Value} {base : Heap} {T : Txt} {x qual : Str} {st : Stmt} {f : Addr} {fd : FuncData} {N ps : List Str} {k : Nat} {m : DS} (F : Fun T.K x qual st f fd) (S : FnScope N ps (defScope st))
    (h : ∀ (cdv : Value) (A : Around) (outer : List Env) (s : Shared) (H : Hp) (E : XK) (xp : XT), RoomG k (A.deeper (PyProof.Rows.envOfC qual (defScope st) s.heap.objs.size f cdv)) →
      PDSs ⟨cxOf (L2N.CX P w) P w T.K mg base N qual (defScope st) f cdv A outer s H E, T, xp, fun c d _ H' => E c d H', rfl⟩ (defBody st) m) :
    FnG P w T.K mg base (k + 1) f fd ps (spM T ps.length (body N.length ps.length m)) := by
  refine fnG_of F S (fun vs H Q E h => h.1) fun cdv A outer s H vs Q E hr hsp => ?_
  obtain ⟨hl, xp, ds, st0, ι, rd, rl, hp⟩ := hsp
  refine ⟨_, h cdv A outer s H E xp hr, _, st0, ι, start_env rd, rl, ?_⟩
  have hl' : ds.length = ps.length := rd.length.symm.trans hl
  unfold body at hp
  rw [if_pos hl'] at hp
  rw [hl']
  cases hm : m (ds.map some ++ List.replicate (N.length - ps.length) none) st0 with
  | nx ρ s1 =>
    rw [hm] at hp
    exact fun σ ι1 H1 s r _ => hp .non ι1 H1 s r .non
  | ret d s1 =>
    rw [hm] at hp
    exact hp
  | exc c xs ρ s1 =>
    rw [hm] at hp
    exact fun σ ι1 H1 dx s r _ xd => hp ι1 H1 dx s r xd
  | _ =>
    rw [hm] at hp
    exact hp.elim
end Den

set_option maxRecDepth 100000
set_option maxHeartbeats 4000000
/-! Den: operators, tests, subscripts. -/
namespace Den
open PySem PySem.Spec L2

theorem hide_le (ι : Io) (st : Store) (H : Hp) : Le (hide ι st H) H := fun _ _ h => hide_sub h
section
variable {C : Ctx}
theorem OpD.or {r r' : R2} {f f' : D → D → Option D} (h : OpD C r f) (h' : OpD C r' f') : OpD C (fun x y H Q => r x y H Q ∨ r' x y H Q) (fun x y => (f x y).or (f' x y)) := fun ι st H x y dx dy dz Q rl rx ry e k => by
  dsimp only at e
  cases hf : f dx dy with
  | some z =>
    rw [hf] at e
    exact .inl (h ι st H x y dx dy dz Q rl rx ry (hf.trans e) k)
  | none =>
    rw [hf] at e
    exact .inr (h' ι st H x y dx dy dz Q rl rx ry e k)
/-- an operation on ints alone -/
def onI (c : Int → Int → Bool) (g : Int → Int → D) : D → D → Option D
  | .int i, .int j => if c i j = true then some (g i j) else none
  | _, _ => none
theorem onI_some {c : Int → Int → Bool} {g : Int → Int → D} {x y z : D} (h : onI c g x y = some z) : ∃ i j, x = .int i ∧ y = .int j ∧ c i j = true ∧ z = g i j := by
  cases x <;> first | (cases h; done) | skip
  cases y <;> first | (cases h; done) | skip
  rename_i i j
  dsimp only [onI] at h
  by_cases hc : c i j = true
  · rw [if_pos hc] at h
    exact ⟨i, j, rfl, rfl, hc, (Option.some.inj h).symm⟩
  · rw [if_neg hc] at h
    cases h
theorem OpD.ints {Cd : Int → Int → Prop} {c : Int → Int → Bool} {gv : Int → Int → V} {g : Int → Int → D} (hc : ∀ i j, c i j = true → Cd i j) (hg : ∀ xp G ι i j, Rep C.T xp G ι (gv i j) (g i j)) : OpD C (rI Cd gv) (onI c g) := fun ι st H x y dx dy dz Q rl rx ry e k => by
  obtain ⟨i, j, rfl, rfl, h, rfl⟩ := onI_some e
  cases rx
  cases ry
  exact ⟨i, j, rfl, rfl, hc i j h, k _ ι H (Step.refl _ _ _) rl (hg _ _ _ i j)⟩
theorem OpD.ints0 {gv : Int → Int → V} {g : Int → Int → D} (hg : ∀ xp G ι i j, Rep C.T xp G ι (gv i j) (g i j)) : OpD C (rI0 gv) (onI (fun _ _ => true) g) := fun ι st H x y dx dy dz Q rl rx ry e k => by
  obtain ⟨i, j, rfl, rfl, h, rfl⟩ := onI_some e
  cases rx
  cases ry
  exact ⟨i, j, rfl, rfl, k _ ι H (Step.refl _ _ _) rl (hg _ _ _ i j)⟩
/-- an operation on texts alone -/
def onS (c : Str → Str → Bool) (g : Str → Str → D) : D → D → Option D
  | .str i, .str j => if c i j = true then some (g i j) else none
  | _, _ => none
theorem onS_some {c : Str → Str → Bool} {g : Str → Str → D} {x y z : D} (h : onS c g x y = some z) : ∃ i j, x = .str i ∧ y = .str j ∧ c i j = true ∧ z = g i j := by
  cases x <;> first | (cases h; done) | skip
  cases y <;> first | (cases h; done) | skip
  rename_i i j
  dsimp only [onS] at h
  by_cases hc : c i j = true
  · rw [if_pos hc] at h
    exact ⟨i, j, rfl, rfl, hc, (Option.some.inj h).symm⟩
  · rw [if_neg hc] at h
    cases h
def fCatS : D → D → Option D := onS (fun i j => decide (i.length + j.length ≤ 1000000)) fun i j => .str (i ++ j)
theorem cat_str : OpD C (fun x y H Q => ∃ i j, x = .str i ∧ y = .str j ∧ i.length + j.length ≤ sizeLine ∧ Q (.str (i ++ j)) H) fCatS := fun ι st H x y dx dy dz Q rl rx ry e k => by
  obtain ⟨i, j, rfl, rfl, h, rfl⟩ := onS_some e
  cases rx
  cases ry
  exact ⟨i, j, rfl, rfl, Nat.le_trans (of_decide_eq_true h) (by decide), k _ ι H (Step.refl _ _ _) rl (.str _)⟩
def fCatL : D → D → Option D
  | .lst xs, .lst ys => if xs.length + ys.length ≤ 100000 then some (.lst (xs ++ ys)) else none
  | _, _ => none
theorem fCatL_some {x y z : D} (h : fCatL x y = some z) : ∃ a b, x = .lst a ∧ y = .lst b ∧ a.length + b.length ≤ 100000 ∧ z = .lst (a ++ b) := by
  cases x <;> first | (cases h; done) | skip
  cases y <;> first | (cases h; done) | skip
  rename_i a b
  dsimp only [fCatL] at h
  by_cases hc : a.length + b.length ≤ 100000
  · rw [if_pos hc] at h
    exact ⟨a, b, rfl, rfl, hc, (Option.some.inj h).symm⟩
  · rw [if_neg hc] at h
    cases h
theorem cat_lst : OpD C rCat fCatL := fun ι st H x y dx dy dz Q rl rx ry e k => by
  obtain ⟨a, b, rfl, rfl, hl, rfl⟩ := fCatL_some e
  cases rx with
  | lst h1 r1 =>
    cases ry with
    | lst h2 r2 =>
      refine ⟨_, _, _, _, rfl, rfl, hide_sub h1, hide_sub h2, line_ok (by rw [r1.length, r2.length]; exact hl), fun p hp => ?_⟩
      obtain ⟨ra, sa, ea⟩ := rl.new (o := .lst _) hp
      exact k _ ι _ sa ra (.lst ea ((r1.append r2).mono sa.ex sa.pre))
def fCatT : D → D → Option D
  | .tup xs, .tup ys => if xs.length + ys.length ≤ 100000 then some (.tup (xs ++ ys)) else none
  | _, _ => none
theorem fCatT_some {x y z : D} (h : fCatT x y = some z) : ∃ a b, x = .tup a ∧ y = .tup b ∧ a.length + b.length ≤ 100000 ∧ z = .tup (a ++ b) := by
  cases x <;> first | (cases h; done) | skip
  cases y <;> first | (cases h; done) | skip
  rename_i a b
  dsimp only [fCatT] at h
  by_cases hc : a.length + b.length ≤ 100000
  · rw [if_pos hc] at h
    exact ⟨a, b, rfl, rfl, hc, (Option.some.inj h).symm⟩
  · rw [if_neg hc] at h
    cases h
theorem cat_tup : OpD C (rCatA C.X.K) fCatT := fun ι st H x y dx dy dz Q rl rx ry e k => by
  obtain ⟨ds, es, rfl, rfl, hl, rfl⟩ := fCatT_some e
  cases rx with
  | @tup a xs _ h1 r1 =>
    cases ry with
    | @tup b ys _ h2 r2 =>
      rw [C.hK]
      have t1 := le_t (hide_le ι st H) h1
      have t2 := le_t (hide_le ι st H) h2
      refine ⟨a, b, xs, ys, rfl, rfl, t1, t2, line_ok (by rw [r1.length, r2.length]; exact hl), fun h => ?_, fun h h' => ?_, fun _ _ p hp => ?_⟩
      · subst h
        cases r1
        exact k _ ι H (Step.refl _ _ _) rl (.tup h2 r2)
      · subst h'
        cases r2
        rw [List.append_nil] at k
        exact k _ ι H (Step.refl _ _ _) rl (.tup h1 r1)
      · obtain ⟨ra, sa, ea⟩ := rl.new (o := .tup (xs ++ ys)) hp
        exact k _ ι _ sa ra (.tup (SqT.of ea) ((r1.append r2).mono sa.ex sa.pre))
def fAdd (x y : D) : Option D := (onI (fun _ _ => true) (fun i j => .int (i + j)) x y).or ((fCatS x y).or ((fCatL x y).or (fCatT x y)))
def dAdd : DE → DE → DE := dOp2 fAdd
theorem pd_add {a b : Expr} {ma mb : DE} {pos : Pos} (ha : PD C a ma) (hb : PD C b mb) : PD C (.BinOp a .Add b pos) (dAdd ma mb) :=
  pd_op (op_add.or (op_add_str.or (op_cat.or op_catA))) ((OpD.ints0 fun _ _ _ i j => .int _).or (cat_str.or (cat_lst.or cat_tup))) ha hb
def fSub : D → D → Option D := onI (fun _ _ => true) fun i j => .int (i - j)
def dSub : DE → DE → DE := dOp2 fSub
theorem pd_sub {a b : Expr} {ma mb : DE} {pos : Pos} (ha : PD C a ma) (hb : PD C b mb) : PD C (.BinOp a .Sub b pos) (dSub ma mb) := pd_op op_sub (OpD.ints0 fun _ _ _ i j => .int _) ha hb
def fRepL : D → D → Option D
  | .lst xs, .int k => if xs.length * k.toNat ≤ 100000 ∧ -1000000 ≤ k ∧ k ≤ 1000000 then some (.lst (List.replicate k.toNat xs).flatten) else none
  | _, _ => none
theorem RepL.rep {T : Txt} {xp : XT} {G : Hp} {ι : Io} {v : List V} {d : List D} (h : RepL T xp G ι v d) : ∀ n : Nat, RepL T xp G ι (List.replicate n v).flatten (List.replicate n d).flatten
  | 0 => .nil
  | n + 1 => by
    rw [List.replicate_succ, List.replicate_succ, List.flatten_cons, List.flatten_cons]
    exact h.append (h.rep n)
theorem fRepL_some {x y z : D} (h : fRepL x y = some z) : ∃ a k, x = .lst a ∧ y = .int k ∧ (a.length * k.toNat ≤ 100000 ∧ -1000000 ≤ k ∧ k ≤ 1000000) ∧ z = .lst (List.replicate k.toNat a).flatten := by
  cases x <;> first | (cases h; done) | skip
  cases y <;> first | (cases h; done) | skip
  rename_i a k
  dsimp only [fRepL] at h
  split at h
  · rename_i hc
    exact ⟨a, k, rfl, rfl, hc, (Option.some.inj h).symm⟩
  · cases h
theorem rep_lst : OpD C rRep fRepL := fun ι st H x y dx dy dz Q rl rx ry e k => by
  obtain ⟨ds, i, rfl, rfl, hl, rfl⟩ := fRepL_some e
  cases rx with
  | lst h1 r1 =>
    cases ry
    refine ⟨_, i, _, rfl, rfl, hide_sub h1, by omega, by omega, line_ok (by rw [r1.length]; exact hl.1), fun p hp => ?_⟩
    obtain ⟨ra, sa, ea⟩ := rl.new (o := .lst _) hp
    exact k _ ι _ sa ra (.lst ea ((r1.rep _).mono sa.ex sa.pre))
def fMul (x y : D) : Option D := (onI (fun i j => decide (i.natAbs.log2 + j.natAbs.log2 < 1000000)) (fun i j => .int (i * j)) x y).or (fRepL x y)
def dMul : DE → DE → DE := dOp2 fMul
theorem pd_mul {a b : Expr} {ma mb : DE} {pos : Pos} (ha : PD C a ma) (hb : PD C b mb) : PD C (.BinOp a .Mult b pos) (dMul ma mb) :=
  pd_op (op_mulW.or op_rep) ((OpD.ints (fun i j h => show i.natAbs.log2 + j.natAbs.log2 < 1000000 from of_decide_eq_true h) fun _ _ _ i j => .int _).or rep_lst) ha hb
def fDiv : D → D → Option D := onI (fun _ j => decide (0 < j ∧ j.natAbs.log2 < 9000)) fun i j => .int (i / j)
def dDiv : DE → DE → DE := dOp2 fDiv
theorem pd_div {a b : Expr} {ma mb : DE} {pos : Pos} (ha : PD C a ma) (hb : PD C b mb) : PD C (.BinOp a .FloorDiv b pos) (dDiv ma mb) := pd_op op_fdivW (OpD.ints (fun i j h => show 0 < j ∧ j.natAbs.log2 < 9000 from of_decide_eq_true h) fun _ _ _ i j => .int _) ha hb
def fMod : D → D → Option D := onI (fun _ j => decide (0 < j)) fun i j => .int (i % j)
def dMod : DE → DE → DE := dOp2 fMod
theorem pd_mod {a b : Expr} {ma mb : DE} {pos : Pos} (ha : PD C a ma) (hb : PD C b mb) : PD C (.BinOp a .Mod b pos) (dMod ma mb) := pd_op op_mod (OpD.ints (fun _ _ h => of_decide_eq_true h) fun _ _ _ i j => .int _) ha hb
def fPow : D → D → Option D := onI (fun i j => decide (0 ≤ j ∧ j ≤ 1000000 ∧ i.natAbs < 2 ^ 64)) fun i j => .int (i ^ j.toNat)
def dPow : DE → DE → DE := dOp2 fPow
theorem pd_pow {a b : Expr} {ma mb : DE} {pos : Pos} (ha : PD C a ma) (hb : PD C b mb) : PD C (.BinOp a .Pow b pos) (dPow ma mb) := pd_op op_pow (OpD.ints (fun i j h => show 0 ≤ j ∧ j ≤ 1000000 ∧ i.natAbs < 2 ^ 64 from of_decide_eq_true h) fun _ _ _ i j => .int _) ha hb

/-! ### order -/
theorem str_rel {r : R2} {gv : Str → Str → V} {g : Str → Str → D} (hr : ∀ i j H (Q : VK), Q (gv i j) H → r (.str i) (.str j) H Q) (hg : ∀ xp G ι i j, Rep C.T xp G ι (gv i j) (g i j)) : OpD C r (onS (fun _ _ => true) g) := fun ι st H x y dx dy dz Q rl rx ry e k => by
  obtain ⟨i, j, rfl, rfl, h, rfl⟩ := onS_some e
  cases rx
  cases ry
  exact hr i j H Q (k _ ι H (Step.refl _ _ _) rl (hg _ _ _ i j))
def bI (p : Int → Int → Bool) : D → D → Option D := onI (fun _ _ => true) fun i j => .bl (p i j)
def bS (p : Str → Str → Bool) : D → D → Option D := onS (fun _ _ => true) fun i j => .bl (p i j)
def fLt (x y : D) : Option D := (bI (fun i j => decide (i < j)) x y).or (bS (fun i j => decide (i.cps.toList < j.cps.toList)) x y)
def fLe (x y : D) : Option D := (bI (fun i j => decide (i ≤ j)) x y).or (bS (fun i j => !decide (j.cps.toList < i.cps.toList)) x y)
def fGt (x y : D) : Option D := (bI (fun i j => decide (j < i)) x y).or (bS (fun i j => decide (j.cps.toList < i.cps.toList)) x y)
def fGe (x y : D) : Option D := (bI (fun i j => decide (j ≤ i)) x y).or (bS (fun i j => !decide (i.cps.toList < j.cps.toList)) x y)
/-- an operator of a comparison that is worth f -/
structure CmpD (C : Ctx) (op : CmpOp) (f : D → D → Option D) : Prop where
  ex : ∃ r, OpR C.X (compareOp op) r ∧ OpD C r f
theorem cmp_lt : CmpD C .Lt fLt := ⟨_, op_lt.or op_lt_str, (OpD.ints0 fun _ _ _ i j => .bl _).or (str_rel (fun i j H Q q => ⟨i, j, rfl, rfl, q⟩) fun _ _ _ i j => .bl _)⟩
theorem cmp_le : CmpD C .LtE fLe := ⟨_, op_le.or op_le_str, (OpD.ints0 fun _ _ _ i j => .bl _).or (str_rel (fun i j H Q q => ⟨i, j, rfl, rfl, q⟩) fun _ _ _ i j => .bl _)⟩
theorem cmp_gt : CmpD C .Gt fGt := ⟨_, op_gt.or op_gt_str, (OpD.ints0 fun _ _ _ i j => .bl _).or (str_rel (fun i j H Q q => ⟨i, j, rfl, rfl, q⟩) fun _ _ _ i j => .bl _)⟩
theorem cmp_ge : CmpD C .GtE fGe := ⟨_, op_ge.or op_ge_str, (OpD.ints0 fun _ _ _ i j => .bl _).or (str_rel (fun i j H Q q => ⟨i, j, rfl, rfl, q⟩) fun _ _ _ i j => .bl _)⟩
theorem pd_cmpD {op : CmpOp} {f : D → D → Option D} {a b : Expr} {ma mb : DE} {pos : Pos} (h : CmpD C op f) (ha : PD C a ma) (hb : PD C b mb) (hm : behindInMarks op b = false) : PD C (.Compare a [op] [b] pos) (dOp2 f ma mb) := by
  obtain ⟨r, h1, h2⟩ := h.ex
  exact pd_cmp h1 h2 ha hb hm
/-- a < b < c -/
def dChain (f g : D → D → Option D) (a b c : DE) : DE := fun ρ st => (a ρ st).bind fun x s1 => (b ρ s1).bind fun y s2 => match f x y with
  | some (.bl true) => (c ρ s2).bind fun z s3 => match g y z with
    | some w => .ok w s3
    | none => .bad
  | some (.bl false) => .ok (.bl false) s2
  | _ => .bad
theorem pd_chain {op op' : CmpOp} {f g : D → D → Option D} {a b c : Expr} {ma mb mc : DE} {pos : Pos} (h : CmpD C op f) (h' : CmpD C op' g) (ha : PD C a ma) (hb : PD C b mb) (hc : PD C c mc)
    (hm : lastMarks [op, op'] [b, c] = false := by with_unfolding_all rfl) : PD C (.Compare a [op, op'] [b, c] pos) (dChain f g ma mb mc) := by
  obtain ⟨r, h1, h2⟩ := h.ex
  obtain ⟨r', h3, h4⟩ := h'.ex
  refine PE.imp (pe_chain h1 h3 ha hb hc hm) fun σ H Q ⟨ρ, st, ι, er, rl, p⟩ => ?_
  refine ⟨ρ, st, ι, er, rl, post_bind p fun d s1 v ι1 H1 st1 rl1 rv p1 => ?_⟩
  refine ⟨ρ, s1, ι1, er.step st1, rl1, post_bind p1 fun d2 s2 v2 ι2 H2 st2 rl2 rv2 p2 => ?_⟩
  split at p2
  · rename_i hf
    refine h2 ι2 s2 H2 v v2 d d2 _ _ rl2 (rv.mono st2.ex st2.pre) rv2 hf fun w ι3 H3 st3 rl3 rw3 => ?_
    cases rw3
    refine ⟨true, rfl, iteT ?_⟩
    refine ⟨ρ, s2, ι3, (er.step (st1.trans st2)).step st3, rl3, post_bind (Post.step p2 st3) fun d3 s3 v3 ι4 H4 st4 rl4 rv4 p4 => ?_⟩
    split at p4
    · rename_i z hz
      exact h4 ι4 s3 H4 v2 v3 d2 d3 z _ rl4 (rv2.mono (st3.ex.trans st4.ex) (st3.pre.trans st4.pre)) rv4 hz fun w ι5 H5 st5 rl5 rw5 => p4 w ι5 H5 st5 rl5 rw5
    · exact p4.elim
  · rename_i hf
    refine h2 ι2 s2 H2 v v2 d d2 _ _ rl2 (rv.mono st2.ex st2.pre) rv2 hf fun w ι3 H3 st3 rl3 rw3 => ?_
    cases rw3
    exact ⟨false, rfl, iteF (p2 _ ι3 H3 st3 rl3 (.bl false))⟩
  · exact p2.elim

/-! ### truth, and, or, not -/
def truth : D → Option Bool
  | .non => some false
  | .bl b => some b
  | .int i => some (i != 0)
  | .str x => if x.length ≤ 1000000 then some ((x.length : Int) != 0) else none
  | .lst xs => some (!xs.isEmpty)
  | .ro xs => some (!xs.isEmpty)
  | .tup xs => some (!xs.isEmpty)
  | _ => none
theorem RepL.empty {T : Txt} {xp : XT} {G : Hp} {ι : Io} {v : List V} {d : List D} (h : RepL T xp G ι v d) : v.isEmpty = d.isEmpty := by cases h <;> rfl
theorem truth_v {K : PySem.W.Frag} {T : Txt} {xp : XT} {ι : Io} {st : Store} {H : Hp} {v : V} {d : D} {b : Bool} (hK : K = T.K) (r : Rep T xp (hide ι st H) ι v d) (h : truth d = some b) : TruV K v H b := by
  subst hK
  cases r with
  | non => cases h; rfl
  | bl => cases h; rfl
  | int => cases h; rfl
  | str x =>
    unfold truth at h
    dsimp only at h
    split at h
    · rename_i hl
      cases h
      exact ⟨Nat.le_trans hl (by decide), rfl⟩
    · cases h
  | lst h1 h2 =>
    cases h
    exact .inl ⟨_, SqL.of (hide_sub h1), by rw [h2.empty]⟩
  | ro h1 h2 =>
    cases h
    exact .inl ⟨_, le_l (hide_le _ _ _) h1, by rw [h2.empty]⟩
  | tup h1 h2 =>
    cases h
    exact .inr (.inl ⟨_, le_t (hide_le _ _ _) h1, by rw [h2.empty]⟩)
  | _ => cases h
def dAnd (a b : DE) : DE := fun ρ st => (a ρ st).bind fun x s1 => match truth x with
  | some true => b ρ s1
  | some false => .ok x s1
  | none => .bad
def dOr (a b : DE) : DE := fun ρ st => (a ρ st).bind fun x s1 => match truth x with
  | some true => .ok x s1
  | some false => b ρ s1
  | none => .bad
def dNot (a : DE) : DE := fun ρ st => (a ρ st).bind fun x s1 => match truth x with
  | some t => .ok (.bl (!t)) s1
  | none => .bad
def dTruth (a : DE) : DT := fun ρ st => (a ρ st).bind fun x s1 => match truth x with
  | some t => .ok t s1
  | none => .bad
def dIte (t : DT) (a b : DE) : DE := fun ρ st => (t ρ st).bind fun x s1 => match x with
  | true => a ρ s1
  | false => b ρ s1
section
variable {a b e : Expr} {ma mb : DE} {mt : DT} {pos : Pos} {rest : List Expr}
theorem pd_and (ha : PD C a ma) (hb : PD C (.BoolOp .And (b :: rest) pos) mb) : PD C (.BoolOp .And (a :: b :: rest) pos) (dAnd ma mb) :=
  PE.imp (pe_andT ha hb) fun σ H Q ⟨ρ, st, ι, er, rl, p⟩ => by
    refine ⟨ρ, st, ι, er, rl, post_bind p fun d s1 v ι1 H1 st1 rl1 rv p1 => ?_⟩
    split at p1
    · rename_i h
      exact ⟨true, truth_v C.hK rv h, iteT ⟨ρ, s1, ι1, er.step st1, rl1, p1⟩⟩
    · rename_i h
      exact ⟨false, truth_v C.hK rv h, iteF (p1 v ι1 H1 (Step.refl _ _ _) rl1 rv)⟩
    · exact p1.elim
theorem pd_or (ha : PD C a ma) (hb : PD C (.BoolOp .Or (b :: rest) pos) mb) : PD C (.BoolOp .Or (a :: b :: rest) pos) (dOr ma mb) :=
  PE.imp (pe_orT ha hb) fun σ H Q ⟨ρ, st, ι, er, rl, p⟩ => by
    refine ⟨ρ, st, ι, er, rl, post_bind p fun d s1 v ι1 H1 st1 rl1 rv p1 => ?_⟩
    split at p1
    · rename_i h
      exact ⟨true, truth_v C.hK rv h, iteT (p1 v ι1 H1 (Step.refl _ _ _) rl1 rv)⟩
    · rename_i h
      exact ⟨false, truth_v C.hK rv h, iteF ⟨ρ, s1, ι1, er.step st1, rl1, p1⟩⟩
    · exact p1.elim
theorem pd_last {op : BoolOp} (ha : PD C a ma) : PD C (.BoolOp op [a] pos) ma := pe_one ha
theorem pd_not (ha : PD C a ma) : PD C (.UnaryOp .Not a pos) (dNot ma) :=
  PE.imp (pe_notT ha) fun σ H Q ⟨ρ, st, ι, er, rl, p⟩ => by
    refine ⟨ρ, st, ι, er, rl, post_bind p fun d s1 v ι1 H1 st1 rl1 rv p1 => ?_⟩
    split at p1
    · rename_i t h
      exact ⟨t, truth_v C.hK rv h, p1 _ ι1 H1 (Step.refl _ _ _) rl1 (.bl _)⟩
    · exact p1.elim
end
end
end Den

set_option maxRecDepth 100000
set_option maxHeartbeats 4000000
/-! Den: tests, choices, subscripts, equality, membership, len. -/
namespace Den
open PySem PySem.Spec L2

/-! ### tests -/
/-- a value that must be a truth -/
def asB (a : DE) : DT := fun ρ st => (a ρ st).bind fun x s1 => match x with
  | .bl t => .ok t s1
  | _ => .bad
def tAndD (a b : DT) : DT := fun ρ st => (a ρ st).bind fun x s1 => match x with
  | true => b ρ s1
  | false => .ok false s1
def tOrD (a b : DT) : DT := fun ρ st => (a ρ st).bind fun x s1 => match x with
  | true => .ok true s1
  | false => b ρ s1
def tNotD (a : DT) : DT := fun ρ st => (a ρ st).bind fun x s1 => .ok (!x) s1
section
variable {C : Ctx} {a b c e : Expr} {ma mb mc : DE} {ta tb : DT} {pos : Pos} {rest : List Expr}
abbrev PDW (C : Ctx) (e : Expr) (m : DT) : Prop := PW C.X e (tDT C.T C.xp C.W m)
theorem PW.imp {X : Cx} {e : Expr} {t t' : TT} (h : PW X e t) (i : ∀ σ H Q, t' σ H Q → t σ H Q) : PW X e t' := ⟨fun w pins s σ H Q I q => h.run w pins s σ H Q I (i σ H Q q)⟩
theorem asB_of {t : TE} {m : DE} (h : ∀ σ H Q, tD C.T C.xp C.W m σ H Q → t σ H Q) : ∀ σ H Q, tDT C.T C.xp C.W (asB m) σ H Q → tTest t σ H Q := fun σ H Q ⟨ρ, st, ι, er, rl, p⟩ => by
  refine h σ H _ ⟨ρ, st, ι, er, rl, post_bind p fun d s1 v ι1 H1 st1 rl1 rv p1 => ?_⟩
  cases rv with
  | bl t => exact ⟨t, rfl, p1 t ι1 H1 (Step.refl _ _ _) rl1 rfl⟩
  | _ => exact p1.elim
theorem pdt_cmp {op : CmpOp} {f : D → D → Option D} (h : CmpD C op f) (ha : PD C a ma) (hb : PD C b mb) (hm : behindInMarks op b = false) : PDT C (.Compare a [op] [b] pos) (asB (dOp2 f ma mb)) := by
  obtain ⟨r, h1, h2⟩ := h.ex
  exact PT.imp (pt_cmpR h1 ha hb hm) (asB_of (tOp_of h2))
theorem chain_of {op op' : CmpOp} {r r' : R2} {f g : D → D → Option D} (h2 : OpD C r f) (h4 : OpD C r' g) : ∀ σ H Q, tD C.T C.xp C.W (dChain f g ma mb mc) σ H Q → tChain r r' (tD C.T C.xp C.W ma) (tD C.T C.xp C.W mb) (tD C.T C.xp C.W mc) σ H Q := fun σ H Q ⟨ρ, st, ι, er, rl, p⟩ => by
  refine ⟨ρ, st, ι, er, rl, post_bind p fun d s1 v ι1 H1 st1 rl1 rv p1 => ?_⟩
  refine ⟨ρ, s1, ι1, er.step st1, rl1, post_bind p1 fun d2 s2 v2 ι2 H2 st2 rl2 rv2 p2 => ?_⟩
  split at p2
  · rename_i hf
    refine h2 ι2 s2 H2 v v2 d d2 _ _ rl2 (rv.mono st2.ex st2.pre) rv2 hf fun w ι3 H3 st3 rl3 rw3 => ?_
    cases rw3
    refine ⟨true, rfl, iteT ?_⟩
    refine ⟨ρ, s2, ι3, (er.step (st1.trans st2)).step st3, rl3, post_bind (Post.step p2 st3) fun d3 s3 v3 ι4 H4 st4 rl4 rv4 p4 => ?_⟩
    split at p4
    · rename_i z hz
      exact h4 ι4 s3 H4 v2 v3 d2 d3 z _ rl4 (rv2.mono (st3.ex.trans st4.ex) (st3.pre.trans st4.pre)) rv4 hz fun w ι5 H5 st5 rl5 rw5 => p4 w ι5 H5 st5 rl5 rw5
    · exact p4.elim
  · rename_i hf
    refine h2 ι2 s2 H2 v v2 d d2 _ _ rl2 (rv.mono st2.ex st2.pre) rv2 hf fun w ι3 H3 st3 rl3 rw3 => ?_
    cases rw3
    exact ⟨false, rfl, iteF (p2 _ ι3 H3 st3 rl3 (.bl false))⟩
  · exact p2.elim
theorem pdt_chain {op op' : CmpOp} {f g : D → D → Option D} (h : CmpD C op f) (h' : CmpD C op' g) (ha : PD C a ma) (hb : PD C b mb) (hc : PD C c mc) (hm : lastMarks [op, op'] [b, c] = false := by with_unfolding_all rfl) :
    PDT C (.Compare a [op, op'] [b, c] pos) (asB (dChain f g ma mb mc)) := by
  obtain ⟨r, h1, h2⟩ := h.ex
  obtain ⟨r', h3, h4⟩ := h'.ex
  exact PT.imp (pt_chain h1 h3 ha hb hc hm) (asB_of (chain_of (op := op) (op' := op') h2 h4))
theorem pdt_truth (ha : PD C a ma) (he : ∀ whole, isTrue a C.X.env whole = (do let v ← whole; standAt a.pos; holding [v] (truthy v)) := by intro _; rfl) : PDT C a (dTruth ma) :=
  PT.imp (pt_truth ha he) fun σ H Q ⟨ρ, st, ι, er, rl, p⟩ => by
    refine ⟨ρ, st, ι, er, rl, post_bind p fun d s1 v ι1 H1 st1 rl1 rv p1 => ?_⟩
    split at p1
    · rename_i t h
      exact ⟨t, truth_v C.hK rv h, p1 t ι1 H1 (Step.refl _ _ _) rl1 rfl⟩
    · exact p1.elim
theorem pdt_not (ha : PDT C a ta) : PDT C (.UnaryOp .Not a pos) (tNotD ta) :=
  PT.imp (pt_not ha) fun σ H Q ⟨ρ, st, ι, er, rl, p⟩ => by
    refine ⟨ρ, st, ι, er, rl, post_bind p fun d s1 v ι1 H1 st1 rl1 rv p1 => ?_⟩
    have e : v = d := rv
    subst e
    exact p1 _ ι1 H1 (Step.refl _ _ _) rl1 rfl
theorem pdw_and1 (ha : PDT C a ta) : PDW C (.BoolOp .And [a] pos) ta := pw_and1 ha
theorem pdw_or1 (ha : PDT C a ta) : PDW C (.BoolOp .Or [a] pos) ta := pw_or1 ha
theorem pdw_and (ha : PDT C a ta) (hb : PDW C (.BoolOp .And (b :: rest) pos) tb) : PDW C (.BoolOp .And (a :: b :: rest) pos) (tAndD ta tb) :=
  PW.imp (pw_and ha hb) fun σ H Q ⟨ρ, st, ι, er, rl, p⟩ => by
    refine ⟨ρ, st, ι, er, rl, post_bind p fun d s1 v ι1 H1 st1 rl1 rv p1 => ?_⟩
    have e : v = d := rv
    subst e
    cases v with
    | true => exact iteT ⟨ρ, s1, ι1, er.step st1, rl1, p1⟩
    | false => exact iteF (p1 false ι1 H1 (Step.refl _ _ _) rl1 rfl)
theorem pdw_or (ha : PDT C a ta) (hb : PDW C (.BoolOp .Or (b :: rest) pos) tb) : PDW C (.BoolOp .Or (a :: b :: rest) pos) (tOrD ta tb) :=
  PW.imp (pw_or ha hb) fun σ H Q ⟨ρ, st, ι, er, rl, p⟩ => by
    refine ⟨ρ, st, ι, er, rl, post_bind p fun d s1 v ι1 H1 st1 rl1 rv p1 => ?_⟩
    have e : v = d := rv
    subst e
    cases v with
    | true => exact iteT (p1 true ι1 H1 (Step.refl _ _ _) rl1 rfl)
    | false => exact iteF ⟨ρ, s1, ι1, er.step st1, rl1, p1⟩
theorem pdt_w (h : PDW C e ta) : PDT C e ta := h.pt
theorem pd_ite {t : DT} (ht : PDT C c t) (ha : PD C a ma) (hb : PD C b mb) : PD C (.IfExp c a b pos) (dIte t ma mb) :=
  PE.imp (pe_ifExp ht ha hb) fun σ H Q ⟨ρ, st, ι, er, rl, p⟩ => by
    refine ⟨ρ, st, ι, er, rl, post_bind p fun d s1 v ι1 H1 st1 rl1 rv p1 => ?_⟩
    have e : v = d := rv
    subst e
    cases v with
    | true => exact iteT ⟨ρ, s1, ι1, er.step st1, rl1, p1⟩
    | false => exact iteF ⟨ρ, s1, ι1, er.step st1, rl1, p1⟩
end

/-! ### plain data: == != in -/
mutual
def toPy : D → Option PyData
  | .non => some .none
  | .bl b => some (.bool b)
  | .int i => some (.int i)
  | .str x => some (.str x)
  | .lst xs => (toPyL xs).map .list
  | .ro xs => (toPyL xs).map .list
  | .tup xs => (toPyL xs).map .tuple
  | _ => none
def toPyL : List D → Option (List PyData)
  | [] => some []
  | x :: xs => match toPy x, toPyL xs with
    | some p, some ps => some (p :: ps)
    | _, _ => none
end
section
variable {T : Txt} {xp : XT} {G H : Hp} {ι : Io}
mutual
theorem dp_of (l : Le G H) : ∀ {v : V} {d : D} {p : PyData}, Rep T xp G ι v d → toPy d = some p → Dp T.K H v p
  | _, _, _, .non, h => by simp only [toPy] at h; cases h; exact .non
  | _, _, _, .bl b, h => by simp only [toPy] at h; cases h; exact .bl b
  | _, _, _, .int i, h => by simp only [toPy] at h; cases h; exact .int i
  | _, _, _, .str x, h => by simp only [toPy] at h; cases h; exact .str x
  | _, _, _, .lst h1 r, h => by
    simp only [toPy, Option.map_eq_some_iff] at h
    obtain ⟨ps, h2, rfl⟩ := h
    exact .lst (SqL.of (l _ _ h1)) (dp_ofL l r h2)
  | _, _, _, .ro h1 r, h => by
    simp only [toPy, Option.map_eq_some_iff] at h
    obtain ⟨ps, h2, rfl⟩ := h
    exact .lst (le_l l h1) (dp_ofL l r h2)
  | _, _, _, .tup h1 r, h => by
    simp only [toPy, Option.map_eq_some_iff] at h
    obtain ⟨ps, h2, rfl⟩ := h
    exact .tup (le_t l h1) (dp_ofL l r h2)
  | _, _, _, .ty _, h => by simp only [toPy] at h; cases h
  | _, _, _, .cl _, h => by simp only [toPy] at h; cases h
  | _, _, _, .fn _, h => by simp only [toPy] at h; cases h
  | _, _, _, .dic _ _ _, h => by simp only [toPy] at h; cases h
  | _, _, _, .ins _ _ _, h => by simp only [toPy] at h; cases h
  | _, _, _, .exc _ _, h => by simp only [toPy] at h; cases h
  | _, _, _, .excd _ _ _ _ _, h => by simp only [toPy] at h; cases h
  | _, _, _, .err _ _, h => by simp only [toPy] at h; cases h
  | _, _, _, .errd _ _ _ _, h => by simp only [toPy] at h; cases h
  | _, _, _, .box _, h => by simp only [toPy] at h; cases h
theorem dp_ofL (l : Le G H) : ∀ {v : List V} {d : List D} {p : List PyData}, RepL T xp G ι v d → toPyL d = some p → DpAll T.K H v p
  | _, _, _, .nil, h => by simp only [toPyL] at h; cases h; exact .nil
  | _, _, _, .cons r rs, h => by
    simp only [toPyL] at h
    split at h
    · rename_i h1 h2
      cases h
      exact .cons (dp_of l r h1) (dp_ofL l rs h2)
    · cases h
end
end
def eqD (x y : D) : Option Bool := match toPy x, toPy y with
  | some p, some q => if SeqAt.shaped p = true ∧ SeqAt.shaped q = true then some (PyData.eqv p q) else none
  | _, _ => none
theorem eqD_some {x y : D} {b : Bool} (h : eqD x y = some b) : ∃ p q, toPy x = some p ∧ toPy y = some q ∧ SeqAt.shaped p = true ∧ SeqAt.shaped q = true ∧ b = PyData.eqv p q := by
  unfold eqD at h
  split at h
  · rename_i p q hp hq
    split at h
    · rename_i hs
      exact ⟨p, q, hp, hq, hs.1, hs.2, (Option.some.inj h).symm⟩
    · cases h
  · cases h
/-- two texts, of any kind -/
def strEq : D → D → Option Bool
  | .str a, .str b => some (a == b)
  | _, _ => none
theorem strEq_some {x y : D} {b : Bool} (h : strEq x y = some b) : ∃ i j, x = .str i ∧ y = .str j ∧ b = (i == j) := by
  unfold strEq at h
  split at h
  · exact ⟨_, _, rfl, rfl, (Option.some.inj h).symm⟩
  · cases h
def fEq (x y : D) : Option D := ((strEq x y).map D.bl).or ((eqD x y).map D.bl)
def fNe (x y : D) : Option D := ((strEq x y).map fun b => D.bl (!b)).or ((eqD x y).map fun b => D.bl (!b))
section
variable {C : Ctx}
theorem cmp_eq (hu : C.X.A.units + 64 < cLine) : CmpD C .Eq fEq := ⟨_, op_eq.or (op_eqD hu), OpD.or (fun ι st H x y dx dy dz Q rl rx ry e k => by
  obtain ⟨b, hb, rfl⟩ := Option.map_eq_some_iff.mp e
  obtain ⟨i, j, rfl, rfl, rfl⟩ := strEq_some hb
  cases rx
  cases ry
  refine ⟨rfl, ?_⟩
  rw [dec_str]
  exact k _ ι H (Step.refl _ _ _) rl (.bl _)) fun ι st H x y dx dy dz Q rl rx ry e k => by
  obtain ⟨b, hb, rfl⟩ := Option.map_eq_some_iff.mp e
  obtain ⟨p, q, hp, hq, s1, s2, rfl⟩ := eqD_some hb
  refine ⟨p, q, ?_, ?_, s1, s2, k _ ι H (Step.refl _ _ _) rl (.bl _)⟩
  · rw [C.hK]; exact dp_of (hide_le _ _ _) rx hp
  · rw [C.hK]; exact dp_of (hide_le _ _ _) ry hq⟩
theorem cmp_ne (hu : C.X.A.units + 64 < cLine) : CmpD C .NotEq fNe := ⟨_, op_ne.or (op_neD hu), OpD.or (fun ι st H x y dx dy dz Q rl rx ry e k => by
  obtain ⟨b, hb, rfl⟩ := Option.map_eq_some_iff.mp e
  obtain ⟨i, j, rfl, rfl, rfl⟩ := strEq_some hb
  cases rx
  cases ry
  refine ⟨rfl, ?_⟩
  rw [dec_str]
  exact k _ ι H (Step.refl _ _ _) rl (.bl _)) fun ι st H x y dx dy dz Q rl rx ry e k => by
  obtain ⟨b, hb, rfl⟩ := Option.map_eq_some_iff.mp e
  obtain ⟨p, q, hp, hq, s1, s2, rfl⟩ := eqD_some hb
  refine ⟨p, q, ?_, ?_, s1, s2, k _ ι H (Step.refl _ _ _) rl (.bl _)⟩
  · rw [C.hK]; exact dp_of (hide_le _ _ _) rx hp
  · rw [C.hK]; exact dp_of (hide_le _ _ _) ry hq⟩
/-- is it the None? -/
def fIsN : D → D → Option D
  | .non, .non => some (.bl true)
  | .bl _, .non => some (.bl false)
  | .int _, .non => some (.bl false)
  | .str _, .non => some (.bl false)
  | .lst _, .non => some (.bl false)
  | .ro _, .non => some (.bl false)
  | .tup _, .non => some (.bl false)
  | .dic _ _, .non => some (.bl false)
  | .ins _ _, .non => some (.bl false)
  | .box _, .non => some (.bl false)
  | _, _ => none
def fNotN (x y : D) : Option D := (fIsN x y).map fun d => match d with
  | .bl b => .bl (!b)
  | d => d
theorem fIsN_some {T : Txt} {xp : XT} {G : Hp} {ι : Io} {v w : V} {x y z : D} (r : Rep T xp G ι v x) (r' : Rep T xp G ι w y) (h : fIsN x y = some z) : w = .non ∧ z = .bl (decide (v = .non)) := by
  cases r' with
  | non =>
    refine ⟨rfl, ?_⟩
    cases r <;> first | (cases h; simp; done) | (cases h; done)
  | _ => cases r <;> cases h
theorem cmp_is : CmpD C .Is fIsN := ⟨_, op_isN, fun ι st H x y dx dy dz Q rl rx ry e k => by
  obtain ⟨h1, rfl⟩ := fIsN_some rx ry e
  exact ⟨h1, k _ ι H (Step.refl _ _ _) rl (.bl _)⟩⟩
theorem cmp_isnot : CmpD C .IsNot fNotN := ⟨_, op_notN, fun ι st H x y dx dy dz Q rl rx ry e k => by
  obtain ⟨d, hd, rfl⟩ := Option.map_eq_some_iff.mp e
  obtain ⟨h1, rfl⟩ := fIsN_some rx ry hd
  exact ⟨h1, k _ ι H (Step.refl _ _ _) rl (.bl _)⟩⟩
/-- x in a list, a tuple of flat things; a sign in a text -/
def flatD : D → Bool
  | .non | .bl _ | .int _ | .str _ => true
  | _ => false
def flatV' : D → V
  | .bl b => .bl b
  | .int i => .int i
  | .str x => .str x
  | _ => .non
theorem flat_rep {T : Txt} {xp : XT} {G : Hp} {ι : Io} {v : V} {d : D} (r : Rep T xp G ι v d) (h : flatD d = true) : v = flatV' d ∧ flatV v = true := by
  cases r <;> first | exact ⟨rfl, rfl⟩ | (cases h; done)
theorem flat_repL {T : Txt} {xp : XT} {G : Hp} {ι : Io} : ∀ {v : List V} {d : List D}, RepL T xp G ι v d → d.all flatD = true → v = d.map flatV' ∧ v.all flatV = true
  | _, _, .nil, _ => ⟨rfl, rfl⟩
  | _, _, .cons r rs, h => by
    rw [List.all_cons, Bool.and_eq_true] at h
    obtain ⟨e1, e2⟩ := flat_rep r h.1
    obtain ⟨e3, e4⟩ := flat_repL rs h.2
    exact ⟨by rw [e1, e3]; rfl, by rw [List.all_cons, e2, e4]; rfl⟩
def seqOf : D → Option (List D)
  | .lst xs => some xs
  | .ro xs => some xs
  | .tup xs => some xs
  | _ => none
theorem seq_rep {T : Txt} {xp : XT} {G H : Hp} {ι : Io} {v : V} {d : D} {ds : List D} (l : Le G H) (r : Rep T xp G ι v d) (h : seqOf d = some ds) : ∃ a xs, v = .ref a ∧ (SqL T.K H a xs ∨ SqT T.K H a xs) ∧ RepL T xp G ι xs ds := by
  cases r with
  | lst h1 h2 => cases h; exact ⟨_, _, rfl, .inl (SqL.of (l _ _ h1)), h2⟩
  | ro h1 h2 => cases h; exact ⟨_, _, rfl, .inl (le_l l h1), h2⟩
  | tup h1 h2 => cases h; exact ⟨_, _, rfl, .inr (le_t l h1), h2⟩
  | _ => cases h
def inD (x y : D) : Option Bool := match seqOf y with
  | some ys => if flatD x = true ∧ ys.all flatD = true then some (inV (flatV' x) (ys.map flatV')) else none
  | none => none
theorem inD_some {x y : D} {b : Bool} (h : inD x y = some b) : ∃ ys, seqOf y = some ys ∧ flatD x = true ∧ ys.all flatD = true ∧ b = inV (flatV' x) (ys.map flatV') := by
  unfold inD at h
  split at h
  · rename_i ys hy
    split at h
    · rename_i hs
      exact ⟨ys, hy, hs.1, hs.2, (Option.some.inj h).symm⟩
    · cases h
  · cases h
theorem in_seq {neg : Bool} : OpD C (rIn C.X.K neg) (fun x y => (inD x y).map fun b => D.bl (if neg = true then !b else b)) := fun ι st H x y dx dy dz Q rl rx ry e k => by
  obtain ⟨b, hb, rfl⟩ := Option.map_eq_some_iff.mp e
  obtain ⟨ys, hy, f1, f2, rfl⟩ := inD_some hb
  obtain ⟨a, xs, rfl, hs, rs⟩ := seq_rep (hide_le ι st H) ry hy
  obtain ⟨e1, e2⟩ := flat_rep rx f1
  obtain ⟨e3, e4⟩ := flat_repL rs f2
  refine ⟨a, xs, rfl, by rw [C.hK]; exact hs, e2, e4, ?_⟩
  rw [e1, e3]
  cases neg with
  | true => exact k _ ι H (Step.refl _ _ _) rl (.bl _)
  | false => exact k _ ι H (Step.refl _ _ _) rl (.bl _)
/-- one sign in a text -/
def signIn : D → D → Option Bool
  | .str x, .str z => if x.cps.size = 1 then some (decide (x.cps.getD 0 0 ∈ z.cps.toList)) else none
  | _, _ => none
theorem one_sign {x : Str} (h : x.cps.size = 1) : x = ⟨#[x.cps.getD 0 0]⟩ := by
  obtain ⟨⟨l⟩⟩ := x
  match l, h with
  | [a], _ => rfl
theorem signIn_some {x y : D} {b : Bool} (h : signIn x y = some b) : ∃ c z, x = .str ⟨#[c]⟩ ∧ y = .str z ∧ b = decide (c ∈ z.cps.toList) := by
  cases x <;> first | (cases h; done) | skip
  cases y <;> first | (cases h; done) | skip
  rename_i x z
  dsimp only [signIn] at h
  split at h
  · rename_i hs
    exact ⟨_, z, congrArg D.str (one_sign hs), rfl, (Option.some.inj h).symm⟩
  · cases h
def fIn (x y : D) : Option D := ((inD x y).map fun b => D.bl (if false = true then !b else b)).or ((signIn x y).map D.bl)
def fNotIn (x y : D) : Option D := ((inD x y).map fun b => D.bl (if true = true then !b else b)).or ((signIn x y).map fun b => D.bl (!b))
theorem cmp_in : CmpD C .In fIn := ⟨_, op_in_seq.or op_in_sign, in_seq.or fun ι st H x y dx dy dz Q rl rx ry e k => by
  obtain ⟨b, hb, rfl⟩ := Option.map_eq_some_iff.mp e
  obtain ⟨c, z, rfl, rfl, rfl⟩ := signIn_some hb
  cases rx
  cases ry
  exact ⟨c, z, rfl, rfl, k _ ι H (Step.refl _ _ _) rl (.bl _)⟩⟩
theorem cmp_notin : CmpD C .NotIn fNotIn := ⟨_, op_notIn_seq.or op_notIn_sign, in_seq.or fun ι st H x y dx dy dz Q rl rx ry e k => by
  obtain ⟨b, hb, rfl⟩ := Option.map_eq_some_iff.mp e
  obtain ⟨c, z, rfl, rfl, rfl⟩ := signIn_some hb
  cases rx
  cases ry
  exact ⟨c, z, rfl, rfl, k _ ι H (Step.refl _ _ _) rl (.bl _)⟩⟩
end
end Den

set_option maxRecDepth 100000
set_option maxHeartbeats 4000000
/-! Den: subscripts, slices, built-ins by name, methods of built-in types. -/
namespace Den
open PySem PySem.Spec L2

/-- a list's items, wherever it is told -/
def itemsOf (d : D) (st : Store) : Option (List D) := match d with
  | .lst xs => some xs
  | .ro xs => some xs
  | .tup xs => some xs
  | .box k => match st[k]? with
    | some (.lst xs) => some xs
    | _ => none
  | _ => none
theorem items_rep {T : Txt} {xp : XT} {ι : Io} {st : Store} {H : Hp} {v : V} {d : D} {ds : List D} (rl : RelSt T xp ι st H) (r : Rep T xp (hide ι st H) ι v d) (h : itemsOf d st = some ds) :
    ∃ a xs, v = .ref a ∧ (SqL T.K H a xs ∨ SqT T.K H a xs) ∧ RepL T xp (hide ι st H) ι xs ds := by
  cases r with
  | lst h1 h2 => cases h; exact ⟨_, _, rfl, .inl (SqL.of (hide_sub h1)), h2⟩
  | ro h1 h2 => cases h; exact ⟨_, _, rfl, .inl (le_l (hide_le _ _ _) h1), h2⟩
  | tup h1 h2 => cases h; exact ⟨_, _, rfl, .inr (le_t (hide_le _ _ _) h1), h2⟩
  | box hk =>
    unfold itemsOf at h
    dsimp only at h
    split at h
    · rename_i xs hs
      cases h
      obtain ⟨ys, h1, h2⟩ := rl.ok _ _ _ hk hs
      exact ⟨_, _, rfl, .inl (SqL.of h1), h2⟩
    · cases h
  | _ => cases h
/-- the same, no tuple -/
def litemsOf (d : D) (st : Store) : Option (List D) := match d with
  | .lst xs => some xs
  | .ro xs => some xs
  | .box k => match st[k]? with
    | some (.lst xs) => some xs
    | _ => none
  | _ => none
theorem litems_rep {T : Txt} {xp : XT} {ι : Io} {st : Store} {H : Hp} {v : V} {d : D} {ds : List D} (rl : RelSt T xp ι st H) (r : Rep T xp (hide ι st H) ι v d) (h : litemsOf d st = some ds) :
    ∃ a xs, v = .ref a ∧ SqL T.K H a xs ∧ RepL T xp (hide ι st H) ι xs ds := by
  cases r with
  | lst h1 h2 => cases h; exact ⟨_, _, rfl, SqL.of (hide_sub h1), h2⟩
  | ro h1 h2 => cases h; exact ⟨_, _, rfl, le_l (hide_le _ _ _) h1, h2⟩
  | box hk =>
    unfold litemsOf at h
    dsimp only at h
    split at h
    · rename_i xs hs
      cases h
      obtain ⟨ys, h1, h2⟩ := rl.ok _ _ _ hk hs
      exact ⟨_, _, rfl, SqL.of h1, h2⟩
    · cases h
  | _ => cases h
theorem atI_rep {T : Txt} {xp : XT} {G : Hp} {ι : Io} {xs : List V} {ds : List D} {i : Int} {d : D} (r : RepL T xp G ι xs ds) (h : atI ds i = some d) : ∃ v, atI xs i = some v ∧ Rep T xp G ι v d := by
  unfold atI at h ⊢
  rw [r.length]
  cases hj : ixN ds.length i with
  | none => rw [hj] at h; cases h
  | some j =>
    rw [hj] at h
    simp only [Option.bind_some] at h ⊢
    obtain ⟨u, h1, h2⟩ := r.get h
    exact ⟨u, h1, h2⟩
/-- x[i] -/
def ixD (x : D) (i : D) (st : Store) : Option D := match i with
  | .int j => match x with
    | .str z => if z.length ≤ 1000000 then (atI z.cps.toList j).map fun c => D.str ⟨#[c]⟩ else none
    | x => (itemsOf x st).bind fun xs => atI xs j
  | _ => none
def dIx (a b : DE) : DE := fun ρ st => (a ρ st).bind fun x s1 => (b ρ s1).bind fun y s2 => match ixD x y s2 with
  | some z => .ok z s2
  | none => .bad
section
variable {C : Ctx} {a b e : Expr} {es : List Expr} {ma mb : DE} {pos apos : Pos}
theorem pd_ix (ha : PD C a ma) (hb : PD C b mb) (hs : PlainIx b := by intro _ _; rfl) : PD C (.Subscript a b pos) (dIx ma mb) :=
  PE.imp (pe_ix ix_seq ha hb hs) fun σ H Q ⟨ρ, st, ι, er, rl, p⟩ => by
    refine ⟨ρ, st, ι, er, rl, post_bind p fun d s1 v ι1 H1 st1 rl1 rv p1 => ?_⟩
    refine ⟨ρ, s1, ι1, er.step st1, rl1, post_bind p1 fun d2 s2 v2 ι2 H2 st2 rl2 rv2 p2 => ?_⟩
    split at p2
    · rename_i z hz
      have rv' := rv.mono st2.ex st2.pre
      have fin : ∀ w, Rep C.T C.xp (hide ι2 s2 H2) ι2 w z → Q w H2 := fun w rw => p2 w ι2 H2 (Step.refl _ _ _) rl2 rw
      unfold ixD at hz
      split at hz
      · rename_i i
        cases rv2
        split at hz
        · rename_i z'
          cases rv'
          split at hz
          · rename_i hl
            obtain ⟨c, hc, rfl⟩ := Option.map_eq_some_iff.mp hz
            exact .inr (.inr ⟨z', i, c, rfl, rfl, Nat.le_trans hl (by decide), hc, fin _ (.str _)⟩)
          · cases hz
        · obtain ⟨xs, hx, hz⟩ := Option.bind_eq_some_iff.mp hz
          obtain ⟨p, ys, rfl, hs, rs⟩ := items_rep rl2 rv' hx
          obtain ⟨w, hw, rw⟩ := atI_rep rs hz
          rcases hs with hs | hs
          · exact .inl ⟨p, ys, i, w, rfl, rfl, by rw [C.hK]; exact hs, hw, fin _ rw⟩
          · exact .inr (.inl ⟨p, ys, i, w, rfl, rfl, by rw [C.hK]; exact hs, hw, fin _ rw⟩)
      · cases hz
    · exact p2.elim

/-! ### slices -/
abbrev DO := Rho → Store → Res (Option Int)
def tDO (T : Txt) (xp : XT) (W : WX) (m : DO) : TO := fun σ H Q => ∃ ρ st ι, EnvR T xp (hide ι st H) ι ρ σ ∧ RelSt T xp ι st H ∧ Post T xp (fun c d H => W c d σ H) ι st H (fun _ _ (a b : Option Int) => a = b) Q (m ρ st)
abbrev PDO (C : Ctx) (e : Option Expr) (m : DO) : Prop := PO C.X e (tDO C.T C.xp C.W m)
theorem PO.imp {X : Cx} {e : Option Expr} {t t' : TO} (h : PO X e t) (i : ∀ σ H Q, t' σ H Q → t σ H Q) : PO X e t' := ⟨fun pins s σ H Q I q => h.run pins s σ H Q I (i σ H Q q)⟩
def oNone : DO := fun _ st => .ok none st
def oSome (a : DE) : DO := fun ρ st => (a ρ st).bind fun x s1 => match x with
  | .int i => .ok (some i) s1
  | _ => .bad
theorem pdo_none : PDO C none oNone := PO.imp po_none fun σ H Q ⟨ρ, st, ι, er, rl, p⟩ => p none ι H (Step.refl _ _ _) rl rfl
theorem pdo_some (h : PD C e ma) : PDO C (some e) (oSome ma) := PO.imp (po_some h) fun σ H Q ⟨ρ, st, ι, er, rl, p⟩ => by
  refine ⟨ρ, st, ι, er, rl, post_bind p fun d s1 v ι1 H1 st1 rl1 rv p1 => ?_⟩
  cases rv with
  | int i => exact ⟨i, rfl, p1 _ ι1 H1 (Step.refl _ _ _) rl1 rfl⟩
  | _ => exact p1.elim
def cutD (xs : List D) (lo hi : Option Int) : List D := (xs.drop (HT.sIx xs.length 0 lo)).take (HT.sIx xs.length xs.length hi - HT.sIx xs.length 0 lo)
theorem cut_rep {T : Txt} {xp : XT} {G : Hp} {ι : Io} {xs : List V} {ds : List D} (r : RepL T xp G ι xs ds) (lo hi : Option Int) : RepL T xp G ι (cutV xs lo hi) (cutD ds lo hi) := by
  unfold cutV cutD
  rw [r.length]
  exact (r.drop _).take _
def slD (x : D) (lo hi : Option Int) (st : Store) : Option D := match x with
  | .str z => if z.length ≤ 1000000 then some (.str (cutS z lo hi)) else none
  | .tup xs => some (.tup (cutD xs lo hi))
  | x => (litemsOf x st).map fun xs => .lst (cutD xs lo hi)
def dSl (a : DE) (l h : DO) : DE := fun ρ st => (a ρ st).bind fun x s1 => (l ρ s1).bind fun lo s2 => (h ρ s2).bind fun hi s3 => match slD x lo hi s3 with
  | some z => .ok z s3
  | none => .bad
theorem cut_whole (xs : List D) (lo hi : Option Int) (h : HT.sIx xs.length 0 lo = 0 ∧ HT.sIx xs.length xs.length hi = xs.length) : cutD xs lo hi = xs := by
  unfold cutD
  rw [h.1, h.2]
  simp
theorem pd_slice {lo hi : Option Expr} {ml mh : DO} {p2 : Pos} (ha : PD C a ma) (hl : PDO C lo ml) (hh : PDO C hi mh) : PD C (.Subscript a (.Slice lo hi none p2) pos) (dSl ma ml mh) :=
  PE.imp (pe_slice (sl_str.or (sl_tupA.or sl_list)) ha hl hh) fun σ H Q ⟨ρ, st, ι, er, rl, p⟩ => by
    refine ⟨ρ, st, ι, er, rl, post_bind p fun d s1 v ι1 H1 st1 rl1 rv p1 => ?_⟩
    refine ⟨ρ, s1, ι1, er.step st1, rl1, post_bind p1 fun d2 s2 v2 ι2 H2 st2 rl2 rv2 p2 => ?_⟩
    refine ⟨ρ, s2, ι2, er.step (st1.trans st2), rl2, post_bind p2 fun d3 s3 v3 ι3 H3 st3 rl3 rv3 p3 => ?_⟩
    have e2 : v2 = d2 := rv2
    have e3 : v3 = d3 := rv3
    subst e2 e3
    have rv' := rv.mono (st2.ex.trans st3.ex) (st2.pre.trans st3.pre)
    split at p3
    · rename_i z hz
      unfold slD at hz
      split at hz
      · rename_i z'
        cases rv'
        split at hz
        · rename_i hl
          cases hz
          exact .inl ⟨z', rfl, Nat.le_trans hl (by decide), p3 _ ι3 H3 (Step.refl _ _ _) rl3 (.str _)⟩
        · cases hz
      · cases hz
        cases rv' with
        | @tup q ys ds h1 r1 =>
          refine .inr (.inl ⟨q, ys, rfl, by rw [C.hK]; exact le_t (hide_le _ _ _) h1, fun hw => ?_, fun _ pp hp => ?_⟩)
          · rw [r1.length] at hw
            rw [cut_whole _ _ _ hw] at p3
            exact p3 _ ι3 H3 (Step.refl _ _ _) rl3 (.tup h1 r1)
          · obtain ⟨ra, sa, ea⟩ := rl3.new (o := .tup (cutV ys v2 v3)) hp
            exact p3 _ ι3 _ sa ra (.tup (SqT.of ea) ((cut_rep r1 _ _).mono sa.ex sa.pre))
      · obtain ⟨xs, hx, rfl⟩ := Option.map_eq_some_iff.mp hz
        obtain ⟨q, ys, rfl, hl, rs⟩ := litems_rep rl3 rv' hx
        refine .inr (.inr ⟨q, ys, rfl, by rw [C.hK]; exact hl, fun pp hp => ?_⟩)
        obtain ⟨ra, sa, ea⟩ := rl3.new (o := .lst (cutV ys v2 v3)) hp
        exact p3 _ ι3 _ sa ra (.lst ea ((cut_rep rs _ _).mono sa.ex sa.pre))
    · exact p3.elim
end
end Den

set_option maxRecDepth 100000
set_option maxHeartbeats 4000000
/-! Den: built-ins by name, methods of built-in types, stores. -/
namespace Den
open PySem PySem.Spec PyProof.Rows L2

abbrev FB := List D → Store → Option (D × Store)
def ofO (o : Option (D × Store)) : Res D := match o with
  | some (d, st) => .ok d st
  | none => .bad
/-- a call by values is worth f -/
def CallD (C : Ctx) (r : List V → Hp → VK → Prop) (f : FB) : Prop := ∀ ι st H xs ds d st' (Q : VK), RelSt C.T C.xp ι st H → RepL C.T C.xp (hide ι st H) ι xs ds → f ds st = some (d, st') →
  (∀ v ι' H', Step ι st H ι' st' H' → RelSt C.T C.xp ι' st' H' → Rep C.T C.xp (hide ι' st' H') ι' v d → Q v H') → r xs H Q
/-- a built-in that is worth f -/
structure BltD (C : Ctx) (id : String) (f : FB) : Prop where
  ex : ∃ r, CallR C.X (.builtin id) r ∧ CallD C r f
structure TyD (C : Ctx) (t : String) (f : FB) : Prop where
  ex : ∃ r, CallR C.X (.type t) r ∧ CallD C r f
def orB (f g : FB) : FB := fun ds st => (f ds st).or (g ds st)
section
variable {C : Ctx}
theorem CallR.or {g : Value} {r r' : List V → Hp → VK → Prop} (h : CallR C.X g r) (h' : CallR C.X g r') : CallR C.X g (fun xs H Q => r xs H Q ∨ r' xs H Q) := by
  intro pins s σ H xs us Q I rx q
  rcases q with q | q
  · exact h pins s σ H xs us Q I rx q
  · exact h' pins s σ H xs us Q I rx q
theorem CallD.or {r r' : List V → Hp → VK → Prop} {f f' : FB} (h : CallD C r f) (h' : CallD C r' f') : CallD C (fun xs H Q => r xs H Q ∨ r' xs H Q) (orB f f') := fun ι st H xs ds d st' Q rl rx e k => by
  unfold orB at e
  cases hf : f ds st with
  | some z =>
    rw [hf] at e
    exact .inl (h ι st H xs ds d st' Q rl rx (hf.trans e) k)
  | none =>
    rw [hf] at e
    exact .inr (h' ι st H xs ds d st' Q rl rx e k)
theorem BltD.or {id : String} {f f' : FB} (h : BltD C id f) (h' : BltD C id f') : BltD C id (orB f f') := by
  obtain ⟨r, a, b⟩ := h.ex
  obtain ⟨r', a', b'⟩ := h'.ex
  exact ⟨_, a.or a', b.or b'⟩
theorem TyD.or {id : String} {f f' : FB} (h : TyD C id f) (h' : TyD C id f') : TyD C id (orB f f') := by
  obtain ⟨r, a, b⟩ := h.ex
  obtain ⟨r', a', b'⟩ := h'.ex
  exact ⟨_, a.or a', b.or b'⟩
def dCB (f : FB) (a : DA) : DE := fun ρ st => (a ρ st).bind fun ds s1 => ofO (f ds s1)
theorem cb_of {r : List V → Hp → VK → Prop} {f : FB} {ma : DA} (h : CallD C r f) : ∀ σ H Q, tD C.T C.xp C.W (dCB f ma) σ H Q → tCB r (tDA C.T C.xp C.W ma) σ H Q := fun σ H Q ⟨ρ, st, ι, er, rl, p⟩ => by
  refine ⟨ρ, st, ι, er, rl, post_bind p fun ds s1 vs ι1 H1 st1 rl1 rv p1 => ?_⟩
  cases hf : f ds s1 with
  | none =>
    rw [hf] at p1
    exact p1.elim
  | some z =>
    rw [hf] at p1
    exact h ι1 s1 H1 vs ds z.1 z.2 Q rl1 rv hf p1
variable {x : Str} {p pos : Pos} {e : Expr} {es : List Expr} {ma : DA} {f : FB}
theorem pd_blt {id : String} (h : BltD C id f) (hg : Gl C.X x) (hm : C.X.mg x = none) (hv : bootBuiltins x = some (.builtin id)) (ha : PDA C (e :: es) ma) (hn : x ≠ "__name__" := by decide) (hdb : (x == ("__debug__" : Str)) = false := by decide)
    (he : starEach (e :: es) C.X.env = (false, eval e C.X.env) :: starEach es C.X.env := by rfl) (hpl : (backTo pos (starEach es C.X.env)).any (·.1) = false := by rfl) : PD C (.Call (.Name x p) (e :: es) [] pos) (dCB f ma) := by
  obtain ⟨r, a, b⟩ := h.ex
  exact PE.imp (pe_callB a hg hm hv ha hn hdb he hpl) (cb_of b)
theorem pd_ty {id : String} (h : TyD C id f) (hg : Gl C.X x) (hm : C.X.mg x = none) (hv : bootBuiltins x = some (.type id)) (ha : PDA C (e :: es) ma) (hn : x ≠ "__name__" := by decide) (hdb : (x == ("__debug__" : Str)) = false := by decide)
    (he : starEach (e :: es) C.X.env = (false, eval e C.X.env) :: starEach es C.X.env := by rfl) (hpl : (backTo pos (starEach es C.X.env)).any (·.1) = false := by rfl) : PD C (.Call (.Name x p) (e :: es) [] pos) (dCB f ma) := by
  obtain ⟨r, a, b⟩ := h.ex
  exact PE.imp (pe_callTy a hg hm hv ha hn hdb he hpl) (cb_of b)

/-! ### len, all, max, min, str, int, list, tuple -/
def one (g : D → Store → Option D) : FB := fun ds st => match ds with
  | [x] => (g x st).map fun z => (z, st)
  | _ => none
theorem one_some {g : D → Store → Option D} {ds : List D} {st st' : Store} {d : D} (h : one g ds st = some (d, st')) : ∃ x, ds = [x] ∧ g x st = some d ∧ st' = st := by
  unfold one at h
  split at h
  · rename_i x
    obtain ⟨z, h1, h2⟩ := Option.map_eq_some_iff.mp h
    cases h2
    exact ⟨x, rfl, h1, rfl⟩
  · cases h
theorem repL_one {T : Txt} {xp : XT} {G : Hp} {ι : Io} {xs : List V} {x : D} (r : RepL T xp G ι xs [x]) : ∃ v, xs = [v] ∧ Rep T xp G ι v x := by
  cases r with
  | cons r1 r2 =>
    cases r2
    exact ⟨_, rfl, r1⟩
def gLen (x : D) (st : Store) : Option D := match x with
  | .str z => if z.length ≤ 1000000 then some (.int z.length) else none
  | x => (itemsOf x st).map fun xs => .int xs.length
theorem blt_len : BltD C "len" (one gLen) := ⟨_, call_len, fun ι st H xs ds d st' Q rl rx e k => by
  obtain ⟨x, rfl, hg, rfl⟩ := one_some e
  obtain ⟨v, rfl, rv⟩ := repL_one rx
  unfold gLen at hg
  split at hg
  · rename_i z
    cases rv
    split at hg
    · rename_i hl
      cases hg
      exact ⟨_, _, rfl, ⟨Nat.le_trans hl (by decide), rfl⟩, k _ ι H (Step.refl _ _ _) rl (.int _)⟩
    · cases hg
  · obtain ⟨ys, hy, rfl⟩ := Option.map_eq_some_iff.mp hg
    obtain ⟨a, zs, rfl, hs, rs⟩ := items_rep rl rv hy
    refine ⟨.ref a, zs.length, rfl, ?_, k _ ι H (Step.refl _ _ _) rl ?_⟩
    · rw [C.hK]
      rcases hs with hs | hs
      · exact .inl ⟨zs, hs, rfl⟩
      · exact .inr ⟨zs, hs, rfl⟩
    · rw [rs.length]
      exact .int _⟩
def boolsOf : List D → Option (List Bool)
  | [] => some []
  | .bl b :: r => (boolsOf r).map (b :: ·)
  | _ :: _ => none
theorem bools_rep {T : Txt} {xp : XT} {G : Hp} {ι : Io} : ∀ {xs : List V} {ds : List D} {bs : List Bool}, RepL T xp G ι xs ds → boolsOf ds = some bs → xs = bs.map V.bl
  | _, _, _, .nil, h => by cases h; rfl
  | _, _, _, .cons r rs, h => by
    cases r with
    | bl b =>
      simp only [boolsOf, Option.map_eq_some_iff] at h
      obtain ⟨r', h1, rfl⟩ := h
      rw [bools_rep rs h1]
      rfl
    | _ => simp [boolsOf] at h
def gAll (x : D) (st : Store) : Option D := (litemsOf x st).bind fun xs => (boolsOf xs).map fun bs => .bl (bs.all id)
theorem blt_all (hc : C.X.calm = true) : BltD C "all" (one gAll) := ⟨_, cr_all hc, fun ι st H xs ds d st' Q rl rx e k => by
  obtain ⟨x, rfl, hg, rfl⟩ := one_some e
  obtain ⟨v, rfl, rv⟩ := repL_one rx
  obtain ⟨ys, hy, hg⟩ := Option.bind_eq_some_iff.mp hg
  obtain ⟨bs, hb, rfl⟩ := Option.map_eq_some_iff.mp hg
  obtain ⟨a, zs, rfl, hs, rs⟩ := litems_rep rl rv hy
  refine ⟨a, bs, rfl, ?_, k _ ι H (Step.refl _ _ _) rl (.bl _)⟩
  rw [C.hK, ← bools_rep rs hb]
  exact hs⟩
def gAny (x : D) (st : Store) : Option D := (litemsOf x st).bind fun xs => (boolsOf xs).map fun bs => .bl (bs.any id)
theorem blt_any (hc : C.X.calm = true) : BltD C "any" (one gAny) := ⟨_, cr_any hc, fun ι st H xs ds d st' Q rl rx e k => by
  obtain ⟨x, rfl, hg, rfl⟩ := one_some e
  obtain ⟨v, rfl, rv⟩ := repL_one rx
  obtain ⟨ys, hy, hg⟩ := Option.bind_eq_some_iff.mp hg
  obtain ⟨bs, hb, rfl⟩ := Option.map_eq_some_iff.mp hg
  obtain ⟨a, zs, rfl, hs, rs⟩ := litems_rep rl rv hy
  refine ⟨a, bs, rfl, ?_, k _ ι H (Step.refl _ _ _) rl (.bl _)⟩
  rw [C.hK, ← bools_rep rs hb]
  exact hs⟩
def two (g : Int → Int → Int) : FB := fun ds st => match ds with
  | [.int i, .int j] => some (.int (g i j), st)
  | _ => none
theorem two_some {g : Int → Int → Int} {ds : List D} {st st' : Store} {d : D} (h : two g ds st = some (d, st')) : ∃ i j, ds = [.int i, .int j] ∧ d = .int (g i j) ∧ st' = st := by
  unfold two at h
  split at h
  · cases h
    exact ⟨_, _, rfl, rfl, rfl⟩
  · cases h
theorem repL_ints {T : Txt} {xp : XT} {G : Hp} {ι : Io} {xs : List V} {i j : Int} (r : RepL T xp G ι xs [.int i, .int j]) : xs = [.int i, .int j] := by
  cases r with
  | cons r1 r2 =>
    cases r2 with
    | cons r2 r3 =>
      cases r3
      cases r1
      cases r2
      rfl
theorem blt_max2 (hc : C.X.calm = true) : BltD C "max" (two fun i j => if j > i then j else i) := ⟨_, call_max2 hc, fun ι st H xs ds d st' Q rl rx e k => by
  obtain ⟨i, j, rfl, rfl, rfl⟩ := two_some e
  exact ⟨i, j, repL_ints rx, k _ ι H (Step.refl _ _ _) rl (.int _)⟩⟩
theorem blt_min2 (hc : C.X.calm = true) : BltD C "min" (two fun i j => if j < i then j else i) := ⟨_, call_min2 hc, fun ι st H xs ds d st' Q rl rx e k => by
  obtain ⟨i, j, rfl, rfl, rfl⟩ := two_some e
  exact ⟨i, j, repL_ints rx, k _ ι H (Step.refl _ _ _) rl (.int _)⟩⟩
def gInt (x : D) (_ : Store) : Option D := match x with
  | .int i => some (.int i)
  | .bl k => some (.int (if k then 1 else 0))
  | _ => none
theorem ty_int : TyD C "int" (one gInt) := ⟨_, call_int1, fun ι st H xs ds d st' Q rl rx e k => by
  obtain ⟨x, rfl, hg, rfl⟩ := one_some e
  obtain ⟨v, rfl, rv⟩ := repL_one rx
  cases rv with
  | int i => cases hg; exact .inl ⟨i, rfl, k _ ι H (Step.refl _ _ _) rl (.int _)⟩
  | bl b => cases hg; exact .inr ⟨b, rfl, k _ ι H (Step.refl _ _ _) rl (.int _)⟩
  | _ => cases hg⟩
def gStr (x : D) (_ : Store) : Option D := match x with
  | .int i => if i.natAbs.log2 < 1920 then some (.str (toString i)) else none
  | .str z => some (.str z)
  | _ => none
theorem ty_str : TyD C "str" (one gStr) := ⟨_, CallR.or L2.call_str_int SkE.call_str_str, fun ι st H xs ds d st' Q rl rx e k => by
  obtain ⟨x, rfl, hg, rfl⟩ := one_some e
  obtain ⟨v, rfl, rv⟩ := repL_one rx
  cases rv with
  | int i =>
    unfold gStr at hg
    dsimp only at hg
    split at hg
    · rename_i hl
      cases hg
      exact .inl ⟨i, rfl, hl, k _ ι H (Step.refl _ _ _) rl (.str _)⟩
    · cases hg
  | str z => cases hg; exact .inr ⟨z, rfl, k _ ι H (Step.refl _ _ _) rl (.str _)⟩
  | _ => cases hg⟩
def gList (x : D) (st : Store) : Option D := (itemsOf x st).map D.lst
theorem ty_list : TyD C "list" (one gList) := ⟨_, call_list_of, fun ι st H xs ds d st' Q rl rx e k => by
  obtain ⟨x, rfl, hg, rfl⟩ := one_some e
  obtain ⟨v, rfl, rv⟩ := repL_one rx
  obtain ⟨ys, hy, rfl⟩ := Option.map_eq_some_iff.mp hg
  obtain ⟨a, zs, rfl, hs, rs⟩ := items_rep rl rv hy
  refine ⟨a, zs, rfl, by rw [C.hK]; exact hs, fun l hl => ?_⟩
  obtain ⟨ra, sa, ea⟩ := rl.new (o := .lst zs) hl
  exact k _ ι _ sa ra (.lst ea (rs.mono sa.ex sa.pre))⟩
def gTuple (x : D) (st : Store) : Option D := match x with
  | .tup xs => some (.tup xs)
  | x => (litemsOf x st).map D.tup
theorem ty_tuple : TyD C "tuple" (one gTuple) := ⟨_, call_tuple_of, fun ι st H xs ds d st' Q rl rx e k => by
  obtain ⟨x, rfl, hg, rfl⟩ := one_some e
  obtain ⟨v, rfl, rv⟩ := repL_one rx
  unfold gTuple at hg
  split at hg
  · cases hg
    cases rv with
    | tup h1 r1 => exact ⟨_, _, rfl, .inr ⟨by rw [C.hK]; exact le_t (hide_le _ _ _) h1, k _ ι H (Step.refl _ _ _) rl (.tup h1 r1)⟩⟩
  · obtain ⟨ys, hy, rfl⟩ := Option.map_eq_some_iff.mp hg
    obtain ⟨a, zs, rfl, hs, rs⟩ := litems_rep rl rv hy
    refine ⟨a, zs, rfl, .inl ⟨by rw [C.hK]; exact hs, fun l hl => ?_⟩⟩
    obtain ⟨ra, sa, ea⟩ := rl.new (o := .tup zs) hl
    exact k _ ι _ sa ra (.tup (SqT.of ea) (rs.mono sa.ex sa.pre))⟩

/-! ### methods of built-in types -/
/-- of which built-in type it is -/
def tyD (T : String) (d : D) (st : Store) : Bool := match d with
  | .str _ => T == "str"
  | d => T == "list" && (litemsOf d st).isSome
theorem tyD_v {K : PySem.W.Frag} {T : Txt} {xp : XT} {ι : Io} {st : Store} {H : Hp} {v : V} {d : D} {t : String} (hK : K = T.K) (rl : RelSt T xp ι st H) (r : Rep T xp (hide ι st H) ι v d) (h : tyD t d st = true) : tyV K t v H := by
  subst hK
  unfold tyD at h
  split at h
  · cases r
    exact beq_iff_eq.mp h
  · rw [Bool.and_eq_true] at h
    obtain ⟨ys, hy⟩ := Option.isSome_iff_exists.mp h.2
    obtain ⟨a, zs, rfl, hs, _⟩ := litems_rep rl r hy
    exact .inl ⟨beq_iff_eq.mp h.1, zs, hs⟩
abbrev FM := D → List D → Store → Option (D × Store)
def MethD (C : Ctx) (r : V → List V → Hp → VK → Prop) (f : FM) : Prop := ∀ ι st H x xs dx ds d st' (Q : VK), RelSt C.T C.xp ι st H → Rep C.T C.xp (hide ι st H) ι x dx → RepL C.T C.xp (hide ι st H) ι xs ds → f dx ds st = some (d, st') →
  (∀ v ι' H', Step ι st H ι' st' H' → RelSt C.T C.xp ι' st' H' → Rep C.T C.xp (hide ι' st' H') ι' v d → Q v H') → r x xs H Q
structure MtD (C : Ctx) (t : String) (name : Str) (f : FM) : Prop where
  ex : ∃ id r, PlainAttrs t ∧ Slot t name id ∧ typeOf (.builtin id) = pure (.type "method_descriptor") ∧ MtR C.X id r ∧ MethD C r f
def dBm (t : String) (f : FM) (o : DE) (a : DA) : DE := fun ρ st => (o ρ st).bind fun d s0 => if tyD t d s0 = true then (a ρ s0).bind fun ds s1 => ofO (f d ds s1) else .bad
section
variable {o : Expr} {mo : DE} {name : Str} {apos cpos : Pos} {t : String} {fm : FM}
theorem pd_bm (h : MtD C t name fm) (ho : PD C o mo) (ha : PDA C (e :: es) ma) (hbase : attributeBase o name C.X.env (eval o C.X.env) = eval o C.X.env := by rfl)
    (hfew : ((backTo cpos (starEach (e :: es) C.X.env)).all (fun x => !x.1) && (backToKw cpos (keywordEach [] C.X.env)).all (fun x => x.1.isSome)
      && decide ((e :: es).length + ([] : List Keyword).length + (if ([] : List Keyword).isEmpty then 0 else 1) < 30)) = true := by rfl)
    (hline : (apos.endLine == cpos.line) = true := by rfl) (hs : starEach (e :: es) C.X.env = (false, eval e C.X.env) :: starEach es C.X.env := by rfl) (hplain : (backTo cpos (starEach es C.X.env)).any (·.1) = false := by rfl) :
    PD C (.Call (.Attribute o name apos) (e :: es) [] cpos) (dBm t fm mo ma) := by
  obtain ⟨id, r, h1, h2, h3, h4, h5⟩ := h.ex
  refine PE.imp (pe_bm h1 h2 h3 h4 ho ha hbase hfew hline hs hplain) fun σ H Q ⟨ρ, st, ι, er, rl, p⟩ => ?_
  refine ⟨ρ, st, ι, er, rl, post_bind p fun d s1 v ι1 H1 st1 rl1 rv p1 => ?_⟩
  split at p1
  · rename_i ht
    refine ⟨tyD_v C.hK rl1 rv ht, ρ, s1, ι1, er.step st1, rl1, post_bind p1 fun ds s2 vs ι2 H2 st2 rl2 rvs p2 => ?_⟩
    cases hf : fm d ds s2 with
    | none =>
      rw [hf] at p2
      exact p2.elim
    | some z =>
      rw [hf] at p2
      exact h5 ι2 s2 H2 v vs d ds z.1 z.2 Q rl2 (rv.mono st2.ex st2.pre) rvs hf p2
  · exact p1.elim
theorem pd_bm0 (h : MtD C t name fm) (ho : PD C o mo) (hbase : attributeBase o name C.X.env (eval o C.X.env) = eval o C.X.env := by rfl) (hline : (apos.endLine == cpos.line) = true := by rfl) :
    PD C (.Call (.Attribute o name apos) [] [] cpos) (dBm t fm mo dNil) := by
  obtain ⟨id, r, h1, h2, h3, h4, h5⟩ := h.ex
  refine PE.imp (pe_bm0 h1 h2 h3 h4 ho hbase hline) fun σ H Q ⟨ρ, st, ι, er, rl, p⟩ => ?_
  refine ⟨ρ, st, ι, er, rl, post_bind p fun d s1 v ι1 H1 st1 rl1 rv p1 => ?_⟩
  split at p1
  · rename_i ht
    refine ⟨tyD_v C.hK rl1 rv ht, ?_⟩
    change Post _ _ _ _ _ _ _ _ (ofO (fm d [] s1)) at p1
    cases hf : fm d [] s1 with
    | none =>
      rw [hf] at p1
      exact p1.elim
    | some z =>
      rw [hf] at p1
      exact h5 ι1 s1 H1 v [] d [] z.1 z.2 Q rl1 rv .nil hf p1
  · exact p1.elim
end
/-- xs.append(x), a list that may change -/
def mApp : FM := fun d ds st => match d, ds with
  | .box k, [x] => match st[k]? with
    | some (.lst xs) => if xs.length < 100000 then some (.non, st.set k (.lst (xs ++ [x]))) else none
    | _ => none
  | _, _ => none
theorem mt_app : MtD C "list" "append" mApp := ⟨_, _, PySem.F.plainAttrs_list, PySem.F.slot_list_append, PySem.F.type_list_append, mt_append, fun ι st H x xs dx ds d st' Q rl rx rs e k => by
  unfold mApp at e
  split at e
  · rename_i i y
    split at e
    · rename_i zs hz
      split at e
      · rename_i hl
        cases e
        obtain ⟨v, rfl, rv⟩ := repL_one rs
        cases rx with
        | box hi =>
          obtain ⟨ws, hw, rw'⟩ := rl.ok _ _ _ hi hz
          refine ⟨_, ws, v, rfl, rfl, hw, line_lt (by rw [rw'.length]; exact hl), ?_⟩
          obtain ⟨r2, s2⟩ := rl.write (o := .lst (ws ++ [v])) (c' := .lst (zs ++ [y])) hi hz rfl rfl ⟨_, upd_same, rw'.append (.cons rv .nil)⟩
          exact k _ ι _ s2 r2 .non
      · cases e
    · cases e
  · cases e⟩
/-- xs.pop() -/
def mPop : FM := fun d ds st => match d, ds with
  | .box k, [] => match st[k]? with
    | some (.lst xs) => match xs[xs.length - 1]? with
      | some y => some (y, st.set k (.lst xs.dropLast))
      | none => none
    | _ => none
  | _, _ => none
theorem mt_popD : MtD C "list" "pop" mPop := ⟨_, _, PySem.F.plainAttrs_list, PySem.F.slot_list_pop, PySem.F.type_list_pop, mt_pop, fun ι st H x xs dx ds d st' Q rl rx rs e k => by
  unfold mPop at e
  split at e
  · rename_i i
    split at e
    · rename_i zs hz
      split at e
      · rename_i y hy
        cases e
        cases rs
        cases rx with
        | box hi =>
          obtain ⟨ws, hw, rw'⟩ := rl.ok _ _ _ hi hz
          obtain ⟨u, hu, ru⟩ := rw'.get hy
          refine ⟨_, ws, u, rfl, rfl, hw, by rw [rw'.length]; exact hu, ?_⟩
          obtain ⟨r2, s2⟩ := rl.write (o := .lst ws.dropLast) (c' := .lst zs.dropLast) hi hz rfl rfl ⟨_, upd_same, rw'.dropLast⟩
          exact k _ ι _ s2 r2 (ru.mono s2.ex s2.pre)
      · cases e
    · cases e
  · cases e⟩
def mRev : FM := fun d ds st => match d, ds with
  | .box k, [] => match st[k]? with
    | some (.lst xs) => some (.non, st.set k (.lst xs.reverse))
    | _ => none
  | _, _ => none
theorem mt_revD : MtD C "list" "reverse" mRev := ⟨_, _, PySem.F.plainAttrs_list, PySem.F.slot_list_reverse, PySem.F.type_list_reverse, mt_reverse, fun ι st H x xs dx ds d st' Q rl rx rs e k => by
  unfold mRev at e
  split at e
  · rename_i i
    split at e
    · rename_i zs hz
      cases e
      cases rs
      cases rx with
      | box hi =>
        obtain ⟨ws, hw, rw'⟩ := rl.ok _ _ _ hi hz
        refine ⟨_, ws, rfl, rfl, hw, ?_⟩
        obtain ⟨r2, s2⟩ := rl.write (o := .lst ws.reverse) (c' := .lst zs.reverse) hi hz rfl rfl ⟨_, upd_same, rw'.reverse⟩
        exact k _ ι _ s2 r2 .non
    · cases e
  · cases e⟩
/-- '..'.join of texts -/
def strsOf : List D → Option (List Str)
  | [] => some []
  | .str x :: r => (strsOf r).map (x :: ·)
  | _ :: _ => none
theorem strs_rep {T : Txt} {xp : XT} {G : Hp} {ι : Io} : ∀ {xs : List V} {ds : List D} {bs : List Str}, RepL T xp G ι xs ds → strsOf ds = some bs → xs = bs.map V.str
  | _, _, _, .nil, h => by cases h; rfl
  | _, _, _, .cons r rs, h => by
    cases r with
    | str b =>
      simp only [strsOf, Option.map_eq_some_iff] at h
      obtain ⟨r', h1, rfl⟩ := h
      rw [strs_rep rs h1]
      rfl
    | _ => simp [strsOf] at h
def mJoin : FM := fun d ds st => match d, ds with
  | .str a, [x] => match (itemsOf x st).bind strsOf with
    | some ys => if (ys.map (·.length)).sum + ys.length * a.length ≤ 1000000 then some (.str (PySem.Txt.join a ys), st) else none
    | none => none
  | _, _ => none
theorem mt_joinD : MtD C "str" "join" mJoin := ⟨_, _, PySem.F.plainAttrs_str, PySem.F.slot_str_join, PySem.F.type_str_join, mt_join, fun ι st H x xs dx ds d st' Q rl rx rs e k => by
  unfold mJoin at e
  split at e
  · rename_i a y
    split at e
    · rename_i ys hy
      split at e
      · rename_i hl
        cases e
        obtain ⟨v, rfl, rv⟩ := repL_one rs
        obtain ⟨zs, hz, hy⟩ := Option.bind_eq_some_iff.mp hy
        obtain ⟨b, ws, rfl, hs, rw'⟩ := items_rep rl rv hz
        cases rx
        have ew := strs_rep rw' hy
        subst ew
        exact ⟨a, b, ys, rfl, rfl, by rw [C.hK]; exact hs, Nat.le_trans hl (by decide), k _ ι H (Step.refl _ _ _) rl (.str _)⟩
      · cases e
    · cases e
  · cases e⟩
/-- text.split(sep): a new list -/
def mSplit : FM := fun d ds st => match d, ds with
  | .str a, [.str b] => if b.length ≠ 0 ∧ a.length ≤ 1000000 then some (.lst ((PySem.Txt.split a b).map D.str), st) else none
  | _, _ => none
theorem rep_strs {T : Txt} {xp : XT} {G : Hp} {ι : Io} : ∀ ys : List Str, RepL T xp G ι (ys.map V.str) (ys.map D.str)
  | [] => .nil
  | y :: ys => .cons (.str y) (rep_strs ys)
theorem mt_splitD : MtD C "str" "split" mSplit := ⟨_, _, PySem.F.plainAttrs_str, PySem.F.slot_str_split, PySem.F.type_str_split, mt_split, fun ι st H x xs dx ds d st' Q rl rx rs e k => by
  unfold mSplit at e
  split at e
  · rename_i a b
    split at e
    · rename_i hl
      cases e
      obtain ⟨v, rfl, rv⟩ := repL_one rs
      cases rx
      cases rv
      refine ⟨a, b, rfl, rfl, by simp [hl.1], Nat.le_trans (Nat.add_le_add_right hl.2 2) (by decide), fun p hp => ?_⟩
      obtain ⟨ra, sa, ea⟩ := rl.new (o := .lst ((PySem.Txt.split a b).map V.str)) hp
      exact k _ ι _ sa ra (.lst ea (rep_strs _))
    · cases e
  · cases e⟩
/-- xs.count(x), flat items -/
def rCntF (K : PySem.W.Frag) : V → List V → Hp → VK → Prop := fun x xs H Q => ∃ (p : Addr) (ys : List V) (y : V), x = .ref p ∧ xs = [y] ∧ SqL K H p ys ∧ flatV y = true ∧ ys.all flatV = true ∧ Q (.int (ys.countP (fun z => eqV z y) : Nat)) H
theorem count_eqU {x : V} : ∀ {xs : List V} {us : List Value}, Vals xs us → xs.all flatV = true → us.countP (eqU x) = xs.countP fun y => eqV y x
  | _, _, .nil, _ => rfl
  | y :: xs, u :: us, .cons r t, f => by
    rw [List.all_cons, Bool.and_eq_true] at f
    rw [List.countP_cons, List.countP_cons, eqU_of r f.1, count_eqU t f.2]
theorem mt_cntF {X : Cx} : MtR X "list.count" (rCntF X.K) := by
  intro pins s σ H x xs v us Q I rx rxs h
  obtain ⟨p, ys, y, rfl, rfl, hs, fy, fys, q⟩ := h
  cases rx
  obtain ⟨u, rfl, ru⟩ := rxs.one
  obtain ⟨its, rv, ⟨⟨cls, dd, data, sl⟩, n, ho, hc, hdn, hd⟩, hlen⟩ := I.list hs
  simp only at hc hd
  subst hc hd
  have ec : its.toArray.toList.countP (eqU y) = ys.countP fun z => eqV z y := by
    rw [List.toList_toArray]
    exact count_eqU rv fys
  refine call_meets PySem.F.slot_list_count ⟨_, ho, rfl⟩ PySem.F.entry_list_count (PySem.F.args_list_count_2 _ _) (SeqAt.list_countAt p its.toArray n dd sl u (eqU y)) ⟨ho, fun z hz => mem_eqAt ru fy rv fys z (by simpa using hz), ?_⟩
  refine ⟨.int _, H, I.tok _, ⟨s.toks, ?_⟩, q⟩
  rw [ec]
def mCount : FM := fun d ds st => match ds with
  | [x] => match litemsOf d st with
    | some ys => if flatD x = true ∧ ys.all flatD = true then some (.int (((ys.map flatV').countP fun z => eqV z (flatV' x)) : Nat), st) else none
    | none => none
  | _ => none
theorem mt_countD : MtD C "list" "count" mCount := ⟨_, _, PySem.F.plainAttrs_list, PySem.F.slot_list_count, PySem.F.type_list_count, mt_cntF, fun ι st H x xs dx ds d st' Q rl rx rs e k => by
  unfold mCount at e
  split at e
  · rename_i y
    split at e
    · rename_i ys hy
      split at e
      · rename_i hf
        cases e
        obtain ⟨v, rfl, rv⟩ := repL_one rs
        obtain ⟨a, zs, rfl, hs, rw'⟩ := litems_rep rl rx hy
        obtain ⟨e1, e2⟩ := flat_rep rv hf.1
        obtain ⟨e3, e4⟩ := flat_repL rw' hf.2
        refine ⟨a, zs, v, rfl, rfl, by rw [C.hK]; exact hs, e2, e4, ?_⟩
        rw [e1, e3]
        exact k _ ι H (Step.refl _ _ _) rl (.int _)
      · cases e
    · cases e
  · cases e⟩
/-- xs.index(x), flat items, x among them -/
def idxOf (p : V → Bool) : List V → Nat → Option Nat
  | [], _ => none
  | y :: ys, i => if p y = true then some i else idxOf p ys (i + 1)
theorem idxOf_some {p : V → Bool} : ∀ {ys : List V} {i j : Nat}, idxOf p ys i = some j → i ≤ j ∧ (∃ z, ys[j - i]? = some z ∧ p z = true) ∧ ∀ m z, m < j - i → ys[m]? = some z → p z = false
  | [], _, _, h => by cases h
  | y :: ys, i, j, h => by
    unfold idxOf at h
    split at h
    · rename_i hp
      cases h
      refine ⟨Nat.le_refl _, ⟨y, by simp, hp⟩, fun m z hm => by omega⟩
    · rename_i hp
      obtain ⟨h1, ⟨z, h2, h3⟩, h4⟩ := idxOf_some h
      refine ⟨by omega, ⟨z, ?_, h3⟩, fun m w hm hw => ?_⟩
      · have e : j - i = (j - (i + 1)) + 1 := by omega
        rw [e, List.getElem?_cons_succ]
        exact h2
      · cases m with
        | zero =>
          have e : y = w := by simpa using hw
          rw [← e]
          exact Bool.eq_false_iff.mpr hp
        | succ m => exact h4 m w (by omega) (by simpa using hw)
def mIndex : FM := fun d ds st => match ds with
  | [x] => match litemsOf d st with
    | some ys => if flatD x = true ∧ ys.all flatD = true then (idxOf (fun z => eqV z (flatV' x)) (ys.map flatV') 0).map fun j => (.int (j : Nat), st) else none
    | none => none
  | _ => none
theorem mt_indexD' : MtD C "list" "index" mIndex := ⟨_, _, PySem.F.plainAttrs_list, PySem.F.slot_list_index, PySem.F.type_list_index, mt_index, fun ι st H x xs dx ds d st' Q rl rx rs e k => by
  unfold mIndex at e
  split at e
  · rename_i y
    split at e
    · rename_i ys hy
      split at e
      · rename_i hf
        obtain ⟨j, hj, e'⟩ := Option.map_eq_some_iff.mp e
        cases e'
        obtain ⟨v, rfl, rv⟩ := repL_one rs
        obtain ⟨a, zs, rfl, hs, rw'⟩ := litems_rep rl rx hy
        obtain ⟨e1, e2⟩ := flat_rep rv hf.1
        obtain ⟨e3, e4⟩ := flat_repL rw' hf.2
        obtain ⟨_, ⟨z, h2, h3⟩, h4⟩ := idxOf_some hj
        rw [← e3] at h2 h4
        rw [← e1] at h3 h4
        rw [Nat.sub_zero] at h2 h4
        exact ⟨a, zs, v, j, z, rfl, rfl, by rw [C.hK]; exact hs, e2, e4, h2, h3, h4, k _ ι H (Step.refl _ _ _) rl (.int _)⟩
      · cases e
    · cases e
  · cases e⟩

/-! ### stores -/
def sSetIx (o i a : DE) : DS := fun ρ st => (a ρ st).into ρ fun x s1 => (o ρ s1).into ρ fun d s2 => (i ρ s2).into ρ fun y s3 => match d, y with
  | .box k, .int j => match s3[k]? with
    | some (.lst xs) => match ixN xs.length j with
      | some n => .nx ρ (s3.set k (.lst (xs.set n x)))
      | none => .bad
    | _ => .bad
  | _, _ => .bad
end
end Den

set_option maxRecDepth 100000
set_option maxHeartbeats 4000000
/-! Den: targets, stores, loops, comprehensions. -/
namespace Den
open PySem PySem.Spec PyProof.Rows L2

/-! ### targets -/
abbrev GD := D → Rho → Option Rho
def g1 (i : Nat) : GD := fun d ρ => some (ρ.set i (some d))
def gsD : List Nat → List D → Rho → Option Rho
  | [], [], ρ => some ρ
  | i :: is, d :: ds, ρ => gsD is ds (ρ.set i (some d))
  | _, _, _ => none
def gT (is : List Nat) : GD := fun d ρ => match d with
  | .tup ds => gsD is ds ρ
  | _ => none
structure TgD (T : Txt) (K : PySem.W.Frag) (g : TG) (gd : GD) (is : List Nat) : Prop where
  ok : ∀ xp ι st H x d ρ ρ' σ Q, EnvR T xp (hide ι st H) ι ρ σ → Rep T xp (hide ι st H) ι x d → gd d ρ = some ρ' → (∀ σ', EnvR T xp (hide ι st H) ι ρ' σ' → (∀ vs : List Nat, (∀ i ∈ is, i ∈ vs) → wipe σ' vs = wipe σ vs) → Q σ' H) → g x σ H Q
theorem wipe_set {σ : L2.St} {i : Nat} {x : Option V} : ∀ {vs : List Nat}, i ∈ vs → wipe (σ.set i x) vs = wipe σ vs
  | [], h => by cases h
  | v :: vs, h => by
    unfold wipe
    by_cases e : i ∈ vs
    · rw [wipe_set e]
    · have ev : i = v := (List.mem_cons.mp h).elim id fun z => absurd z e
      subst ev
      have key : ∀ {ws : List Nat}, i ∉ ws → (wipe (σ.set i x) ws).set i none = (wipe σ ws).set i none := by
        intro ws
        induction ws with
        | nil => intro _; simp [wipe]
        | cons w ws ih =>
          intro hw
          have h1 : i ≠ w := fun z => hw (z ▸ List.mem_cons_self)
          have h2 := ih fun z => hw (List.mem_cons_of_mem _ z)
          show ((wipe (σ.set i x) ws).set w none).set i none = ((wipe σ ws).set w none).set i none
          rw [List.set_comm _ _ (Ne.symm h1), List.set_comm _ _ (Ne.symm h1), h2]
      exact key e
section
variable {T : Txt} {K : PySem.W.Frag}
theorem tg_one (i : Nat) : TgD T K (gName i) (g1 i) [i] := ⟨fun xp ι st H x d ρ ρ' σ Q er rx e k => by
  cases e
  exact k _ (er.set i rx) fun vs hv => wipe_set (hv i List.mem_cons_self)⟩
def gNames : List Nat → TGs
  | [] => gNil
  | i :: is => gCons (gName i) (gNames is)
theorem tg_names {xp : XT} {ι : Io} {G H : Hp} {Q : L2.St → Hp → Prop} : ∀ {is : List Nat} {xs : List V} {ds : List D} {ρ ρ' : Rho} {σ : L2.St}, EnvR T xp G ι ρ σ → RepL T xp G ι xs ds → gsD is ds ρ = some ρ' →
    (∀ σ', EnvR T xp G ι ρ' σ' → (∀ vs : List Nat, (∀ i ∈ is, i ∈ vs) → wipe σ' vs = wipe σ vs) → Q σ' H) → gNames is xs σ H Q
  | [], xs, ds, ρ, ρ', σ, er, rx, e, k => by
    cases rx with
    | nil =>
      cases e
      exact ⟨rfl, k σ er fun _ _ => rfl⟩
    | cons _ _ => cases e
  | i :: is, xs, ds, ρ, ρ', σ, er, rx, e, k => by
    cases rx with
    | nil => cases e
    | cons r rs =>
      refine ⟨_, _, rfl, tg_names (is := is) (er.set i r) rs e fun σ' er' hw => k σ' er' fun vs hv => ?_⟩
      rw [hw vs fun j hj => hv j (List.mem_cons_of_mem _ hj)]
      exact wipe_set (hv i List.mem_cons_self)
theorem gsD_len : ∀ {is : List Nat} {ds : List D} {ρ ρ' : Rho}, gsD is ds ρ = some ρ' → ds.length = is.length
  | [], [], _, _, _ => rfl
  | _ :: is, _ :: ds, _, _, e => congrArg Nat.succ (gsD_len (is := is) (ds := ds) e)
  | [], _ :: _, _, _, e => by cases e
  | _ :: _, [], _, _, e => by cases e
theorem tg_tup (hK : K = T.K) (is : List Nat) {n : Nat} (hn : n = is.length) : TgD T K (gTup K n (gNames is)) (gT is) is := ⟨fun xp ι st H x d ρ ρ' σ Q er rx e k => by
  subst hn hK
  cases rx with
  | tup h1 r1 => exact ⟨_, _, rfl, le_t (hide_le _ _ _) h1, r1.length.trans (gsD_len e), tg_names er r1 e k⟩
  | _ => cases e⟩
end
def sAsg (g : GD) (a : DE) : DS := fun ρ st => (a ρ st).into ρ fun d s1 => match g d ρ with
  | some ρ' => .nx ρ' s1
  | none => .bad
def sPar (i j : Nat) (a : DA) : DS := fun ρ st => (a ρ st).into ρ fun ds s1 => match ds with
  | [x, y] => .nx ((ρ.set i (some x)).set j (some y)) s1
  | _ => .bad
def sSetF (c i : Nat) (o a : DE) : DS := fun ρ st => (a ρ st).into ρ fun x s1 => (o ρ s1).into ρ fun d s2 => match d with
  | .box k => match s2[k]? with
    | some (.ins c' xs) => if c' = c then (if i < xs.length then .nx ρ (s2.set k (.ins c (xs.set i x))) else if i = xs.length then .nx ρ (s2.set k (.ins c (xs ++ [x]))) else .bad) else .bad
    | _ => .bad
  | _ => .bad
section
variable {C : Ctx} {e o ix tg : Expr} {me mo mi : DE} {pos pos' : Pos} {g : TG} {gd : GD} {is : List Nat}
theorem pds_asg (hg : PG C.X tg g) (hd : TgD C.T C.X.K g gd is) (he : PD C e me) (hs : swapsWithSole [tg] e pos.line C.X.env = pure false := by rfl) (hw : swappedStores [tg] e C.X.env = pure none := by rfl)
    (h1 : (assignEach [tg] C.X.env).map (·.2) = [assign tg C.X.env] := by rfl) : PDS C (.Assign [tg] e pos) (sAsg gd me) :=
  PS.imp (ps_asg he hg hs hw h1) fun D σ H ⟨ρ, st, ι, er, rl, p⟩ => by
    refine ⟨ρ, st, ι, er, rl, post_into p er fun d s1 v ι1 H1 st1 rl1 er1 rv p1 => ?_⟩
    split at p1
    · rename_i ρ' hr
      exact hd.ok _ _ _ _ _ _ _ _ _ _ er1 rv hr fun σ' er' _ => p1 σ' ι1 H1 (Step.refl _ _ _) rl1 er'
    · exact p1.elim
theorem pds_setIx (he : PD C e me) (ho : PD C o mo) (hi : PD C ix mi) (hg : ∀ t t', PE C.X o t → PE C.X ix t' → PG C.X (.Subscript o ix pos') (gSub t t' rSetL)) (hs : swapsWithSole [.Subscript o ix pos'] e pos.line C.X.env = pure false := by rfl)
    (hw : swappedStores [.Subscript o ix pos'] e C.X.env = pure none := by rfl) (h1 : (assignEach [.Subscript o ix pos'] C.X.env).map (·.2) = [assign (.Subscript o ix pos') C.X.env] := by rfl) : PDS C (.Assign [.Subscript o ix pos'] e pos) (sSetIx mo mi me) :=
  PS.imp (ps_asg he (hg _ _ ho hi) hs hw h1) fun D σ H ⟨ρ, st, ι, er, rl, p⟩ => by
    refine ⟨ρ, st, ι, er, rl, post_into p er fun d s1 v ι1 H1 st1 rl1 er1 rv p1 => ?_⟩
    refine ⟨ρ, s1, ι1, er1, rl1, post_into p1 er1 fun d2 s2 v2 ι2 H2 st2 rl2 er2 rv2 p2 => ?_⟩
    refine ⟨ρ, s2, ι2, er2, rl2, post_into p2 er2 fun d3 s3 v3 ι3 H3 st3 rl3 er3 rv3 p3 => ?_⟩
    split at p3
    · rename_i k j
      split at p3
      · rename_i xs hx
        split at p3
        · rename_i n hn
          cases rv3
          have rv' := rv.mono (st2.ex.trans st3.ex) (st2.pre.trans st3.pre)
          cases rv2.mono st3.ex st3.pre with
          | box hk =>
            obtain ⟨ws, hw, rw'⟩ := rl3.ok _ _ _ hk hx
            refine ⟨_, ws, j, n, rfl, rfl, hw, by rw [rw'.length]; exact hn, ?_⟩
            obtain ⟨r2, s2'⟩ := rl3.write (o := .lst (ws.set n v)) (c' := .lst (xs.set n d)) hk hx rfl rfl ⟨_, upd_same, rw'.set n rv'⟩
            exact p3 σ ι3 _ s2' r2 (er3.step s2')
        · exact p3.elim
      · exact p3.elim
    · exact p3.elim
theorem pds_par {x y : Str} {a b : Expr} {ma : DA} {i j : Nat} {px py pz pt : Pos} {kt k2 pt2} (hc : C.X.calm = true) (hN : C.X.N.Nodup) (hi : C.X.N[i]? = some x) (hj : C.X.N[j]? = some y) (hij : i ≠ j) (hx : C.X.env.scope.names.lookup x = some .local) (hy : C.X.env.scope.names.lookup y = some .local) (ha : PDA C [a, b] ma)
    (hw : swappedStores [.Tuple [.Name x px, .Name y py] kt pt] (.Tuple [a, b] k2 pt2) C.X.env = pure (some [x, y])) (hs : swapsWithSole [.Tuple [.Name x px, .Name y py] kt pt] (.Tuple [a, b] k2 pt2) pos.line C.X.env = pure false := by rfl) :
    PDS C (.Assign [.Tuple [.Name x px, .Name y py] kt pt] (.Tuple [a, b] k2 pt2) pos) (sPar i j ma) :=
  PS.imp (ps_par hc hN hi hj hij hx hy ha hw hs) fun D σ H ⟨ρ, st, ι, er, rl, p⟩ => by
    refine ⟨ρ, st, ι, er, rl, post_into p er fun ds s1 vs ι1 H1 st1 rl1 er1 rv p1 => ?_⟩
    split at p1
    · rename_i x y
      cases rv with
      | cons r1 r2 =>
        cases r2 with
        | cons r2 r3 =>
          cases r3
          exact ⟨_, _, rfl, p1 _ ι1 H1 (Step.refl _ _ _) rl1 ((er1.set i r1).set j r2)⟩
    · exact p1.elim
theorem pds_setF {c i : Nat} {fn : Str} (hc : ClsD C.T c) (hi : (C.T.fl c)[i]? = some fn) (ho : PD C o mo) (he : PD C e me) (hs : swapsWith e (some (.Attribute o fn pos')) pos.line C.X.env = pure false := by rfl) :
    PDS C (.Assign [.Attribute o fn pos'] e pos) (sSetF c i mo me) :=
  PS.imp (ps_fld ho he hs) fun D σ H ⟨ρ, st, ι, er, rl, p⟩ => by
    refine ⟨ρ, st, ι, er, rl, post_into p er fun d s1 v ι1 H1 st1 rl1 er1 rv p1 => ?_⟩
    refine ⟨ρ, s1, ι1, er1, rl1, post_into p1 er1 fun d2 s2 v2 ι2 H2 st2 rl2 er2 rv2 p2 => ?_⟩
    split at p2
    · rename_i k
      split at p2
      · rename_i c' xs hx
        split at p2
        · rename_i ec
          subst ec
          have rv' := rv.mono st2.ex st2.pre
          cases rv2 with
          | box hk =>
            obtain ⟨dx, ws, hw, hl, rw'⟩ := rl2.ok _ _ _ hk hx
            have few : ((C.T.fl c').zip ws).length < 1000 := by
              rw [List.length_zip]
              have := hc.few
              omega
            refine ⟨_, _, dx, _, rfl, hw, by rw [C.hK]; exact hc.cl, by rw [C.hK]; exact hc.na fn (List.mem_of_getElem? hi), few, ?_⟩
            split at p2
            · rename_i hlt
              rw [putF_set hc.nd hi (by rw [rw'.length]; exact hlt)]
              obtain ⟨r2, s2'⟩ := rl2.write (o := .ins (C.T.ca c') dx ((C.T.fl c').zip (ws.set i v))) (c' := .ins c' (xs.set i d)) hk hx rfl rfl ⟨dx, _, upd_same, by simpa using hl, rw'.set i rv'⟩
              exact p2 σ ι2 _ s2' r2 (er2.step s2')
            · split at p2
              · rename_i hge heq
                have hi' : (C.T.fl c')[ws.length]? = some fn := by rw [rw'.length, ← heq]; exact hi
                rw [putF_new hc.nd hi']
                obtain ⟨r2, s2'⟩ := rl2.write (o := .ins (C.T.ca c') dx ((C.T.fl c').zip (ws ++ [v]))) (c' := .ins c' (xs ++ [d])) hk hx rfl rfl
                  ⟨dx, _, upd_same, by have := (List.getElem?_eq_some_iff.mp hi').1; simp; omega, rw'.append (.cons rv' .nil)⟩
                exact p2 σ ι2 _ s2' r2 (er2.step s2')
              · exact p2.elim
        · exact p2.elim
      · exact p2.elim
    · exact p2.elim
end

/-! ### loops -/
def forL (g : GD) (b : DS) : List D → DS
  | [] => fun ρ st => .nx ρ st
  | x :: xs => fun ρ st => match g x ρ with
    | none => .bad
    | some ρ' => match b ρ' st with
      | .nx ρ1 s1 => forL g b xs ρ1 s1
      | .cnt ρ1 s1 => forL g b xs ρ1 s1
      | .brk ρ1 s1 => .nx ρ1 s1
      | .ret d s1 => .ret d s1
      | .exc c ds ρ1 s1 => .exc c ds ρ1 s1
      | .bad => .bad
/-- over a list; over a tuple -/
def sForL (it : DE) (g : GD) (b : DS) : DS := fun ρ st => (it ρ st).into ρ fun d s1 => match d with
  | .lst xs => forL g b xs ρ s1
  | .ro xs => forL g b xs ρ s1
  | _ => .bad
def sForT (it : DE) (g : GD) (b : DS) : DS := fun ρ st => (it ρ st).into ρ fun d s1 => match d with
  | .tup xs => forL g b xs ρ s1
  | _ => .bad
def rangeD (lo : Int) (n : Nat) : List D := (List.range n).map fun (i : Nat) => D.int (lo + i)
def big62 (i : Int) : Prop := -(2 ^ 62) ≤ i ∧ i < 2 ^ 62
instance (i : Int) : Decidable (big62 i) := inferInstanceAs (Decidable (_ ∧ _))
def sForR1 (a : DA) (g : GD) (b : DS) : DS := fun ρ st => (a ρ st).into ρ fun ds s1 => match ds with
  | [.int j] => if big62 j then forL g b (rangeD 0 j.toNat) ρ s1 else .bad
  | _ => .bad
def sForR2 (a : DA) (g : GD) (b : DS) : DS := fun ρ st => (a ρ st).into ρ fun ds s1 => match ds with
  | [.int i, .int j] => if big62 i ∧ big62 j then forL g b (rangeD i (j - i).toNat) ρ s1 else .bad
  | _ => .bad
section
variable {C : Ctx} {iter tg e : Expr} {bd : List Stmt} {mi : DE} {ma : DA} {g : TG} {gd : GD} {is : List Nat} {mb : DS} {pos pos' : Pos}
/-- one turn -/
theorem turn_of {T : Txt} {K : PySem.W.Frag} {xp : XT} {W : WX} {ι0 ι : Io} {s0 st : Store} {H0 H : Hp} {E : Ends} {x : V} {d : D} {ds : List D} {ρ : Rho} {σ : L2.St} {N : L2.St → Hp → Prop} (hd : TgD T K g gd is) (er : EnvR T xp (hide ι st H) ι ρ σ) (rl : RelSt T xp ι st H) (rx : Rep T xp (hide ι st H) ι x d)
    (p : PostS T xp W ι st H E (forL gd mb (d :: ds) ρ st)) (hN : ∀ ρ' s' σ' ι' H', Step ι st H ι' s' H' → RelSt T xp ι' s' H' → EnvR T xp (hide ι' s' H') ι' ρ' σ' → PostS T xp W ι' s' H' E (forL gd mb ds ρ' s') → N σ' H') :
    g x σ H fun σ2 H2 => tDS T xp W mb { E with nx := N, ct := N, bk := E.nx } σ2 H2 := by
  unfold forL at p
  cases hg : gd d ρ with
  | none =>
    rw [hg] at p
    exact p.elim
  | some ρ' =>
    rw [hg] at p
    refine hd.ok _ _ _ _ _ _ _ _ _ _ er rx hg fun σ' er' _ => ⟨ρ', st, ι, er', rl, ?_⟩
    cases hb : mb ρ' st with
    | nx ρ1 s1 =>
      simp only [hb] at p
      exact fun σ1 ι1 H1 st1 rl1 er1 => hN ρ1 s1 σ1 ι1 H1 st1 rl1 er1 (PostS.step p st1)
    | cnt ρ1 s1 =>
      simp only [hb] at p
      exact fun σ1 ι1 H1 st1 rl1 er1 => hN ρ1 s1 σ1 ι1 H1 st1 rl1 er1 (PostS.step p st1)
    | brk ρ1 s1 =>
      simp only [hb] at p
      exact p
    | ret y s1 =>
      simp only [hb] at p
      exact p
    | exc c es ρ1 s1 =>
      simp only [hb] at p
      exact p
    | bad =>
      simp only [hb] at p
      exact p
/-- the word of every loop: what is left of it is worth what follows -/
def Left (T : Txt) (xp : XT) (W : WX) (E : Ends) (gd : GD) (mb : DS) (ds : List D) (G0 : Hp) (ι0 : Io) (i : Nat) (σ : L2.St) (H : Hp) : Prop := ∃ ρ st ι, Le G0 (hide ι st H) ∧ Pre ι0 ι ∧ RelSt T xp ι st H ∧ EnvR T xp (hide ι st H) ι ρ σ ∧ PostS T xp W ι st H E (forL gd mb (ds.drop i) ρ st)
theorem drop_at {α : Type} {ds : List α} {i : Nat} {d : α} (h : ds[i]? = some d) : ds.drop i = d :: ds.drop (i + 1) := by
  obtain ⟨h1, h2⟩ := List.getElem?_eq_some_iff.mp h
  rw [List.drop_eq_getElem_cons h1, h2]
theorem left_turn {T : Txt} {K : PySem.W.Frag} {xp : XT} {W : WX} {E : Ends} {ds : List D} {G0 : Hp} {ι0 : Io} {i : Nat} {σ : L2.St} {H : Hp} {x : V} {d : D} (hd : TgD T K g gd is) (hx : ds[i]? = some d) (hr : ∀ ι st, Le G0 (hide ι st H) → Pre ι0 ι → Rep T xp (hide ι st H) ι x d) (h : Left T xp W E gd mb ds G0 ι0 i σ H) :
    g x σ H fun σ2 H2 => tDS T xp W mb { E with nx := Left T xp W E gd mb ds G0 ι0 (i + 1), ct := Left T xp W E gd mb ds G0 ι0 (i + 1), bk := E.nx } σ2 H2 := by
  obtain ⟨ρ, st, ι, hl, hp, rl, er, p⟩ := h
  rw [drop_at hx] at p
  exact turn_of (ι0 := ι) (s0 := st) (H0 := H) hd er rl (hr ι st hl hp) p fun ρ' s' σ' ι' H' s rl' er' p' => ⟨ρ', s', ι', hl.trans s.ex, hp.trans s.pre, rl', er', p'⟩
theorem left_end {T : Txt} {xp : XT} {W : WX} {E : Ends} {ds : List D} {G0 : Hp} {ι0 : Io} {i : Nat} {σ : L2.St} {H : Hp} (hi : ds.length ≤ i) (h : Left T xp W E gd mb ds G0 ι0 i σ H) : E.nx σ H := by
  obtain ⟨ρ, st, ι, hl, hp, rl, er, p⟩ := h
  rw [List.drop_eq_nil_of_le hi] at p
  exact p σ ι H (Step.refl _ _ _) rl er
theorem list_loop {T : Txt} {xp : XT} {W : WX} {D : Ends} {ι1 : Io} {s1 : Store} {H1 : Hp} {σ : L2.St} {ρ : Rho} {a : Addr} {xs : List V} {ds : List Den.D} (hd : TgD T T.K g gd is) (h1 : SqL T.K (hide ι1 s1 H1) a xs) (rs : RepL T xp (hide ι1 s1 H1) ι1 xs ds) (rl1 : RelSt T xp ι1 s1 H1)
    (er1 : EnvR T xp (hide ι1 s1 H1) ι1 ρ σ) (q : PostS T xp W ι1 s1 H1 D (forL gd mb ds ρ s1)) :
    ∃ W' : Nat → Nat → L2.St → Hp → Prop, (∃ m, W' 0 m σ H1) ∧ ∀ i m σ H, W' i m σ H → ((Itl T.K a).stop i H ∧ D.nx σ H) ∨ ((Itl T.K a).go i H ∧ ∃ N : L2.St → Hp → Prop, (∀ σ' H', N σ' H' → ∃ m', m' < m ∧ W' (i + 1) m' σ' H') ∧
      ∀ x H', (Itl T.K a).yld i H x H' → g x σ H' fun σ2 H2 => tDS T xp W mb { D with nx := N, ct := N, bk := D.nx } σ2 H2) :=
  for_list (K := T.K) (a := a) (xs := xs) (Left T xp W D gd mb ds (hide ι1 s1 H1) ι1) ⟨ρ, s1, ι1, Le.refl _, Pre.refl _, rl1, er1, q⟩
    (fun i σ' H' _ ⟨_, st', ι', hl, _, _⟩ => le_l (hide_le _ _ _) (le_l hl h1)) (fun i x σ' H' hx hL => by
      obtain ⟨y, hy, ry⟩ := rs.getV hx
      exact left_turn hd hy (fun ι' st' hl hp' => ry.mono hl hp') hL) (fun σ' H' hL => left_end (by rw [rs.length]; exact Nat.le_refl _) hL)
/-- for x in a list -/
theorem pds_forL (hp : PassesOwn (model C.X.prog C.X.w) C.X.A C.X.env C.X.xe) (hc : C.X.calm = true) (hi : PD C iter mi) (hg : PG C.X tg g) (hd : TgD C.T C.T.K g gd is) (hb : PDSs C bd mb) (hs : ∀ x, foldedSetIterable iter C.X.env x = pure x := by intro _; rfl) :
    PDS C (.For tg iter bd [] pos) (sForL mi gd mb) :=
  PS.imp (ps_for hp hc (pi_list hi) hg hb hs) fun D σ H ⟨ρ, st, ι, er, rl, p⟩ => by
    refine ⟨ρ, st, ι, er, rl, post_into p er fun d s1 v ι1 H1 st1 rl1 er1 rv p1 => ?_⟩
    rw [C.hK]
    cases rv with
    | lst h1 r1 => exact ⟨_, rfl, ⟨_, SqL.of (hide_sub h1)⟩, list_loop hd (SqL.of h1) r1 rl1 er1 p1⟩
    | ro h1 r1 => exact ⟨_, rfl, ⟨_, le_l (hide_le _ _ _) h1⟩, list_loop hd h1 r1 rl1 er1 p1⟩
    | _ => exact p1.elim
/-- for x in a tuple -/
theorem pds_forT (hp : PassesOwn (model C.X.prog C.X.w) C.X.A C.X.env C.X.xe) (hc : C.X.calm = true) (hi : PD C iter mi) (hg : PG C.X tg g) (hd : TgD C.T C.T.K g gd is) (hb : PDSs C bd mb) (hs : ∀ x, foldedSetIterable iter C.X.env x = pure x := by intro _; rfl) :
    PDS C (.For tg iter bd [] pos) (sForT mi gd mb) :=
  PS.imp (ps_for hp hc (pi_tup hi) hg hb hs) fun D σ H ⟨ρ, st, ι, er, rl, p⟩ => by
    refine ⟨ρ, st, ι, er, rl, post_into p er fun d s1 v ι1 H1 st1 rl1 er1 rv p1 => ?_⟩
    cases rv with
    | @tup a xs ds h1 rs =>
      have hsH : ∀ ι' st' H', Le (hide ι1 s1 H1) (hide ι' st' H') → SqT C.X.K H' a xs := fun ι' st' H' hle => by
        rw [C.hK]
        exact le_t (hide_le _ _ _) (le_t hle h1)
      exact ⟨a, rfl, ⟨xs, hsH _ _ _ (Le.refl _)⟩, for_tup (K := C.X.K) (a := a) (xs := xs) (Left C.T C.xp C.W D gd mb ds (hide ι1 s1 H1) ι1) ⟨ρ, s1, ι1, Le.refl _, Pre.refl _, rl1, er1, p1⟩
        (fun i σ' H' _ ⟨_, st', ι', hl, _, _⟩ => hsH ι' st' H' hl) (fun i x σ' H' hx hL => by
          obtain ⟨y, hy, ry⟩ := rs.getV hx
          exact left_turn hd hy (fun ι' st' hl hp' => ry.mono hl hp') hL) (fun σ' H' hL => left_end (by rw [rs.length]; exact Nat.le_refl _) hL)⟩
    | _ => exact p1.elim
theorem range_at {lo : Int} {n i : Nat} (h : i < n) : (rangeD lo n)[i]? = some (.int (lo + i)) := by
  unfold rangeD
  rw [List.getElem?_map, List.getElem?_range h]
  rfl
theorem range_len (lo : Int) (n : Nat) : (rangeD lo n).length = n := by
  unfold rangeD
  simp
theorem range_loop {T : Txt} {xp : XT} {W : WX} {D : Ends} {ι1 : Io} {s1 : Store} {H1 : Hp} {σ : L2.St} {ρ : Rho} {lo : Int} {n : Nat} (hd : TgD T T.K g gd is) (rl1 : RelSt T xp ι1 s1 H1) (er1 : EnvR T xp (hide ι1 s1 H1) ι1 ρ σ) (q : PostS T xp W ι1 s1 H1 D (forL gd mb (rangeD lo n) ρ s1)) :
    ∃ W' : Nat → Nat → L2.St → Hp → Prop, (∃ m, W' 0 m σ H1) ∧ ∀ i m σ H, W' i m σ H → ((Itr lo n).stop i H ∧ D.nx σ H) ∨ ((Itr lo n).go i H ∧ ∃ N : L2.St → Hp → Prop, (∀ σ' H', N σ' H' → ∃ m', m' < m ∧ W' (i + 1) m' σ' H') ∧
      ∀ x H', (Itr lo n).yld i H x H' → g x σ H' fun σ2 H2 => tDS T xp W mb { D with nx := N, ct := N, bk := D.nx } σ2 H2) :=
  for_range (lo := lo) (n := n) (Left T xp W D gd mb (rangeD lo n) (hide ι1 s1 H1) ι1) ⟨ρ, s1, ι1, Le.refl _, Pre.refl _, rl1, er1, q⟩
    (fun i σ' H' hi hL => left_turn hd (range_at hi) (fun _ _ _ _ => .int _) hL) (fun σ' H' hL => left_end (by rw [range_len]; exact Nat.le_refl _) hL)
/-- for i in range(n) -/
theorem pds_forR1 {a : Expr} {p : Pos} (hp : PassesOwn (model C.X.prog C.X.w) C.X.A C.X.env C.X.xe) (hc : C.X.calm = true) (hgl : Gl C.X "range") (hm : C.X.mg "range" = none) (ha : PDA C [a] ma) (hg : PG C.X tg g) (hd : TgD C.T C.T.K g gd is) (hb : PDSs C bd mb)
    (hst : starEach [a] C.X.env = [(false, eval a C.X.env)] := by rfl) (hs : ∀ x, foldedSetIterable (.Call (.Name "range" p) [a] [] pos') C.X.env x = pure x := by intro _; rfl) : PDS C (.For tg (.Call (.Name "range" p) [a] [] pos') bd [] pos) (sForR1 ma gd mb) :=
  PS.imp (ps_for hp hc (pi_range1 hgl hm ha hst) hg hb hs) fun D σ H ⟨ρ, st, ι, er, rl, p⟩ => by
    refine ⟨ρ, st, ι, er, rl, post_into p er fun ds s1 vs ι1 H1 st1 rl1 er1 rv p1 => ?_⟩
    split at p1
    · rename_i j
      split at p1
      · rename_i hj
        obtain ⟨v, rfl, r1⟩ := repL_one rv
        cases r1
        exact ⟨j, rfl, hj.1, hj.2, range_loop hd rl1 er1 p1⟩
      · exact p1.elim
    · exact p1.elim
theorem pds_forR2 {a b : Expr} {p : Pos} (hp : PassesOwn (model C.X.prog C.X.w) C.X.A C.X.env C.X.xe) (hc : C.X.calm = true) (hgl : Gl C.X "range") (hm : C.X.mg "range" = none) (ha : PDA C [a, b] ma) (hg : PG C.X tg g) (hd : TgD C.T C.T.K g gd is) (hb : PDSs C bd mb)
    (hst : starEach [a, b] C.X.env = [(false, eval a C.X.env), (false, eval b C.X.env)] := by rfl) (hst2 : starEach [b] C.X.env = [(false, eval b C.X.env)] := by rfl)
    (hs : ∀ x, foldedSetIterable (.Call (.Name "range" p) [a, b] [] pos') C.X.env x = pure x := by intro _; rfl) : PDS C (.For tg (.Call (.Name "range" p) [a, b] [] pos') bd [] pos) (sForR2 ma gd mb) :=
  PS.imp (ps_for hp hc (pi_range2 hgl hm ha hst hst2) hg hb hs) fun D σ H ⟨ρ, st, ι, er, rl, p⟩ => by
    refine ⟨ρ, st, ι, er, rl, post_into p er fun ds s1 vs ι1 H1 st1 rl1 er1 rv p1 => ?_⟩
    split at p1
    · rename_i i j
      split at p1
      · rename_i hj
        have ev := repL_ints rv
        subst ev
        exact ⟨i, j, rfl, ⟨hj.1.1, hj.1.2, hj.2.1, hj.2.2⟩, range_loop hd rl1 er1 p1⟩
      · exact p1.elim
    · exact p1.elim
end
end Den

set_option maxRecDepth 100000
set_option maxHeartbeats 4000000
/-! Den: list comprehensions. -/
namespace Den
open PySem PySem.Spec PyProof.Rows L2

def noX {α : Type} (r : Res α) : Res α := match r with
  | .ok a st => .ok a st
  | _ => .bad
/-- a comprehension's turns: ρ with the block's own slots forgotten -/
def lcL (g : GD) (t : DT) (e : DE) (ρ : Rho) : List D → Store → Res (List D)
  | [], st => .ok [] st
  | x :: xs, st => match g x ρ with
    | none => .bad
    | some ρ' => (noX (t ρ' st)).bind fun b s1 => match b with
      | true => (noX (e ρ' s1)).bind fun y s2 => (lcL g t e ρ xs s2).bind fun ys s3 => .ok (y :: ys) s3
      | false => lcL g t e ρ xs s1
def wipeD (ρ : Rho) : List Nat → Rho
  | [] => ρ
  | v :: vs => (wipeD ρ vs).set v none
def lcEnd (m : Res (List D)) : Res D := m.bind fun ys s1 => if ys.length ≤ 100000 then .ok (.lst ys) s1 else .bad
def dLcL (it : DE) (g : GD) (t : DT) (e : DE) (vs : List Nat) : DE := fun ρ st => (it ρ st).bind fun d s1 => match d with
  | .lst xs => if xs.length ≤ 100000 then lcEnd (lcL g t e (wipeD ρ vs) xs s1) else .bad
  | .ro xs => if xs.length ≤ 100000 then lcEnd (lcL g t e (wipeD ρ vs) xs s1) else .bad
  | _ => .bad
def dLcT (it : DE) (g : GD) (t : DT) (e : DE) (vs : List Nat) : DE := fun ρ st => (it ρ st).bind fun d s1 => match d with
  | .tup xs => if xs.length ≤ 100000 then lcEnd (lcL g t e (wipeD ρ vs) xs s1) else .bad
  | _ => .bad
def dLcR1 (a : DA) (g : GD) (t : DT) (e : DE) (vs : List Nat) : DE := fun ρ st => (a ρ st).bind fun ds s1 => match ds with
  | [.int j] => if big62 j ∧ j ≤ 100000 then lcEnd (lcL g t e (wipeD ρ vs) (rangeD 0 j.toNat) s1) else .bad
  | _ => .bad
def dLcR2 (a : DA) (g : GD) (t : DT) (e : DE) (vs : List Nat) : DE := fun ρ st => (a ρ st).bind fun ds s1 => match ds with
  | [.int i, .int j] => if big62 i ∧ big62 j ∧ j - i ≤ 100000 then lcEnd (lcL g t e (wipeD ρ vs) (rangeD i (j - i).toNat) s1) else .bad
  | _ => .bad
/-- all turns kept -/
def tYesD : DT := fun _ st => .ok true st
theorem EnvR.wipe {T : Txt} {xp : XT} {G : Hp} {ι : Io} {ρ : Rho} {σ : L2.St} (h : EnvR T xp G ι ρ σ) : ∀ vs : List Nat, EnvR T xp G ι (wipeD ρ vs) (L2.wipe σ vs)
  | [] => h
  | v :: vs => by
    have ih := EnvR.wipe h vs
    unfold wipeD L2.wipe
    refine ⟨by simp [ih.len], fun i d q => ?_⟩
    by_cases e : v = i
    · subst e
      by_cases hv : v < (wipeD ρ vs).length
      · rw [List.getElem?_set_self hv] at q
        cases q
      · rw [List.getElem?_eq_none (by simpa using hv)] at q
        cases q
    · rw [List.getElem?_set_ne e] at q ⊢
      exact ih.at_ i d q
/-- what is left of a comprehension -/
def LeftC (T : Txt) (xp : XT) (W : Value → Option Addr → Hp → Prop) (Q : VK) (g : GD) (t : DT) (e : DE) (ρ : Rho) (ds : List D) (ι1 : Io) (s1 : Store) (H1 : Hp) (p : Addr) (i : Nat) (H : Hp) : Prop :=
  ∃ st ι acc ys, Step (ι1.under p) s1 (upd H1 p (.lst [])) ι st (upd H p (.lst [])) ∧ RelSt T xp ι st H ∧ H p = some (.lst acc) ∧ RepL T xp (hide ι st H) ι acc ys ∧ ys.length ≤ i ∧
    Post T xp W ι1 s1 H1 (Rep T xp) Q (lcEnd ((lcL g t e ρ (ds.drop i) st).bind fun zs s2 => .ok (ys ++ zs) s2))
theorem Io.under_hd {ι ι' : Io} {p : Addr} (h : Pre (ι.under p) ι') : p ∈ ι'.hd := by
  rw [h.hd]
  exact List.mem_cons_self
theorem hide_hd {ι : Io} {st : Store} {H : Hp} {p : Addr} (h : p ∈ ι.hd) (o : HO) : hide ι st (upd H p o) = hide ι st H := by
  funext a
  unfold hide hidden
  by_cases e : a = p
  · subst e
    rw [if_pos (by simp [h]), if_pos (by simp [h])]
  · rw [upd_ne e]
theorem RelSt.hdw {T : Txt} {xp : XT} {ι : Io} {st : Store} {H : Hp} {p : Addr} (r : RelSt T xp ι st H) (h : p ∈ ι.hd) (o : HO) : RelSt T xp ι st (upd H p o) := by
  have n := (r.hdn p h).2
  refine ⟨r.len, r.nd, fun a ha => ?_, fun a ha => ?_, fun k a c hk hc => ?_⟩
  · obtain ⟨u, e⟩ := r.there a ha
    exact ⟨u, by rw [upd_ne fun z => n (by rw [← z]; exact ha)]; exact e⟩
  · by_cases e : a = p
    · exact ⟨⟨o, by rw [e, upd_same]⟩, (r.hdn a ha).2⟩
    · obtain ⟨⟨u, q⟩, m⟩ := r.hdn a ha
      exact ⟨⟨u, by rw [upd_ne e]; exact q⟩, m⟩
  · rw [hide_hd h]
    exact (r.ok k a c hk hc).mono (Le.refl _) (Pre.refl _) (upd_ne fun z => n (by rw [← z]; exact List.mem_of_getElem? hk))
/-- the list is done: it stands with the rest -/
theorem undone {T : Txt} {xp : XT} {ι1 ι : Io} {s1 st : Store} {H1 H : Hp} {p : Addr} {acc : List V} {ys : List D} (r1 : RelSt T xp ι1 s1 H1) (hp : H1 p = none) (s : Step (ι1.under p) s1 (upd H1 p (.lst [])) ι st (upd H p (.lst []))) (r : RelSt T xp ι st H) (hH : H p = some (.lst acc))
    (ra : RepL T xp (hide ι st H) ι acc ys) : RelSt T xp ⟨ι.ad, ι1.hd⟩ st H ∧ Step ι1 s1 H1 ⟨ι.ad, ι1.hd⟩ st H ∧ Rep T xp (hide ⟨ι.ad, ι1.hd⟩ st H) ⟨ι.ad, ι1.hd⟩ (.ref p) (.lst ys) := by
  have hm := Io.under_hd s.pre
  have hhd : ι.hd = p :: ι1.hd := s.pre.hd
  have nad := (r.hdn p hm).2
  have n1 : p ∉ ι1.hd := r1.neh hp
  have hl : Le (hide ι st H) (hide ⟨ι.ad, ι1.hd⟩ st H) := fun a u h => by
    have hn := hide_at h
    rw [hide_no]
    · exact hide_sub h
    · intro z
      apply hn
      unfold hidden at z ⊢
      rw [Bool.or_eq_true] at z ⊢
      rcases z with z | z
      · exact .inl z
      · refine .inr ?_
        rw [hhd]
        simp only [decide_eq_true_eq] at z ⊢
        exact List.mem_cons_of_mem _ z
  have hpv : hide ⟨ι.ad, ι1.hd⟩ st H p = some (.lst acc) := by
    rw [hide_no]
    · exact hH
    · unfold hidden
      rw [Bool.or_eq_true]
      rintro (z | z)
      · exact nad (live_mem (ι := ι) z)
      · exact n1 (of_decide_eq_true z)
  have hx := s.ex
  rw [hide_under hp, hide_hd hm] at hx
  refine ⟨⟨r.len, r.nd, r.there, fun a ha => r.hdn a (by rw [hhd]; exact List.mem_cons_of_mem _ ha), fun k a c hk hc => ?_⟩, ⟨⟨s.pre.ad, rfl⟩, hx.trans hl, fun a ha => ?_⟩, .lst hpv ?_⟩
  · have q := r.ok k a c hk hc
    cases c with
    | lst ds =>
      obtain ⟨xs, h1, h2⟩ := q
      exact ⟨xs, h1, RepL.monoA (ι := ι) (ι' := ⟨ι.ad, ι1.hd⟩) hl (fun _ _ e => e) h2⟩
    | ins c ds =>
      obtain ⟨dx, xs, h1, h2, h3⟩ := q
      exact ⟨dx, xs, h1, h2, RepL.monoA (ι := ι) (ι' := ⟨ι.ad, ι1.hd⟩) hl (fun _ _ e => e) h3⟩
    | dic ks ds =>
      obtain ⟨xs, h1, h2, h3⟩ := q
      exact ⟨xs, h1, h2, RepL.monoA (ι := ι) (ι' := ⟨ι.ad, ι1.hd⟩) hl (fun _ _ e => e) h3⟩
    | dead => trivial
  · have ne : a ≠ p := fun e => n1 (e ▸ ha)
    have q := s.hd a (List.mem_cons_of_mem _ ha)
    rw [upd_ne ne, upd_ne ne] at q
    exact q
  · exact RepL.monoA (ι := ι) (ι' := ⟨ι.ad, ι1.hd⟩) hl (fun _ _ e => e) ra
theorem post_noX {α β : Type} {T : Txt} {xp : XT} {W W' : Value → Option Addr → Hp → Prop} {ι : Io} {st : Store} {H : Hp} {R : Hp → Io → β → α → Prop} {Q : β → Hp → Prop} {m : Res α} (h : Post T xp W ι st H R Q (noX m)) : Post T xp W' ι st H R Q m := by
  cases m with
  | ok a s => exact h
  | _ => exact h.elim
section
variable {C : Ctx} {g : TG} {gd : GD} {is : List Nat} {t : DT} {e : DE} {vs : List Nat}
/-- one turn of a comprehension -/
theorem leftC_turn {W : Value → Option Addr → Hp → Prop} {Q : VK} {ds : List D} {ι1 : Io} {s1 : Store} {H1 : Hp} {p : Addr} {i : Nat} {H : Hp} {x : V} {d : D} {ρ : Rho} {σ : L2.St} (hd : TgD C.T C.T.K g gd is) (hv : ∀ j ∈ is, j ∈ vs) (hz : i < 100000) (er : EnvR C.T C.xp (hide ι1 s1 H1) ι1 ρ σ) (hp : H1 p = none)
    (hx : ds[i]? = some d) (hr : Rep C.T C.xp (hide ι1 s1 H1) ι1 x d) (h : LeftC C.T C.xp W Q gd t e (wipeD ρ vs) ds ι1 s1 H1 p i H) :
    g x (wipe σ vs) H fun σ2 H2 => wipe σ2 vs = wipe σ vs ∧ tDT C.T C.xp (fun _ _ _ _ => False) t σ2 H2 fun b H3 => if b = true then tD C.T C.xp (fun _ _ _ _ => False) e σ2 H3 fun y H4 => ∃ acc, H4 p = some (.lst acc) ∧ acc.length < sizeLine ∧
      LeftC C.T C.xp W Q gd t e (wipeD ρ vs) ds ι1 s1 H1 p (i + 1) (upd H4 p (.lst (acc ++ [y]))) else LeftC C.T C.xp W Q gd t e (wipeD ρ vs) ds ι1 s1 H1 p (i + 1) H3 := by
  obtain ⟨st, ι, acc, ys, s, rl, hH, ra, hly, q⟩ := h
  rw [drop_at hx] at q
  unfold lcL at q
  have hm := Io.under_hd s.pre
  have hx1 := s.ex
  rw [hide_under hp, hide_hd hm] at hx1
  have padA : ∀ (k : Nat) (a : Addr), ι1.ad[k]? = some a → ι.ad[k]? = some a := s.pre.ad
  have er' : EnvR C.T C.xp (hide ι st H) ι (wipeD ρ vs) (wipe σ vs) := by
    have w := er.wipe vs
    exact ⟨w.len, fun j y hy => let ⟨v, a, b⟩ := w.at_ j y hy; ⟨v, a, b.monoA hx1 padA⟩⟩
  cases hg : gd d (wipeD ρ vs) with
  | none =>
    rw [hg] at q
    exact q.elim
  | some ρ' =>
    rw [hg] at q
    refine hd.ok _ _ _ _ _ _ _ _ _ _ er' (hr.monoA hx1 padA) hg fun σ' er2 hw => ⟨?_, ρ', st, ι, er2, rl, ?_⟩
    · rw [hw vs hv]
      have idem : ∀ (ws : List Nat) (τ : L2.St), (∀ w ∈ ws, w ∈ vs) → wipe (wipe τ ws) vs = wipe τ vs := by
        intro ws
        induction ws with
        | nil => intro τ _; rfl
        | cons w ws ih =>
          intro τ hws
          show wipe ((wipe τ ws).set w none) vs = wipe τ vs
          rw [wipe_set (hws w List.mem_cons_self), ih τ fun z hz => hws z (List.mem_cons_of_mem _ hz)]
      exact idem vs σ fun _ z => z
    · cases ht : t ρ' st with
      | bad => simp only [ht, noX] at q; exact q.elim
      | exc c es s2 => simp only [ht, noX] at q; exact q.elim
      | ok b s2 =>
        simp only [ht, noX, bind_ok] at q
        intro b' ι2 H2 st2 rl2 eb
        have eb' : b' = b := eb
        subst eb'
        have hm2 : p ∈ ι2.hd := by rw [st2.pre.hd]; exact hm
        have hp2 : H2 p = some (.lst acc) := (st2.hd p hm).trans hH
        have ra2 := ra.mono st2.ex st2.pre
        have sU : ∀ {ιa ιb : Io} {sa sb : Store} {Ha Hb : Hp}, p ∈ ιa.hd → Step ιa sa Ha ιb sb Hb → Step ιa sa (upd Ha p (.lst [])) ιb sb (upd Hb p (.lst [])) := by
          intro ιa ιb sa sb Ha Hb ha z
          have hb : p ∈ ιb.hd := by rw [z.pre.hd]; exact ha
          refine ⟨z.pre, by rw [hide_hd ha, hide_hd hb]; exact z.ex, fun a h => ?_⟩
          by_cases ea : a = p
          · rw [ea, upd_same, upd_same]
          · rw [upd_ne ea, upd_ne ea]
            exact z.hd a h
        cases b' with
        | false => exact iteF ⟨s2, ι2, acc, ys, s.trans (sU hm st2), rl2, hp2, ra2, Nat.le_succ_of_le hly, q⟩
        | true =>
          refine iteT ⟨ρ', s2, ι2, er2.step st2, rl2, ?_⟩
          cases he : e ρ' s2 with
          | bad => simp only [he, noX] at q; exact q.elim
          | exc c es s3 => simp only [he, noX] at q; exact q.elim
          | ok y s3 =>
            simp only [he, noX, bind_ok] at q
            intro v ι3 H3 st3 rl3 rv
            have hm3 : p ∈ ι3.hd := by rw [st3.pre.hd]; exact hm2
            have hp3 : H3 p = some (.lst acc) := (st3.hd p hm2).trans hp2
            have ra3 := ra2.mono st3.ex st3.pre
            refine ⟨acc, hp3, line_lt (by rw [ra3.length]; omega), s3, ι3, acc ++ [v], ys ++ [y], ?_, rl3.hdw hm3 _, upd_same, ?_, by rw [List.length_append]; exact Nat.succ_le_succ hly, ?_⟩
            · rw [upd_upd]
              exact (s.trans (sU hm st2)).trans (sU hm2 st3)
            · rw [hide_hd hm3]
              exact ra3.append (.cons rv .nil)
            · cases hL : lcL gd t e (wipeD ρ vs) (ds.drop (i + 1)) s3 with
              | ok zs s4 =>
                simp only [hL, bind_ok] at q ⊢
                rw [List.append_assoc]
                exact q
              | exc c es s4 => simp only [hL, bind_exc] at q ⊢; exact q
              | bad => simp only [hL, bind_bad] at q ⊢; exact q
theorem leftC_start {W : Value → Option Addr → Hp → Prop} {Q : VK} {ds : List D} {ι1 : Io} {s1 : Store} {H1 : Hp} {p : Addr} {ρ : Rho} (rl : RelSt C.T C.xp ι1 s1 H1) (hp : H1 p = none) (q : Post C.T C.xp W ι1 s1 H1 (Rep C.T C.xp) Q (lcEnd (lcL gd t e ρ ds s1))) :
    LeftC C.T C.xp W Q gd t e ρ ds ι1 s1 H1 p 0 (upd H1 p (.lst [])) := by
  refine ⟨s1, ι1.under p, [], [], ?_, rl.under hp, upd_same, .nil, Nat.le_refl _, ?_⟩
  · rw [upd_upd]
    exact Step.refl _ _ _
  · show Post _ _ _ _ _ _ _ _ (lcEnd ((lcL gd t e ρ ds s1).bind fun zs s2 => .ok zs s2))
    cases hL : lcL gd t e ρ ds s1 with
    | ok zs s4 => rw [hL] at q; exact q
    | exc c es s4 => rw [hL] at q; exact q
    | bad => rw [hL] at q; exact q
theorem leftC_end {W : Value → Option Addr → Hp → Prop} {Q : VK} {ds : List D} {ι1 : Io} {s1 : Store} {H1 : Hp} {p : Addr} {ρ : Rho} {i : Nat} {H : Hp} (rl : RelSt C.T C.xp ι1 s1 H1) (hp : H1 p = none) (hi : ds.length ≤ i) (h : LeftC C.T C.xp W Q gd t e ρ ds ι1 s1 H1 p i H) : Q (.ref p) H := by
  obtain ⟨st, ι, acc, ys, s, r, hH, ra, hly, q⟩ := h
  rw [List.drop_eq_nil_of_le hi] at q
  unfold lcL at q
  simp only [bind_ok, List.append_nil] at q
  unfold lcEnd at q
  simp only [bind_ok] at q
  split at q
  · obtain ⟨r', s', rr⟩ := undone rl hp s r hH ra
    exact q _ _ _ s' r' rr
  · exact q.elim
end
end Den

set_option maxRecDepth 100000
set_option maxHeartbeats 4000000
/-! Den: list comprehensions, the rules. -/
namespace Den
open PySem PySem.Spec PyProof.Rows L2
abbrev Ctx.blk (C : Ctx) (s : Shared) (H : Hp) (scope : Scope) (c : Addr) (cl : List (Str × Addr)) (fp : List Addr) : Ctx := ⟨C.X.blk s H scope (compEnvC scope cl c C.X.env) fp, C.T, C.xp, fun _ _ _ _ => False, C.hK⟩
abbrev PDTs (C : Ctx) (ifs : List Expr) (t : DT) : Prop := PTs C.X ifs (tDT C.T C.xp C.W t)
section
variable {C : Ctx} {g : TG} {gd : GD} {is : List Nat} {t : DT} {e : DE} {elt tg iter : Expr} {ifs : List Expr} {scope : Scope} {own : List (Str × Nat)} {pos : Pos} {mi : DE} {ma : DA}
theorem pdts_nil : PDTs C [] tYesD := by
  refine ⟨fun pins s σ H Q I ⟨ρ, st, ι, er, rl, p⟩ => pts_nil.run pins s σ H Q I ?_⟩
  exact p true ι H (Step.refl _ _ _) rl rfl
theorem pdts_one {c : Expr} (h : PDT C c t) : PDTs C [c] t := pts_one h
theorem leftC_sq {W : Value → Option Addr → Hp → Prop} {Q : VK} {ds : List D} {ι1 : Io} {s1 : Store} {H1 : Hp} {p : Addr} {i : Nat} {H : Hp} {ρ : Rho} (hp : H1 p = none) (h : LeftC C.T C.xp W Q gd t e ρ ds ι1 s1 H1 p i H) : Le (hide ι1 s1 H1) H := by
  obtain ⟨st, ι, acc, ys, s, rl, hH, ra, hly, q⟩ := h
  have hm := Io.under_hd s.pre
  have hx1 := s.ex
  rw [hide_under hp, hide_hd hm] at hx1
  exact hx1.trans (hide_le _ _ _)
theorem pd_lcL (hc : C.X.calm = true) (hN : C.X.N.Nodup) (hi : PD C iter mi) (ok : BlkOk C.X.N C.X.env.scope scope own) (hg : ∀ s H c cl fp, PG (C.blk s H scope c cl fp).X tg g) (hd : TgD C.T C.T.K g gd is) (hv : ∀ j ∈ is, j ∈ own.map (·.2))
    (ht : ∀ s H c cl fp, PDTs (C.blk s H scope c cl fp) ifs t) (he : ∀ s H c cl fp, PD (C.blk s H scope c cl fp) elt e) (hs : ∀ x, foldedSetIterable iter C.X.env x = pure x := by intro _; rfl) :
    PD C (.ListComp elt [⟨tg, iter, ifs, 0⟩] scope pos) (dLcL mi gd t e (own.map (·.2))) :=
  PE.imp (pe_lc hc hN (pi_list hi) ok hg ht he hs) fun σ H Q ⟨ρ, st, ι, er, rl, p⟩ => by
    refine ⟨ρ, st, ι, er, rl, post_bind p fun d s1 v ι1 H1 st1 rl1 rv p1 => ?_⟩
    rw [C.hK]
    have er1 := er.step st1
    have key : ∀ a xs ds, SqL C.T.K (hide ι1 s1 H1) a xs → RepL C.T C.xp (hide ι1 s1 H1) ι1 xs ds → ds.length ≤ 100000 → Post C.T C.xp (fun c d H => C.W c d σ H) ι1 s1 H1 (Rep C.T C.xp) Q (lcEnd (lcL gd t e (wipeD ρ (own.map (·.2))) ds s1)) →
        ∀ D, H1 D = none → ∃ W' : Nat → Nat → Hp → Prop, (∃ m, W' 0 m (upd H1 D (.lst []))) ∧ ∀ i m H, W' i m H → ((Itl C.T.K a).stop i H ∧ Q (.ref D) H) ∨ ((Itl C.T.K a).go i H ∧ ∃ Nx : Hp → Prop, (∀ H', Nx H' → ∃ m', m' < m ∧ W' (i + 1) m' H') ∧
          ∀ x H', (Itl C.T.K a).yld i H x H' → g x (L2.wipe σ (own.map (·.2))) H' fun σ2 H2 => L2.wipe σ2 (own.map (·.2)) = L2.wipe σ (own.map (·.2)) ∧ tDT C.T C.xp (fun _ _ _ _ => False) t σ2 H2 fun b H3 =>
            if b = true then tD C.T C.xp (fun _ _ _ _ => False) e σ2 H3 fun y H4 => ∃ acc, H4 D = some (.lst acc) ∧ acc.length < sizeLine ∧ Nx (upd H4 D (.lst (acc ++ [y]))) else Nx H3) := by
      intro a xs ds hsq rs hl q D hD
      refine lc_list (K := C.T.K) (a := a) (xs := xs) (LeftC C.T C.xp (fun c d H => C.W c d σ H) Q gd t e (wipeD ρ (own.map (·.2))) ds ι1 s1 H1 D) (leftC_start rl1 hD q) (fun i H' _ hL => le_l (leftC_sq hD hL) hsq) (fun i x H' hx hL => ?_) fun H' hL => leftC_end rl1 hD (by rw [rs.length]; exact Nat.le_refl _) hL
      obtain ⟨y, hy, ry⟩ := rs.getV hx
      have hlt : i < ds.length := (List.getElem?_eq_some_iff.mp hy).1
      exact leftC_turn hd hv (by omega) er1 hD hy ry hL
    cases rv with
    | lst h1 r1 =>
      dsimp only at p1
      split at p1
      · rename_i hl
        exact ⟨_, rfl, ⟨_, SqL.of (hide_sub h1)⟩, key _ _ _ (SqL.of h1) r1 hl p1⟩
      · exact p1.elim
    | ro h1 r1 =>
      dsimp only at p1
      split at p1
      · rename_i hl
        exact ⟨_, rfl, ⟨_, le_l (hide_le _ _ _) h1⟩, key _ _ _ h1 r1 hl p1⟩
      · exact p1.elim
    | _ => exact p1.elim
theorem pd_lcT (hc : C.X.calm = true) (hN : C.X.N.Nodup) (hi : PD C iter mi) (ok : BlkOk C.X.N C.X.env.scope scope own) (hg : ∀ s H c cl fp, PG (C.blk s H scope c cl fp).X tg g) (hd : TgD C.T C.T.K g gd is) (hv : ∀ j ∈ is, j ∈ own.map (·.2))
    (ht : ∀ s H c cl fp, PDTs (C.blk s H scope c cl fp) ifs t) (he : ∀ s H c cl fp, PD (C.blk s H scope c cl fp) elt e) (hs : ∀ x, foldedSetIterable iter C.X.env x = pure x := by intro _; rfl) :
    PD C (.ListComp elt [⟨tg, iter, ifs, 0⟩] scope pos) (dLcT mi gd t e (own.map (·.2))) :=
  PE.imp (pe_lc hc hN (pi_tup hi) ok hg ht he hs) fun σ H Q ⟨ρ, st, ι, er, rl, p⟩ => by
    refine ⟨ρ, st, ι, er, rl, post_bind p fun d s1 v ι1 H1 st1 rl1 rv p1 => ?_⟩
    rw [C.hK]
    have er1 := er.step st1
    cases rv with
    | @tup a xs ds h1 rs =>
      dsimp only at p1
      split at p1
      · rename_i hl
        refine ⟨_, rfl, ⟨_, le_t (hide_le _ _ _) h1⟩, fun D hD => ?_⟩
        refine lc_tup (K := C.T.K) (a := a) (xs := xs) (LeftC C.T C.xp (fun c d H => C.W c d σ H) Q gd t e (wipeD ρ (own.map (·.2))) ds ι1 s1 H1 D) (leftC_start rl1 hD p1) (fun i H' _ hL => le_t (leftC_sq hD hL) h1) (fun i x H' hx hL => ?_) fun H' hL => leftC_end rl1 hD (by rw [rs.length]; exact Nat.le_refl _) hL
        obtain ⟨y, hy, ry⟩ := rs.getV hx
        have hlt : i < ds.length := (List.getElem?_eq_some_iff.mp hy).1
        exact leftC_turn hd hv (by omega) er1 hD hy ry hL
      · exact p1.elim
    | _ => exact p1.elim
theorem lc_rangeD {Q : VK} {ι1 : Io} {s1 : Store} {H1 : Hp} {ρ : Rho} {σ : L2.St} {lo : Int} {n : Nat} (hd : TgD C.T C.T.K g gd is) (hv : ∀ j ∈ is, j ∈ own.map (·.2)) (er1 : EnvR C.T C.xp (hide ι1 s1 H1) ι1 ρ σ) (rl1 : RelSt C.T C.xp ι1 s1 H1) (hl : n ≤ 100000)
    (q : Post C.T C.xp (fun c d H => C.W c d σ H) ι1 s1 H1 (Rep C.T C.xp) Q (lcEnd (lcL gd t e (wipeD ρ (own.map (·.2))) (rangeD lo n) s1))) :
    ∀ D, H1 D = none → ∃ W' : Nat → Nat → Hp → Prop, (∃ m, W' 0 m (upd H1 D (.lst []))) ∧ ∀ i m H, W' i m H → ((Itr lo n).stop i H ∧ Q (.ref D) H) ∨ ((Itr lo n).go i H ∧ ∃ Nx : Hp → Prop, (∀ H', Nx H' → ∃ m', m' < m ∧ W' (i + 1) m' H') ∧
      ∀ x H', (Itr lo n).yld i H x H' → g x (L2.wipe σ (own.map (·.2))) H' fun σ2 H2 => L2.wipe σ2 (own.map (·.2)) = L2.wipe σ (own.map (·.2)) ∧ tDT C.T C.xp (fun _ _ _ _ => False) t σ2 H2 fun b H3 =>
        if b = true then tD C.T C.xp (fun _ _ _ _ => False) e σ2 H3 fun y H4 => ∃ acc, H4 D = some (.lst acc) ∧ acc.length < sizeLine ∧ Nx (upd H4 D (.lst (acc ++ [y]))) else Nx H3) := by
  intro D hD
  exact lc_range (lo := lo) (n := n) (LeftC C.T C.xp (fun c d H => C.W c d σ H) Q gd t e (wipeD ρ (own.map (·.2))) (rangeD lo n) ι1 s1 H1 D) (leftC_start rl1 hD q) (fun i H' hi hL => leftC_turn hd hv (by omega) er1 hD (range_at hi) (.int _) hL)
    fun H' hL => leftC_end rl1 hD (by rw [range_len]; exact Nat.le_refl _) hL
theorem pd_lcR1 {a : Expr} {p pos' : Pos} (hc : C.X.calm = true) (hN : C.X.N.Nodup) (hgl : Gl C.X "range") (hm : C.X.mg "range" = none) (ha : PDA C [a] ma) (ok : BlkOk C.X.N C.X.env.scope scope own) (hg : ∀ s H c cl fp, PG (C.blk s H scope c cl fp).X tg g) (hd : TgD C.T C.T.K g gd is)
    (hv : ∀ j ∈ is, j ∈ own.map (·.2)) (ht : ∀ s H c cl fp, PDTs (C.blk s H scope c cl fp) ifs t) (he : ∀ s H c cl fp, PD (C.blk s H scope c cl fp) elt e) (hst : starEach [a] C.X.env = [(false, eval a C.X.env)] := by rfl)
    (hs : ∀ x, foldedSetIterable (.Call (.Name "range" p) [a] [] pos') C.X.env x = pure x := by intro _; rfl) : PD C (.ListComp elt [⟨tg, .Call (.Name "range" p) [a] [] pos', ifs, 0⟩] scope pos) (dLcR1 ma gd t e (own.map (·.2))) :=
  PE.imp (pe_lc hc hN (pi_range1 hgl hm ha hst) ok hg ht he hs) fun σ H Q ⟨ρ, st, ι, er, rl, p⟩ => by
    refine ⟨ρ, st, ι, er, rl, post_bind p fun ds s1 vs ι1 H1 st1 rl1 rv p1 => ?_⟩
    split at p1
    · rename_i j
      split at p1
      · rename_i hj
        obtain ⟨v, rfl, r1⟩ := repL_one rv
        cases r1
        exact ⟨j, rfl, hj.1.1, hj.1.2, lc_rangeD hd hv (er.step st1) rl1 (by omega) p1⟩
      · exact p1.elim
    · exact p1.elim
theorem pd_lcR2 {a b : Expr} {p pos' : Pos} (hc : C.X.calm = true) (hN : C.X.N.Nodup) (hgl : Gl C.X "range") (hm : C.X.mg "range" = none) (ha : PDA C [a, b] ma) (ok : BlkOk C.X.N C.X.env.scope scope own) (hg : ∀ s H c cl fp, PG (C.blk s H scope c cl fp).X tg g) (hd : TgD C.T C.T.K g gd is)
    (hv : ∀ j ∈ is, j ∈ own.map (·.2)) (ht : ∀ s H c cl fp, PDTs (C.blk s H scope c cl fp) ifs t) (he : ∀ s H c cl fp, PD (C.blk s H scope c cl fp) elt e) (hst : starEach [a, b] C.X.env = [(false, eval a C.X.env), (false, eval b C.X.env)] := by rfl) (hst2 : starEach [b] C.X.env = [(false, eval b C.X.env)] := by rfl)
    (hs : ∀ x, foldedSetIterable (.Call (.Name "range" p) [a, b] [] pos') C.X.env x = pure x := by intro _; rfl) : PD C (.ListComp elt [⟨tg, .Call (.Name "range" p) [a, b] [] pos', ifs, 0⟩] scope pos) (dLcR2 ma gd t e (own.map (·.2))) :=
  PE.imp (pe_lc hc hN (pi_range2 hgl hm ha hst hst2) ok hg ht he hs) fun σ H Q ⟨ρ, st, ι, er, rl, p⟩ => by
    refine ⟨ρ, st, ι, er, rl, post_bind p fun ds s1 vs ι1 H1 st1 rl1 rv p1 => ?_⟩
    split at p1
    · rename_i i j
      split at p1
      · rename_i hj
        have ev := repL_ints rv
        subst ev
        exact ⟨i, j, rfl, ⟨hj.1.1, hj.1.2, hj.2.1.1, hj.2.1.2⟩, lc_rangeD hd hv (er.step st1) rl1 (by omega) p1⟩
      · exact p1.elim
    · exact p1.elim
end
end Den

set_option maxRecDepth 100000
set_option maxHeartbeats 4000000
/-! Den: isinstance, repr. -/
namespace Den
open PySem PySem.Spec PyProof.Rows L2

/-! ### isinstance -/
inductive Tag where
  | ty (n : String)
  | ow (c : Nat)
  deriving DecidableEq
def tagV (T : Txt) : Tag → Value
  | .ty n => .type n
  | .ow c => .ref (T.ca c)
/-- the text's classes: who is a kind of whom -/
def IsT (T : Txt) (isT : Tag → Tag → Option Bool) : Prop := ∀ t c b, isT t c = some b → PySem.W.kitOne T.K (tagV T t) (tagV T c) = some b
/-- a class whose instances isinstance asks plainly -/
structure ClsI (T : Txt) (c : Nat) : Prop where
  d : ClsD T c
  ha : PySem.W.findIn T.K (.ref (T.ca c)) "__class__" = some (some (.builtin "object.__class__"))
  hn : PySem.W.specialIn T.K (.builtin "object.__class__") "__get__" = some (some (.builtin "getset_descriptor.__get__"))
  ht : PySem.W.takesIn T.K (.builtin "object.__class__") = some true
  hm : PySem.W.mroIn T.K (T.ca c) (.type "object") = some true
def tagD (own : List Nat) (d : D) (st : Store) : Option Tag := match d with
  | .non => some (.ty "NoneType")
  | .bl _ => some (.ty "bool")
  | .int _ => some (.ty "int")
  | .str _ => some (.ty "str")
  | .lst _ => some (.ty "list")
  | .tup _ => some (.ty "tuple")
  | .dic _ _ => some (.ty "dict")
  | .ins c _ => if own.contains c = true then some (.ow c) else none
  | .box k => match st[k]? with
    | some (.lst _) => some (.ty "list")
    | some (.dic _ _) => some (.ty "dict")
    | some (.ins c _) => if own.contains c = true then some (.ow c) else none
    | _ => none
  | _ => none
def clsA : D → Option Tag
  | .ty n => some (.ty n)
  | .cl i => some (.ow i)
  | _ => none
theorem clsA_rep {T : Txt} {xp : XT} {G : Hp} {ι : Io} {v : V} {d : D} {t : Tag} (r : Rep T xp G ι v d) (h : clsA d = some t) : ClsV v (tagV T t) := by
  cases r with
  | ty n => cases h; exact .ty n
  | cl i => cases h; exact .own _
  | _ => cases h
theorem tup_k {T : Txt} {H : Hp} {a : Addr} {xs : List V} (h : SqT T.K H a xs) : TyX T.K H (.ref a) (.type "tuple") := by
  rcases h with (h | ⟨o, h⟩) | ⟨o, its, n, hk, hc, _⟩
  · exact .base (.tup h)
  · exact .fTuple h
  · exact .kTuple hk hc
theorem tagD_rep {T : Txt} {xp : XT} {own : List Nat} {ι : Io} {st : Store} {H : Hp} {v : V} {d : D} {t : Tag} (ho : ∀ c ∈ own, ClsI T c) (rl : RelSt T xp ι st H) (r : Rep T xp (hide ι st H) ι v d) (h : tagD own d st = some t) : TyX T.K H v (tagV T t) := by
  cases r with
  | non => cases h; exact .base .non
  | bl b => cases h; exact .base (.bl b)
  | int i => cases h; exact .base (.int i)
  | str x => cases h; exact .base (.str x)
  | lst h1 h2 => cases h; exact .base (.lst (hide_sub h1))
  | tup h1 h2 => cases h; exact tup_k (le_t (hide_le _ _ _) h1)
  | dic h1 h2 h3 => cases h; exact .fDict (hide_sub h1)
  | ins h1 h2 h3 =>
    unfold tagD at h
    dsimp only at h
    split at h
    · rename_i hc
      cases h
      have c := ho _ (by simpa using hc)
      exact .base (.ins (hide_sub h1) c.d.cl c.ha c.hn c.ht c.hm)
    · cases h
  | box hk =>
    unfold tagD at h
    dsimp only at h
    split at h
    · rename_i xs hs
      cases h
      obtain ⟨ys, h1, h2⟩ := rl.ok _ _ _ hk hs
      exact .base (.lst h1)
    · rename_i ks xs hs
      cases h
      obtain ⟨ys, h1, h2, h3⟩ := rl.ok _ _ _ hk hs
      exact .base (.dK h1)
    · rename_i c xs hs
      split at h
      · rename_i hc
        cases h
        have c := ho _ (by simpa using hc)
        obtain ⟨dx, ys, h1, h2, h3⟩ := rl.ok _ _ _ hk hs
        exact .base (.ins h1 c.d.cl c.ha c.hn c.ht c.hm)
      · cases h
    · cases h
  | _ => cases h
def bIsi (own : List Nat) (isT : Tag → Tag → Option Bool) : FB := fun ds st => match ds with
  | [x, c] => match tagD own x st, clsA c with
    | some t, some u => (isT t u).map fun b => (.bl b, st)
    | _, _ => none
  | _ => none
section
variable {C : Ctx}
theorem repL_two {T : Txt} {xp : XT} {G : Hp} {ι : Io} {xs : List V} {x y : D} (r : RepL T xp G ι xs [x, y]) : ∃ v w, xs = [v, w] ∧ Rep T xp G ι v x ∧ Rep T xp G ι w y := by
  cases r with
  | cons r1 r2 =>
    obtain ⟨w, rfl, r3⟩ := repL_one r2
    exact ⟨_, w, rfl, r1, r3⟩
theorem blt_isi {own : List Nat} {isT : Tag → Tag → Option Bool} (ho : ∀ c ∈ own, ClsI C.T c) (hi : IsT C.T isT) : BltD C "isinstance" (bIsi own isT) := ⟨_, call_isi, fun ι st H xs ds d st' Q rl rx e k => by
  unfold bIsi at e
  split at e
  · rename_i x c
    split at e
    · rename_i t u h1 h2
      obtain ⟨b, hb, e'⟩ := Option.map_eq_some_iff.mp e
      cases e'
      obtain ⟨v, w, rfl, rv, rw'⟩ := repL_two rx
      refine ⟨v, w, tagV C.T t, tagV C.T u, b, rfl, clsA_rep rw' h2, ?_, ?_, k _ ι H (Step.refl _ _ _) rl (.bl b)⟩
      · rw [C.hK]; exact tagD_rep ho rl rv h1
      · rw [C.hK]; exact hi t u b hb
    · cases e
  · cases e⟩
end

/-! ### repr of plain data -/
def keyD : Key → PyData
  | .inl i => .int i
  | .inr x => .str x
mutual
def toPyR : D → Option PyData
  | .non => some .none
  | .bl b => some (.bool b)
  | .int i => some (.int i)
  | .str x => some (.str x)
  | .lst xs => (toPyRL xs).map .list
  | .ro xs => (toPyRL xs).map .list
  | .tup xs => (toPyRL xs).map .tuple
  | .dic ks xs => if ks.length = xs.length then (toPyRL xs).map fun ps => .dict ((ks.map keyD).zip ps) else none
  | _ => none
def toPyRL : List D → Option (List PyData)
  | [] => some []
  | x :: xs => match toPyR x, toPyRL xs with
    | some p, some ps => some (p :: ps)
    | _, _ => none
end
def NoSys (H : Hp) (as : List Addr) : Prop := sysModules ∉ as
theorem toPyRL_len : ∀ {xs : List D} {ps : List PyData}, toPyRL xs = some ps → ps.length = xs.length
  | [], _, h => by simp only [toPyRL] at h; cases h; rfl
  | x :: xs, ps, h => by
    simp only [toPyRL] at h
    split at h
    · rename_i h1 h2
      cases h
      exact congrArg Nat.succ (toPyRL_len h2)
    · cases h
theorem readsAll_app {h : Heap} : ∀ {vs ws : List Value} {ds es : List PyData} {as bs : List Addr}, ReadsAll h vs ds as → ReadsAll h ws es bs → ReadsAll h (vs ++ ws) (ds ++ es) (as ++ bs)
  | _, _, _, _, _, _, .nil, q => q
  | _, _, _, _, _, _, .cons r rs, q => by
    rw [List.append_assoc]
    exact .cons r (readsAll_app rs q)
theorem reads_key {h : Heap} {k : Key} {u : Value} (e : keyIs k u = true) : Reads h u (keyD k) [] := by
  rcases keyIs_shape e with ⟨i, t, rfl, rfl⟩ | ⟨x, t, rfl, rfl⟩
  · exact .int i t
  · exact .str x t
theorem dict_parts {P : Program} {w : World} {h : Heap} : ∀ {ks : List Key} {xs : List V} {vs : List (Key × Value)} {es : List DictEntry}, ks.length = xs.length → KV (ks.zip xs) vs → Pairs (mixKind P w) es vs →
    Vals xs (es.map (·.val)) ∧ ReadsAll h (es.map (·.key)) (ks.map keyD) []
  | [], [], _, _, _, kv, p => by
    cases kv
    cases p
    exact ⟨.nil, .nil⟩
  | [], _ :: _, _, _, hl, _, _ => by cases hl
  | _ :: _, [], _, _, hl, _, _ => by cases hl
  | k :: ks, x :: xs, vs, es, hl, kv, p => by
    have kv' : Paired (fun (p : Key × V) (q : Key × Value) => p.1 = q.1 ∧ RelV p.2 q.2) ((k, x) :: ks.zip xs) vs := kv
    cases kv' with
    | cons r rs =>
      cases p with
      | @cons e kvx es kvs h1 h2 hp =>
        obtain ⟨a, b⟩ := dict_parts (h := h) (by simpa using hl) rs hp
        obtain ⟨e1, e2⟩ := r
        have e1' : k = _ := e1
        refine ⟨.cons (by show L2.RelV x e.val; rw [h2]; exact e2) a, ?_⟩
        have key : keyIs k e.key = true := by rw [e1']; exact h1
        exact .cons (as := []) (bs := []) (reads_key key) b
section
variable {C : Ctx} {pins : List (Addr × Obj)} {σ : L2.St} {H : Hp} {s : Shared} {ι : Io} {st : Store}
/-- a datum that stands in the heap: it can be read, and it can be shown -/
def Kn (P : Program) (w : World) (h : Heap) (u : Value) (p : PyData) : Prop := (∃ as, Reads h u p as) ∧ ∃ bs, ReadAtMost h p.depth bs ∧ ReprK P w bs h p.depth u p.shown
def KnL (P : Program) (w : World) (h : Heap) (us : List Value) (ps : List PyData) : Prop := (∃ as, ReadsAll h us ps as) ∧ ∃ bs, ReadAtMost h (PyData.depthAll ps) bs ∧ ReprAllK P w bs h (PyData.depthAll ps) us (PyData.shownAll ps)
section
variable {P : Program} {w : World} {h : Heap}
theorem kn_flat {u : Value} {p : PyData} (r : Reads h u p []) (hd : p.hasDict = false) (hs : p.showable = true) (hz : p.shown.length ≤ sizeLine) : Kn P w h u p :=
  ⟨⟨_, r⟩, ReprK.of_reads r hs (fun e => by rw [hd] at e; cases e) hz⟩
theorem knL_nil : KnL P w h [] [] := ⟨⟨_, .nil⟩, [], fun _ z => (nomatch z), by simp only [PyData.shownAll]; exact .nil⟩
theorem knL_cons {u : Value} {us : List Value} {p : PyData} {ps : List PyData} (k : Kn P w h u p) (ks : KnL P w h us ps) : KnL P w h (u :: us) (p :: ps) := by
  obtain ⟨⟨a1, r1⟩, b1, m1, k1⟩ := k
  obtain ⟨⟨a2, r2⟩, b2, m2, k2⟩ := ks
  have d1 : p.depth ≤ PyData.depthAll (p :: ps) := by simp only [PyData.depthAll]; omega
  have d2 : PyData.depthAll ps ≤ PyData.depthAll (p :: ps) := by simp only [PyData.depthAll]; omega
  refine ⟨⟨_, .cons r1 r2⟩, b1 ++ b2, (m1.mono d1).append (m2.mono d2), ?_⟩
  simp only [PyData.shownAll]
  exact .cons ((k1.more fun _ z => List.mem_append_left _ z).level_le d1) (k2.more_le (fun _ z => List.mem_append_right _ z) d2)
theorem kn_list {a : Addr} {o : Obj} {n : Nat} {us : List Value} {ps : List PyData} (ho : h.get? a = some o) (hc : o.cls = .type "list") (hd : o.data = .seq us.toArray n) (k : KnL P w h us ps) : Kn P w h (.ref a) (.list ps) := by
  obtain ⟨⟨as, q⟩, bs, hb, kk⟩ := k
  have r : Reads h (.ref a) (.list ps) _ := .list ho hc hd q
  have out := not_mem_of_deeper r (by simp only [PyData.depth]; omega) hb
  refine ⟨⟨_, r⟩, a :: bs, ReadAtMost.cons r (by simp only [PyData.depth]; omega) hb, ?_⟩
  simp only [PyData.depth, PyData.shown]
  cases us with
  | nil =>
    generalize PyData.shownAll ps = ts at kk
    cases kk
    rw [listText_nil]
    exact ReprK.listEmpty ho hc hd
  | cons y ys => exact ReprK.list ho hc hd out (by simpa using kk.length_eq) fun i z e => kk.item i z (by simpa using e)
theorem kn_tuple {a : Addr} {o : Obj} {n : Nat} {us : List Value} {ps : List PyData} (ho : h.get? a = some o) (hc : o.cls = .type "tuple") (hd : o.data = .seq us.toArray n) (k : KnL P w h us ps) : Kn P w h (.ref a) (.tuple ps) := by
  obtain ⟨⟨as, q⟩, bs, hb, kk⟩ := k
  have r : Reads h (.ref a) (.tuple ps) _ := .tuple ho hc hd q
  have out := not_mem_of_deeper r (by simp only [PyData.depth]; omega) hb
  refine ⟨⟨_, r⟩, a :: bs, ReadAtMost.cons r (by simp only [PyData.depth]; omega) hb, ?_⟩
  simp only [PyData.depth, PyData.shown]
  exact ReprK.tuple ho hc hd out kk
theorem keys_low : ∀ ks : List Key, PyData.hasDictAll (ks.map keyD) = false ∧ PyData.showableAll (ks.map keyD) = PyData.showableAll (ks.map keyD)
  | [] => ⟨rfl, rfl⟩
  | k :: ks => by
    refine ⟨?_, rfl⟩
    have := (keys_low ks).1
    cases k <;> simp only [List.map_cons, PyData.hasDictAll, keyD, PyData.hasDict, this, Bool.or_self]
theorem kn_dict {a : Addr} {o : Obj} {n : Nat} {es : Array DictEntry} {ks : List Key} {ps : List PyData} (ho : h.get? a = some o) (hc : o.cls = .type "dict") (hd : o.data = .dict es n) (na : (a == sysModules) = false) (hl : ks.length = ps.length)
    (hk : ReadsAll h (es.toList.map (·.key)) (ks.map keyD) []) (k : KnL P w h (es.toList.map (·.val)) ps) (hs : PyData.showableAll (ks.map keyD) = true) (hz : ∀ t ∈ PyData.shownAll (ks.map keyD), t.length ≤ sizeLine) : Kn P w h (.ref a) (.dict ((ks.map keyD).zip ps)) := by
  obtain ⟨⟨as, q⟩, bs, hb, kk⟩ := k
  obtain ⟨cs, hb2, k2⟩ := ReprAllK.of_readsAll (prog := P) (w := w) hk hs (fun e => by rw [(keys_low ks).1] at e; cases e) hz
  have lp : (ks.map keyD).length = ps.length := by rw [List.length_map]; exact hl
  have f1 : ((ks.map keyD).zip ps).map (·.1) = ks.map keyD := List.map_fst_zip (Nat.le_of_eq lp)
  have f2 : ((ks.map keyD).zip ps).map (·.2) = ps := List.map_snd_zip (Nat.le_of_eq lp.symm)
  have r : Reads h (.ref a) (.dict ((ks.map keyD).zip ps)) _ := .dict ho hc hd (by rw [f1]; exact hk) (by rw [f2]; exact q)
  have dk := PyData.depthAll_keys_le ((ks.map keyD).zip ps)
  have dv := PyData.depthAll_vals_le ((ks.map keyD).zip ps)
  rw [f1] at dk
  rw [f2] at dv
  have both : ReadAtMost h (PyData.depthKv ((ks.map keyD).zip ps)) (cs ++ bs) := (hb2.mono dk).append (hb.mono dv)
  have out := not_mem_of_deeper r (by simp only [PyData.depth]; omega) both
  refine ⟨⟨_, r⟩, a :: (cs ++ bs), ReadAtMost.cons r (by simp only [PyData.depth]; omega) both, ?_⟩
  simp only [PyData.depth, PyData.shown, PyData.shownKv_eq, f1, f2]
  exact ReprK.dict ho hc hd na out (ReprEntriesK.of_two _ _ _ (k2.more_le (fun _ z => List.mem_append_left _ z) dk) (kk.more_le (fun _ z => List.mem_append_right _ z) dv))
end
def shortD (p : PyData) : Prop := p.showable = true ∧ p.shown.length ≤ sizeLine
def shortL (ps : List PyData) : Prop := PyData.showableAll ps = true ∧ ∀ t ∈ PyData.shownAll ps, t.length ≤ sizeLine
theorem shortL_cons {p : PyData} {ps : List PyData} (h : shortL (p :: ps)) : shortD p ∧ shortL ps := by
  obtain ⟨h1, h2⟩ := h
  simp only [PyData.showableAll, Bool.and_eq_true] at h1
  simp only [PyData.shownAll, List.mem_cons] at h2
  exact ⟨⟨h1.1, h2 _ (.inl rfl)⟩, h1.2, fun t ht => h2 t (.inr ht)⟩
theorem short_list {ps : List PyData} (h : shortD (.list ps)) : shortL ps := by
  obtain ⟨h1, h2⟩ := h
  simp only [PyData.showable] at h1
  simp only [PyData.shown] at h2
  exact ⟨h1, fun t ht => Nat.le_trans (listText_mem_le ht) h2⟩
theorem short_tuple {ps : List PyData} (h : shortD (.tuple ps)) : shortL ps := by
  obtain ⟨h1, h2⟩ := h
  simp only [PyData.showable] at h1
  simp only [PyData.shown] at h2
  exact ⟨h1, fun t ht => Nat.le_trans (tupleText_mem_le ht) h2⟩
theorem short_dict {kvs : List (PyData × PyData)} (h : shortD (.dict kvs)) : shortL (kvs.map (·.1)) ∧ shortL (kvs.map (·.2)) := by
  obtain ⟨h1, h2⟩ := h
  simp only [PyData.showable] at h1
  simp only [PyData.shown] at h2
  obtain ⟨s1, s2⟩ := PyData.showableKv_split kvs h1
  refine ⟨⟨s1, fun t ht => ?_⟩, s2, fun t ht => ?_⟩
  · obtain ⟨p, hp, hl⟩ := PyData.shownKv_key_le kvs t ht
    exact Nat.le_trans hl (Nat.le_trans (dictText_mem_le hp) h2)
  · obtain ⟨p, hp, hl⟩ := PyData.shownKv_val_le kvs t ht
    exact Nat.le_trans hl (Nat.le_trans (dictText_mem_le hp) h2)
mutual
theorem kn_of (I : Inv C.X pins σ H s) (l : Le (hide ι st H) H) : ∀ {v : V} {d : D} {p : PyData} {u : Value}, Rep C.T C.xp (hide ι st H) ι v d → toPyR d = some p → RelV v u → shortD p → Kn C.X.prog C.X.w s.heap u p
  | _, _, _, _, .non, h, r, hs => by simp only [toPyR] at h; cases h; cases r; exact kn_flat .none rfl hs.1 hs.2
  | _, _, _, _, .bl b, h, r, hs => by simp only [toPyR] at h; cases h; cases r; exact kn_flat (.bool b) rfl hs.1 hs.2
  | _, _, _, _, .int i, h, r, hs => by simp only [toPyR] at h; cases h; obtain ⟨t, rfl⟩ := r; exact kn_flat (.int i t) rfl hs.1 hs.2
  | _, _, _, _, .str x, h, r, hs => by simp only [toPyR] at h; cases h; obtain ⟨t, rfl⟩ := r; exact kn_flat (.str x t) rfl hs.1 hs.2
  | _, _, _, _, .lst h1 rr, h, r, hs => by
    simp only [toPyR, Option.map_eq_some_iff] at h
    obtain ⟨ps, h2, rfl⟩ := h
    cases r
    obtain ⟨its, rv, ⟨o, n, ho, hc, _, hd⟩, _⟩ := I.list (SqL.of (l _ _ h1))
    exact kn_list ho hc hd (kn_ofL I l rr h2 rv (short_list hs))
  | _, _, _, _, .ro h1 rr, h, r, hs => by
    simp only [toPyR, Option.map_eq_some_iff] at h
    obtain ⟨ps, h2, rfl⟩ := h
    cases r
    obtain ⟨its, rv, ⟨o, n, ho, hc, _, hd⟩, _⟩ := I.list (C.hK ▸ le_l l h1)
    exact kn_list ho hc hd (kn_ofL I l rr h2 rv (short_list hs))
  | _, _, _, _, .tup h1 rr, h, r, hs => by
    simp only [toPyR, Option.map_eq_some_iff] at h
    obtain ⟨ps, h2, rfl⟩ := h
    cases r
    obtain ⟨its, rv, ⟨o, ho, hc, n, hd⟩, _⟩ := I.tuple (C.hK ▸ le_t l h1)
    exact kn_tuple ho hc hd (kn_ofL I l rr h2 rv (short_tuple hs))
  | _, _, _, _, .dic h1 hl rr, h, r, hs => by
    rename_i ks xs ds
    simp only [toPyR] at h
    split at h
    · obtain ⟨ps, h2, rfl⟩ := Option.map_eq_some_iff.mp h
      cases r
      obtain ⟨_, _, hns, vs, kv, o, es, ep, ho, ex, hd, hk, hp, _⟩ := I.hok _ _ (l _ _ h1)
      obtain ⟨hv, hkeys⟩ := dict_parts (h := s.heap) hl kv hp
      have lp : ks.length = ps.length := by
        rw [toPyRL_len h2, ← rr.length]
        exact hl
      have lq : (ks.map keyD).length = ps.length := by rw [List.length_map]; exact lp
      obtain ⟨s1, s2⟩ := short_dict hs
      rw [List.map_fst_zip (Nat.le_of_eq lq)] at s1
      rw [List.map_snd_zip (Nat.le_of_eq lq.symm)] at s2
      exact kn_dict ho ex.1 hd hns lp hkeys (kn_ofL I l rr h2 hv s2) s1.1 s1.2
    · cases h
  | _, _, _, _, .ty _, h, _, _ => by simp only [toPyR] at h; cases h
  | _, _, _, _, .cl _, h, _, _ => by simp only [toPyR] at h; cases h
  | _, _, _, _, .fn _, h, _, _ => by simp only [toPyR] at h; cases h
  | _, _, _, _, .ins _ _ _, h, _, _ => by simp only [toPyR] at h; cases h
  | _, _, _, _, .exc _ _, h, _, _ => by simp only [toPyR] at h; cases h
  | _, _, _, _, .excd _ _ _ _ _, h, _, _ => by simp only [toPyR] at h; cases h
  | _, _, _, _, .err _ _, h, _, _ => by simp only [toPyR] at h; cases h
  | _, _, _, _, .errd _ _ _ _, h, _, _ => by simp only [toPyR] at h; cases h
  | _, _, _, _, .box _, h, _, _ => by simp only [toPyR] at h; cases h
theorem kn_ofL (I : Inv C.X pins σ H s) (l : Le (hide ι st H) H) : ∀ {v : List V} {d : List D} {ps : List PyData} {us : List Value}, RepL C.T C.xp (hide ι st H) ι v d → toPyRL d = some ps → Vals v us → shortL ps → KnL C.X.prog C.X.w s.heap us ps
  | _, _, _, _, .nil, h, r, _ => by simp only [toPyRL] at h; cases h; cases r; exact knL_nil
  | _, _, _, _, .cons r1 rs, h, r, hs => by
    simp only [toPyRL] at h
    split at h
    · rename_i h1 h2
      cases h
      cases r with
      | cons q1 q2 =>
        obtain ⟨s1, s2⟩ := shortL_cons hs
        exact knL_cons (kn_of I l r1 h1 q1 s1) (kn_ofL I l rs h2 q2 s2)
    · cases h
end
end
section
variable {P : Program} {w : World} {A : Around} {E : Value → Shared → Prop} {s : Shared} {Q : Value → Shared → Prop} {a : Addr} {o : Obj} {n : Nat} {us : List Value} {ps : List PyData}
theorem top_list (ho : s.heap.get? a = some o) (hc : o.cls = .type "list") (hd : o.data = .seq us.toArray n) (k : KnL P w s.heap us ps) (hg : A.guards = some []) (hu : A.units + ((PyData.list ps).depth + 1) < cLine) (hz : (PyData.list ps).shown.length ≤ sizeLine)
    (hQ : ∀ h' u tk, (∀ b o, s.heap.get? b = some o → h'.get? b = some o) → Q (.str (PyData.list ps).shown u) { s with heap := h', toks := tk }) : wpAny (model P w) A (call (.builtin "repr") [.ref a]) Q E s := by
  obtain ⟨⟨as, q⟩, bs, hb, kk⟩ := k
  have r : Reads s.heap (.ref a) (.list ps) _ := .list ho hc hd q
  have out := not_mem_of_deeper r (by simp only [PyData.depth]; omega) hb
  simp only [PyData.depth] at hu
  simp only [PyData.shown] at hz hQ
  refine call_repr_slot (by omega) ⟨o, ho, hc⟩ F.slot_list_repr.toG ?_
  cases us with
  | nil =>
    generalize PyData.shownAll ps = ts at kk hQ
    cases kk
    rw [listText_nil] at hQ
    exact call_list_repr_empty ⟨o, ho, hc⟩ ho hd ⟨_, _, rfl, hQ s.heap _ _ fun _ _ e => e⟩
  | cons y ys => exact call_list_reprK ho hc hd out (by simpa using kk.length_eq) (fun i z e => kk.item i z (by simpa using e)) hg (fun b _ => Clear.nil b) (by show A.units + 1 + _ < cLine; omega) (fun _ _ e => e) (fun h' u tk hk => ⟨_, _, rfl, hQ h' u tk hk⟩) hz
theorem top_tuple (ho : s.heap.get? a = some o) (hc : o.cls = .type "tuple") (hd : o.data = .seq us.toArray n) (k : KnL P w s.heap us ps) (hg : A.guards = some []) (hu : A.units + ((PyData.tuple ps).depth + 1) < cLine) (hz : (PyData.tuple ps).shown.length ≤ sizeLine)
    (hQ : ∀ h' u tk, (∀ b o, s.heap.get? b = some o → h'.get? b = some o) → Q (.str (PyData.tuple ps).shown u) { s with heap := h', toks := tk }) : wpAny (model P w) A (call (.builtin "repr") [.ref a]) Q E s := by
  obtain ⟨⟨as, q⟩, bs, hb, kk⟩ := k
  have r : Reads s.heap (.ref a) (.tuple ps) _ := .tuple ho hc hd q
  have out := not_mem_of_deeper r (by simp only [PyData.depth]; omega) hb
  simp only [PyData.depth] at hu
  simp only [PyData.shown] at hz hQ
  exact call_repr_slot (by omega) ⟨o, ho, hc⟩ F.slot_tuple_repr (call_tuple_reprK ho hc hd out kk hg (fun b _ => Clear.nil b) (by show A.units + 1 + _ < cLine; omega) (fun _ _ e => e) (fun h' u tk hk => ⟨_, _, rfl, hQ h' u tk hk⟩) hz)
end
/-- repr of plain data -/
def isDic : D → Bool
  | .dic _ _ => true
  | _ => false
def gRepr (x : D) (_ : Store) : Option D := if isDic x = true then none else match toPyR x with
  | some p => if p.showable = true ∧ p.depth ≤ 60 ∧ p.shown.length ≤ 1000000 then some (.str p.shown) else none
  | none => none
def rRepr (C : Ctx) : List V → Hp → VK → Prop := fun xs H Q => ∃ ι st v x p, xs = [v] ∧ RelSt C.T C.xp ι st H ∧ Rep C.T C.xp (hide ι st H) ι v x ∧ toPyR x = some p ∧ isDic x = false ∧ p.showable = true ∧ p.depth ≤ 60 ∧ p.shown.length ≤ 1000000 ∧ Q (.str p.shown) H
theorem call_reprD {C : Ctx} (hg : C.X.A.guards = some []) (hu : C.X.A.units + 64 < cLine) : CallR C.X (.builtin "repr") (rRepr C) := by
  intro pins s σ H xs us Q I r h
  obtain ⟨ι, st, v, x, p, rfl, rl, rv, hp, h0, h1, h2, h3, q⟩ := h
  obtain ⟨u, rfl, ru⟩ := vals1 r
  have hsz : p.shown.length ≤ sizeLine := Nat.le_trans h3 (by decide)
  have sd : shortD p := ⟨h1, hsz⟩
  have fin : ∀ h' (u : Tok) tk, (∀ b o, s.heap.get? b = some o → h'.get? b = some o) → EP C.X pins σ Q (.str p.shown u) { s with heap := h', toks := tk } := fun h' u tk hk => ⟨.str _, H, I.kept (t' := tk) hk, ⟨_, rfl⟩, q⟩
  cases rv with
  | non =>
    cases ru
    simp only [toPyR] at hp
    cases hp
    exact PySem.P.repr_of_none ⟨.str _, H, I.tok _, ⟨_, rfl⟩, q⟩
  | bl b =>
    cases ru
    simp only [toPyR] at hp
    cases hp
    exact PySem.P.repr_of_bool ⟨.str _, H, I.tok _, ⟨_, rfl⟩, q⟩
  | int i =>
    obtain ⟨t, rfl⟩ := ru
    simp only [toPyR] at hp
    cases hp
    exact PySem.P.repr_of_int (by simpa [PyData.showable] using h1) ⟨.str _, H, I.tok _, ⟨_, rfl⟩, q⟩
  | str z =>
    obtain ⟨t, rfl⟩ := ru
    simp only [toPyR] at hp
    cases hp
    exact PySem.P.repr_of_str ⟨.str _, H, I.tok _, ⟨_, rfl⟩, q⟩ hsz
  | lst g1 rr =>
    cases ru
    simp only [toPyR, Option.map_eq_some_iff] at hp
    obtain ⟨ps, e2, rfl⟩ := hp
    obtain ⟨its, ri, ⟨o, n, ho, hc, _, hd⟩, _⟩ := I.list (SqL.of (hide_le _ _ _ _ _ g1))
    exact top_list ho hc hd (kn_ofL I (hide_le _ _ _) rr e2 ri (short_list sd)) hg (by omega) hsz fin
  | ro g1 rr =>
    cases ru
    simp only [toPyR, Option.map_eq_some_iff] at hp
    obtain ⟨ps, e2, rfl⟩ := hp
    obtain ⟨its, ri, ⟨o, n, ho, hc, _, hd⟩, _⟩ := I.list (C.hK ▸ le_l (hide_le _ _ _) g1)
    exact top_list ho hc hd (kn_ofL I (hide_le _ _ _) rr e2 ri (short_list sd)) hg (by omega) hsz fin
  | tup g1 rr =>
    cases ru
    simp only [toPyR, Option.map_eq_some_iff] at hp
    obtain ⟨ps, e2, rfl⟩ := hp
    obtain ⟨its, ri, ⟨o, ho, hc, n, hd⟩, _⟩ := I.tuple (C.hK ▸ le_t (hide_le _ _ _) g1)
    exact top_tuple ho hc hd (kn_ofL I (hide_le _ _ _) rr e2 ri (short_tuple sd)) hg (by omega) hsz fin
  | dic _ _ _ => cases h0
  | _ => exact absurd hp (by simp [toPyR])
theorem blt_repr {C : Ctx} (hg : C.X.A.guards = some []) (hu : C.X.A.units + 64 < cLine) : BltD C "repr" (one gRepr) := ⟨_, call_reprD hg hu, fun ι st H xs ds d st' Q rl rx e k => by
  obtain ⟨x, rfl, hgr, rfl⟩ := one_some e
  obtain ⟨v, rfl, rv⟩ := repL_one rx
  unfold gRepr at hgr
  split at hgr
  · cases hgr
  · rename_i h0
    split at hgr
    · rename_i p hp
      split at hgr
      · rename_i hc
        cases hgr
        exact ⟨ι, _, v, x, p, rfl, rl, rv, hp, by simpa using h0, hc.1, hc.2.1, hc.2.2, k _ ι H (Step.refl _ _ _) rl (.str _)⟩
      · cases hgr
    · cases hgr⟩
end Den

set_option maxRecDepth 100000
set_option maxHeartbeats 4000000
/-! Den: raise, try, what a suite calls. -/
namespace Den
open PySem PySem.Spec PyProof.Rows L2

/-! ### raise X(), no __init__ -/
/-- an own class of errors that is made with nothing -/
structure ExcK (T : Txt) (c : Nat) : Prop where
  q : PySem.W.excIn T.K (T.ca c) [.type "ValueError", .type "Exception", .type "BaseException", .type "object"] "ValueError.__new__" = true
  kp : PySem.W.keepIn T.K (.ref (T.ca c)) = true
  r1 : PySem.W.subIn T.K (.ref (T.ca c)) (.type "BaseException") = some true
  r2 : PySem.W.typeIn T.K (.ref (T.ca c)) = some (.type "type")
theorem pmk_none {X : Cx} {C : Addr} {bmB : List Value} {B newId initId : String} {x : Str} {p pos : Pos} (F : ExcBaseFacts B newId initId bmB) (q : PySem.W.excIn X.K C bmB newId = true) (gC : X.mg x = some (.ref C)) (kC : PySem.W.keepIn X.K (.ref C) = true) (r : Raises X (.ref C)) (hg : Gl X x)
    (hdb : (x == ("__debug__" : Str)) = false := by decide) : L2N.PMk X (.Call (.Name x p) [] [] pos) (fun _ H Q => Q (.ref C) none H) := by
  intro pins s σ H Q I h
  refine wpAny_Call_Name_kw (ld_glob I hg gC ?_ hdb)
  refine PySem.W.callWith_K0 I.kIn kC ?_
  obtain ⟨bm, N, nm, qn, bs, hdct, sn, sub, ab, col, dd, k0, k1, k2, k3, k5, mN, hC, hN, hni, tt⟩ := exc_obj I.kIn q
  refine wpAny_call_exc_subT F tt hC hN hni (fun h' e hm => ?_) (Nat.zero_le _)
  exact L2N.mk_of I hm r h (I.hok.gone hm.new)
def sRaise (c : Nat) : DS := fun ρ st => .exc c [] ρ st
theorem pds_raise {C : Ctx} {c : Nat} {x : Str} {p pos pos' : Pos} (hc : C.X.calm = true) (tk : L2N.Takes C.X C.W) (hk : ExcK C.T c) (hm : C.X.mg x = some (.ref (C.T.ca c))) (hg : Gl C.X x) (hdb : (x == ("__debug__" : Str)) = false := by decide) :
    PDS C (.Raise (some (.Call (.Name x p) [] [] pos)) none pos') (sRaise c) := by
  have q := hk.q
  have kp := hk.kp
  have r1 := hk.r1
  have r2 := hk.r2
  rw [← C.hK] at q kp r1 r2
  refine PS.imp (L2N.ps_raise hc tk (pmk_none PySem.F.excBase_ValueError q hm kp (raises_own r1 r2) hg hdb)) fun D σ H ⟨ρ, st, ι, er, rl, pp⟩ => ?_
  exact pp σ ι H none (Step.refl _ _ _) rl er (.inl ⟨rfl, rfl⟩)

/-! ### data without the error that is held -/
mutual
def noE : D → Bool
  | .exc _ _ => false
  | .lst xs => noEL xs
  | .ro xs => noEL xs
  | .tup xs => noEL xs
  | .dic _ xs => noEL xs
  | .ins _ xs => noEL xs
  | .err _ xs => noEL xs
  | _ => true
def noEL : List D → Bool
  | [] => true
  | x :: xs => noE x && noEL xs
end
def noEC : Cell → Bool
  | .lst xs => noEL xs
  | .ins _ xs => noEL xs
  | .dic _ xs => noEL xs
  | .dead => true
def noES (st : Store) : Bool := st.all noEC
def noEO : Option D → Bool
  | some d => noE d
  | none => true
def noER (ρ : Rho) : Bool := ρ.all noEO
section
variable {T : Txt} {xp xp' : XT} {G : Hp} {ι : Io}
mutual
theorem Rep.noE : ∀ {v : V} {d : D}, Rep T xp G ι v d → noE d = true → Rep T xp' G ι v d
  | _, _, .non, _ => .non
  | _, _, .bl b, _ => .bl b
  | _, _, .int i, _ => .int i
  | _, _, .str x, _ => .str x
  | _, _, .ty n, _ => .ty n
  | _, _, .cl i, _ => .cl i
  | _, _, .fn i, _ => .fn i
  | _, _, .lst h r, e => .lst h (RepL.noE r (by simpa [Den.noE] using e))
  | _, _, .ro h r, e => .ro h (RepL.noE r (by simpa [Den.noE] using e))
  | _, _, .tup h r, e => .tup h (RepL.noE r (by simpa [Den.noE] using e))
  | _, _, .dic h l r, e => .dic h l (RepL.noE r (by simpa [Den.noE] using e))
  | _, _, .ins h l r, e => .ins h l (RepL.noE r (by simpa [Den.noE] using e))
  | _, _, .exc _ _, e => by simp [Den.noE] at e
  | _, _, .excd _ _ _ _ _, e => by simp [Den.noE] at e
  | _, _, .err h l, _ => .err h l
  | _, _, .errd h g k r, e => .errd h g k (RepL.noE r (by simpa [Den.noE] using e))
  | _, _, .box h, _ => .box h
theorem RepL.noE : ∀ {v : List V} {d : List D}, RepL T xp G ι v d → noEL d = true → RepL T xp' G ι v d
  | _, _, .nil, _ => .nil
  | _, _, .cons r rs, e => by
    simp only [Den.noEL, Bool.and_eq_true] at e
    exact .cons (Rep.noE r e.1) (RepL.noE rs e.2)
end
mutual
theorem Rep.more (hx : ∀ q ∈ xp, q ∈ xp') : ∀ {v : V} {d : D}, Rep T xp G ι v d → Rep T xp' G ι v d
  | _, _, .non => .non
  | _, _, .bl b => .bl b
  | _, _, .int i => .int i
  | _, _, .str x => .str x
  | _, _, .ty n => .ty n
  | _, _, .cl i => .cl i
  | _, _, .fn i => .fn i
  | _, _, .lst h r => .lst h (RepL.more hx r)
  | _, _, .ro h r => .ro h (RepL.more hx r)
  | _, _, .tup h r => .tup h (RepL.more hx r)
  | _, _, .dic h l r => .dic h l (RepL.more hx r)
  | _, _, .ins h l r => .ins h l (RepL.more hx r)
  | _, _, .exc h l => .exc (hx _ h) l
  | _, _, .excd h g l r n => .excd (hx _ h) g l (RepL.more hx r) n
  | _, _, .err h l => .err h l
  | _, _, .errd h g k r => .errd h g k (RepL.more hx r)
  | _, _, .box h => .box h
theorem RepL.more (hx : ∀ q ∈ xp, q ∈ xp') : ∀ {v : List V} {d : List D}, RepL T xp G ι v d → RepL T xp' G ι v d
  | _, _, .nil => .nil
  | _, _, .cons r rs => .cons (Rep.more hx r) (RepL.more hx rs)
end
theorem RelSt.more (hx : ∀ q ∈ xp, q ∈ xp') {st : Store} {H : Hp} (r : RelSt T xp ι st H) : RelSt T xp' ι st H := by
  refine ⟨r.len, r.nd, r.there, r.hdn, fun k a c hk hc => ?_⟩
  have q := r.ok k a c hk hc
  cases c with
  | lst ds =>
    obtain ⟨xs, h1, h2⟩ := q
    exact ⟨xs, h1, h2.more hx⟩
  | ins c ds =>
    obtain ⟨dx, xs, h1, h2, h3⟩ := q
    exact ⟨dx, xs, h1, h2, h3.more hx⟩
  | dic ks ds =>
    obtain ⟨xs, h1, h2, h3⟩ := q
    exact ⟨xs, h1, h2, h3.more hx⟩
  | dead => trivial
theorem RelSt.noE {st : Store} {H : Hp} (r : RelSt T xp ι st H) (h : noES st = true) : RelSt T xp' ι st H := by
  refine ⟨r.len, r.nd, r.there, r.hdn, fun k a c hk hc => ?_⟩
  have q := r.ok k a c hk hc
  have e := List.all_eq_true.mp h c (List.mem_of_getElem? hc)
  cases c with
  | lst ds =>
    obtain ⟨xs, h1, h2⟩ := q
    exact ⟨xs, h1, h2.noE e⟩
  | ins c ds =>
    obtain ⟨dx, xs, h1, h2, h3⟩ := q
    exact ⟨dx, xs, h1, h2, h3.noE e⟩
  | dic ks ds =>
    obtain ⟨xs, h1, h2, h3⟩ := q
    exact ⟨xs, h1, h2, h3.noE e⟩
  | dead => trivial
theorem EnvR.more (hx : ∀ q ∈ xp, q ∈ xp') {ρ : Rho} {σ : L2.St} (h : EnvR T xp G ι ρ σ) : EnvR T xp' G ι ρ σ := ⟨h.len, fun i d q => let ⟨v, a, b⟩ := h.at_ i d q; ⟨v, a, b.more hx⟩⟩
theorem EnvR.noE {ρ : Rho} {σ : L2.St} (h : EnvR T xp G ι ρ σ) (e : noER ρ = true) : EnvR T xp' G ι ρ σ := ⟨h.len, fun i d q => let ⟨v, a, b⟩ := h.at_ i d q; ⟨v, a, b.noE (List.all_eq_true.mp e _ (List.mem_of_getElem? q))⟩⟩
theorem EnvR.unset {ρ : Rho} {σ : L2.St} (h : EnvR T xp G ι ρ σ) (i : Nat) : EnvR T xp G ι (ρ.set i none) (σ.set i none) := by
  refine ⟨by simp [h.len], fun j d q => ?_⟩
  by_cases e : i = j
  · subst e
    by_cases hv : i < ρ.length
    · rw [List.getElem?_set_self hv] at q
      cases q
    · rw [List.getElem?_eq_none (by simpa using hv)] at q
      cases q
  · rw [List.getElem?_set_ne e] at q ⊢
    exact h.at_ j d q
end

/-! ### try: body; except K as e: suite -/
def sTryAs (cth : Nat → Option Bool) (i : Nat) (b h : DS) : DS := fun ρ st => match b ρ st with
  | .exc c xs ρ1 s1 => match cth c with
    | some true => match h (ρ1.set i (some (.exc c xs))) s1 with
      | .ret d s2 => if noE d = true ∧ noES s2 = true then .ret d s2 else .bad
      | .nx ρ2 s2 => if noER (ρ2.set i none) = true ∧ noES s2 = true then .nx (ρ2.set i none) s2 else .bad
      | _ => .bad
    | some false => .exc c xs ρ1 s1
    | none => .bad
  | r => r
abbrev Ctx.try (C : Ctx) (W : WX) (pn : List (Addr × Obj)) (xe : Value → Shared → Prop) : Ctx := ⟨C.X.tr pn xe, C.T, C.xp, W, C.hK⟩
abbrev Ctx.suite (C : Ctx) (a : Addr) (c : Nat) (d : Option Addr) (pn : List (Addr × Obj)) : Ctx := ⟨C.X.suite a pn, C.T, (a, c, d) :: C.xp, fun _ _ _ _ => False, C.hK⟩
section
variable {C : Ctx} {x n : Str} {cv : Value} {i : Nat} {bd suite : List Stmt} {b₀ : Stmt} {np pos pos' : Pos} {mb mh : DS} {cth : Nat → Option Bool}
theorem pds_tryAs (hs : C.X.stack = C.X.env :: C.X.outer) (hf : C.X.env.frame = some C.X.env.locals) (hN : C.X.N.Nodup) (hi : C.X.N[i]? = some n) (hln : C.X.env.kindOf n = some .local) (hc : Names C.X x cv) (tk : L2N.Takes C.X C.W)
    (hcatch : ∀ c b, cth c = some b → PySem.W.exmOne C.T.K (.ref (C.T.ca c)) cv = some b)
    (hb : ∀ (W : WX) (pn : List (Addr × Obj)) (xe : Value → Shared → Prop), L2N.Takes (C.X.tr pn xe) W → PassesOwn (model C.X.prog C.X.w) C.X.A C.X.env xe → PDSs (C.try W pn xe) bd mb)
    (hsu : ∀ (a : Addr) (oe : Obj) (c : Nat) (d : Option Addr) (pn : List (Addr × Obj)), L2N.Zn (.ref (C.T.ca c)) d oe → (∃ vs, oe.data = .fields vs) → PDSs (C.suite a c d ((a, oe) :: pn)) (b₀ :: suite) mh) :
    PDS C (.Try bd [.ExceptHandler (some (.Name x np)) (some n) (b₀ :: suite) pos'] [] [] pos) (sTryAs cth i mb mh) := by
  have h0 := L2N.ps_try_as (np := np) (pos := pos) (pos' := pos') (body := bd) (b₀ := b₀) (suite := suite) (tb := fun W => tDS C.T C.xp W mb) (ts := fun a cls d D σ H => ∃ c, cls = .ref (C.T.ca c) ∧ tDS C.T ((a, c, d) :: C.xp) (fun _ _ _ _ => False) mh D σ H) hs hf hN hi hln hc tk (fun W pn xe t p => hb W pn xe t p)
    (fun a oe cls d pn hz hd => ⟨fun pins s σ H D I ⟨c, ec, hw⟩ => by
      subst ec
      exact (hsu a oe c d pn hz hd).run pins s σ H D I hw⟩)
  refine PS.imp h0 fun D σ H ⟨ρ, st, ι, er, rl, p⟩ => ⟨ρ, st, ι, er, rl, ?_⟩
  unfold sTryAs at p
  cases hm : mb ρ st with
  | exc c xs ρ1 s1 =>
    rw [hm] at p
    intro σ1 ι1 H1 dx st1 rl1 er1 xd
    dsimp only at p
    cases hk : cth c with
    | none =>
      rw [hk] at p
      exact p.elim
    | some b =>
      refine ⟨b, by rw [C.hK]; exact hcatch c b hk, fun hbt a ha => ?_, fun hbf => ?_⟩
      · subst hbt
        rw [hk] at p
        dsimp only at p
        have sub : ∀ q ∈ C.xp, q ∈ (a, c, dx) :: C.xp := fun q hq => List.mem_cons_of_mem _ hq
        have re : Rep C.T ((a, c, dx) :: C.xp) (hide ι1 s1 H1) ι1 (.ref a) (.exc c xs) := by
          rcases xd with ⟨rfl, rfl⟩ | ⟨d, ys, rfl, h1, h2, h3, h4, h5⟩
          · exact .exc List.mem_cons_self rfl
          · exact .excd List.mem_cons_self (h2.trans h1) h3 (h4.more sub) h5
        refine ⟨c, rfl, ρ1.set i (some (.exc c xs)), s1, ι1, (er1.more sub).set i re, rl1.more sub, ?_⟩
        cases hh : mh (ρ1.set i (some (.exc c xs))) s1 with
        | ret d s2 =>
          rw [hh] at p
          dsimp only at p
          split at p
          · rename_i hn
            exact fun v ι2 H2 st2 rl2 rv => p v ι2 H2 (st1.trans st2) (rl2.noE hn.2) (rv.noE hn.1)
          · exact p.elim
        | nx ρ2 s2 =>
          rw [hh] at p
          dsimp only at p
          split at p
          · rename_i hn
            exact fun σ2 ι2 H2 st2 rl2 er2 => p (σ2.set i none) ι2 H2 (st1.trans st2) (rl2.noE hn.2) ((er2.unset i).noE hn.1)
          · exact p.elim
        | _ =>
          rw [hh] at p
          exact p.elim
      · subst hbf
        rw [hk] at p
        exact p σ1 ι1 H1 dx st1 rl1 er1 xd
  | nx ρ1 s1 => rw [hm] at p; exact p
  | ret d s1 => rw [hm] at p; exact p
  | brk ρ1 s1 => rw [hm] at p; exact p
  | cnt ρ1 s1 => rw [hm] at p; exact p
  | bad => rw [hm] at p; exact p
end

/-! ### defs that a suite calls -/
open L2H in
structure FnHG (P : Program) (w : World) (K : PySem.W.Frag) (mg : Str → Option Value) (base : Heap) (k : Nat) (f : Addr) (fd : FuncData) (ps : List Str) (sp : Addr × Obj → Sp) : Prop where
  len : ∀ p vs H Q E, sp p vs H Q E → vs.length = ps.length
  run : ∀ (A : Around) (outer : List Env) (s : Shared) (H : Hp) (args : Args) (us : List Value) (vs : List V) (Q : VK) (E : XK) (p : Addr × Obj), RoomH k A → Hot1 A p → PinOk outer H s p → Env0 P w K mg base A outer s H →
    BindsTo s fd args (ps.zip us) → Vals vs us → sp p vs H Q E → codeAny (model P w) A (.call (.ref f) args) (CR (L2N.CX P w) outer P w H s Q E) s
/-- worth m; one of the things handed in may be the error that is held (c its class, d its dict) -/
def spH (T : Txt) (n : Nat) (m : DF) (p : Addr × Obj) : Sp := fun vs H Q E => vs.length = n ∧ ∃ c d, L2N.Zn (.ref (T.ca c)) d p.2 ∧ (∃ vs, p.2.data = .fields vs) ∧ ∃ ds st ι, RepL T [(p.1, c, d)] (hide ι st H) ι vs ds ∧ RelSt T [(p.1, c, d)] ι st H ∧
  Post T [(p.1, c, d)] (fun c d H => E c d H) ι st H (Rep T [(p.1, c, d)]) Q (m ds st)
section
open L2H
variable {P : Program} {w : World} {mg : Str → Option Value} {base : Heap} {T : Txt}
theorem fnH_of {x qual : Str} {st : Stmt} {f : Addr} {fd : FuncData} {N ps : List Str} {k : Nat} {m : DS} (F : Fun T.K x qual st f fd) (S : FnScope N ps (defScope st))
    (h : ∀ (cdv : Value) (A : Around) (outer : List Env) (s : Shared) (H : Hp) (E : XK) (p : Addr × Obj) (c : Nat) (d : Option Addr), L2N.Zn (.ref (T.ca c)) d p.2 → (∃ vs, p.2.data = .fields vs) → Hot1 A p → RoomH k (A.deeper (PyProof.Rows.envOfC qual (defScope st) s.heap.objs.size f cdv)) →
      PDSs ⟨cxH (L2N.CX P w) P w T.K mg base N qual (defScope st) f cdv A outer s H E p, T, [(p.1, c, d)], fun c d _ H' => E c d H', rfl⟩ (defBody st) m) :
    FnHG P w T.K mg base (k + 1) f fd ps (spH T ps.length (body N.length ps.length m)) := by
  obtain ⟨oc, od, kV, doc, pm, an, cdv, ct, osl, efd, lk, hcd⟩ := F.ex
  subst efd
  refine ⟨fun p vs H Q E h => h.1, fun A outer s H args us vs Q E p hr hot hpin e0 hb r hsp => ?_⟩
  have hl : vs.length = ps.length := hsp.1
  have kin : T.K.In s.heap := e0.mod.kin.keeps fun b o q => (e0.bs b o q).1
  have nol : s.heap.NoLimit := e0.mod.nolimit.keeps fun b o q => (e0.bs b o q).1
  refine codeAny_call_function hr.depth (kin _ _ lk) rfl S.co S.gen rfl (PySem.W.codeRec_of kin hcd) (hb _ _ _ _ ?_)
  refine wpAny_newFunctionEnv_cells S.kind (fun y hy => ?_) fun env he s1 xx => ?_
  · obtain ⟨n, v⟩ := y
    refine (S.par n (List.of_mem_zip hy).1).elim .inl fun q => .inr ⟨q, ?_⟩
    exact PySem.W.cellsFrom_some _ _ _ (.inl q)
  · subst he
    refine ⟨nol.keeps xx.toInCall.keep, codeAny_func ?_⟩
    obtain ⟨_, c, d, hz, hd, ds, st0, ι, rd, rl, hp⟩ := hsp
    have ht := h cdv A outer s H E p c d hz hd hot (hr.deeper _)
    have I := inv_startH (CX := L2N.CX P w) (E := E) S hpin e0 hl r xx
    have hl' : ds.length = ps.length := rd.length.symm.trans hl
    unfold body at hp
    rw [if_pos hl'] at hp
    have hq : tDS T [(p.1, c, d)] (fun c d _ H' => E c d H') m { nx := fun _ H' => Q .non H', rt := Q } (L2.start N vs) H := by
      refine ⟨_, st0, ι, start_env rd, rl, ?_⟩
      rw [hl']
      cases hm : m (ds.map some ++ List.replicate (N.length - ps.length) none) st0 with
      | nx ρ s1 =>
        rw [hm] at hp
        exact fun σ ι1 H1 s r _ => hp .non ι1 H1 s r .non
      | ret d s1 =>
        rw [hm] at hp
        exact hp
      | exc c xs ρ s1 =>
        rw [hm] at hp
        exact fun σ ι1 H1 dx s r _ xd => hp ι1 H1 dx s r xd
      | _ =>
        rw [hm] at hp
        exact hp.elim
    refine wpAny_mono (ht.run [] s1 (L2.start N vs) H _ I hq) (fun fl s' hs => ?_) fun e s' hs => hs
    match fl, hs with
    | .ret u, ⟨v, σ', H', J, rv, q⟩ => exact ⟨v, H', J.os, J.bare, J.base, J.hok, rv, q⟩
    | .next, ⟨σ', H', J, q⟩ => exact ⟨V.non, H', J.os, J.bare, J.base, J.hok, rfl, q⟩
    | .brk, ⟨_, _, _, q⟩ => exact q.elim
    | .cont, ⟨_, _, _, q⟩ => exact q.elim
end
section
open L2H
variable {C : Ctx} {f : Addr} {fd : FuncData} {ps : List Str} {k : Nat} {m : DF} {x : Str} {q pos : Pos} {e : Expr} {es : List Expr} {ma : DA} {a : Addr} {oe : Obj} {c : Nat} {d : Option Addr} {pn : List (Addr × Obj)}
/-- a call in a suite -/
theorem pd_callH (hx : C.xp = []) (hz : L2N.Zn (.ref (C.T.ca c)) d oe) (hd : ∃ vs, oe.data = .fields vs) (F : FnHG C.X.prog C.X.w C.X.K C.X.mg C.X.base k f fd ps (spH C.T ps.length m)) (hr : RoomH k (C.X.A.mark (some (.ref a)))) (hg : Gl C.X x) (hm : C.X.mg x = some (.ref f)) (hk : PySem.W.keepIn C.X.K (.ref f) = true)
    (hb : Binds C.X.K fd ps []) (ha : PDA (C.suite a c d ((a, oe) :: pn)) (e :: es) ma) (hdb : (x == ("__debug__" : Str)) = false := by decide) (he : starEach (e :: es) C.X.env = (false, eval e C.X.env) :: starEach es C.X.env := by rfl) (hpl : (backTo pos (starEach es C.X.env)).any (·.1) = false := by rfl) :
    PD (C.suite a c d ((a, oe) :: pn)) (.Call (.Name x q) (e :: es) [] pos) (fun ρ st => (ma ρ st).bind fun ds s1 => if ds.length = ps.length then m ds s1 else .bad) := by
  refine ⟨fun pins s σ H Q I ⟨ρ, st, ι, er, rl, p⟩ => ?_⟩
  refine wpAny_Call_Name_kw (ld_glob I hg hm ?_ hdb)
  refine PySem.W.callWith_K (h₀ := C.X.base) I.ok.mod.kin hk (thn (ha.run pos pins s σ H _ I ⟨ρ, st, ι, er, rl, post_bind (Q := fun vs H1 => ∃ ds s1 ι1, RepL C.T ((a, c, d) :: C.xp) (hide ι1 s1 H1) ι1 vs ds ∧ RelSt C.T ((a, c, d) :: C.xp) ι1 s1 H1 ∧
    Post C.T ((a, c, d) :: C.xp) (fun _ _ _ => False) ι1 s1 H1 (Rep C.T ((a, c, d) :: C.xp)) Q (if ds.length = ps.length then m ds s1 else .bad)) p fun ds s1 vs ι1 H1 st1 rl1 rv p1 => ⟨ds, s1, ι1, rv, rl1, p1⟩⟩) fun us s1 ⟨vs, H1, I1, r, ds, s2, ι1, rv, rl1, p1⟩ => ⟨I1.kIn, ?_⟩) he hpl
  split at p1
  · rename_i hl
    rw [hx] at rv rl1 p1
    have hl2 : us.length = ps.length := by rw [← r.length, rv.length]; exact hl
    have b := hb s1 us I1.kIn (by rw [List.append_nil]; exact hl2)
    rw [List.append_nil] at b
    obtain ⟨vs0, hvs⟩ := hd
    have P1 := I1.pin (a, oe) (List.mem_append_left _ List.mem_cons_self)
    have hpin : PinOk C.X.stack H1 s1 (a, oe) := ⟨P1.1, P1.2.1, fun hm => (List.mem_cons.mp (I1.stkSub a hm)).elim P1.2.2.1 P1.2.2.2.1, P1.2.2.2.2⟩
    have z := F.run (C.X.A.mark (some (.ref a))) C.X.stack s1 H1 ⟨us, []⟩ us vs Q (fun _ _ _ => False) (a, oe) hr ⟨rfl, vs0, hvs, hz.2.2 _ hvs⟩ hpin I1.env0 b r ⟨rv.length.trans hl, c, d, hz, ⟨vs0, hvs⟩, ds, s2, ι1, rv, rl1, p1⟩
    refine wpAny_call (codeAny_mono z fun res s' q' => ?_)
    match res, q' with
    | .error e', q2 =>
      obtain ⟨_, _, _, _, _, _, _, _, _, _, _, _, ff⟩ := q2
      exact ff.elim
    | .ok (.ret u), q2 => exact I1.after q2
    | .ok .next, q2 => exact False.elim q2
    | .ok .brk, q2 => exact False.elim q2
    | .ok .cont, q2 => exact False.elim q2
  · exact p1.elim
end
end Den

set_option maxRecDepth 100000
set_option maxHeartbeats 4000000
/-! Den: isinstance of the error that is held, classes in a tuple. -/
namespace Den
open PySem PySem.Spec PyProof.Rows L2

def Held (C : Ctx) : Prop := ∀ q ∈ C.xp, ∃ oe, (q.1, oe) ∈ C.X.pn ∧ Zc (.ref (C.T.ca q.2.1)) q.2.2 oe ∧ ∃ vs, oe.data = .fields vs
/-- isinstance(e, c) where e is held -/
def rIsH (C : Ctx) : List V → Hp → VK → Prop := fun xs H Q => ∃ (a : Addr) (c : Nat) (k : V) (cv : Value) (b : Bool), (a, c, none) ∈ C.xp ∧ ExcC C.T.K (C.T.ca c) ∧ xs = [.ref a, k] ∧ ClsV k cv ∧ PySem.W.kitOne C.T.K (.ref (C.T.ca c)) cv = some b ∧ Q (.bl b) H
theorem inst_held {C : Ctx} (hh : Held C) {pins : List (Addr × Obj)} {σ : L2.St} {H : Hp} {s : Shared} (I : Inv C.X pins σ H s) {a : Addr} {c : Nat} (h : (a, c, none) ∈ C.xp) : ∃ oe, PySem.W.InstAt s.heap a oe (C.T.ca c) none := by
  obtain ⟨oe, hp, hz, vs, hv⟩ := hh _ h
  obtain ⟨hget, _⟩ := I.pin (a, oe) (List.mem_append.mpr (.inl hp))
  obtain ⟨oc, od, oda, osl⟩ := oe
  obtain ⟨h1, h2⟩ := hz
  dsimp only at h1 h2 hv
  subst h1 h2 hv
  exact ⟨_, hget, rfl, rfl, trivial⟩
theorem call_isH {C : Ctx} (hh : Held C) : CallR C.X (.builtin "isinstance") (rIsH C) := by
  intro pins s σ H xs us Q I r h
  obtain ⟨a, c, k, cv, b, hx, cc, rfl, hk, e, q⟩ := h
  obtain ⟨u1, u2, rfl, r1, r2⟩ := vals2 r
  cases r1
  have ec := hk.eq r2
  subst ec
  obtain ⟨oe, J⟩ := inst_held hh I hx
  have kin : C.T.K.In s.heap := by rw [← C.hK]; exact I.kIn
  exact PySem.W.kia_one (PySem.W.handS_kitx_exc cc.hg cc.hk cc.hs cc.hd cc.ha cc.hn cc.ht cc.hm) kin J e (fun z => nomatch z) fun tk => ⟨.bl b, H, I.kept (t' := tk) fun _ _ z => z, rfl, q⟩
def isAny (isT : Tag → Tag → Option Bool) (t : Tag) : List Tag → Option Bool
  | [] => some false
  | c :: r => match isT t c with
    | some true => some true
    | some false => isAny isT t r
    | none => none
theorem isAny_ok {T : Txt} {isT : Tag → Tag → Option Bool} (hi : IsT T isT) {t : Tag} : ∀ {us : List Tag} {b : Bool}, isAny isT t us = some b → PySem.W.kitAny T.K (tagV T t) (us.map (tagV T)) = some b
  | [], _, h => by cases h; rfl
  | c :: r, b, h => by
    unfold isAny at h
    show (match PySem.W.kitOne T.K (tagV T t) (tagV T c) with
      | some true => some true
      | some false => PySem.W.kitAny T.K (tagV T t) (r.map (tagV T))
      | none => none) = some b
    cases hc : isT t c with
    | none => rw [hc] at h; cases h
    | some v =>
      rw [hc] at h
      rw [hi t c v hc]
      cases v with
      | true => exact h
      | false => exact isAny_ok hi h
def clsL : List D → Option (List Tag)
  | [] => some []
  | x :: xs => match clsA x, clsL xs with
    | some t, some ts => some (t :: ts)
    | _, _ => none
theorem clsL_rep {T : Txt} {xp : XT} {G : Hp} {ι : Io} : ∀ {vs : List V} {ds : List D} {ts : List Tag}, RepL T xp G ι vs ds → clsL ds = some ts → Paired ClsV vs (ts.map (tagV T))
  | _, _, _, .nil, h => by cases h; exact .nil
  | _, _, _, .cons r rs, h => by
    unfold clsL at h
    split at h
    · rename_i h1 h2
      cases h
      exact .cons (clsA_rep r h1) (clsL_rep rs h2)
    · cases h
/-- isinstance of the error that is held -/
def bIsH (es : List Nat) (isT : Tag → Tag → Option Bool) : FB := fun ds st => match ds with
  | [.exc c [], k] => if c ∈ es then (match clsA k with
    | some u => (isT (.ow c) u).map fun b => (.bl b, st)
    | none => none) else none
  | _ => none
def bIsHT (es : List Nat) (isT : Tag → Tag → Option Bool) : FB := fun ds st => match ds with
  | [.exc c [], .tup ks] => if c ∈ es then (match clsL ks with
    | some us => (isAny isT (.ow c) us).map fun b => (.bl b, st)
    | none => none) else none
  | _ => none
/-- isinstance of plain data, classes in a tuple -/
def bIsiT (own : List Nat) (isT : Tag → Tag → Option Bool) : FB := fun ds st => match ds with
  | [x, .tup ks] => match tagD own x st, clsL ks with
    | some t, some us => (isAny isT t us).map fun b => (.bl b, st)
    | _, _ => none
  | _ => none
section
variable {C : Ctx} {isT : Tag → Tag → Option Bool}
theorem held_of {G : Hp} {ι : Io} {v : V} {c : Nat} (r : Rep C.T C.xp G ι v (.exc c [])) : ∃ a, v = .ref a ∧ (a, c, none) ∈ C.xp := by
  cases r with
  | exc h _ => exact ⟨_, rfl, h⟩
  | excd _ _ _ _ n => exact absurd rfl n
theorem blt_isH {es : List Nat} (hh : Held C) (hc : ∀ c ∈ es, ExcC C.T.K (C.T.ca c)) (hi : IsT C.T isT) : BltD C "isinstance" (bIsH es isT) := ⟨_, call_isH hh, fun ι st H xs ds d st' Q rl rx e k => by
  unfold bIsH at e
  split at e
  · rename_i c kk
    split at e
    · rename_i hm
      split at e
      · rename_i u h2
        obtain ⟨b, hb, e'⟩ := Option.map_eq_some_iff.mp e
        cases e'
        obtain ⟨v, w, rfl, rv, rw'⟩ := repL_two rx
        obtain ⟨a, rfl, hx⟩ := held_of rv
        exact ⟨a, c, w, _, b, hx, hc c hm, rfl, clsA_rep rw' h2, hi _ _ _ hb, k _ ι H (Step.refl _ _ _) rl (.bl b)⟩
      · cases e
    · cases e
  · cases e⟩
theorem tup_H {T : Txt} {xp : XT} {ι : Io} {st : Store} {H : Hp} {v : V} {ks : List D} (r : Rep T xp (hide ι st H) ι v (.tup ks)) : ∃ a xs, v = .ref a ∧ SqT T.K H a xs ∧ RepL T xp (hide ι st H) ι xs ks := by
  cases r with
  | tup h1 h2 => exact ⟨_, _, rfl, le_t (hide_le _ _ _) h1, h2⟩
end
end Den

set_option maxRecDepth 100000
set_option maxHeartbeats 4000000
/-! Den: the rest: text times int, dict displays, a tuple of classes, turns over a text. -/
namespace Den
open PySem PySem.Spec PyProof.Rows L2
section
variable {C : Ctx}
/-! ### a text times an int -/
def rMulS : R2 := fun x y H Q => ∃ (z : Str) (k : Int), x = .str z ∧ y = .int k ∧ 0 ≤ k ∧ k ≤ 1000 ∧ z.length ≤ 1000 ∧ Q (.str (Txt.mul z k)) H
theorem op_mulS : OpR C.X (binaryOp .Mult) rMulS := by
  intro pins s σ H x y v u Q I rx ry h
  obtain ⟨z, k, rfl, rfl, h1, h2, h3, q⟩ := h
  obtain ⟨t, rfl⟩ := rx
  obtain ⟨t2, rfl⟩ := ry
  have hz : (z.length : Int) ≤ 1000 := by exact_mod_cast h3
  have hm : (z.length : Int) * k ≤ 1000 * 1000 := Int.mul_le_mul hz h2 h1 (by decide)
  refine PySem.SB.mul ⟨?_, fun hn _ => ?_, fun hn _ => ?_⟩ fun t' j => ⟨.str (Txt.mul z k), H, I.tok _, ⟨_, rfl⟩, q⟩
  · rw [decide_eq_false (by omega), decide_eq_false (by omega)]; rfl
  · have : (z.length : Int) ≤ (2 ^ 63 - 1) / k := Int.le_ediv_of_mul_le (by omega) (Int.le_trans hm (by decide))
    omega
  · have hk : k.toNat ≤ 1000 := by omega
    have : z.length * k.toNat ≤ 1000 * 1000 := Nat.mul_le_mul h3 hk
    exact decide_eq_false (by rw [sizeLine_eq]; omega)
def fMulS : D → D → Option D
  | .str z, .int k => if 0 ≤ k ∧ k ≤ 1000 ∧ z.length ≤ 1000 then some (.str (Txt.mul z k)) else none
  | _, _ => none
def dMulS : DE → DE → DE := dOp2 fMulS
theorem mul_strD : OpD C rMulS fMulS := fun ι st H x y dx dy dz Q rl rx ry e k => by
  unfold fMulS at e
  split at e
  · split at e
    · rename_i h
      cases rx
      cases ry
      cases e
      exact ⟨_, _, rfl, rfl, h.1, h.2.1, h.2.2, k _ ι H (Step.refl _ _ _) rl (.str _)⟩
    · cases e
  · cases e
theorem pd_mulS {a b : Expr} {ma mb : DE} {pos : Pos} (ha : PD C a ma) (hb : PD C b mb) : PD C (.BinOp a .Mult b pos) (dMulS ma mb) := pd_op op_mulS mul_strD ha hb

/-! ### dict displays -/
/-- a thing that is locked for good where it is told -/
theorem pe_lock {X : Cx} {e : Expr} {te : TE} (he : PE X e te) : PE X e (fun σ H Q => te σ H fun x H1 => ∃ a u, x = .ref a ∧ H1 a = some u ∧ Mut (some u) ∧ ∀ od, Q x (upd H1 a (.frz od u))) :=
  ⟨fun pins s σ H Q I h => wpAny_mono (he.run pins s σ H _ I h) (fun u s1 ⟨v, H1, I1, r1, a, w, ev, ha, mu, q⟩ => let ⟨od, J⟩ := I1.lock ha mu; ⟨v, _, J, r1, q od⟩) fun _ _ x => x⟩
theorem upd_two {H : Hp} {q : Addr} {u w : HO} : upd (upd H q u) q w = upd H q w := by
  funext b
  by_cases hb : b = q
  · rw [hb, upd_same, upd_same]
  · rw [upd_ne hb, upd_ne hb, upd_ne hb]
theorem pd_dic0 {pos : Pos} : PD C (.Dict [] [] pos) (dC (.dic [] [])) :=
  PE.imp (pe_lock pe_dnewK) fun σ H Q ⟨ρ, st, ι, er, rl, p⟩ q hq => by
    refine ⟨q, .dK [], rfl, upd_same, trivial, fun od => ?_⟩
    rw [upd_two]
    obtain ⟨r1, s1, h1⟩ := rl.new (o := .frz od (.dK [])) hq
    exact p _ ι _ s1 r1 (.dic (xs := []) h1 rfl .nil)
/-- one pair of constants -/
theorem pd_dic1 {pos : Pos} {ke ve : Expr} {i : Int} {v : V} {d : D} (hk : PE C.X ke (tC (.int i))) (hv : PE C.X ve (tC v)) (rv : ∀ G ι, Rep C.T C.xp G ι v d) : PD C (.Dict [some ke] [ve] pos) (dC (.dic [.inl i] [d])) :=
  PE.imp (pe_lock (pe_disp (pps_cons hk hv pps_nil) rfl rfl (by simp) (by simp))) fun σ H Q ⟨ρ, st, ι, er, rl, p⟩ q hq => by
    refine ⟨upd_same, [(.inl i, v)], rfl, by simp, ?_⟩
    refine ⟨q, .dK [(.inl i, v)], rfl, upd_same, trivial, fun od => ?_⟩
    rw [upd_two, upd_two]
    obtain ⟨r1, s1, h1⟩ := rl.new (o := .frz od (.dK [(.inl i, v)])) hq
    exact p _ ι _ s1 r1 (.dic (xs := [v]) h1 rfl (.cons (rv _ _) .nil))

/-! ### a tuple of classes -/
def rIsHS (C : Ctx) : List V → Hp → VK → Prop := fun xs H Q => ∃ (a : Addr) (c : Nat) (tp : Addr) (cs : List V) (us : List Value) (b : Bool), (a, c, none) ∈ C.xp ∧ ExcC C.T.K (C.T.ca c) ∧ xs = [.ref a, .ref tp] ∧ SqT C.T.K H tp cs ∧ Paired ClsV cs us ∧ PySem.W.kitAny C.T.K (.ref (C.T.ca c)) us = some b ∧ Q (.bl b) H
theorem call_isHS (hh : Held C) : CallR C.X (.builtin "isinstance") (rIsHS C) := by
  intro pins s σ H xs us Q I r h
  obtain ⟨a, c, tp, cs, ws, b, hx, cc, rfl, hT, hk, e, q⟩ := h
  obtain ⟨u1, u2, rfl, r1, r2⟩ := vals2 r
  cases r1
  cases (show u2 = Value.ref tp from r2)
  obtain ⟨oe, J⟩ := inst_held hh I hx
  have kin : C.T.K.In s.heap := by rw [← C.hK]; exact I.kIn
  obtain ⟨its, rv, ⟨o, h1, h2, n, h3⟩, _⟩ := I.tuple (by rw [C.hK]; exact hT)
  have e3 := ClsV.all hk rv
  subst e3
  obtain ⟨oc, od, dt, sl⟩ := o
  dsimp only at h2 h3
  subst h2 h3
  exact PySem.W.kia_tup (PySem.W.handS_kitx_exc cc.hg cc.hk cc.hs cc.hd cc.ha cc.hn cc.ht cc.hm) kin J h1 e (fun z => nomatch z) fun tk => ⟨.bl b, H, I.kept (t' := tk) fun _ _ z => z, rfl, q⟩
variable {isT : Tag → Tag → Option Bool}
theorem blt_isHT {es : List Nat} (hh : Held C) (hc : ∀ c ∈ es, ExcC C.T.K (C.T.ca c)) (hi : IsT C.T isT) : BltD C "isinstance" (bIsHT es isT) := ⟨_, call_isHS hh, fun ι st H xs ds d st' Q rl rx e k => by
  unfold bIsHT at e
  split at e
  · rename_i c kk
    split at e
    · rename_i hm
      split at e
      · rename_i us h2
        obtain ⟨b, hb, e'⟩ := Option.map_eq_some_iff.mp e
        cases e'
        obtain ⟨v, w, rfl, rv, rw'⟩ := repL_two rx
        obtain ⟨a, rfl, hx⟩ := held_of rv
        obtain ⟨tp, cs, rfl, ht, rc⟩ := tup_H rw'
        exact ⟨a, c, tp, cs, _, b, hx, hc c hm, rfl, ht, clsL_rep rc h2, isAny_ok hi hb, k _ ι H (Step.refl _ _ _) rl (.bl b)⟩
      · cases e
    · cases e
  · cases e⟩

/-! ### turns over a text -/
theorem lc_str {z : Str} {g : TG} {tt : TT} {te : TE} {vs : List Nat} {σ : L2.St} {H1 : Hp} {D : Addr} {Qd : Hp → Prop} (Pv : Nat → Hp → Prop) (h0 : Pv 0 (upd H1 D (.lst [])))
    (hs : ∀ i c H, z.cps[i]? = some c → Pv i H → g (.str ⟨#[c]⟩) (wipe σ vs) H fun σ2 H2 => wipe σ2 vs = wipe σ vs ∧ tt σ2 H2 fun b H3 =>
      if b = true then te σ2 H3 fun y H4 => ∃ acc, H4 D = some (.lst acc) ∧ acc.length < sizeLine ∧ Pv (i + 1) (upd H4 D (.lst (acc ++ [y]))) else Pv (i + 1) H3) (hd : ∀ H, Pv z.cps.size H → Qd H) :
    ∃ W : Nat → Nat → Hp → Prop, (∃ m, W 0 m (upd H1 D (.lst []))) ∧ ∀ i m H, W i m H →
      ((Its z).stop i H ∧ Qd H) ∨ ((Its z).go i H ∧ ∃ Nx : Hp → Prop, (∀ H', Nx H' → ∃ m', m' < m ∧ W (i + 1) m' H') ∧ ∀ x H', (Its z).yld i H x H' → g x (wipe σ vs) H' fun σ2 H2 => wipe σ2 vs = wipe σ vs ∧ tt σ2 H2 fun b H3 =>
        if b = true then te σ2 H3 fun y H4 => ∃ acc, H4 D = some (.lst acc) ∧ acc.length < sizeLine ∧ Nx (upd H4 D (.lst (acc ++ [y]))) else Nx H3) := by
  refine ⟨fun i m H => m = z.cps.size - i ∧ i ≤ z.cps.size ∧ Pv i H, ⟨_, rfl, Nat.zero_le _, h0⟩, ?_⟩
  intro i m H hW
  obtain ⟨hm, hi, p⟩ := hW
  by_cases hlt : i < z.cps.size
  · refine .inr ⟨hlt, Pv (i + 1), fun H' p' => ⟨z.cps.size - (i + 1), by omega, rfl, hlt, p'⟩, fun x H' y => ?_⟩
    obtain ⟨e, c, hc, ev⟩ := y
    subst e ev
    exact hs i c _ hc p
  · have e : i = z.cps.size := by omega
    subst e
    exact .inl ⟨Nat.le_refl _, hd H p⟩
def signsD (z : Str) : List D := z.cps.toList.map fun c => D.str ⟨#[c]⟩
def dLcS (it : DE) (g : GD) (t : DT) (e : DE) (vs : List Nat) : DE := fun ρ st => (it ρ st).bind fun d s1 => match d with
  | .str z => if z.cps.size ≤ 100000 then lcEnd (lcL g t e (wipeD ρ vs) (signsD z) s1) else .bad
  | _ => .bad
variable {g : TG} {gd : GD} {is : List Nat} {t : DT} {e : DE} {elt tg iter : Expr} {ifs : List Expr} {scope : Scope} {own : List (Str × Nat)} {pos : Pos} {mi : DE}
theorem pd_lcS (hc : C.X.calm = true) (hN : C.X.N.Nodup) (hi : PD C iter mi) (ok : BlkOk C.X.N C.X.env.scope scope own) (hg : ∀ s H c cl fp, PG (C.blk s H scope c cl fp).X tg g) (hd : TgD C.T C.T.K g gd is) (hv : ∀ j ∈ is, j ∈ own.map (·.2))
    (ht : ∀ s H c cl fp, PDTs (C.blk s H scope c cl fp) ifs t) (he : ∀ s H c cl fp, PD (C.blk s H scope c cl fp) elt e) (hs : ∀ x, foldedSetIterable iter C.X.env x = pure x := by intro _; rfl) :
    PD C (.ListComp elt [⟨tg, iter, ifs, 0⟩] scope pos) (dLcS mi gd t e (own.map (·.2))) :=
  PE.imp (pe_lc hc hN (pi_str hi) ok hg ht he hs) fun σ H Q ⟨ρ, st, ι, er, rl, p⟩ => by
    refine ⟨ρ, st, ι, er, rl, post_bind p fun d s1 v ι1 H1 st1 rl1 rv p1 => ?_⟩
    have er1 := er.step st1
    cases rv with
    | str z =>
      dsimp only at p1
      split at p1
      · rename_i hl
        refine ⟨z, rfl, fun D hD => ?_⟩
        have hln : (signsD z).length = z.cps.size := by unfold signsD; simp
        refine lc_str (z := z) (LeftC C.T C.xp (fun c d H => C.W c d σ H) Q gd t e (wipeD ρ (own.map (·.2))) (signsD z) ι1 s1 H1 D) (leftC_start rl1 hD p1) (fun i x H' hx hL => ?_) fun H' hL => leftC_end rl1 hD (by rw [hln]; exact Nat.le_refl _) hL
        have hlt : i < z.cps.size := (Array.getElem?_eq_some_iff.mp hx).1
        have hy : (signsD z)[i]? = some (Den.D.str ⟨#[x]⟩) := by
          unfold signsD
          rw [List.getElem?_map, Array.getElem?_toList, hx]
          rfl
        exact leftC_turn hd hv (by omega) er1 hD hy (.str _) hL
      · exact p1.elim
    | _ => exact p1.elim
end
end Den

set_option maxRecDepth 100000
set_option maxHeartbeats 4000000
/-! Den: the law itself: called with the script, it answers True. -/
namespace Den
open PySem PySem.Spec PyProof.Rows L2

/-- the script as it stands when the law is called: told by the heap, where it isn't one of the text's own things -/
def scrH (K : PySem.W.Frag) (a : Addr) (o : Obj) (xs : List V) : Hp := fun b => if b = a ∧ K.lookup a = none then some (.frz o (.lst xs)) else none
section
variable {K : PySem.W.Frag} {a b : Addr} {o : Obj} {xs : List V} {u : HO}
theorem scrH_some (h : scrH K a o xs b = some u) : b = a ∧ K.lookup a = none ∧ u = .frz o (.lst xs) := by
  unfold scrH at h
  split at h
  · rename_i e
    exact ⟨e.1, e.2, (Option.some.inj h).symm⟩
  · cases h
theorem scrH_off (h : ∀ o', K.lookup b = some o' → True) (hb : b = a → K.lookup a ≠ none) : scrH K a o xs b = none := by
  unfold scrH
  rw [if_neg fun e => hb e.1 e.2]
theorem scrH_at (h : K.lookup a = none) : scrH K a o xs a = some (.frz o (.lst xs)) := if_pos ⟨rfl, h⟩
end

section
variable {P : Program} {w : World} {T : Txt} {mg : Str → Option Value} {k : Nat} {fa a : Addr} {fd : FuncData} {x : Str} {m : DF} {s : Shared} {vs : List Value} {ns : List Int}
theorem repL_numbers {xp : XT} {G : Hp} {ι : Io} : ∀ ns : List Int, RepL T xp G ι (ns.map V.int) (ns.map D.int)
  | [] => .nil
  | n :: ns => .cons (.int n) (repL_numbers ns)
theorem hide_nil (H : Hp) : hide ⟨[], []⟩ [] H = H := by
  funext b
  unfold hide
  rw [if_neg]
  simp [hidden, liveB]
/-- what the law's def is asked -/
theorem asked {H : Hp} (hS : SqL T.K H a (ns.map V.int)) (hm : ∃ st, m [.ro (ns.map D.int)] [] = .ok (.bl true) st) : spM T 1 m [.ref a] H (fun v _ => v = .bl true) fun _ _ _ => False := by
  obtain ⟨st, e⟩ := hm
  refine ⟨rfl, [], [.ro (ns.map D.int)], [], ⟨[], []⟩, .cons (.ro (by rw [hide_nil]; exact hS) (repL_numbers ns)) .nil, ⟨rfl, List.nodup_nil, fun _ h => (nomatch h), fun _ h => (nomatch h), fun k a c h => by simp at h⟩, ?_⟩
  rw [e]
  intro v ι' H' _ _ r
  cases r
  rfl

variable {mb : Str → Option Value}
theorem law_den (KX : T.K.In s.heap) (hns : s.heap.Ns mainGlobals mg) (hb : s.heap.Ns builtinsNs mb) (hbb : ∀ y : Str, y ≠ "__name__" → mb y = bootBuiltins y) (hlim : s.heap.NoLimit) (hg : s.gens = #[])
    (ha : s.heap.get? a = some { cls := .type "list", data := .seq vs.toArray }) (hi : IntsAre vs ns) (hl : ns.length ≤ sizeLine) (hr : RoomG k callerA) (hbind : ∀ (s : Shared) (u : Value), BindsTo s fd ⟨[u], []⟩ [(x, u)])
    (F : ∀ base : Heap, T.K.In base → base.Ns mainGlobals mg → FnG P w T.K mg base k fa fd [x] (spM T 1 m)) (hm : ∃ st, m [.ro (ns.map D.int)] [] = .ok (.bl true) st) :
    codeAny (model P w) callerA (.call (.ref fa) ⟨[.ref a], []⟩) (fun r s' => r = .ok (.ret (.bool true)) ∧ OldK s.heap s'.heap ∧ s'.os = s.os ∧ AllBare s'.gens) s := by
  -- H: what is told of the heap; B: the rest of it
  generalize hH : scrH T.K a { cls := .type "list", data := .seq vs.toArray } (ns.map V.int) = H
  have only : ∀ {c : Addr} {u : HO}, H c = some u → c = a ∧ T.K.lookup a = none ∧ u = .frz { cls := .type "list", data := .seq vs.toArray } (.lst (ns.map V.int)) := fun {c u} q => scrH_some (by rw [hH]; exact q)
  have stays : ∀ {c : Addr} {oc : Obj}, s.heap.get? c = some oc → (c ≠ a ∨ T.K.lookup a ≠ none) → (hidT s.heap H).get? c = some oc := fun {c oc} q n => hidT_get q (by
    cases e : H c with
    | none => rfl
    | some u => exact absurd (only e).1 (n.elim id fun z => absurd (only e).2.1 z))
  have names : ∀ {c : Addr} {mm : Str → Option Value}, s.heap.Ns c mm → (hidT s.heap H).Ns c mm := fun {c mm} h => by
    obtain ⟨oc, es, n, e1, e2, e3⟩ := h
    refine ⟨oc, es, n, stays e1 (.inl fun z => ?_), e2, e3⟩
    rw [z, ha] at e1
    rw [← Option.some.inj e1] at e2
    exact Data.noConfusion e2
  have inB : T.K.In (hidT s.heap H) := fun c oc q => stays (KX c oc q) (by
    by_cases z : c = a
    · right
      rw [← z, q]
      intro y
      cases y
    · exact .inl z)
  have told : HOk P w H s.heap := fun c u q => by
    obtain ⟨e1, _, e3⟩ := only q
    subst e1 e3
    exact ⟨ha, by rw [List.length_map]; exact hl, vs, _, vals_ints hi, ha⟩
  have isL : SqL T.K H a (ns.map V.int) := by
    cases q : T.K.lookup a with
    | none =>
      refine .inl (.inr ⟨{ cls := .type "list", data := .seq vs.toArray }, ?_⟩)
      rw [← hH]
      exact scrH_at q
    | some oa =>
      have e := KX a oa q
      rw [ha] at e
      cases e
      exact .inr ⟨_, vs.toArray, _, q, rfl, rfl, rfl, by rw [List.size_toArray, hi.length]; exact hl, by simpa using vals_ints hi⟩
  have around : Env0 P w T.K mg (hidT s.heap H) callerA [] s H := by
    refine ⟨rfl, ⟨inB, names hns, ⟨mb, names hb, hbb⟩, ?_⟩, fun c oc q => of_hidT q, Nat.le_of_eq (hidT_size _ _), trivial, fun c q => ?_, told, .of_eq hg⟩
    · obtain ⟨ml, h1, h2⟩ := hlim
      exact ⟨ml, names h1, h2⟩
    · exact absurd (show c ∈ ([] : List Addr) from q) List.not_mem_nil
  have z := (F _ inB (names hns)).run callerA [] s H ⟨[.ref a], []⟩ [.ref a] [.ref a] _ _ hr around (hbind s (.ref a)) (.cons rfl .nil) (asked isL hm)
  refine codeAny_mono z fun r s' q => ?_
  match r, q with
  | .error e, q =>
    obtain ⟨_, _, _, _, _, _, _, _, _, _, _, _, hf⟩ := q
    exact False.elim hf
  | .ok (.ret u), q =>
    obtain ⟨v, H2, eos, eb, un, ok2, rv, hv⟩ := q
    have hv' : v = .bl true := hv
    subst hv'
    have hu : u = Value.bool true := rv
    refine ⟨by rw [hu], OldK.of_keep fun c oc qc => ?_, eos, eb⟩
    cases hc : H c with
    | none => exact un.keep c oc qc hc (fun y => absurd (show c ∈ ([] : List Addr) from y) List.not_mem_nil) (by simp)
    | some u =>
      obtain ⟨_, _, e3⟩ := only hc
      subst e3
      have w1 := (told c _ hc).1
      have w2 := (ok2 c _ (un.frzs c _ _ hc)).1
      rw [qc] at w1
      rw [w2, w1]
  | .ok .next, q => exact False.elim q
  | .ok .brk, q => exact False.elim q
  | .ok .cont, q => exact False.elim q
end
/-- a law whose def is worth m, and m of any script is True -/
theorem walk_den {l : PySem.W.OpenLaw} {n k : Nat} {q : Program} {loose : List Str} {XP : (Str → Option Value) → Heap → Prop} {YP : World → Heap → Prop} {d : DefRec} {K : Params → PySem.W.Frag} {x : Str}
    (hn : l.most = some n) (hn2 : n ≤ sizeLine) (hdf : d.params.defaults = []) (hr : RoomG k callerA) (hY : ∀ (w : World) (h : Heap), YP w h → (K w.params).In h)
    (F : ∀ (w : World) (mg : Str → Option Value) (fa : Addr) (h : Heap), (K w.params).In h → h.Ns mainGlobals mg → mg d.name = some (.ref fa) →
      ∃ (T : Txt) (fd : FuncData) (m : DF), T.K = K w.params ∧ (∀ (s : Shared) (u : Value), BindsTo s fd ⟨[u], []⟩ [(x, u)]) ∧ (∀ ns : List Int, ns.length ≤ n → ∃ st, m [.ro (ns.map D.int)] [] = .ok (.bl true) st) ∧
        ∀ base : Heap, T.K.In base → base.Ns mainGlobals mg → FnG l.prog w T.K mg base k fa fd [x] (spM T 1 m)) :
    PySem.W.WalkO q loose XP YP l.row.toRowW d [] (fun f vs => PySem.call f vs) := by
  refine Att.attach_call hn hdf fun w s₀ s₁ mg mb fa o pm cd doc a vs ns G Y ho hd hcd hmg hobj hints hlen hg => ?_
  have KX := hY w _ Y
  obtain ⟨T, fd, m, hT, hb, hm, hF⟩ := F w mg fa _ KX G.T.g hmg
  exact law_den (by rw [hT]; exact KX) G.T.g G.T.b G.T.builtins G.T.nolimit hg hobj hints (Nat.le_trans hlen hn2) hr hb hF (hm ns hlen)
end Den

set_option maxRecDepth 100000
set_option maxHeartbeats 4000000
/-! Den: what the printed terms want besides: signs, globals, products of any kind, contexts, how calls bind. -/
namespace Den
open PySem PySem.Spec PyProof.Rows L2
section
variable {C : Ctx}
def dNeg (a : DE) : DE := fun ρ st => (a ρ st).bind fun x s1 => match x with
  | .int i => .ok (.int (-i)) s1
  | _ => .bad
theorem pd_neg {a : Expr} {ma : DE} {pos : Pos} (ha : PD C a ma) : PD C (.UnaryOp .USub a pos) (dNeg ma) :=
  PE.imp (pe_un un_neg ha) fun σ H Q ⟨ρ, st, ι, er, rl, p⟩ => by
    refine ⟨ρ, st, ι, er, rl, post_bind p fun d s1 v ι1 H1 st1 rl1 rv p1 => ?_⟩
    cases rv with
    | int i => exact ⟨i, rfl, p1 _ ι1 H1 (Step.refl _ _ _) rl1 (.int _)⟩
    | _ => exact p1.elim
/-- a name of the module's: data that stays -/
structure GlD (T : Txt) (v : V) (d : D) : Prop where
  r : ∀ xp G ι, Rep T xp G ι v d
theorem pd_gl {x : Str} {v : V} {u : Value} {d : D} {pos : Pos} (h : GlD C.T v d) (hr : RelV v u) (hm : C.X.mg x = some u) (hg : Gl C.X x) (hd : (x == ("__debug__" : Str)) = false := by decide) : PD C (.Name x pos) (dC d) :=
  pd_c (pe_glob hg hm hr hd) fun G ι => h.r _ G ι
/-- a class of the text's own, a built-in type, as a thing -/
theorem pd_cl {x : Str} {c : Nat} {pos : Pos} (hm : C.X.mg x = some (.ref (C.T.ca c))) (hg : Gl C.X x) (hd : (x == ("__debug__" : Str)) = false := by decide) : PD C (.Name x pos) (dC (.cl c)) :=
  pd_c (v := .ref (C.T.ca c)) (pe_glob hg hm rfl hd) fun G ι => .cl c
theorem pd_bt {x : Str} {n : String} {pos : Pos} (hv : bootBuiltins x = some (.type n)) (hm : C.X.mg x = none) (hg : Gl C.X x) (hn : x ≠ "__name__" := by decide) (hd : (x == ("__debug__" : Str)) = false := by decide) : PD C (.Name x pos) (dC (.ty n)) :=
  pd_c (v := .ty n) (pe_bltn hg hm hv rfl hn hd) fun G ι => .ty n
/-- a product: ints, a list or a text times an int -/
def fMulA (x y : D) : Option D := (fMul x y).or (fMulS x y)
def dMulA : DE → DE → DE := dOp2 fMulA
theorem pd_mulA {a b : Expr} {ma mb : DE} {pos : Pos} (ha : PD C a ma) (hb : PD C b mb) : PD C (.BinOp a .Mult b pos) (dMulA ma mb) :=
  pd_op ((op_mulW.or op_rep).or op_mulS) (((OpD.ints (fun i j h => show i.natAbs.log2 + j.natAbs.log2 < 1000000 from of_decide_eq_true h) fun _ _ _ i j => .int _).or rep_lst).or mul_strD) ha hb
end

/-! ### contexts -/
section
variable {P : Program} {w : World} {K : PySem.W.Frag} {mg : Str → Option Value} {base : Heap} {N : List Str} {qual : Str} {sc : Scope} {f : Addr} {cdv : Value} {A : Around} {outer : List Env} {s : Shared} {H : Hp} {E : XK}
theorem takes_def : L2N.Takes (cxOf (L2N.CX P w) P w K mg base N qual sc f cdv A outer s H E) (fun c d _ H' => E c d H') := L2N.takes_of rfl rfl rfl rfl
theorem passes_def : PassesOwn (model P w) (cxOf (L2N.CX P w) P w K mg base N qual sc f cdv A outer s H E).A (cxOf (L2N.CX P w) P w K mg base N qual sc f cdv A outer s H E).env (cxOf (L2N.CX P w) P w K mg base N qual sc f cdv A outer s H E).xe := L2.passes_of rfl
theorem takes_no {X : Cx} : L2N.Takes X (fun _ _ _ _ => False) := fun u s' x => by
  obtain ⟨_, _, _, _, _, _, _, _, _, _, _, _, _, _, _, _, h⟩ := x
  exact False.elim h
end
/-- in a context: calls at depth k -/
structure Fit (C : Ctx) (k : Nat) : Prop where
  calm : C.X.calm = true
  room : RoomG k C.X.A
  tk : L2N.Takes C.X C.W
theorem Fit.mono {C : Ctx} {j k : Nat} (h : Fit C k) (hj : j ≤ k) : Fit C j := ⟨h.calm, h.room.mono hj, h.tk⟩
theorem Fit.blk {C : Ctx} {k : Nat} (h : Fit C k) (s : Shared) (H : Hp) (scope : Scope) (c : Addr) (cl : List (Str × Addr)) (fp : List Addr) : Fit (C.blk s H scope c cl fp) k := ⟨h.calm, h.room, takes_no⟩
theorem Fit.u {C : Ctx} {k : Nat} (h : Fit C k) : C.X.A.units + 64 < cLine := by have := h.room.room.un; omega

/-! ### defs with defaults -/
section
variable {P : Program} {w : World} {K : PySem.W.Frag} {mg : Str → Option Value} {base : Heap}
theorem fnG_ofD {x qual : Str} {params : Arguments} {body : List Stmt} {scope : Scope} {dvs : List V} {kws : List (Str × V)} {f : Addr} {fd : FuncData} {N ps : List Str} {k : Nat} {sp : Sp} (F : FunD K x qual params body scope dvs kws f fd) (S : FnScope N ps scope) (len : ∀ vs H Q E, sp vs H Q E → vs.length = ps.length)
    (hbody : ∀ (cdv : Value) (A : Around) (outer : List Env) (s : Shared) (H : Hp) (vs : List V) (Q : VK) (E : XK), RoomG k (A.deeper (envOfC qual scope s.heap.objs.size f cdv)) → sp vs H Q E →
      ∃ t, PSs (cxOf (L2N.CX P w) P w K mg base N qual scope f cdv A outer s H E) body t ∧ t { nx := fun _ H' => Q .non H', rt := Q } (start N vs) H) :
    FnG P w K mg base (k + 1) f fd ps sp := by
  obtain ⟨oc, od, dV, kV, doc, pm, an, cdv, ct, osl, efd, lk, hcd, _, _⟩ := F.ex
  subst efd
  refine ⟨len, fun A outer s H args us vs Q E hr e0 hb r hsp => ?_⟩
  have hl := len _ _ _ _ hsp
  have kin : K.In s.heap := e0.mod.kin.keeps fun b o q => (e0.bs b o q).1
  have nol : s.heap.NoLimit := e0.mod.nolimit.keeps fun b o q => (e0.bs b o q).1
  refine codeAny_call_function hr.room.depth (kin _ _ lk) rfl S.co S.gen rfl (PySem.W.codeRec_of kin hcd) (hb _ _ _ _ ?_)
  refine wpAny_newFunctionEnv_cells S.kind (fun y hy => ?_) fun env he s1 x => ?_
  · obtain ⟨n, v⟩ := y
    refine (S.par n (List.of_mem_zip hy).1).elim .inl fun q => .inr ⟨q, ?_⟩
    exact PySem.W.cellsFrom_some _ _ _ (.inl q)
  · subst he
    refine ⟨nol.keeps x.toInCall.keep, codeAny_func ?_⟩
    obtain ⟨t, ht, hq⟩ := hbody cdv A outer s H vs Q E (hr.deeper _) hsp
    have I := inv_start (CX := L2N.CX P w) (E := E) S hr.room.hd e0 hl r x
    refine wpAny_mono (ht.run [] s1 (start N vs) H _ I hq) (fun fl s' hs => ?_) fun e s' hs => hs
    match fl, hs with
    | .ret u, ⟨v, σ', H', J, rv, q⟩ => exact ⟨v, H', J.os, J.bare, J.base, J.hok, rv, q⟩
    | .next, ⟨σ', H', J, q⟩ => exact ⟨V.non, H', J.os, J.bare, J.base, J.hok, rfl, q⟩
    | .brk, ⟨_, _, _, q⟩ => exact q.elim
    | .cont, ⟨_, _, _, q⟩ => exact q.elim
end
theorem fnD_ofD {P : Program} {w : World} {mg : Str → Option Value} {base : Heap} {T : Txt} {x qual : Str} {params : Arguments} {bd : List Stmt} {scope : Scope} {dvs : List V} {kws : List (Str × V)} {f : Addr} {fd : FuncData} {N ps : List Str} {k : Nat} {m : DS} (F : FunD T.K x qual params bd scope dvs kws f fd) (S : FnScope N ps scope)
    (h : ∀ (cdv : Value) (A : Around) (outer : List Env) (s : Shared) (H : Hp) (E : XK) (xp : XT), RoomG k (A.deeper (PyProof.Rows.envOfC qual scope s.heap.objs.size f cdv)) →
      PDSs ⟨cxOf (L2N.CX P w) P w T.K mg base N qual scope f cdv A outer s H E, T, xp, fun c d _ H' => E c d H', rfl⟩ bd m) :
    FnG P w T.K mg base (k + 1) f fd ps (spM T ps.length (body N.length ps.length m)) := by
  refine fnG_ofD F S (fun vs H Q E h => h.1) fun cdv A outer s H vs Q E hr hsp => ?_
  obtain ⟨hl, xp, ds, st0, ι, rd, rl, hp⟩ := hsp
  refine ⟨_, h cdv A outer s H E xp hr, _, st0, ι, start_env rd, rl, ?_⟩
  have hl' : ds.length = ps.length := rd.length.symm.trans hl
  unfold body at hp
  rw [if_pos hl'] at hp
  rw [hl']
  cases hm : m (ds.map some ++ List.replicate (N.length - ps.length) none) st0 with
  | nx ρ s1 =>
    rw [hm] at hp
    exact fun σ ι1 H1 s r _ => hp .non ι1 H1 s r .non
  | ret d s1 =>
    rw [hm] at hp
    exact hp
  | exc c xs ρ s1 =>
    rw [hm] at hp
    exact fun σ ι1 H1 dx s r _ xd => hp ι1 H1 dx s r xd
  | _ =>
    rw [hm] at hp
    exact hp.elim

/-! ### how calls bind -/
section
variable {T : Txt} {fd : FuncData} {ps ks : List Str} {n : Nat}
theorem bd_all (b : Binds T.K fd ps []) (hn : n = ps.length) : Bd T fd ps n [] (fun ds _ => ds) := by
  subst hn
  refine ⟨fun us _ => us, fun vs _ => vs, ⟨fun s us ws X l1 l2 => ?_, fun r _ => r⟩, fun vs zs l _ => l, fun xp G ι vs ds zs es r _ => r⟩
  have := b s us X (by rw [List.append_nil]; exact l1)
  rw [List.append_nil] at this
  exact this
/-- defaults dvs, worth dds: g puts all in the parameters' order -/
theorem bd_dfl {x qual : Str} {params : Arguments} {bd : List Stmt} {scope : Scope} {dvs : List V} {dds : List D} {f : Addr} (g : {α : Type} → List α → List α → List α → List α) (F : FunD T.K x qual params bd scope dvs [] f fd) (hd : dvs ≠ [])
    (hdd : ∀ xp G ι, RepL T xp G ι dvs dds)
    (hrel : ∀ {vs ds zs : List V} {us its ws : List Value}, Vals vs us → Vals ds its → Vals zs ws → Vals (g vs ds zs) (g us its ws))
    (hrep : ∀ xp G ι {vs ds zs : List V} {us its ws : List D}, RepL T xp G ι vs us → RepL T xp G ι ds its → RepL T xp G ι zs ws → RepL T xp G ι (g vs ds zs) (g us its ws))
    (hlen : ∀ vs zs : List V, vs.length = n → zs.length = ks.length → (g vs dvs zs).length = ps.length)
    (h : ∀ (D : Addr) (kV doc pm : Value) (an : Option Addr) (cdv ct : Value) (us its ws : List Value), us.length = n → its.length = dvs.length → ws.length = ks.length →
      ∃ k, bindArgs (PySem.W.fnOf x qual params bd scope (.ref D) kV doc pm an cdv ct) ⟨us, ks.zip ws⟩ = seqItems? (.ref D) >>= k ∧ k (some its.toArray) = pure (ps.zip (g us its ws))) : Bd T fd ps n ks (fun ds es => g ds dds es) := by
  obtain ⟨oc, od, dV, kV, doc, pm, an, cdv, ct, osl, rfl, lk, hcd, hD, hK⟩ := F.ex
  rcases hD with ⟨e, _⟩ | ⟨_, D, o, its, m, rfl, lT, oT, rT⟩
  · exact absurd e hd
  · refine ⟨fun us ws => g us its ws, fun vs zs => g vs dvs zs, ⟨fun s us ws X l1 l2 => ?_, fun r1 r2 => hrel r1 rT r2⟩, hlen, fun xp G ι vs ds zs es r1 r2 => hrep xp G ι r1 (hdd xp G ι) r2⟩
    obtain ⟨k, e1, e2⟩ := h D kV doc pm an cdv ct us its ws l1 rT.length.symm l2
    refine BindsTo.of_looks fun M => ?_
    rw [e1]
    exact looks_items X lT oT (.of_pure e2)
end
end Den

set_option maxRecDepth 100000
set_option maxHeartbeats 4000000
/-! Den: bundles that the printed terms name. -/
namespace Den
open PySem PySem.Spec PyProof.Rows L2
/-- the def x, the text's i-th, is worth m (calls of it want depth k) -/
structure Def (P : Program) (w : World) (T : Txt) (mg : Str → Option Value) (base : Heap) (k i : Nat) (x : Str) (ps : List Str) (m : DF) : Prop where
  ex : ∃ fd, FnG P w T.K mg base k (T.fa i) fd ps (spM T ps.length m) ∧ Binds T.K fd ps []
  g : mg x = some (.ref (T.fa i))
  kp : PySem.W.keepIn T.K (.ref (T.fa i)) = true
theorem Def.mono {P : Program} {w : World} {T : Txt} {mg : Str → Option Value} {base : Heap} {j k i : Nat} {x : Str} {ps : List Str} {m : DF} (d : Def P w T mg base j i x ps m) (h : j ≤ k) : Def P w T mg base k i x ps m :=
  ⟨let ⟨fd, a, b⟩ := d.ex; ⟨fd, a.mono h, b⟩, d.g, d.kp⟩
def dCallA (n : Nat) (f : DF) (a : DA) : DE := fun ρ st => (a ρ st).bind fun ds s1 => if ds.length = n then f ds s1 else .bad
section
variable {C : Ctx} {k i : Nat} {x : Str} {ps : List Str} {m : DF} {p pos : Pos} {e : Expr} {es : List Expr} {ma : DA}
theorem pd_callA (d : Def C.X.prog C.X.w C.T C.X.mg C.X.base k i x ps m) (ft : Fit C k) (hg : Gl C.X x) (ha : PDA C (e :: es) ma) (hdb : (x == ("__debug__" : Str)) = false := by decide) (he : starEach (e :: es) C.X.env = (false, eval e C.X.env) :: starEach es C.X.env := by rfl)
    (hpl : ((backTo pos (starEach (e :: es) C.X.env)).any (·.1) || (backToKw pos (keywordEach [] C.X.env)).any (·.1.isNone)) = false := by rfl) : PD C (.Call (.Name x p) (e :: es) [] pos) (dCallA ps.length m ma) := by
  obtain ⟨fd, F, b⟩ := d.ex
  have F' : FnD C k (C.T.fa i) fd ps m := by rw [FnD, C.hK]; exact F
  have h := pd_call (pos := pos) (p := p) (ks := []) (n := ps.length) F' ft.room ft.tk (bd_all b rfl) hg d.g (by rw [C.hK]; exact d.kp) ha pdk_nil rfl rfl hdb he hpl
  refine PE.imp h fun σ H Q ⟨ρ, st, ι, er, rl, q⟩ => ⟨ρ, st, ι, er, rl, ?_⟩
  have ee : dCall ps.length ([] : List Str).length (fun ds _ => ds) m ma dNil ρ st = dCallA ps.length m ma ρ st := by
    unfold dCall dCallA dNil
    congr 1
    funext ds s1
    simp
  rw [ee]
  exact q
end
end Den
namespace Den
open PySem PySem.Spec PyProof.Rows L2
/-- the text's i-th def, as the written part holds it -/
structure Lk (T : Txt) (i : Nat) (x qual : Str) (st : Stmt) : Prop where
  ex : ∃ fd, Fun T.K x qual st (T.fa i) fd
theorem defD_of {P : Program} {w : World} {mg : Str → Option Value} {base : Heap} {T : Txt} {x qual : Str} {st : Stmt} {N ps : List Str} {k i : Nat} {m : DS} (l : Lk T i x qual st) (hg : mg x = some (.ref (T.fa i))) (S : FnScope N ps (defScope st))
    (hb : ∀ (kV doc pm : Value) (an : Option Addr) (cdv ct : Value) (us : List Value), us.length = ps.length → bindArgs (PySem.W.fnOf x qual (defArgs st) (defBody st) (defScope st) .none kV doc pm an cdv ct) ⟨us, []⟩ = pure (ps.zip us))
    (h : ∀ (cdv : Value) (A : Around) (outer : List Env) (s : Shared) (H : Hp) (E : XK) (xp : XT), Fit ⟨cxOf (L2N.CX P w) P w T.K mg base N qual (defScope st) (T.fa i) cdv A outer s H E, T, xp, fun c d _ H' => E c d H', rfl⟩ k →
      PassesOwn (model P w) (cxOf (L2N.CX P w) P w T.K mg base N qual (defScope st) (T.fa i) cdv A outer s H E).A (cxOf (L2N.CX P w) P w T.K mg base N qual (defScope st) (T.fa i) cdv A outer s H E).env (cxOf (L2N.CX P w) P w T.K mg base N qual (defScope st) (T.fa i) cdv A outer s H E).xe →
      PDSs ⟨cxOf (L2N.CX P w) P w T.K mg base N qual (defScope st) (T.fa i) cdv A outer s H E, T, xp, fun c d _ H' => E c d H', rfl⟩ (defBody st) m) :
    Def P w T mg base (k + 1) i x ps (body N.length ps.length m) := by
  obtain ⟨fd, F⟩ := l.ex
  exact ⟨⟨fd, fnD_of F S fun cdv A outer s H E xp hr => h cdv A outer s H E xp ⟨rfl, hr, takes_def⟩ passes_def, F.binds hb⟩, hg, F.kp⟩
/-- who is a kind of whom, as a table -/
def isTab (tab : List (Tag × Tag × Bool)) : Tag → Tag → Option Bool := fun t c => (tab.find? fun q => decide (q.1 = t) && decide (q.2.1 = c)).map (·.2.2)
theorem isTab_ok {T : Txt} {tab : List (Tag × Tag × Bool)} (h : ∀ q ∈ tab, PySem.W.kitOne T.K (tagV T q.1) (tagV T q.2.1) = some q.2.2) : IsT T (isTab tab) := fun t c b e => by
  obtain ⟨q, hq, rfl⟩ := Option.map_eq_some_iff.mp e
  have h1 := List.find?_some hq
  have h2 := List.mem_of_find?_eq_some hq
  obtain ⟨e1, e2⟩ := (Bool.and_eq_true _ _).mp h1
  rw [← of_decide_eq_true e1, ← of_decide_eq_true e2]
  exact h q h2
/-- a name of the module's, wherever its thing stands -/
theorem pd_glE {C : Ctx} {x : Str} {d : D} {pos : Pos} (h : ∃ (v : V) (u : Value), GlD C.T v d ∧ RelV v u ∧ C.X.mg x = some u) (hg : Gl C.X x) (hd : (x == ("__debug__" : Str)) = false := by decide) : PD C (.Name x pos) (dC d) := by
  obtain ⟨v, u, h1, h2, h3⟩ := h
  exact pd_gl h1 h2 h3 hg hd
end Den

set_option maxRecDepth 100000
set_option maxHeartbeats 4000000
/-! Den: defs that catch, defs that suites call, classes with defaults. -/
namespace Den
open PySem PySem.Spec PyProof.Rows L2
theorem Fit.try {C : Ctx} {k : Nat} (h : Fit C k) {W : WX} {pn : List (Addr × Obj)} {xe : Value → Shared → Prop} (tk : L2N.Takes (C.X.tr pn xe) W) : Fit (C.try W pn xe) k := ⟨h.calm, h.room, tk⟩
theorem no_mem {α : Type} {xp : List α} : ∀ q ∈ ([] : List α), q ∈ xp := fun q h => by cases h
theorem Post.few {α β : Type} {T : Txt} {xp : XT} {W : Value → Option Addr → Hp → Prop} {ι : Io} {st : Store} {H : Hp} {R : XT → Hp → Io → β → α → Prop} {Q : β → Hp → Prop} (hR : ∀ G ι v d, R [] G ι v d → R xp G ι v d) : ∀ {r : Res α}, Post T xp W ι st H (R xp) Q r → Post T [] W ι st H (R []) Q r
  | .ok d st', h => fun v ι' H' s r x => h v ι' H' s (r.more no_mem) (hR _ _ _ _ x)
  | .exc c ds st', h => fun ι' H' dx s r x => h ι' H' dx s (r.more no_mem) (by
      rcases x with x | ⟨d, xs, h1, h2, h3, h4, h5, h6⟩
      · exact .inl x
      · exact .inr ⟨d, xs, h1, h2, h3, h4, h5.more no_mem, h6⟩)
  | .bad, h => h
/-- a def that is handed no error -/
def bodyE (N n : Nat) (m : DS) : DF := fun ds st => if noEL ds = true ∧ noES st = true then body N n m ds st else .bad
section
variable {P : Program} {w : World} {mg : Str → Option Value} {base : Heap} {T : Txt}
theorem spM_few {n : Nat} {N : Nat} {m : DS} {vs : List V} {H : Hp} {Q : VK} {E : XK} (h : spM T n (bodyE N n m) vs H Q E) : vs.length = n ∧ ∃ ds st ι, RepL T [] (hide ι st H) ι vs ds ∧ RelSt T [] ι st H ∧ Post T [] (fun c d H => E c d H) ι st H (Rep T []) Q (body N n m ds st) := by
  obtain ⟨hl, xp, ds, st, ι, rd, rl, hp⟩ := h
  unfold bodyE at hp
  split at hp
  · rename_i hn
    exact ⟨hl, ds, st, ι, rd.noE hn.1, rl.noE hn.2, Post.few (R := fun xp => Rep T xp) (fun _ _ _ _ x => x.more no_mem) hp⟩
  · exact hp.elim
theorem defD_of0 {x qual : Str} {st : Stmt} {N ps : List Str} {k i : Nat} {m : DS} (l : Lk T i x qual st) (hg : mg x = some (.ref (T.fa i))) (S : FnScope N ps (defScope st))
    (hb : ∀ (kV doc pm : Value) (an : Option Addr) (cdv ct : Value) (us : List Value), us.length = ps.length → bindArgs (PySem.W.fnOf x qual (defArgs st) (defBody st) (defScope st) .none kV doc pm an cdv ct) ⟨us, []⟩ = pure (ps.zip us))
    (h : ∀ (cdv : Value) (A : Around) (outer : List Env) (s : Shared) (H : Hp) (E : XK), Fit ⟨cxOf (L2N.CX P w) P w T.K mg base N qual (defScope st) (T.fa i) cdv A outer s H E, T, [], fun c d _ H' => E c d H', rfl⟩ k →
      PassesOwn (model P w) (cxOf (L2N.CX P w) P w T.K mg base N qual (defScope st) (T.fa i) cdv A outer s H E).A (cxOf (L2N.CX P w) P w T.K mg base N qual (defScope st) (T.fa i) cdv A outer s H E).env (cxOf (L2N.CX P w) P w T.K mg base N qual (defScope st) (T.fa i) cdv A outer s H E).xe →
      PDSs ⟨cxOf (L2N.CX P w) P w T.K mg base N qual (defScope st) (T.fa i) cdv A outer s H E, T, [], fun c d _ H' => E c d H', rfl⟩ (defBody st) m) :
    Def P w T mg base (k + 1) i x ps (bodyE N.length ps.length m) := by
  obtain ⟨fd, F⟩ := l.ex
  refine ⟨⟨fd, fnG_of F S (fun vs H Q E h => h.1) fun cdv A outer s H vs Q E hr hsp => ?_, F.binds hb⟩, hg, F.kp⟩
  obtain ⟨hl, ds, st0, ι, rd, rl, hp⟩ := spM_few hsp
  refine ⟨_, h cdv A outer s H E ⟨rfl, hr, takes_def⟩ passes_def, _, st0, ι, start_env rd, rl, ?_⟩
  have hl' : ds.length = ps.length := rd.length.symm.trans hl
  unfold body at hp
  rw [if_pos hl'] at hp
  rw [hl']
  cases hm : m (ds.map some ++ List.replicate (N.length - ps.length) none) st0 with
  | nx ρ s1 =>
    rw [hm] at hp
    exact fun σ ι1 H1 s r _ => hp .non ι1 H1 s r .non
  | ret d s1 =>
    rw [hm] at hp
    exact hp
  | exc c xs ρ s1 =>
    rw [hm] at hp
    exact fun σ ι1 H1 dx s r _ xd => hp ι1 H1 dx s r xd
  | _ =>
    rw [hm] at hp
    exact hp.elim
theorem fnD_ofF {x qual : Str} {params : Arguments} {bd : List Stmt} {scope : Scope} {dvs : List V} {kws : List (Str × V)} {f : Addr} {fd : FuncData} {N ps : List Str} {k : Nat} {m : DS} (F : FunD T.K x qual params bd scope dvs kws f fd) (S : FnScope N ps scope)
    (h : ∀ (cdv : Value) (A : Around) (outer : List Env) (s : Shared) (H : Hp) (E : XK) (xp : XT), Fit ⟨cxOf (L2N.CX P w) P w T.K mg base N qual scope f cdv A outer s H E, T, xp, fun c d _ H' => E c d H', rfl⟩ k →
      PDSs ⟨cxOf (L2N.CX P w) P w T.K mg base N qual scope f cdv A outer s H E, T, xp, fun c d _ H' => E c d H', rfl⟩ bd m) :
    FnG P w T.K mg base (k + 1) f fd ps (spM T ps.length (body N.length ps.length m)) :=
  fnD_ofD F S fun cdv A outer s H E xp hr => h cdv A outer s H E xp ⟨rfl, hr, takes_def⟩
/-- the def x, called with the error that a suite holds -/
structure DefH (P : Program) (w : World) (T : Txt) (mg : Str → Option Value) (base : Heap) (k i : Nat) (x : Str) (ps : List Str) (m : DF) : Prop where
  ex : ∃ fd, FnHG P w T.K mg base k (T.fa i) fd ps (spH T ps.length m) ∧ Binds T.K fd ps []
  g : mg x = some (.ref (T.fa i))
  kp : PySem.W.keepIn T.K (.ref (T.fa i)) = true
open L2H in
theorem defH_of {x qual : Str} {st : Stmt} {N ps : List Str} {k i : Nat} {m : DS} (l : Lk T i x qual st) (hg : mg x = some (.ref (T.fa i))) (S : FnScope N ps (defScope st))
    (hb : ∀ (kV doc pm : Value) (an : Option Addr) (cdv ct : Value) (us : List Value), us.length = ps.length → bindArgs (PySem.W.fnOf x qual (defArgs st) (defBody st) (defScope st) .none kV doc pm an cdv ct) ⟨us, []⟩ = pure (ps.zip us))
    (h : ∀ (cdv : Value) (A : Around) (outer : List Env) (s : Shared) (H : Hp) (E : XK) (p : Addr × Obj) (c : Nat) (d : Option Addr), Held ⟨cxH (L2N.CX P w) P w T.K mg base N qual (defScope st) (T.fa i) cdv A outer s H E p, T, [(p.1, c, d)], fun c d _ H' => E c d H', rfl⟩ →
      (cxH (L2N.CX P w) P w T.K mg base N qual (defScope st) (T.fa i) cdv A outer s H E p).A.units + 64 < cLine →
      PDSs ⟨cxH (L2N.CX P w) P w T.K mg base N qual (defScope st) (T.fa i) cdv A outer s H E p, T, [(p.1, c, d)], fun c d _ H' => E c d H', rfl⟩ (defBody st) m) :
    DefH P w T mg base (k + 1) i x ps (body N.length ps.length m) := by
  obtain ⟨fd, F⟩ := l.ex
  refine ⟨⟨fd, fnH_of F S fun cdv A outer s H E p c d hz hd hot hr => h cdv A outer s H E p c d ?_ ?_, F.binds hb⟩, hg, F.kp⟩
  · intro q hq
    rw [List.mem_singleton] at hq
    subst hq
    exact ⟨p.2, List.mem_singleton.mpr rfl, hz.zc, hd⟩
  · have := hr.un
    show (A.deeper _).units + 64 < cLine
    omega
end
section
variable {C : Ctx} {ps : List Str} {k i : Nat} {m : DF} {x : Str} {q pos : Pos} {e : Expr} {es : List Expr} {ma : DA} {a : Addr} {oe : Obj} {c : Nat} {d : Option Addr} {pn : List (Addr × Obj)}
theorem pd_callHA (dh : DefH C.X.prog C.X.w C.T C.X.mg C.X.base k i x ps m) (hx : C.xp = []) (hz : L2N.Zn (.ref (C.T.ca c)) d oe) (hd : ∃ vs, oe.data = .fields vs) (hr : RoomG k C.X.A) (hg : Gl C.X x) (ha : PDA (C.suite a c d ((a, oe) :: pn)) (e :: es) ma)
    (hdb : (x == ("__debug__" : Str)) = false := by decide) (he : starEach (e :: es) C.X.env = (false, eval e C.X.env) :: starEach es C.X.env := by rfl) (hpl : (backTo pos (starEach es C.X.env)).any (·.1) = false := by rfl) :
    PD (C.suite a c d ((a, oe) :: pn)) (.Call (.Name x q) (e :: es) [] pos) (dCallA ps.length m ma) := by
  obtain ⟨fd, F, b⟩ := dh.ex
  have F' : FnHG C.X.prog C.X.w C.X.K C.X.mg C.X.base k (C.T.fa i) fd ps (spH C.T ps.length m) := by rw [C.hK]; exact F
  have rm : L2H.RoomH k (C.X.A.mark (some (.ref a))) := ⟨hr.room.dp, hr.room.un⟩
  exact pd_callH hx hz hd F' rm hg dh.g (by rw [C.hK]; exact dh.kp) (by rw [C.hK]; exact b) ha hdb he hpl
end
end Den

set_option maxRecDepth 100000
set_option maxHeartbeats 4000000
/-! Den: dicts that change, dicts told for good; walks of any kind. -/
namespace Den
open PySem PySem.Spec PyProof.Rows L2

/-! ### keys and values side by side -/
section
variable {α : Type}
def valZ (ks : List Key) (xs : List α) (k : Key) : Option α := ((ks.zip xs).find? fun q => decide (q.1 = k)).map (·.2)
def putZ (ks : List Key) (xs : List α) (k : Key) (x : α) : List Key × List α :=
  if (ks.any fun a => decide (a = k)) = true then (ks, (ks.zip xs).map fun q => if q.1 = k then x else q.2) else (ks ++ [k], xs ++ [x])
theorem putZ_len {ks : List Key} {xs : List α} {k : Key} {x : α} (h : ks.length = xs.length) : (putZ ks xs k x).1.length = (putZ ks xs k x).2.length := by
  unfold putZ
  split
  · show ks.length = _
    rw [List.length_map, List.length_zip]; omega
  · simp [h]
theorem zip_same (k : Key) (x : α) : ∀ {ks : List Key} {xs : List α}, ks.length = xs.length → ks.zip ((ks.zip xs).map fun q => if q.1 = k then x else q.2) = (ks.zip xs).map fun q => if q.1 = k then (q.1, x) else q
  | [], [], _ => rfl
  | a :: ks, y :: xs, h => by
    have ih := zip_same k x (ks := ks) (xs := xs) (by simpa using h)
    simp only [List.zip_cons_cons, List.map_cons, ih]
    split <;> rfl
  | [], _ :: _, h => by simp at h
  | _ :: _, [], h => by simp at h
theorem mem_zip {ks : List Key} {xs : List α} {k : Key} (h : ks.length = xs.length) : ((ks.zip xs).any fun q => decide (q.1 = k)) = ks.any fun a => decide (a = k) := by
  induction ks generalizing xs with
  | nil => rfl
  | cons a ks ih =>
    cases xs with
    | nil => simp at h
    | cons y xs =>
      rw [List.zip_cons_cons, List.any_cons, ih (by simpa using h), List.any_cons]
end
theorem putK_zip {ks : List Key} {xs : List V} {k : Key} {v : V} (h : ks.length = xs.length) : putK (ks.zip xs) k v = (putZ ks xs k v).1.zip (putZ ks xs k v).2 := by
  unfold putK putZ
  rw [mem_zip h]
  by_cases hm : (ks.any fun a => decide (a = k)) = true
  · rw [if_pos hm, if_pos hm, zip_same k v h]
  · rw [if_neg hm, if_neg hm]
    dsimp only
    rw [List.zip_append h]
    rfl
section
variable {T : Txt} {xp : XT} {G : Hp} {ι : Io}
theorem RepL.zipmap (k : Key) {v : V} {d : D} (r : Rep T xp G ι v d) : ∀ {ks : List Key} {vs : List V} {ds : List D}, RepL T xp G ι vs ds → RepL T xp G ι ((ks.zip vs).map fun q => if q.1 = k then v else q.2) ((ks.zip ds).map fun q => if q.1 = k then d else q.2)
  | [], _, _, _ => .nil
  | _ :: _, [], [], .nil => .nil
  | a :: ks, _, _, .cons r1 rs => by
    simp only [List.zip_cons_cons, List.map_cons]
    refine .cons ?_ (RepL.zipmap k r rs)
    split
    · exact r
    · exact r1
theorem RepL.putZ {ks : List Key} {vs : List V} {ds : List D} (k : Key) {v : V} {d : D} (rs : RepL T xp G ι vs ds) (r : Rep T xp G ι v d) : (Den.putZ ks vs k v).1 = (Den.putZ ks ds k d).1 ∧ RepL T xp G ι (Den.putZ ks vs k v).2 (Den.putZ ks ds k d).2 := by
  unfold Den.putZ
  split
  · exact ⟨rfl, RepL.zipmap k r rs⟩
  · exact ⟨rfl, rs.append (.cons r .nil)⟩
theorem RepL.valZ (k : Key) : ∀ {ks : List Key} {vs : List V} {ds : List D} {d : D}, RepL T xp G ι vs ds → Den.valZ ks ds k = some d → ∃ v, valV (ks.zip vs) k = some v ∧ Rep T xp G ι v d
  | [], _, _, _, _, h => by simp [Den.valZ] at h
  | _ :: _, [], [], _, .nil, h => by simp [Den.valZ] at h
  | a :: ks, v :: _, _, _, .cons r1 rs, h => by
    by_cases e : a = k
    · unfold Den.valZ at h
      rw [List.zip_cons_cons, List.find?_cons_of_pos (by simpa using e)] at h
      cases h
      exact ⟨v, by unfold valV; rw [List.zip_cons_cons, List.find?_cons_of_pos (by simpa using e)]; rfl, r1⟩
    · unfold Den.valZ at h
      rw [List.zip_cons_cons, List.find?_cons_of_neg (by simpa using e)] at h
      obtain ⟨w, hw, rw'⟩ := RepL.valZ k rs h
      exact ⟨w, by unfold valV at hw ⊢; rw [List.zip_cons_cons, List.find?_cons_of_neg (by simpa using e)]; exact hw, rw'⟩
end
def keyOf : D → Option Key
  | .int i => some (.inl i)
  | .str x => some (.inr x)
  | _ => none
theorem key_rep {T : Txt} {xp : XT} {G : Hp} {ι : Io} {v : V} {d : D} {k : Key} (r : Rep T xp G ι v d) (h : keyOf d = some k) : v = kV k := by
  cases r with
  | int i => cases h; rfl
  | str x => cases h; rfl
  | _ => cases h

/-! ### {}, d[k] = v, told for good -/
section
variable {C : Ctx} {a b e : Expr} {ma mb me : DE} {pos pos' : Pos}
def dNewD : DE := fun _ st => .ok (.box st.length) (st ++ [.dic [] []])
theorem pd_newD : PD C (.Dict [] [] pos) dNewD :=
  PE.imp pe_dnewK fun σ H Q ⟨ρ, st, ι, er, rl, p⟩ q hq => by
    obtain ⟨r1, s1⟩ := rl.newMut (o := .dK []) (c := .dic [] []) hq rfl fun ι' hp => ⟨[], upd_same, rfl, .nil⟩
    exact p _ _ _ s1 r1 (.box (by rw [← rl.len]; exact Io.add_at ι q))
def dFrzD (a : DE) : DE := fun ρ st => (a ρ st).bind fun d s1 => match d with
  | .box k => match s1[k]? with
    | some (.dic ks xs) => .ok (.dic ks xs) (s1.set k .dead)
    | _ => .bad
  | _ => .bad
theorem pd_frzD (h : PD C e me) : PD C e (dFrzD me) := PE.imp (pe_lock h) fun σ H Q ⟨ρ, st, ι, er, rl, p⟩ => by
  refine ⟨ρ, st, ι, er, rl, post_bind p fun d s1 v ι1 H1 st1 rl1 rv p1 => ?_⟩
  cases rv with
  | @box k a hk =>
    dsimp only at p1
    split at p1
    · rename_i ks xs hs
      obtain ⟨ys, h1, h2, h3⟩ := rl1.ok _ _ _ hk hs
      refine ⟨a, _, rfl, h1, trivial, fun od => ?_⟩
      obtain ⟨r, s, e⟩ := rl1.freezeW (o := .frz od (.dK (ks.zip ys))) hk hs rfl
      exact p1 _ ι1 _ s r (.dic e h2 (h3.mono s.ex s.pre))
    · exact p1.elim
  | _ => exact p1.elim
def sSetK (o i a : DE) : DS := fun ρ st => (a ρ st).into ρ fun x s1 => (o ρ s1).into ρ fun d s2 => (i ρ s2).into ρ fun y s3 => match d, keyOf y with
  | .box k, some kk => match s3[k]? with
    | some (.dic ks xs) => if ks.length < 100000 then .nx ρ (s3.set k (.dic (putZ ks xs kk x).1 (putZ ks xs kk x).2)) else .bad
    | _ => .bad
  | _, _ => .bad
theorem pds_setK {o ix : Expr} {mo mi : DE} (he : PD C e me) (ho : PD C o mo) (hi : PD C ix mi) (hg : ∀ t t', PE C.X o t → PE C.X ix t' → PG C.X (.Subscript o ix pos') (gSub t t' rSetD)) (hs : swapsWithSole [.Subscript o ix pos'] e pos.line C.X.env = pure false := by rfl)
    (hw : swappedStores [.Subscript o ix pos'] e C.X.env = pure none := by rfl) (h1 : (assignEach [.Subscript o ix pos'] C.X.env).map (·.2) = [assign (.Subscript o ix pos') C.X.env] := by rfl) : PDS C (.Assign [.Subscript o ix pos'] e pos) (sSetK mo mi me) :=
  PS.imp (ps_asg he (hg _ _ ho hi) hs hw h1) fun D σ H ⟨ρ, st, ι, er, rl, p⟩ => by
    refine ⟨ρ, st, ι, er, rl, post_into p er fun d s1 v ι1 H1 st1 rl1 er1 rv p1 => ?_⟩
    refine ⟨ρ, s1, ι1, er1, rl1, post_into p1 er1 fun d2 s2 v2 ι2 H2 st2 rl2 er2 rv2 p2 => ?_⟩
    refine ⟨ρ, s2, ι2, er2, rl2, post_into p2 er2 fun d3 s3 v3 ι3 H3 st3 rl3 er3 rv3 p3 => ?_⟩
    split at p3
    · rename_i k kk hkk
      split at p3
      · rename_i ks xs hx
        split at p3
        · rename_i hl
          have ek := key_rep rv3 hkk
          subst ek
          have rv' := rv.mono (st2.ex.trans st3.ex) (st2.pre.trans st3.pre)
          cases rv2.mono st3.ex st3.pre with
          | @box _ a hk =>
            obtain ⟨ws, hw, hlen, rw'⟩ := rl3.ok _ _ _ hk hx
            have hz : (ks.zip ws).length < sizeLine := by rw [List.length_zip]; exact Nat.lt_of_le_of_lt (Nat.min_le_left _ _) (line_lt hl)
            refine ⟨a, _, rfl, DPut.k hw hz, ?_⟩
            rw [putK_zip hlen]
            obtain ⟨q1, q2⟩ := RepL.putZ (ks := ks) kk rw' rv'
            obtain ⟨r2, s2'⟩ := rl3.write (o := .dK ((putZ ks ws kk v).1.zip (putZ ks ws kk v).2)) (c' := .dic (putZ ks xs kk d).1 (putZ ks xs kk d).2) hk hx rfl rfl ⟨_, by rw [upd_same, q1], by rw [← q1]; exact putZ_len hlen, q2⟩
            exact p3 σ ι3 _ s2' r2 (er3.step s2')
        · exact p3.elim
      · exact p3.elim
    · exact p3.elim
/-! ### d[k], len(d) -/
theorem PE.or {X : Cx} {e : Expr} {t t' : TE} (h : PE X e t) (h' : PE X e t') : PE X e (fun σ H Q => t σ H Q ∨ t' σ H Q) := ⟨fun pins s σ H Q I q => q.elim (h.run pins s σ H Q I) (h'.run pins s σ H Q I)⟩
def dIxK (a b : DE) : DE := fun ρ st => (a ρ st).bind fun x s1 => (b ρ s1).bind fun y s2 => match x, keyOf y with
  | .dic ks xs, some k => match valZ ks xs k with
    | some z => .ok z s2
    | none => .bad
  | _, _ => .bad
theorem pd_ixK (hu : C.X.A.units + 64 < cLine) (ha : PD C a ma) (hb : PD C b mb) (hs : NoSl b := by intro _ _; rfl) : PD C (.Subscript a b pos) (dIxK ma mb) :=
  PE.imp (pe_dget (by omega) ha hb hs) fun σ H Q ⟨ρ, st, ι, er, rl, p⟩ => by
    refine ⟨ρ, st, ι, er, rl, post_bind p fun d s1 v ι1 H1 st1 rl1 rv p1 => ?_⟩
    refine ⟨ρ, s1, ι1, er.step st1, rl1, post_bind p1 fun d2 s2 v2 ι2 H2 st2 rl2 rv2 p2 => ?_⟩
    split at p2
    · rename_i ks xs k hk
      split at p2
      · rename_i z hz
        have ek := key_rep rv2 hk
        subst ek
        cases rv.mono st2.ex st2.pre with
        | dic h1 h2 h3 =>
          obtain ⟨w, hw, rw'⟩ := RepL.valZ k h3 hz
          exact ⟨_, w, rfl, .inl ⟨_, k, .inr ⟨_, hide_sub h1⟩, rfl, hw.symm⟩, p2 w ι2 H2 (Step.refl _ _ _) rl2 rw'⟩
      · exact p2.elim
    · exact p2.elim
def rLenK : List V → Hp → VK → Prop := fun xs H Q => ∃ a kvs, xs = [.ref a] ∧ Rd H a (.dK kvs) ∧ Q (.int kvs.length) H
theorem call_lenK {X : Cx} : CallR X (.builtin "len") rLenK := by
  intro pins s σ H xs us Q I r h
  obtain ⟨a, kvs, rfl, hd, q⟩ := h
  obtain rfl := Vals.ref1 r
  exact d_len I hd fun t s' I' => ⟨.int _, H, I', ⟨t, rfl⟩, q⟩
def gLenK (x : D) (_ : Store) : Option D := match x with
  | .dic ks xs => if ks.length = xs.length then some (.int ks.length) else none
  | _ => none
theorem blt_lenK : BltD C "len" (one gLenK) := ⟨_, call_lenK, fun ι st H xs ds d st' Q rl rx e k => by
  obtain ⟨x, rfl, hg, rfl⟩ := one_some e
  obtain ⟨v, rfl, rv⟩ := repL_one rx
  unfold gLenK at hg
  split at hg
  · split at hg
    · rename_i hl
      cases hg
      cases rv with
      | dic h1 h2 h3 =>
        refine ⟨_, _, rfl, .inr ⟨_, hide_sub h1⟩, ?_⟩
        have : ∀ (ks : List Key) (ys : List V), ks.length = ys.length → (ks.zip ys).length = ks.length := fun ks ys e => by rw [List.length_zip, e]; exact Nat.min_self _
        rw [this _ _ h2]
        exact k _ ι H (Step.refl _ _ _) rl (.int _)
    · cases hg
  · cases hg⟩
/-- len of whatever has one -/
theorem blt_lenA : BltD C "len" (orB (one gLen) (one gLenK)) := BltD.or blt_len blt_lenK
end
end Den

set_option maxRecDepth 100000
set_option maxHeartbeats 4000000
/-! Den: walks over anything, for and comprehensions; comprehensions of two clauses. -/
namespace Den
open PySem PySem.Spec PyProof.Rows L2

/-! ### what is gone through -/
abbrev DIt := Rho → Store → Res (List D)
/-- a walk that gives the items ds, one by one, and leaves the heap -/
def Src (T : Txt) (xp : XT) (G0 : Hp) (ι0 : Io) (J : It) (ds : List D) : Prop := ∃ Gd : Hp → Prop, Walk J ds.length Gd (fun i H x H' => H' = H ∧ ∃ d, ds[i]? = some d ∧ Rep T xp G0 ι0 x d) ∧ ∀ H', Le G0 H' → Gd H'
def tDI (T : Txt) (xp : XT) (W : WX) (m : DIt) : TI := fun σ H R => ∃ ρ st ι, EnvR T xp (hide ι st H) ι ρ σ ∧ RelSt T xp ι st H ∧ Post T xp (fun c d H => W c d σ H) ι st H (fun G ι J ds => Src T xp G ι J ds) R (m ρ st)
abbrev PDI (C : Ctx) (tg e : Expr) (m : DIt) : Prop := PI C.X tg e (tDI C.T C.xp C.W m)
theorem PI.imp {X : Cx} {tg e : Expr} {t t' : TI} (h : PI X tg e t) (i : ∀ σ H R, t' σ H R → t σ H R) : PI X tg e t' := ⟨fun pins s σ H R I q => h.run pins s σ H R I (i σ H R q)⟩
section
variable {T : Txt} {xp : XT} {G : Hp} {ι : Io}
theorem src_list {K : PySem.W.Frag} {a : Addr} {xs : List V} {ds : List D} (h : SqL K G a xs) (r : RepL T xp G ι xs ds) : Src T xp G ι (Itl K a) ds := by
  refine ⟨fun H => SqL K H a xs, ?_, fun H' e => le_l e h⟩
  rw [← r.length]
  exact walk_list.mono (fun _ q => q) fun i H x H' _ _ y => ⟨y.1, r.getV y.2⟩
theorem src_tup {K : PySem.W.Frag} {a : Addr} {xs : List V} {ds : List D} (h : SqT K G a xs) (r : RepL T xp G ι xs ds) : Src T xp G ι (Itt K a) ds := by
  refine ⟨fun H => SqT K H a xs, ?_, fun H' e => le_t e h⟩
  rw [← r.length]
  exact walk_tup.mono (fun _ q => q) fun i H x H' _ _ y => ⟨y.1, r.getV y.2⟩
theorem src_range {lo : Int} {n : Nat} : Src T xp G ι (Itr lo n) (rangeD lo n) := by
  refine ⟨fun _ => True, ?_, fun _ _ => trivial⟩
  rw [range_len]
  exact walk_range.mono (fun _ q => q) fun i H x H' hi _ y => ⟨y.1, _, range_at hi, by rw [y.2]; exact .int _⟩
theorem src_str {z : Str} : Src T xp G ι (Its z) (signsD z) := by
  refine ⟨fun _ => True, ?_, fun _ _ => trivial⟩
  have hl : (signsD z).length = z.cps.size := by unfold signsD; simp
  rw [hl]
  refine walk_str.mono (fun _ q => q) fun i H x H' hi _ ⟨e, c, hc, ev⟩ => ⟨e, .str ⟨#[c]⟩, ?_, by rw [ev]; exact .str _⟩
  unfold signsD
  rw [List.getElem?_map, Array.getElem?_toList, hc]
  rfl
def keyD' : Key → D
  | .inl i => .int i
  | .inr x => .str x
theorem key_rep' (k : Key) : Rep T xp G ι (kV k) (keyD' k) := by
  cases k with
  | inl i => exact .int i
  | inr x => exact .str x
theorem zip_at {α β : Type} {ks : List α} {xs : List β} {i : Nat} {k : α} {x : β} (h : (ks.zip xs)[i]? = some (k, x)) : ks[i]? = some k ∧ xs[i]? = some x := by
  rw [List.getElem?_zip_eq_some] at h
  exact h
theorem src_keys {d : Addr} {o : Obj} {ks : List Key} {xs : List V} (h : G d = some (.frz o (.dK (ks.zip xs)))) (hl : ks.length = xs.length) : Src T xp G ι (Itk d o (ks.zip xs)) (ks.map keyD') := by
  refine ⟨fun H => H d = some (.frz o (.dK (ks.zip xs))), ?_, fun H' e => e _ _ h⟩
  have he : (ks.map keyD').length = (ks.zip xs).length := by rw [List.length_map, List.length_zip]; omega
  rw [he]
  refine walk_keys.mono (fun _ q => q) fun i H x H' hi _ ⟨e, k, v, hk, ev⟩ => ⟨e, keyD' k, ?_, by rw [ev]; exact key_rep' k⟩
  rw [List.getElem?_map, (zip_at hk).1]
  rfl
theorem src_values {d : Addr} {o : Obj} {ks : List Key} {xs : List V} {ds : List D} (h : G d = some (.frz o (.dK (ks.zip xs)))) (hl : ks.length = xs.length) (r : RepL T xp G ι xs ds) : Src T xp G ι (Itd d o (ks.zip xs)) ds := by
  refine ⟨fun H => H d = some (.frz o (.dK (ks.zip xs))), ?_, fun H' e => e _ _ h⟩
  have he : ds.length = (ks.zip xs).length := by rw [List.length_zip, ← r.length]; omega
  rw [he]
  exact walk_values.mono (fun _ q => q) fun i H x H' hi _ ⟨e, k, hk⟩ => ⟨e, r.getV (zip_at hk).2⟩
end
section
variable {C : Ctx} {e tg iter : Expr} {me : DE} {mi : DIt} {ma : DA} {pos apos cpos : Pos}
/-- over a list, a tuple, a dict's keys, a text -/
def iSeq (a : DE) : DIt := fun ρ st => (a ρ st).bind fun d s1 => match d with
  | .lst xs => .ok xs s1
  | .ro xs => .ok xs s1
  | _ => .bad
def iTupD (a : DE) : DIt := fun ρ st => (a ρ st).bind fun d s1 => match d with
  | .tup xs => .ok xs s1
  | _ => .bad
def iKeysD (a : DE) : DIt := fun ρ st => (a ρ st).bind fun d s1 => match d with
  | .dic ks _ => .ok (ks.map keyD') s1
  | _ => .bad
def iValsD (a : DE) : DIt := fun ρ st => (a ρ st).bind fun d s1 => match d with
  | .dic _ xs => .ok xs s1
  | _ => .bad
def iStrD (a : DE) : DIt := fun ρ st => (a ρ st).bind fun d s1 => match d with
  | .str z => .ok (signsD z) s1
  | _ => .bad
def iR1 (a : DA) : DIt := fun ρ st => (a ρ st).bind fun ds s1 => match ds with
  | [.int j] => if big62 j then .ok (rangeD 0 j.toNat) s1 else .bad
  | _ => .bad
def iR2 (a : DA) : DIt := fun ρ st => (a ρ st).bind fun ds s1 => match ds with
  | [.int i, .int j] => if big62 i ∧ big62 j then .ok (rangeD i (j - i).toNat) s1 else .bad
  | _ => .bad
theorem pdi_seq (h : PD C e me) : PDI C tg e (iSeq me) := PI.imp (pi_list h) fun σ H R ⟨ρ, st, ι, er, rl, p⟩ => by
  refine ⟨ρ, st, ι, er, rl, post_bind p fun d s1 v ι1 H1 st1 rl1 rv p1 => ?_⟩
  rw [C.hK]
  cases rv with
  | lst h1 r1 => exact ⟨_, rfl, ⟨_, SqL.of (hide_sub h1)⟩, p1 _ ι1 H1 (Step.refl _ _ _) rl1 (src_list (SqL.of h1) r1)⟩
  | ro h1 r1 => exact ⟨_, rfl, ⟨_, le_l (hide_le _ _ _) h1⟩, p1 _ ι1 H1 (Step.refl _ _ _) rl1 (src_list h1 r1)⟩
  | _ => exact p1.elim
theorem pdi_tup (h : PD C e me) : PDI C tg e (iTupD me) := PI.imp (pi_tup h) fun σ H R ⟨ρ, st, ι, er, rl, p⟩ => by
  refine ⟨ρ, st, ι, er, rl, post_bind p fun d s1 v ι1 H1 st1 rl1 rv p1 => ?_⟩
  rw [C.hK]
  cases rv with
  | tup h1 r1 => exact ⟨_, rfl, ⟨_, le_t (hide_le _ _ _) h1⟩, p1 _ ι1 H1 (Step.refl _ _ _) rl1 (src_tup h1 r1)⟩
  | _ => exact p1.elim
theorem pdi_keys (h : PD C e me) : PDI C tg e (iKeysD me) := PI.imp (pi_keys h) fun σ H R ⟨ρ, st, ι, er, rl, p⟩ => by
  refine ⟨ρ, st, ι, er, rl, post_bind p fun d s1 v ι1 H1 st1 rl1 rv p1 => ?_⟩
  cases rv with
  | dic h1 h2 h3 => exact ⟨_, _, rfl, .inl ⟨_, hide_sub h1, p1 _ ι1 H1 (Step.refl _ _ _) rl1 (src_keys h1 h2)⟩⟩
  | _ => exact p1.elim
theorem pdi_values (h : PD C e me) (hbase : attributeBase e "values" C.X.env (eval e C.X.env) = eval e C.X.env := by rfl) (hline : (apos.endLine == cpos.line) = true := by rfl) : PDI C tg (.Call (.Attribute e "values" apos) [] [] cpos) (iValsD me) :=
  PI.imp (pi_values h hbase hline) fun σ H R ⟨ρ, st, ι, er, rl, p⟩ => by
  refine ⟨ρ, st, ι, er, rl, post_bind p fun d s1 v ι1 H1 st1 rl1 rv p1 => ?_⟩
  cases rv with
  | dic h1 h2 h3 => exact ⟨_, _, _, rfl, hide_sub h1, p1 _ ι1 H1 (Step.refl _ _ _) rl1 (src_values h1 h2 h3)⟩
  | _ => exact p1.elim
theorem pdi_str (h : PD C e me) : PDI C tg e (iStrD me) := PI.imp (pi_str h) fun σ H R ⟨ρ, st, ι, er, rl, p⟩ => by
  refine ⟨ρ, st, ι, er, rl, post_bind p fun d s1 v ι1 H1 st1 rl1 rv p1 => ?_⟩
  cases rv with
  | str z => exact ⟨z, rfl, p1 _ ι1 H1 (Step.refl _ _ _) rl1 src_str⟩
  | _ => exact p1.elim
theorem pdi_R1 {a : Expr} {p : Pos} (hg : Gl C.X "range") (hm : C.X.mg "range" = none) (ha : PDA C [a] ma) (hs : starEach [a] C.X.env = [(false, eval a C.X.env)] := by rfl) : PDI C tg (.Call (.Name "range" p) [a] [] pos) (iR1 ma) :=
  PI.imp (pi_range1 hg hm ha hs) fun σ H R ⟨ρ, st, ι, er, rl, p⟩ => by
  refine ⟨ρ, st, ι, er, rl, post_bind p fun ds s1 vs ι1 H1 st1 rl1 rv p1 => ?_⟩
  split at p1
  · rename_i j
    split at p1
    · rename_i hj
      obtain ⟨v, rfl, r1⟩ := repL_one rv
      cases r1
      exact ⟨j, rfl, hj.1, hj.2, p1 _ ι1 H1 (Step.refl _ _ _) rl1 src_range⟩
    · exact p1.elim
  · exact p1.elim
theorem pdi_R2 {a b : Expr} {p : Pos} (hg : Gl C.X "range") (hm : C.X.mg "range" = none) (ha : PDA C [a, b] ma) (hs : starEach [a, b] C.X.env = [(false, eval a C.X.env), (false, eval b C.X.env)] := by rfl) (hs2 : starEach [b] C.X.env = [(false, eval b C.X.env)] := by rfl) : PDI C tg (.Call (.Name "range" p) [a, b] [] pos) (iR2 ma) :=
  PI.imp (pi_range2 hg hm ha hs hs2) fun σ H R ⟨ρ, st, ι, er, rl, p⟩ => by
  refine ⟨ρ, st, ι, er, rl, post_bind p fun ds s1 vs ι1 H1 st1 rl1 rv p1 => ?_⟩
  split at p1
  · rename_i i j
    split at p1
    · rename_i hj
      have ev := repL_ints rv
      subst ev
      exact ⟨i, j, rfl, ⟨hj.1.1, hj.1.2, hj.2.1, hj.2.2⟩, p1 _ ι1 H1 (Step.refl _ _ _) rl1 src_range⟩
    · exact p1.elim
  · exact p1.elim
/-! ### for, a comprehension -/
variable {g : TG} {gd : GD} {is : List Nat} {mb : DS} {bd : List Stmt} {t : DT} {de : DE} {elt : Expr} {ifs : List Expr} {scope : Scope} {own : List (Str × Nat)}
def sForS (mi : DIt) (g : GD) (b : DS) : DS := fun ρ st => (mi ρ st).into ρ fun ds s1 => forL g b ds ρ s1
theorem pds_forS (hp : PassesOwn (model C.X.prog C.X.w) C.X.A C.X.env C.X.xe) (hc : C.X.calm = true) (hi : PDI C tg iter mi) (hg : PG C.X tg g) (hd : TgD C.T C.T.K g gd is) (hb : PDSs C bd mb) (hs : ∀ x, foldedSetIterable iter C.X.env x = pure x := by intro _; rfl) :
    PDS C (.For tg iter bd [] pos) (sForS mi gd mb) :=
  PS.imp (ps_for hp hc hi hg hb hs) fun D σ H ⟨ρ, st, ι, er, rl, p⟩ => by
    refine ⟨ρ, st, ι, er, rl, post_into p er fun ds s1 J ι1 H1 st1 rl1 er1 ⟨Gd, wk, hG⟩ p1 => ?_⟩
    exact for_it wk (Left C.T C.xp C.W D gd mb ds (hide ι1 s1 H1) ι1) ⟨ρ, s1, ι1, Le.refl _, Pre.refl _, rl1, er1, p1⟩
      (fun i σ' H' _ ⟨_, st', ι', hl, _, _⟩ => hG _ (hl.trans (hide_le _ _ _)))
      (fun i x σ' H' H'' hi hL ⟨eH, d, hd', rd⟩ => by
        subst eH
        exact left_turn hd hd' (fun ι' st' hl hp' => rd.mono hl hp') hL)
      (fun σ' H' hL => left_end (Nat.le_refl _) hL)
def dLc (mi : DIt) (g : GD) (t : DT) (e : DE) (vs : List Nat) : DE := fun ρ st => (mi ρ st).bind fun ds s1 => if ds.length ≤ 100000 then lcEnd (lcL g t e (wipeD ρ vs) ds s1) else .bad
theorem pd_lc (hc : C.X.calm = true) (hN : C.X.N.Nodup) (hi : PDI C tg iter mi) (ok : BlkOk C.X.N C.X.env.scope scope own) (hg : ∀ s H c cl fp, PG (C.blk s H scope c cl fp).X tg g) (hd : TgD C.T C.T.K g gd is) (hv : ∀ j ∈ is, j ∈ own.map (·.2))
    (ht : ∀ s H c cl fp, PDTs (C.blk s H scope c cl fp) ifs t) (he : ∀ s H c cl fp, PD (C.blk s H scope c cl fp) elt de) (hs : ∀ x, foldedSetIterable iter C.X.env x = pure x := by intro _; rfl) :
    PD C (.ListComp elt [⟨tg, iter, ifs, 0⟩] scope pos) (dLc mi gd t de (own.map (·.2))) :=
  PE.imp (pe_lc hc hN hi ok hg ht he hs) fun σ H Q ⟨ρ, st, ι, er, rl, p⟩ => by
    refine ⟨ρ, st, ι, er, rl, post_bind p fun ds s1 J ι1 H1 st1 rl1 ⟨Gd, wk, hG⟩ p1 => ?_⟩
    have er1 := er.step st1
    intro D hD
    split at p1
    · rename_i hl
      exact lc_it wk (LeftC C.T C.xp (fun c d H => C.W c d σ H) Q gd t de (wipeD ρ (own.map (·.2))) ds ι1 s1 H1 D) (leftC_start rl1 hD p1) (fun i H' _ hL => hG _ (leftC_sq hD hL))
        (fun i x H' H'' hi hL ⟨eH, d, hd', rd⟩ => by
          subst eH
          exact leftC_turn hd hv (by omega) er1 hD hd' rd hL)
        (fun H' hL => leftC_end rl1 hD (Nat.le_refl _) hL)
    · exact p1.elim
end
end Den

set_option maxRecDepth 100000
set_option maxHeartbeats 4000000
/-! Den: comprehensions of two clauses. -/
namespace Den
open PySem PySem.Spec PyProof.Rows L2
theorem noX_bind {α β : Type} {m : Res α} {k : α → Store → Res β} (hk : ∀ a s c xs s', k a s ≠ .exc c xs s') : ∀ c xs s, (noX m).bind k ≠ .exc c xs s := by
  intro c xs s h
  cases m with
  | ok a s1 => exact hk a s1 c xs s h
  | exc c' xs' s' => cases h
  | bad => cases h
theorem bind_no {α β : Type} {m : Res α} {k : α → Store → Res β} (hm : ∀ c xs s, m ≠ .exc c xs s) (hk : ∀ a s c xs s', k a s ≠ .exc c xs s') : ∀ c xs s, m.bind k ≠ .exc c xs s := by
  intro c xs s h
  cases hq : m with
  | ok a s1 => rw [hq] at h; exact hk a s1 c xs s h
  | exc c' xs' s' => exact hm _ _ _ hq
  | bad => rw [hq] at h; cases h
theorem lcL_no {g : GD} {t : DT} {e : DE} {ρ : Rho} : ∀ {ds : List D} {st : Store} (c : Nat) (xs : List D) (s : Store), lcL g t e ρ ds st ≠ .exc c xs s
  | [], st, c, xs, s, h => by cases h
  | d :: ds, st, c, xs, s, h => by
    unfold lcL at h
    cases hg : g d ρ with
    | none => rw [hg] at h; cases h
    | some ρ' =>
      rw [hg] at h
      refine noX_bind (fun b s1 c xs s' h => ?_) c xs s h
      cases b with
      | false => exact lcL_no c xs s' h
      | true => exact noX_bind (fun y s2 => bind_no (fun _ _ _ => lcL_no _ _ _) fun ys s3 c xs s' h => by cases h) c xs s' h
/-- all turns of the outer clause -/
def lc2L (g : GD) (t : DT) (mi : DIt) (g1 : GD) (t1 : DT) (e : DE) (vs1 : List Nat) (ρ : Rho) : List D → Store → Res (List D)
  | [], st => .ok [] st
  | x :: xs, st => match g x ρ with
    | none => .bad
    | some ρ' => (noX (t ρ' st)).bind fun b s1 => match b with
      | true => (noX (mi ρ' s1)).bind fun ds s2 => (lcL g1 t1 e (wipeD ρ' vs1) ds s2).bind fun ys s3 => (lc2L g t mi g1 t1 e vs1 ρ xs s3).bind fun zs s4 => .ok (ys ++ zs) s4
      | false => lc2L g t mi g1 t1 e vs1 ρ xs s1
theorem lc2L_no {g : GD} {t : DT} {mi : DIt} {g1 : GD} {t1 : DT} {e : DE} {vs1 : List Nat} {ρ : Rho} : ∀ {ds : List D} {st : Store} (c : Nat) (xs : List D) (s : Store), lc2L g t mi g1 t1 e vs1 ρ ds st ≠ .exc c xs s
  | [], st, c, xs, s, h => by cases h
  | d :: ds, st, c, xs, s, h => by
    unfold lc2L at h
    cases hg : g d ρ with
    | none => rw [hg] at h; cases h
    | some ρ' =>
      rw [hg] at h
      refine noX_bind (fun b s1 c xs s' h => ?_) c xs s h
      cases b with
      | false => exact lc2L_no c xs s' h
      | true => exact noX_bind (fun ds' s2 => bind_no (fun _ _ _ => lcL_no _ _ _) fun ys s3 => bind_no (fun _ _ _ => lc2L_no _ _ _) fun zs s4 c xs s' h => by cases h) c xs s' h
section
variable {C : Ctx} {p : Addr} {ι1 ι : Io} {s1 st : Store} {H1 H : Hp} {W : Value → Option Addr → Hp → Prop} {Q : VK}
/-- a list on its way at p: what it holds, what is left -/
structure Way (C : Ctx) (W : Value → Option Addr → Hp → Prop) (Q : VK) (ι1 : Io) (s1 : Store) (H1 : Hp) (p : Addr) (rem : Res (List D)) (acc : List V) (ys : List D) (ι : Io) (st : Store) (H : Hp) : Prop where
  s : Step (ι1.under p) s1 (upd H1 p (.lst [])) ι st (upd H p (.lst []))
  rl : RelSt C.T C.xp ι st H
  hp : H p = some (.lst acc)
  ra : RepL C.T C.xp (hide ι st H) ι acc ys
  q : Post C.T C.xp W ι1 s1 H1 (Rep C.T C.xp) Q (lcEnd (rem.bind fun zs s2 => .ok (ys ++ zs) s2))
theorem Way.hd {rem : Res (List D)} {acc : List V} {ys : List D} (w : Way C W Q ι1 s1 H1 p rem acc ys ι st H) : p ∈ ι.hd := Io.under_hd w.s.pre
/-- a step that leaves the list on its way -/
theorem under_step {ιa ιb : Io} {sa sb : Store} {Ha Hb : Hp} (ha : p ∈ ιa.hd) (z : Step ιa sa Ha ιb sb Hb) : Step ιa sa (upd Ha p (.lst [])) ιb sb (upd Hb p (.lst [])) := by
  have hb : p ∈ ιb.hd := by rw [z.pre.hd]; exact ha
  refine ⟨z.pre, by rw [hide_hd ha, hide_hd hb]; exact z.ex, fun a h => ?_⟩
  by_cases ea : a = p
  · rw [ea, upd_same, upd_same]
  · rw [upd_ne ea, upd_ne ea]
    exact z.hd a h
theorem Way.step {rem : Res (List D)} {acc : List V} {ys : List D} (w : Way C W Q ι1 s1 H1 p rem acc ys ι st H) {ι' : Io} {st' : Store} {H' : Hp} (z : Step ι st H ι' st' H') (rl : RelSt C.T C.xp ι' st' H') : Way C W Q ι1 s1 H1 p rem acc ys ι' st' H' :=
  ⟨w.s.trans (under_step w.hd z), rl, (z.hd p w.hd).trans w.hp, w.ra.mono z.ex z.pre, w.q⟩
theorem Way.rem {r r' : Res (List D)} {acc : List V} {ys : List D} (w : Way C W Q ι1 s1 H1 p r acc ys ι st H) (e : r = r') : Way C W Q ι1 s1 H1 p r' acc ys ι st H := e ▸ w
/-- what is left isn't nothing: there is room for one more -/
theorem Way.room {y : D} {m : Res (List D)} {acc : List V} {ys : List D} (hm : ∀ c xs s, m ≠ .exc c xs s) (w : Way C W Q ι1 s1 H1 p (m.bind fun zs s => .ok (y :: zs) s) acc ys ι st H) : acc.length < sizeLine := by
  have q := w.q
  cases h : m with
  | ok zs s =>
    rw [h] at q
    simp only [bind_ok] at q
    unfold lcEnd at q
    simp only [bind_ok] at q
    split at q
    · rename_i hl
      rw [w.ra.length]
      refine line_lt ?_
      rw [List.length_append, List.length_cons] at hl
      omega
    · exact q.elim
  | exc c xs s => exact absurd h (hm c xs s)
  | bad =>
    rw [h] at q
    exact q.elim
theorem Way.put {y : D} {v : V} {m : Res (List D)} {acc : List V} {ys : List D} (w : Way C W Q ι1 s1 H1 p (m.bind fun zs s => .ok (y :: zs) s) acc ys ι st H) (rv : Rep C.T C.xp (hide ι st H) ι v y) : Way C W Q ι1 s1 H1 p m (acc ++ [v]) (ys ++ [y]) ι st (upd H p (.lst (acc ++ [v]))) := by
  have hm := w.hd
  refine ⟨?_, w.rl.hdw hm _, upd_same, ?_, ?_⟩
  · rw [upd_upd]; exact w.s
  · rw [hide_hd hm]; exact w.ra.append (.cons rv .nil)
  · have q := w.q
    cases h : m with
    | ok zs s => rw [h] at q; simp only [bind_ok] at q ⊢; rw [List.append_assoc]; exact q
    | exc c xs s => rw [h] at q; simp only [bind_exc] at q ⊢; exact q
    | bad => rw [h] at q; exact q.elim
theorem Way.ends {acc : List V} {ys : List D} (rl : RelSt C.T C.xp ι1 s1 H1) (hn : H1 p = none) (w : Way C W Q ι1 s1 H1 p (.ok [] st) acc ys ι st H) : Q (.ref p) H := by
  have q := w.q
  simp only [bind_ok, List.append_nil] at q
  unfold lcEnd at q
  simp only [bind_ok] at q
  split at q
  · obtain ⟨r', s', rr⟩ := undone rl hn w.s w.rl w.hp w.ra
    exact q _ _ _ s' r' rr
  · exact q.elim
/-- a loop by what holds ahead of each turn -/
theorem loop_of {J : It} {n : Nat} {Gd : Hp → Prop} {Y : Nat → Hp → V → Hp → Prop} (wk : Walk J n Gd Y) {P : Nat → Hp → Prop} {E : Hp → Prop} {B : V → Hp → (Hp → Prop) → Prop} {H0 : Hp} (h0 : P 0 H0) (hG : ∀ i H, P i H → Gd H)
    (hs : ∀ i x Ha Hb, i < n → P i Ha → Y i Ha x Hb → B x Hb (P (i + 1))) (he : ∀ H, P n H → E H) :
    ∃ Wd : Nat → Nat → Hp → Prop, (∃ m, Wd 0 m H0) ∧ ∀ i m H, Wd i m H → (J.stop i H ∧ E H) ∨ (J.go i H ∧ ∃ Nx : Hp → Prop, (∀ H', Nx H' → ∃ m', m' < m ∧ Wd (i + 1) m' H') ∧ ∀ x H', J.yld i H x H' → B x H' Nx) := by
  let Wd : Nat → Nat → Hp → Prop := fun i m H => i + m = n ∧ P i H
  refine ⟨Wd, ⟨n, Nat.zero_add n, h0⟩, fun i m H w => ?_⟩
  obtain ⟨hm, hp⟩ := w
  cases m with
  | zero =>
    have e : i = n := hm
    rw [e] at hp ⊢
    exact Or.inl ⟨wk.stops _ (hG _ _ hp), he _ hp⟩
  | succ m =>
    have lt : i < n := by omega
    exact Or.inr ⟨wk.goes _ _ lt (hG _ _ hp), P (i + 1), fun H' hq => ⟨m, Nat.lt_succ_self m, by show i + 1 + m = n; omega, hq⟩, fun x H' hy => hs _ _ _ _ lt hp (wk.yields _ _ _ _ lt (hG _ _ hp) hy)⟩
theorem bind_put {y : D} {m : Res (List D)} {k : Store → Res (List D)} : ((m.bind fun ys s => .ok (y :: ys) s).bind fun ys s => (k s).bind fun zs s' => .ok (ys ++ zs) s') = (m.bind fun ys s => (k s).bind fun zs s' => .ok (ys ++ zs) s').bind fun zs s => .ok (y :: zs) s := by
  cases m with
  | ok ys s =>
    simp only [bind_ok]
    cases k s <;> rfl
  | _ => rfl
/-- what stood when the inner walk began stands -/
structure Since (C : Ctx) (ιo : Io) (so : Store) (Ho : Hp) (ι : Io) (st : Store) (H : Hp) : Prop where
  le : Le (hide ιo so Ho) (hide ι st H)
  ad : ∀ (k : Nat) (a : Addr), ιo.ad[k]? = some a → ι.ad[k]? = some a
theorem Since.step {ιo ι' : Io} {so st' : Store} {Ho H' : Hp} (b : Since C ιo so Ho ι st H) (z : Step ι st H ι' st' H') : Since C ιo so Ho ι' st' H' := ⟨b.le.trans z.ex, fun k a e => z.pre.ad k a (b.ad k a e)⟩
variable {g1 : TG} {gd1 : GD} {is1 : List Nat} {t1 : DT} {e : DE} {vs1 : List Nat} {ds1 : List D} {ρ' : Rho} {σ2 : L2.St}
def Inner (C : Ctx) (W : Value → Option Addr → Hp → Prop) (Q : VK) (ι1 : Io) (s1 : Store) (H1 : Hp) (p : Addr) (gd1 : GD) (t1 : DT) (e : DE) (ρ : Rho) (ds1 : List D) (k : Store → Res (List D)) (ιo : Io) (so : Store) (Ho : Hp) (j : Nat) (H : Hp) : Prop :=
  ∃ ι st acc ys, Way C W Q ι1 s1 H1 p ((lcL gd1 t1 e ρ (ds1.drop j) st).bind fun ys s => (k s).bind fun zs s' => .ok (ys ++ zs) s') acc ys ι st H ∧ Since C ιo so Ho ι st H
theorem inner_turn {k : Store → Res (List D)} {ιo : Io} {so : Store} {Ho : Hp} {j : Nat} {d : D} {x : V} (hd1 : TgD C.T C.T.K g1 gd1 is1) (hv1 : ∀ i ∈ is1, i ∈ vs1) (hk : ∀ s c xs s', k s ≠ .exc c xs s') (er : EnvR C.T C.xp (hide ιo so Ho) ιo ρ' σ2) (hx : ds1[j]? = some d) (hr : Rep C.T C.xp (hide ιo so Ho) ιo x d)
    (h : Inner C W Q ι1 s1 H1 p gd1 t1 e (wipeD ρ' vs1) ds1 k ιo so Ho j H) :
    g1 x (wipe σ2 vs1) H fun σ3 H5 => wipe σ3 vs1 = wipe σ2 vs1 ∧ tDT C.T C.xp (fun _ _ _ _ => False) t1 σ3 H5 fun b H6 =>
      if b = true then tD C.T C.xp (fun _ _ _ _ => False) e σ3 H6 fun y H7 => ∃ acc, H7 p = some (.lst acc) ∧ acc.length < sizeLine ∧ Inner C W Q ι1 s1 H1 p gd1 t1 e (wipeD ρ' vs1) ds1 k ιo so Ho (j + 1) (upd H7 p (.lst (acc ++ [y])))
        else Inner C W Q ι1 s1 H1 p gd1 t1 e (wipeD ρ' vs1) ds1 k ιo so Ho (j + 1) H6 := by
  obtain ⟨ι, st, acc, ys, w, b⟩ := h
  rw [drop_at hx] at w
  unfold lcL at w
  have erw := er.wipe vs1
  have er' : EnvR C.T C.xp (hide ι st H) ι (wipeD ρ' vs1) (wipe σ2 vs1) := ⟨erw.len, fun i y hy => let ⟨v, q1, q2⟩ := erw.at_ i y hy; ⟨v, q1, q2.monoA b.le b.ad⟩⟩
  cases hg : gd1 d (wipeD ρ' vs1) with
  | none => rw [hg] at w; exact w.q.elim
  | some ρ3 =>
    rw [hg] at w
    dsimp only at w
    refine hd1.ok _ _ _ _ _ _ _ _ _ _ er' (hr.monoA b.le b.ad) hg fun σ3 er3 hw => ⟨?_, ρ3, st, ι, er3, w.rl, ?_⟩
    · rw [hw vs1 hv1]
      have again : ∀ (ws : List Nat) (τ : L2.St), (∀ i ∈ ws, i ∈ vs1) → wipe (wipe τ ws) vs1 = wipe τ vs1 := by
        intro ws
        induction ws with
        | nil => exact fun τ _ => rfl
        | cons i ws ih =>
          intro τ hi
          show wipe ((wipe τ ws).set i none) vs1 = _
          rw [wipe_set (hi i List.mem_cons_self)]
          exact ih τ fun z hz => hi z (List.mem_cons_of_mem _ hz)
      exact again vs1 σ2 fun _ z => z
    · cases ht : t1 ρ3 st with
      | bad => rw [ht] at w; exact w.q.elim
      | exc c es s2 => rw [ht] at w; exact w.q.elim
      | ok bb s2 =>
        rw [ht] at w
        simp only [noX, bind_ok] at w
        intro b' ι2 H2 st2 rl2 eb
        have eb' : b' = bb := eb
        subst eb'
        have w2 := w.step st2 rl2
        have b2 := b.step st2
        cases b' with
        | false => exact iteF ⟨ι2, s2, acc, ys, w2, b2⟩
        | true =>
          refine iteT ⟨ρ3, s2, ι2, er3.step st2, rl2, ?_⟩
          cases he : e ρ3 s2 with
          | bad => rw [he] at w2; exact w2.q.elim
          | exc c es s3 => rw [he] at w2; exact w2.q.elim
          | ok y s3 =>
            rw [he] at w2
            simp only [noX, bind_ok] at w2
            rw [bind_put] at w2
            intro v ι3 H3 st3 rl3 rv
            have w3 := w2.step st3 rl3
            have no : ∀ c xs s, ((lcL gd1 t1 e (wipeD ρ' vs1) (ds1.drop (j + 1)) s3).bind fun ys s => (k s).bind fun zs s' => .ok (ys ++ zs) s') ≠ .exc c xs s :=
              bind_no (fun _ _ _ => lcL_no _ _ _) fun ys s => bind_no (hk s) fun _ _ _ _ _ h => by cases h
            refine ⟨acc, w3.hp, w3.room no, ι3, s3, acc ++ [v], ys ++ [y], w3.put rv, ?_⟩
            have b3 := b2.step st3
            exact ⟨by rw [hide_hd w3.hd]; exact b3.le, b3.ad⟩
/-- the end of the inner walk -/
theorem inner_end {k : Store → Res (List D)} {ιo : Io} {so : Store} {Ho : Hp} {j : Nat} (hj : ds1.length ≤ j) (h : Inner C W Q ι1 s1 H1 p gd1 t1 e (wipeD ρ' vs1) ds1 k ιo so Ho j H) : ∃ ι st acc ys, Way C W Q ι1 s1 H1 p (k st) acc ys ι st H := by
  obtain ⟨ι, st, acc, ys, w, b⟩ := h
  refine ⟨ι, st, acc, ys, w.rem ?_⟩
  rw [List.drop_eq_nil_of_le hj]
  show (Res.ok ([] : List D) st).bind _ = _
  simp only [bind_ok, List.nil_append]
  cases k st <;> rfl
end
section
variable {C : Ctx} {tg iter tg1 iter1 elt : Expr} {ifs ifs1 : List Expr} {scope : Scope} {own : List (Str × Nat)} {pos : Pos} {mi mi1 : DIt} {g g1 : TG} {gd gd1 : GD} {is is1 vs1 : List Nat} {t t1 : DT} {e : DE}
def dLc2 (mi : DIt) (g : GD) (t : DT) (mi1 : DIt) (g1 : GD) (t1 : DT) (e : DE) (vs vs1 : List Nat) : DE := fun ρ st => (mi ρ st).bind fun ds s1 => lcEnd (lc2L g t mi1 g1 t1 e vs1 (wipeD ρ vs) ds s1)
theorem pd_lc2 (hc : C.X.calm = true) (hN : C.X.N.Nodup) (hi : PDI C tg iter mi) (ok : BlkOk C.X.N C.X.env.scope scope own) (hvo : ∀ i ∈ vs1, i ∈ own.map (·.2)) (hg : ∀ s H c cl fp, PG (C.blk s H scope c cl fp).X tg g) (hd : TgD C.T C.T.K g gd is) (hv : ∀ j ∈ is, j ∈ own.map (·.2))
    (ht : ∀ s H c cl fp, PDTs (C.blk s H scope c cl fp) ifs t) (hi1 : ∀ s H c cl fp, PDI (C.blk s H scope c cl fp) tg1 iter1 mi1) (hg1 : ∀ s H c cl fp, PG (C.blk s H scope c cl fp).X tg1 g1) (hd1 : TgD C.T C.T.K g1 gd1 is1) (hv1 : ∀ j ∈ is1, j ∈ vs1)
    (ht1 : ∀ s H c cl fp, PDTs (C.blk s H scope c cl fp) ifs1 t1) (he : ∀ s H c cl fp, PD (C.blk s H scope c cl fp) elt e) (hs : ∀ x, foldedSetIterable iter C.X.env x = pure x := by intro _; rfl) (hs1 : ∀ env x, foldedSetIterable iter1 env x = pure x := by intro _ _; rfl) :
    PD C (.ListComp elt [⟨tg, iter, ifs, 0⟩, ⟨tg1, iter1, ifs1, 0⟩] scope pos) (dLc2 mi gd t mi1 gd1 t1 e (own.map (·.2)) vs1) :=
  PE.imp (pe_lc2 (wi1 := tDI C.T C.xp (fun _ _ _ _ => False) mi1) (tt := tDT C.T C.xp (fun _ _ _ _ => False) t) (tt1 := tDT C.T C.xp (fun _ _ _ _ => False) t1) (te := tD C.T C.xp (fun _ _ _ _ => False) e) hc hN hi ok hvo hg ht hi1 hg1 ht1 he hs hs1) fun σ H Q ⟨ρ, st, ι, er, rl, q⟩ => by
    refine ⟨ρ, st, ι, er, rl, post_bind q fun ds s1 J ι1 H1 st1 rl1 ⟨Gd, wk, hG⟩ q1 => ?_⟩
    have er1 := er.step st1
    intro p hp
    refine loop_of wk (P := fun i H => ∃ ι st acc ys, Way C (fun c d H => C.W c d σ H) Q ι1 s1 H1 p (lc2L gd t mi1 gd1 t1 e vs1 (wipeD ρ (own.map (·.2))) (ds.drop i) st) acc ys ι st H) ⟨ι1.under p, s1, [], [], ?_⟩ (fun i H ⟨ι, st, acc, ys, w⟩ => ?_) (fun i x Ha Hb hlt ⟨ι, st, acc, ys, w⟩ ⟨eH, d, hx, hr⟩ => ?_) (fun H ⟨ι, st, acc, ys, w⟩ => ?_)
    · refine ⟨by rw [upd_upd]; exact Step.refl _ _ _, rl1.under hp, upd_same, .nil, ?_⟩
      have eb : ∀ m : Res (List D), (m.bind fun zs s2 => .ok (([] : List D) ++ zs) s2) = m := fun m => by cases m <;> rfl
      rw [eb]
      exact q1
    · have hx1 := w.s.ex
      rw [hide_under hp, hide_hd w.hd] at hx1
      exact hG _ (hx1.trans (hide_le _ _ _))
    · subst eH
      have hx1 := w.s.ex
      rw [hide_under hp, hide_hd w.hd] at hx1
      have pad : ∀ (k : Nat) (a : Addr), ι1.ad[k]? = some a → ι.ad[k]? = some a := w.s.pre.ad
      rw [drop_at hx] at w
      unfold lc2L at w
      have erw := er1.wipe (own.map (·.2))
      have er' : EnvR C.T C.xp (hide ι st Hb) ι (wipeD ρ (own.map (·.2))) (wipe σ (own.map (·.2))) := ⟨erw.len, fun i y hy => let ⟨v, z1, z2⟩ := erw.at_ i y hy; ⟨v, z1, z2.monoA hx1 pad⟩⟩
      cases hgd : gd d (wipeD ρ (own.map (·.2))) with
      | none => rw [hgd] at w; exact w.q.elim
      | some ρ' =>
        rw [hgd] at w
        dsimp only at w
        refine hd.ok _ _ _ _ _ _ _ _ _ _ er' (hr.monoA hx1 pad) hgd fun σ2 er2 hw => ⟨?_, ρ', st, ι, er2, w.rl, ?_⟩
        · rw [hw _ hv]
          have again : ∀ (ws : List Nat) (τ : L2.St), (∀ i ∈ ws, i ∈ own.map (·.2)) → wipe (wipe τ ws) (own.map (·.2)) = wipe τ (own.map (·.2)) := by
            intro ws
            induction ws with
            | nil => exact fun τ _ => rfl
            | cons i ws ih =>
              intro τ hi
              show wipe ((wipe τ ws).set i none) (own.map (·.2)) = _
              rw [wipe_set (hi i List.mem_cons_self)]
              exact ih τ fun z hz => hi z (List.mem_cons_of_mem _ hz)
          exact again _ σ fun _ z => z
        · cases htt : t ρ' st with
          | bad => rw [htt] at w; exact w.q.elim
          | exc c es s2 => rw [htt] at w; exact w.q.elim
          | ok bb s2 =>
            rw [htt] at w
            simp only [noX, bind_ok] at w
            intro b' ι2 H2 st2 rl2 eb
            have eb' : b' = bb := eb
            subst eb'
            have w2 := w.step st2 rl2
            cases b' with
            | false => exact iteF ⟨ι2, s2, acc, ys, w2⟩
            | true =>
              refine iteT ⟨ρ', s2, ι2, er2.step st2, rl2, ?_⟩
              cases hm : mi1 ρ' s2 with
              | bad => rw [hm] at w2; exact w2.q.elim
              | exc c es s3 => rw [hm] at w2; exact w2.q.elim
              | ok ds1 s3 =>
                rw [hm] at w2
                simp only [noX, bind_ok] at w2
                intro J1 ι3 H3 st3 rl3 ⟨Gd1, wk1, hG1⟩
                have w3 := w2.step st3 rl3
                have er3 := (er2.step st2).step st3
                refine loop_of wk1 (P := Inner C (fun c d H => C.W c d σ H) Q ι1 s1 H1 p gd1 t1 e (wipeD ρ' vs1) ds1 (fun s => lc2L gd t mi1 gd1 t1 e vs1 (wipeD ρ (own.map (·.2))) (ds.drop (i + 1)) s) ι3 s3 H3) ⟨ι3, s3, acc, ys, w3, Le.refl _, fun _ _ z => z⟩
                  (fun j H' ⟨_, _, _, _, _, b⟩ => hG1 _ (b.le.trans (hide_le _ _ _))) (fun j x Hc Hd hj hI ⟨eH2, d1, hx2, hr2⟩ => ?_) (fun H' hI => ?_)
                · subst eH2
                  exact inner_turn hd1 hv1 (fun s => lc2L_no) er3 hx2 hr2 hI
                · exact inner_end (Nat.le_refl _) hI
    · rw [List.drop_eq_nil_of_le (Nat.le_refl _)] at w
      exact w.ends rl1 hp
end
end Den

set_option maxRecDepth 100000
set_option maxHeartbeats 4000000
/-! Den: the least, the greatest of a list of data. -/
namespace Den
open PySem PySem.Spec PyProof.Rows L2
/-! ### data as a value -/
mutual
def ofPy : PyData → D
  | .none => .non
  | .bool b => .bl b
  | .int i => .int i
  | .str x => .str x
  | .list xs => .lst (ofPyL xs)
  | .tuple xs => .tup (ofPyL xs)
  | .dict _ => .non
def ofPyL : List PyData → List D
  | [] => []
  | x :: xs => ofPy x :: ofPyL xs
end
mutual
/-- numbers, texts, tuples and lists of such, none that may change -/
def pureD : D → Bool
  | .non | .bl _ | .int _ | .str _ => true
  | .tup xs => pureL xs
  | .lst xs => pureL xs
  | _ => false
def pureL : List D → Bool
  | [] => true
  | x :: xs => pureD x && pureL xs
end
mutual
theorem pure_py : ∀ {d : D}, pureD d = true → ∃ p, toPy d = some p ∧ ofPy p = d
  | .non, _ => ⟨_, rfl, rfl⟩
  | .bl _, _ => ⟨_, rfl, rfl⟩
  | .int _, _ => ⟨_, rfl, rfl⟩
  | .str _, _ => ⟨_, rfl, rfl⟩
  | .tup xs, h => by
    obtain ⟨ps, e1, e2⟩ := pure_pyL (ds := xs) (by simpa only [pureD] using h)
    exact ⟨.tuple ps, by simp only [toPy, e1, Option.map_some], by simp only [ofPy, e2]⟩
  | .lst xs, h => by
    obtain ⟨ps, e1, e2⟩ := pure_pyL (ds := xs) (by simpa only [pureD] using h)
    exact ⟨.list ps, by simp only [toPy, e1, Option.map_some], by simp only [ofPy, e2]⟩
  | .ro _, h => by simp [pureD] at h
  | .dic _ _, h => by simp [pureD] at h
  | .ins _ _, h => by simp [pureD] at h
  | .exc _ _, h => by simp [pureD] at h
  | .err _ _, h => by simp [pureD] at h
  | .ty _, h => by simp [pureD] at h
  | .cl _, h => by simp [pureD] at h
  | .fn _, h => by simp [pureD] at h
  | .box _, h => by simp [pureD] at h
theorem pure_pyL : ∀ {ds : List D}, pureL ds = true → ∃ ps, toPyL ds = some ps ∧ ofPyL ps = ds
  | [], _ => ⟨[], rfl, rfl⟩
  | d :: ds, h => by
    simp only [pureL, Bool.and_eq_true] at h
    obtain ⟨p, e1, e2⟩ := pure_py h.1
    obtain ⟨ps, e3, e4⟩ := pure_pyL h.2
    exact ⟨p :: ps, by simp only [toPyL, e1, e3], by simp only [ofPyL, e2, e4]⟩
end
theorem ofPyL_at : ∀ {ps : List PyData} {i : Nat} {p : PyData}, ps[i]? = some p → (ofPyL ps)[i]? = some (ofPy p)
  | [], _, _, h => by simp at h
  | q :: ps, 0, p, h => by simp at h; subst h; simp [ofPyL]
  | q :: ps, i + 1, p, h => by
    have := ofPyL_at (ps := ps) (i := i) (p := p) (by simpa using h)
    simpa [ofPyL] using this
def alikeC (ps : List PyData) : Bool := (ps.all fun x => ps.all fun y => PySem.W.alike x y) && ps.all fun x => match x with
  | .none => false
  | _ => true
theorem alikeQ {ps : List PyData} (h : alikeC ps = true) : PySem.W.AlikeAll ps := by
  unfold alikeC at h
  rw [Bool.and_eq_true] at h
  refine ⟨fun x hx y hy => List.all_eq_true.mp (List.all_eq_true.mp h.1 x hx) y hy, fun x hx e => ?_⟩
  have := List.all_eq_true.mp h.2 x hx
  rw [e] at this
  cases this
/-! ### min(list), max(list) -/
def rBest (K : PySem.W.Frag) (b : PyData → List PyData → PyData) : List V → Hp → VK → Prop := fun vs H Q => ∃ (a : Addr) (xs : List V) (p : PyData) (ps : List PyData), vs = [.ref a] ∧ SqL K H a xs ∧ DpAll K H xs (p :: ps) ∧ PySem.W.AlikeAll (p :: ps) ∧ PyData.depthAll (p :: ps) ≤ 60 ∧
  ∀ (i : Nat) (v : V), xs[i]? = some v → (p :: ps)[i]? = some (b p ps) → Q v H
section
variable {X : Cx}
theorem best_at {pins : List (Addr × Obj)} {σ : L2.St} {H : Hp} {s : Shared} {a : Addr} {xs : List V} {ps : List PyData} {its : List Value} {q : PyData} (I : Inv X pins σ H s) (hd : DpAll X.K H xs ps) (rv : Vals xs its) {i : Nat} {u : Value} {h' : Heap} {bs : List Addr} (hu : its[i]? = some u) (hr : Reads h' u q bs) (hk : ∀ b o, s.heap.get? b = some o → h'.get? b = some o) :
    ∃ v, xs[i]? = some v ∧ RelV v u ∧ ps[i]? = some q := by
  have go : ∀ {xs : List V} {ps : List PyData} {its : List Value} {i : Nat}, DpAll X.K H xs ps → Vals xs its → its[i]? = some u → ∃ v p, xs[i]? = some v ∧ RelV v u ∧ ps[i]? = some p ∧ Dp X.K H v p := by
    intro xs
    induction xs with
    | nil => intro ps its i hd rv hu; cases rv; simp at hu
    | cons x xs ih =>
      intro ps its i hd rv hu
      cases hd with
      | cons d1 ds =>
        cases rv with
        | cons r1 rs =>
          cases i with
          | zero => simp at hu; subst hu; exact ⟨x, _, by simp, r1, by simp, d1⟩
          | succ i =>
            obtain ⟨v, p, e1, e2, e3, e4⟩ := ih ds rs (by simpa using hu)
            exact ⟨v, p, by simpa using e1, e2, by simpa using e3, e4⟩
  obtain ⟨v, p, e1, e2, e3, e4⟩ := go hd rv hu
  obtain ⟨as, r2⟩ := Dp.reads I p v u e4 e2
  have e := (PySem.Reads.unique (Reads.keeps hk r2) q bs hr).1
  exact ⟨v, e1, e2, by rw [e3, e]⟩
theorem cr_minL (hc : X.calm = true) (hu : X.A.units + 64 < cLine) : CallR X (.builtin "min") (rBest X.K PySem.W.minD) := by
  intro pins s σ H xs us Q I r h
  obtain ⟨a, zs, p, ps, rfl, hq, hd, ha, hz, q⟩ := h
  rw [Vals.ref1 r]
  obtain ⟨its, rv, pl, _⟩ := I.list hq
  obtain ⟨as, hr⟩ := Dp.readsAll I _ _ _ hd rv
  refine PySem.W.min_list_data (vs := its.toArray) (I.ok.hd hc) pl.isList (by simpa using hr) ha (by omega) fun i u h' tk bs hi hb hk => ?_
  obtain ⟨v, e1, e2, e3⟩ := best_at (a := a) I hd rv (by simpa using hi) hb hk
  exact ⟨v, H, I.kept (t' := tk) hk, e2, q i v e1 e3⟩
theorem cr_maxL (hc : X.calm = true) (hu : X.A.units + 64 < cLine) : CallR X (.builtin "max") (rBest X.K PySem.W.maxD) := by
  intro pins s σ H xs us Q I r h
  obtain ⟨a, zs, p, ps, rfl, hq, hd, ha, hz, q⟩ := h
  rw [Vals.ref1 r]
  obtain ⟨its, rv, pl, _⟩ := I.list hq
  obtain ⟨as, hr⟩ := Dp.readsAll I _ _ _ hd rv
  refine PySem.W.max_list_data (vs := its.toArray) (I.ok.hd hc) pl.isList (by simpa using hr) ha (by omega) fun i u h' tk bs hi hb hk => ?_
  obtain ⟨v, e1, e2, e3⟩ := best_at (a := a) I hd rv (by simpa using hi) hb hk
  exact ⟨v, H, I.kept (t' := tk) hk, e2, q i v e1 e3⟩
end
def gBest (b : PyData → List PyData → PyData) (x : D) (st : Store) : Option D := (litemsOf x st).bind fun ds => if pureL ds = true then (match toPyL ds with
  | some (p :: ps) => if alikeC (p :: ps) = true ∧ PyData.depthAll (p :: ps) ≤ 60 then some (ofPy (b p ps)) else none
  | _ => none) else none
section
variable {C : Ctx}
theorem best_den {b : PyData → List PyData → PyData} : CallD C (rBest C.X.K b) (one (gBest b)) := fun ι st H xs ds d st' Q rl rx e k => by
  obtain ⟨x, rfl, hg, rfl⟩ := one_some e
  obtain ⟨v, rfl, rv⟩ := repL_one rx
  obtain ⟨ys, hy, hg⟩ := Option.bind_eq_some_iff.mp hg
  split at hg
  · rename_i hp
    split at hg
    · rename_i p ps hq
      split at hg
      · rename_i hc
        cases hg
        obtain ⟨a, zs, rfl, hs, rs⟩ := litems_rep rl rv hy
        obtain ⟨qs, e1, e2⟩ := pure_pyL hp
        rw [hq] at e1
        cases e1
        refine ⟨a, zs, p, ps, rfl, by rw [C.hK]; exact hs, by rw [C.hK]; exact dp_ofL (hide_le _ _ _) rs hq, alikeQ hc.1, hc.2, fun i v hv hi => ?_⟩
        obtain ⟨y, hy2, ry⟩ := rs.getV hv
        have := ofPyL_at hi
        rw [e2, hy2] at this
        cases this
        exact k v ι H (Step.refl _ _ _) rl ry
      · cases hg
    · cases hg
  · cases hg
theorem blt_minD (hc : C.X.calm = true) (hu : C.X.A.units + 64 < cLine) : BltD C "min" (one (gBest PySem.W.minD)) := ⟨_, cr_minL hc hu, best_den⟩
theorem blt_PySem.W.maxD (hc : C.X.calm = true) (hu : C.X.A.units + 64 < cLine) : BltD C "max" (one (gBest PySem.W.maxD)) := ⟨_, cr_maxL hc hu, best_den⟩
/-- two numbers, or a list -/
theorem blt_minA (hc : C.X.calm = true) (hu : C.X.A.units + 64 < cLine) : BltD C "min" (orB (two fun i j => if j < i then j else i) (one (gBest PySem.W.minD))) := BltD.or (blt_min2 hc) (blt_minD hc hu)
theorem blt_maxA (hc : C.X.calm = true) (hu : C.X.A.units + 64 < cLine) : BltD C "max" (orB (two fun i j => if j > i then j else i) (one (gBest PySem.W.maxD))) := BltD.or (blt_max2 hc) (blt_PySem.W.maxD hc hu)
end
end Den

set_option maxRecDepth 100000
set_option maxHeartbeats 4000000
/-! Den: sorted(set(list of whole numbers)). -/
namespace Den
open PySem PySem.Spec PyProof.Rows L2

/-! ### a set out of a list of whole numbers -/
abbrev eSet (w : World) : Obj := { cls := .type "set", dict := none, data := .set #[] 0 (.fresh 0 0 (!w.params.followText "set-order")) }
theorem eSet_at {w : World} {h : Heap} {S : Addr} {ns : List Int} (e : h.get? S = some (eSet w)) : ∃ c, c ≤ 0 ∧ SetR w h S (fun j => decide (j ∈ ns.take 0)) c := ⟨0, Nat.le_refl 0, setR_new_at e⟩
theorem ints_val {vs : Array Value} {ns : List Int} (hi : IntsAre vs.toList ns) (i : Nat) (v : Value) (hv : vs[i]? = some v) : ∃ k t, ns[i]? = some k ∧ v = .int k t := by
  have hl : vs.size = ns.length := (Array.length_toList (xs := vs)).symm.trans hi.length
  have lt : i < ns.length := hl ▸ (Array.getElem?_eq_some_iff.mp hv).1
  obtain ⟨t, e⟩ := hi.int_at i v ((Array.getElem?_toList).trans hv)
  refine ⟨ns[i], t, List.getElem?_eq_getElem lt, e.trans ?_⟩
  simp [List.getD_eq_getElem?_getD, List.getElem?_eq_getElem lt]
section
variable {P : Program} {w : World} {A : Around} {E : Value → Shared → Prop} {s : Shared}
/-- the empty set at S takes in what the list at b holds -/
theorem fill_of {S b : Addr} {vs : Array Value} {ns : List Int} {R : Result → Shared → Prop} (hh : A.handled = none) (eS : s.heap.get? S = some (eSet w)) (hL : s.heap.IsList b vs) (hi : IntsAre vs.toList ns) (few : ns.length + 1 < scanBound)
    (k : ∀ (h' : Heap) (tk c : Nat), SetR w h' S (fun j => decide (j ∈ ns)) c → c ≤ ns.length → (∀ x o, x ≠ S → s.heap.get? x = some o → h'.get? x = some o) → R (.ok (.ret .none)) { s with heap := h', toks := tk }) :
    codeAny (model P w) A (.call (.builtin "set.__init__") ⟨[.ref S, .ref b], []⟩) R s := by
  have tS : s.TypeIs (.ref S) "set" := ⟨_, eS, rfl⟩
  have size : vs.size = ns.length := (Array.length_toList (xs := vs)).symm.trans hi.length
  refine codeAny_call_builtin F.called_set.init.plain F.entry_set_init (check_set_init_1 tS ?_)
  have neS : b ≠ S := fun e => by
    obtain ⟨o, ho, hc, _⟩ := hL
    rw [e, eS] at ho
    cases ho
    injection hc with z
    exact absurd z (by decide)
  obtain ⟨⟨oc, od, ot, os⟩, ho, hc, nl, hd⟩ := hL
  cases hc
  cases hd
  have isL : s.heap.IsList b vs := ⟨_, ho, rfl, nl, rfl⟩
  have no1 := F.sub_list_set
  have no2 := F.sub_list_frozenset
  have no3 : (Value.type "list" == Value.type "dict") = false := by decide
  unfold Builtin.«set.__init__»
  unfold noKeywords
  unfold Builtin.Frozenset.updateFrom
  generalize it : pyIter = walk
  wp_walk
  subst it
  refine wpAny_pyIter_list isL (wpAny_bind (wpAny_runValue ?_))
  have old : S < s.heap.objs.size := Heap.lt_size eS
  have oldB : b < s.heap.objs.size := Heap.lt_size ho
  refine set_update_ints ((Walks.list (A := A.in1.in1) (by simp [hh]) s.heap.objs.size b (Nat.ne_of_lt oldB) vs).toS) S (fun z => ?_) ns size few (ints_val hi) (vs.size - 0) 0 _ rfl (Nat.zero_le _)
    ⟨⟨_, Heap.get?_push_size _ rfl, rfl, rfl⟩, isL.push _⟩ (eSet_at (Heap.get?_push_of_some _ eS)) fun ⟨h', g', d', t', o'⟩ c mv le new => ?_
  · rcases List.mem_cons.mp z with z | z
    · exact absurd z (Nat.ne_of_lt old)
    · exact neS (List.mem_singleton.mp z).symm
  · have q1 : g' = s.gens := mv.gens
    have q2 : d' = s.drawn := mv.drawn
    have q3 : o' = s.os := mv.os
    cases q1
    cases q2
    cases q3
    refine wpAny_pure ?_
    refine wpAny_pure ?_
    refine k h' t' c new (size ▸ le) fun x o nx e => mv.heap x o (fun z => ?_) (Heap.get?_push_of_some _ e)
    rcases List.mem_cons.mp z with z | z
    · exact nx z
    · exact absurd (List.mem_singleton.mp z) (Nat.ne_of_lt (Heap.lt_size e))
/-- set(list) -/
theorem set_of {b : Addr} {vs : Array Value} {ns : List Int} {Q : Value → Shared → Prop} (hh : A.handled = none) (hL : s.heap.IsList b vs) (hi : IntsAre vs.toList ns) (few : ns.length + 1 < scanBound)
    (k : ∀ (h' : Heap) (tk c : Nat), SetR w h' s.heap.objs.size (fun j => decide (j ∈ ns)) c → c ≤ ns.length → (∀ x o, s.heap.get? x = some o → h'.get? x = some o) → Q (.ref s.heap.objs.size) { s with heap := h', toks := tk }) :
    wpAny (model P w) A (call (.type "set") [.ref b]) Q E s := by
  have ⟨m0, m1, mro⟩ := F.called_set.mro
  have made := F.called_set.made
  have sub := F.called_set.sub
  have nt := F.called_set.notType
  have cc := F.called_set.canCreate
  have ct := F.typeCall_set_1 (.ref b)
  refine wpAny_call (codeAny_of_tree (wpAny_pure ⟨Code.quiet_builtin _ (by decide +kernel), codeAny_builtin F.entry_type_call ?_⟩))
  rw [Around.under_plain (weight_type_call_type _ _ _) rfl]
  repeat (any_goals (first | assumption | wp_step))
  refine codeAny_mono (code_set_led1 (.ref b) (E := E) (Q₁ := fun v z => v = .ref s.heap.objs.size ∧ z = { s with heap := s.heap.push (eSet w) }) ⟨rfl, rfl⟩) fun r z hr => ?_
  match r, hr with
  | .error e, hr => exact hr
  | .ok (.ret v), hr =>
    cases hr.1
    cases hr.2
    have eS : (s.heap.push (eSet w)).get? s.heap.objs.size = some (eSet w) := Heap.get?_push_size _ rfl
    have tS : Shared.TypeIs { s with heap := s.heap.push (eSet w) } (.ref s.heap.objs.size) "set" := ⟨_, eS, rfl⟩
    have lk := F.called_set.init.lookup
    have bd := F.called_set.init.bind (.ref s.heap.objs.size)
    repeat (any_goals (first | assumption | wp_step))
    refine codeAny_mono (fill_of (R := wants (fun v z => v = .none ∧ Q (.ref s.heap.objs.size) z) E) (by simp [hh]) eS (hL.push _) hi few fun h' tk c new le kp => ⟨rfl, k h' tk c new le fun x o e => kp x o (Nat.ne_of_lt (Heap.lt_size e)) (Heap.get?_push_of_some _ e)⟩) fun r z hr => ?_
    match r, hr with
    | .error e, hr => exact hr
    | .ok (.ret v), hr =>
      obtain ⟨rfl, q⟩ := hr
      repeat (any_goals (first | assumption | wp_step))
end
/-! ### sorted(set(list)) -/
/-- k put in its place of a rising row -/
def insU (k : Int) : List Int → List Int
  | [] => [k]
  | x :: r => if k < x then k :: x :: r else if k = x then x :: r else x :: insU k r
def sortU : List Int → List Int
  | [] => []
  | k :: r => insU k (sortU r)
theorem insU_mem (k j : Int) : ∀ l : List Int, j ∈ insU k l ↔ j = k ∨ j ∈ l
  | [] => by simp [insU]
  | x :: r => by
    unfold insU
    split
    · simp
    · split
      · rename_i h
        subst h
        simp
      · simp only [List.mem_cons, insU_mem k j r]
        constructor
        · rintro (h | h | h)
          · exact .inr (.inl h)
          · exact .inl h
          · exact .inr (.inr h)
        · rintro (h | h | h)
          · exact .inr (.inl h)
          · exact .inl h
          · exact .inr (.inr h)
theorem insU_up (k : Int) : ∀ l : List Int, l.Pairwise (· < ·) → (insU k l).Pairwise (· < ·)
  | [], _ => by simp [insU]
  | x :: r, h => by
    obtain ⟨h1, h2⟩ := List.pairwise_cons.mp h
    unfold insU
    split
    · rename_i lt
      refine List.pairwise_cons.mpr ⟨fun y hy => ?_, h⟩
      rcases List.mem_cons.mp hy with e | hy
      · omega
      · have := h1 y hy
        omega
    · split
      · exact h
      · refine List.pairwise_cons.mpr ⟨fun y hy => ?_, insU_up k r h2⟩
        rcases (insU_mem k y r).mp hy with e | hy
        · omega
        · exact h1 y hy
theorem sortU_mem (j : Int) : ∀ l : List Int, j ∈ sortU l ↔ j ∈ l
  | [] => by simp [sortU]
  | k :: r => by
    unfold sortU
    rw [insU_mem, sortU_mem j r]
    simp
theorem sortU_up : ∀ l : List Int, (sortU l).Pairwise (· < ·)
  | [] => by simp [sortU]
  | k :: r => insU_up k _ (sortU_up r)
/-- two rising rows of the same members are one -/
theorem up_one : ∀ {l m : List Int}, l.Pairwise (· < ·) → m.Pairwise (· < ·) → (∀ k, k ∈ l ↔ k ∈ m) → l = m
  | [], [], _, _, _ => rfl
  | [], y :: m, _, _, h => absurd ((h y).2 List.mem_cons_self) (by simp)
  | x :: l, [], _, _, h => absurd ((h x).1 List.mem_cons_self) (by simp)
  | x :: l, y :: m, hl, hm, h => by
    obtain ⟨a1, a2⟩ := List.pairwise_cons.mp hl
    obtain ⟨b1, b2⟩ := List.pairwise_cons.mp hm
    have e : x = y := by
      rcases List.mem_cons.mp ((h x).1 List.mem_cons_self) with e | e
      · exact e
      · rcases List.mem_cons.mp ((h y).2 List.mem_cons_self) with f | f
        · exact f.symm
        · have := b1 x e
          have := a1 y f
          omega
    subst e
    rw [up_one a2 b2 fun k => ?_]
    constructor
    · intro hk
      rcases List.mem_cons.mp ((h k).1 (List.mem_cons_of_mem _ hk)) with e | e
      · have := a1 k hk
        omega
      · exact e
    · intro hk
      rcases List.mem_cons.mp ((h k).2 (List.mem_cons_of_mem _ hk)) with e | e
      · have := b1 k hk
        omega
      · exact e
def rSetL (K : PySem.W.Frag) (w : World) : List V → Hp → VK → Prop := fun vs H Q => ∃ (b : Addr) (ns : List Int), vs = [.ref b] ∧ SqL K H b (ns.map V.int) ∧ ns.length ≤ 1000 ∧
  ∀ (p : Addr) (c : Nat), c ≤ ns.length → H p = none → Q (.ref p) (upd H p (SetO w p (fun j => decide (j ∈ ns)) c))
theorem cr_setL {X : Cx} (hc : X.calm = true) : CallR X (.type "set") (rSetL X.K X.w) := by
  intro pins s σ H vs us Q I r h
  obtain ⟨b, ns, rfl, hq, few, q⟩ := h
  rw [Vals.ref1 r]
  obtain ⟨its, rv, pl, _⟩ := I.list hq
  refine set_of (ns := ns) (I.ok.hd hc) pl.isList (by simpa using ints_of_vals rv) (by unfold scanBound; omega) fun h' tk c new le kp => ?_
  exact ⟨.ref _, _, I.laid kp (Nat.le_refl _) (setO_new new), rfl, q _ c le (I.hok.fresh (Nat.le_refl _))⟩
def intsOfD : List D → Option (List Int)
  | [] => some []
  | .int k :: r => (intsOfD r).map (k :: ·)
  | _ :: _ => none
theorem intsD_rep {T : Txt} {xp : XT} {G : Hp} {ι : Io} : ∀ {xs : List V} {ds : List D} {ks : List Int}, RepL T xp G ι xs ds → intsOfD ds = some ks → xs = ks.map V.int
  | _, _, _, .nil, h => by cases h; rfl
  | _, _, _, .cons r rs, h => by
    cases r with
    | int k =>
      obtain ⟨r', h1, rfl⟩ := Option.map_eq_some_iff.mp h
      rw [intsD_rep rs h1]
      rfl
    | _ => simp [intsOfD] at h
theorem repL_ofInts {T : Txt} {xp : XT} {G : Hp} {ι : Io} : ∀ ks : List Int, RepL T xp G ι (ks.map V.int) (ks.map D.int)
  | [] => .nil
  | k :: r => .cons (.int k) (repL_ofInts r)
def gSortSet (x : D) (st : Store) : Option (List Int) := (litemsOf x st).bind fun ds => (intsOfD ds).bind fun ks => if ks.length < 64 then some (sortU ks) else none
def dSortSet (m : DE) : DE := fun ρ st => (m ρ st).bind fun x s1 => match gSortSet x s1 with
  | some ks => .ok (.lst (ks.map D.int)) s1
  | none => .bad
section
variable {C : Ctx} {e : Expr} {m : DE} {x y : Str} {p q pos pos2 : Pos}
theorem pd_sortset (hc : C.X.calm = true) (g1 : Gl C.X "sorted") (m1 : C.X.mg "sorted" = none) (g2 : Gl C.X "set") (m2 : C.X.mg "set" = none) (he : PD C e m)
    (h1 : starEach [e] C.X.env = [(false, eval e C.X.env)] := by rfl)
    (h2 : starEach [.Call (.Name "set" q) [e] [] pos2] C.X.env = [(false, eval (.Call (.Name "set" q) [e] [] pos2) C.X.env)] := by rfl) :
    PD C (.Call (.Name "sorted" p) [.Call (.Name "set" q) [e] [] pos2] [] pos) (dSortSet m) := by
  refine PE.imp (pe_callB (cr_sortedSet hc) g1 m1 (by rfl) (pa_cons (pe_callTy (cr_setL hc) g2 m2 (by rfl) (pa_cons he pa_nil h1) (he := h1)) pa_nil h2) (he := h2)) fun σ H Q ⟨ρ, st, ι, er, rl, p⟩ => ?_
  refine ⟨ρ, st, ι, er, rl, post_bind p fun x s1 v ι1 H1 st1 rl1 rv p1 => ?_⟩
  cases hg : gSortSet x s1 with
  | none =>
    rw [hg] at p1
    exact p1.elim
  | some ks =>
    rw [hg] at p1
    obtain ⟨ds, e1, hg⟩ := Option.bind_eq_some_iff.mp hg
    obtain ⟨ns, e2, hg⟩ := Option.bind_eq_some_iff.mp hg
    split at hg
    · rename_i few
      cases hg
      obtain ⟨a, xs, rfl, hs, rs⟩ := litems_rep rl1 rv e1
      refine ⟨a, ns, rfl, ?_, by omega, fun p2 c le np => ?_⟩
      · rw [C.hK, ← intsD_rep rs e2]
        exact hs
      · have ⟨rl2, st2, _⟩ := rl1.new (o := SetO C.X.w p2 (fun j => decide (j ∈ ns)) c) np
        refine ⟨p2, _, c, rfl, upd_same, by omega, fun ks p3 up mem len np3 => ?_⟩
        have ⟨rl3, st3, at3⟩ := rl2.new (o := .lst (ks.map V.int)) np3
        have eq : ks = sortU ns := up_one up (sortU_up ns) fun k => by rw [mem, decide_eq_true_eq, sortU_mem]
        subst eq
        exact p1 _ ι1 _ (st2.trans st3) rl3 (.lst at3 (repL_ofInts _))
    · cases hg
end
end Den

set_option maxRecDepth 100000
set_option maxHeartbeats 4000000
/-! Den: what is never reached, a changed list that may be one already, defs called by names and defaults, defs that call themselves, repr of a dict. -/
namespace Den
open PySem PySem.Spec PyProof.Rows L2
section
variable {C : Ctx}
/-! ### what is never reached -/
def dBad : DE := fun _ _ => .bad
theorem pd_bad {e : Expr} : PD C e dBad := ⟨fun _ _ _ _ _ _ ⟨_, _, _, _, _, p⟩ => p.elim⟩
def sBad : DS := fun _ _ => .bad
theorem pds_bad {s : Stmt} : PDS C s sBad := ⟨fun _ _ _ _ _ _ ⟨_, _, _, _, _, p⟩ => p.elim⟩
/-! ### a list that may still change, or no more -/
def dFrzA (a : DE) : DE := fun ρ st => (a ρ st).bind fun d s1 => match d with
  | .box k => frzAt k s1
  | .lst xs => .ok (.lst xs) s1
  | _ => .bad
theorem pd_frzA {e : Expr} {me : DE} (h : PD C e me) : PD C e (dFrzA me) := PE.imp h fun σ H Q ⟨ρ, st, ι, er, rl, p⟩ => by
  refine ⟨ρ, st, ι, er, rl, post_bind p fun d s1 v ι1 H1 st1 rl1 rv p1 => ?_⟩
  cases rv with
  | box hk => exact frz_den rl1 hk p1
  | lst h1 r1 => exact p1 _ ι1 H1 (Step.refl _ _ _) rl1 (.lst h1 r1)
  | _ => exact p1.elim
end
/-! ### defs by names and defaults -/
/-- the def x, the text's i-th, is worth m; ways: how it may be called -/
structure DefK (P : Program) (w : World) (T : Txt) (mg : Str → Option Value) (base : Heap) (k i : Nat) (x : Str) (ps : List Str) (m : DF) (ways : List (Nat × List Str × (List D → List D → List D))) : Prop where
  ex : ∃ fd, FnG P w T.K mg base k (T.fa i) fd ps (spM T ps.length m) ∧ ∀ z ∈ ways, Bd T fd ps z.1 z.2.1 z.2.2
  g : mg x = some (.ref (T.fa i))
  kp : PySem.W.keepIn T.K (.ref (T.fa i)) = true
section
variable {C : Ctx} {k i n : Nat} {x : Str} {ps ks : List Str} {m : DF} {p pos : Pos} {e : Expr} {es : List Expr} {kws : List Keyword} {ma mk : DA} {ways : List (Nat × List Str × (List D → List D → List D))} {gD : List D → List D → List D}
theorem pd_callK (d : DefK C.X.prog C.X.w C.T C.X.mg C.X.base k i x ps m ways) (hw : (n, ks, gD) ∈ ways) (ft : Fit C k) (hg : Gl C.X x) (ha : PDA C (e :: es) ma) (hkw : PDK C kws mk)
    (hall : (backToKw pos (keywordEach kws C.X.env)).all (·.1.isSome) = true := by rfl) (hks : (backToKw pos (keywordEach kws C.X.env)).filterMap (·.1) = ks := by rfl) (hdb : (x == ("__debug__" : Str)) = false := by decide)
    (he : starEach (e :: es) C.X.env = (false, eval e C.X.env) :: starEach es C.X.env := by rfl) (hpl : ((backTo pos (starEach (e :: es) C.X.env)).any (·.1) || (backToKw pos (keywordEach kws C.X.env)).any (·.1.isNone)) = false := by rfl) :
    PD C (.Call (.Name x p) (e :: es) kws pos) (dCall n ks.length gD m ma mk) := by
  obtain ⟨fd, F, b⟩ := d.ex
  have F' : FnD C k (C.T.fa i) fd ps m := by rw [FnD, C.hK]; exact F
  exact pd_call F' ft.room ft.tk (b _ hw) hg d.g (by rw [C.hK]; exact d.kp) ha hkw hall hks hdb he hpl
theorem pd_callK0 (d : DefK C.X.prog C.X.w C.T C.X.mg C.X.base k i x ps m ways) (hw : (0, ks, gD) ∈ ways) (ft : Fit C k) (hg : Gl C.X x) (hkw : PDK C kws mk)
    (hall : (backToKw pos (keywordEach kws C.X.env)).all (·.1.isSome) = true := by rfl) (hks : (backToKw pos (keywordEach kws C.X.env)).filterMap (·.1) = ks := by rfl) (hdb : (x == ("__debug__" : Str)) = false := by decide)
    (hpl : ((backTo pos (starEach [] C.X.env)).any (·.1) || (backToKw pos (keywordEach kws C.X.env)).any (·.1.isNone)) = false := by rfl) :
    PD C (.Call (.Name x p) [] kws pos) (dCall 0 ks.length gD m dNil mk) := by
  obtain ⟨fd, F, b⟩ := d.ex
  have F' : FnD C k (C.T.fa i) fd ps m := by rw [FnD, C.hK]; exact F
  exact pd_call0 F' ft.room ft.tk (b _ hw) hg d.g (by rw [C.hK]; exact d.kp) hkw hall hks hdb hpl
end
section
variable {P : Program} {w : World} {mg : Str → Option Value} {base : Heap} {T : Txt}
/-- the def with defaults, as the written part holds it -/
structure LkD (T : Txt) (i : Nat) (x qual : Str) (st : Stmt) (dvs : List V) : Prop where
  ex : ∃ fd, FunD T.K x qual (defArgs st) (defBody st) (defScope st) dvs [] (T.fa i) fd
theorem defK_of {x qual : Str} {st : Stmt} {N ps : List Str} {k i : Nat} {m : DS} {dvs : List V} {ways : List (Nat × List Str × (List D → List D → List D))} (l : LkD T i x qual st dvs) (hg : mg x = some (.ref (T.fa i))) (S : FnScope N ps (defScope st))
    (hb : ∀ fd, FunD T.K x qual (defArgs st) (defBody st) (defScope st) dvs [] (T.fa i) fd → ∀ z ∈ ways, Bd T fd ps z.1 z.2.1 z.2.2)
    (h : ∀ (cdv : Value) (A : Around) (outer : List Env) (s : Shared) (H : Hp) (E : XK) (xp : XT), Fit ⟨cxOf (L2N.CX P w) P w T.K mg base N qual (defScope st) (T.fa i) cdv A outer s H E, T, xp, fun c d _ H' => E c d H', rfl⟩ k →
      PassesOwn (model P w) (cxOf (L2N.CX P w) P w T.K mg base N qual (defScope st) (T.fa i) cdv A outer s H E).A (cxOf (L2N.CX P w) P w T.K mg base N qual (defScope st) (T.fa i) cdv A outer s H E).env (cxOf (L2N.CX P w) P w T.K mg base N qual (defScope st) (T.fa i) cdv A outer s H E).xe →
      PDSs ⟨cxOf (L2N.CX P w) P w T.K mg base N qual (defScope st) (T.fa i) cdv A outer s H E, T, xp, fun c d _ H' => E c d H', rfl⟩ (defBody st) m) :
    DefK P w T mg base (k + 1) i x ps (body N.length ps.length m) ways := by
  obtain ⟨fd, F⟩ := l.ex
  exact ⟨⟨fd, fnD_ofD F S fun cdv A outer s H E xp hr => h cdv A outer s H E xp ⟨rfl, hr, takes_def⟩ passes_def, hb fd F⟩, hg, F.kp⟩
/-! ### a def that calls itself -/
def noF : DF := fun _ _ => .bad
theorem def_no {x qual : Str} {st : Stmt} {ps : List Str} {k i : Nat} (l : Lk T i x qual st) (hg : mg x = some (.ref (T.fa i)))
    (hb : ∀ (kV doc pm : Value) (an : Option Addr) (cdv ct : Value) (us : List Value), us.length = ps.length → bindArgs (PySem.W.fnOf x qual (defArgs st) (defBody st) (defScope st) .none kV doc pm an cdv ct) ⟨us, []⟩ = pure (ps.zip us)) : Def P w T mg base k i x ps noF := by
  obtain ⟨fd, F⟩ := l.ex
  refine ⟨⟨fd, ⟨fun vs H Q E h => h.1, fun A outer s H args us vs Q E hr e0 hb r hsp => ?_⟩, F.binds hb⟩, hg, F.kp⟩
  obtain ⟨_, _, _, _, _, _, _, p⟩ := hsp
  exact p.elim
end
/-! ### repr of a dict -/
section
variable {P : Program} {w : World} {A : Around} {E : Value → Shared → Prop} {s : Shared} {Q : Value → Shared → Prop}
theorem top_dict {a : Addr} {o : Obj} {n : Nat} {es : Array DictEntry} {ks : List Key} {ps : List PyData} (ho : s.heap.get? a = some o) (hc : o.cls = .type "dict") (hd : o.data = .dict es n) (na : (a == sysModules) = false) (hl : ks.length = ps.length)
    (hk : ReadsAll s.heap (es.toList.map (·.key)) (ks.map keyD) []) (k : KnL P w s.heap (es.toList.map (·.val)) ps) (hs : PyData.showableAll (ks.map keyD) = true) (hy : ∀ t ∈ PyData.shownAll (ks.map keyD), t.length ≤ sizeLine)
    (hg : A.guards = some []) (hu : A.units + ((PyData.dict ((ks.map keyD).zip ps)).depth + 1) < cLine) (hz : (PyData.dict ((ks.map keyD).zip ps)).shown.length ≤ sizeLine)
    (hQ : ∀ h' u tk, (∀ b o, s.heap.get? b = some o → h'.get? b = some o) → Q (.str (PyData.dict ((ks.map keyD).zip ps)).shown u) { s with heap := h', toks := tk }) : wpAny (model P w) A (call (.builtin "repr") [.ref a]) Q E s := by
  obtain ⟨⟨as, q⟩, bs, hb, kk⟩ := k
  obtain ⟨cs, hb2, k2⟩ := ReprAllK.of_readsAll (prog := P) (w := w) hk hs (fun e => by rw [(keys_low ks).1] at e; cases e) hy
  have lp : (ks.map keyD).length = ps.length := (List.length_map ..).trans hl
  have f1 : ((ks.map keyD).zip ps).map (·.1) = ks.map keyD := List.map_fst_zip (Nat.le_of_eq lp)
  have f2 : ((ks.map keyD).zip ps).map (·.2) = ps := List.map_snd_zip (Nat.le_of_eq lp.symm)
  have r : Reads s.heap (.ref a) (.dict ((ks.map keyD).zip ps)) _ := .dict ho hc hd (f1.symm ▸ hk) (f2.symm ▸ q)
  have dk := PyData.depthAll_keys_le ((ks.map keyD).zip ps)
  have dv := PyData.depthAll_vals_le ((ks.map keyD).zip ps)
  rw [f1] at dk
  rw [f2] at dv
  have out := not_mem_of_deeper r (by simp only [PyData.depth]; omega) ((hb2.mono dk).append (hb.mono dv))
  have ent := ReprEntriesK.of_two _ _ _ (k2.more_le (fun _ z => List.mem_append_left bs z) dk) (kk.more_le (fun _ z => List.mem_append_right cs z) dv)
  simp only [PyData.depth] at hu
  simp only [PyData.shown, PyData.shownKv_eq, f1, f2] at hz hQ
  exact call_repr_slot (by omega) ⟨o, ho, hc⟩ F.slot_dict_repr (call_dict_reprK ho hc hd na out ent hg (fun b _ => Clear.nil b) (by show A.units + 1 + _ < cLine; omega) (fun _ _ e => e) (fun h' u tk hk => ⟨_, _, rfl, hQ h' u tk hk⟩) hz)
end
def gReprK (x : D) (_ : Store) : Option D := if isDic x = true then (match toPyR x with
  | some p => if p.showable = true ∧ p.depth ≤ 60 ∧ p.shown.length ≤ 1000000 then some (.str p.shown) else none
  | none => none) else none
def rReprK (C : Ctx) : List V → Hp → VK → Prop := fun xs H Q => ∃ ι st v x p, xs = [v] ∧ RelSt C.T C.xp ι st H ∧ Rep C.T C.xp (hide ι st H) ι v x ∧ toPyR x = some p ∧ isDic x = true ∧ p.showable = true ∧ p.depth ≤ 60 ∧ p.shown.length ≤ 1000000 ∧ Q (.str p.shown) H
theorem call_reprK {C : Ctx} (hg : C.X.A.guards = some []) (hu : C.X.A.units + 64 < cLine) : CallR C.X (.builtin "repr") (rReprK C) := by
  intro pins s σ H xs us Q I r h
  obtain ⟨ι, st, v, x, p, rfl, rl, rv, hp, h0, h1, h2, h3, q⟩ := h
  obtain ⟨u, rfl, ru⟩ := vals1 r
  have sd : shortD p := ⟨h1, Nat.le_trans h3 (by decide)⟩
  cases rv with
  | dic g1 hl rr =>
    rename_i ks xs ds
    cases ru
    simp only [toPyR] at hp
    split at hp
    · obtain ⟨ps, e2, rfl⟩ := Option.map_eq_some_iff.mp hp
      obtain ⟨_, _, hns, vs, kv, o, es, ep, ho, ex, hd, hk, hp2, _⟩ := I.hok _ _ (hide_le _ _ _ _ _ g1)
      obtain ⟨hv, hkeys⟩ := dict_parts (h := s.heap) hl kv hp2
      have lp : ks.length = ps.length := by
        rw [toPyRL_len e2, ← rr.length]
        exact hl
      have lq : (ks.map keyD).length = ps.length := by rw [List.length_map]; exact lp
      obtain ⟨s1, s2⟩ := short_dict sd
      rw [List.map_fst_zip (Nat.le_of_eq lq)] at s1
      rw [List.map_snd_zip (Nat.le_of_eq lq.symm)] at s2
      exact top_dict ho ex.1 hd hns lp hkeys (kn_ofL I (hide_le _ _ _) rr e2 hv s2) s1.1 s1.2 hg (by omega) sd.2 fun h' u tk hk => ⟨.str _, H, I.kept (t' := tk) hk, ⟨_, rfl⟩, q⟩
    · cases hp
  | _ => cases h0
theorem blt_reprK {C : Ctx} (hg : C.X.A.guards = some []) (hu : C.X.A.units + 64 < cLine) : BltD C "repr" (one gReprK) := ⟨_, call_reprK hg hu, fun ι st H xs ds d st' Q rl rx e k => by
  obtain ⟨x, rfl, hgr, rfl⟩ := one_some e
  obtain ⟨v, rfl, rv⟩ := repL_one rx
  unfold gReprK at hgr
  split at hgr
  · rename_i h0
    split at hgr
    · rename_i p hp
      split at hgr
      · rename_i hc
        cases hgr
        exact ⟨ι, _, v, x, p, rfl, rl, rv, hp, h0, hc.1, hc.2.1, hc.2.2, k _ ι H (Step.refl _ _ _) rl (.str _)⟩
      · cases hgr
    · cases hgr
  · cases hgr⟩
/-- repr of plain data, a dict too -/
theorem blt_reprA {C : Ctx} (hg : C.X.A.guards = some []) (hu : C.X.A.units + 64 < cLine) : BltD C "repr" (orB (one gRepr) (one gReprK)) := BltD.or (blt_repr hg hu) (blt_reprK hg hu)
end Den

set_option maxRecDepth 100000
set_option maxHeartbeats 4000000
/-! Den: errors as values: made (with and without an __init__ of their own, by places and names), their fields, isinstance of them. -/
namespace Den
open PySem PySem.Spec

/-! ### an own class of errors called, places and names -/
section
open PySem.Builtin PySem.Builtin.ObjectAttr
variable {M : Model} {prog : Program} {w : World} {A : Around} {E : Value → Shared → Prop} {R : Result → Shared → Prop} {hp : Heap} {gs : Array GenState} {dr : Drawn} {tk : Nat} {os : OsState}
variable {nm qn : Str} {C N fI : Addr} {bs bm bmB sub us : List Value} {hdct ab : Bool} {sn : List Str} {col : Option Bool} {dd : Option Addr} {k0 k1 k2 k3 k5 : Option Value} {B nid iid : String} {kw : List (Str × Value)}
abbrev kin (bm bmB : List Value) : Prop := ∀ Y : String, bm.contains (.type Y) = bmB.contains (.type Y)
theorem new_check (FB : ExcBaseFacts B nid iid bmB) (hT : kin bm bmB) {Q : Unit → Shared → Prop} (hc : hp.get? C = some (excClassObj nm qn C N bs bm hdct sn sub ab col dd k0 k1 k2 k3 k5 nid)) (q : Q () ⟨hp, gs, dr, tk, os⟩) :
    wpAny M A (checkBuiltinCall nid ⟨.ref C :: us, kw⟩) Q E ⟨hp, gs, dr, tk, os⟩ := by
  have c1 : (Value.ref C :: bm).contains (.type B) = true := by rw [List.contains_cons, hT, FB.hasB, Bool.or_true]
  have c2 := FB.noStar
  simp only [checkBuiltinCall, FB.newKind, FB.newSplit, FB.newRow]
  repeat (first
    | refine wpAny_loadPart_at hc ?_
    | (refine wpAny_isSubtype_exc hc ?_; rw [c1])
    | refine wpAny_staticBase_exc hc ?_
    | refine wpAny_madeBy_exc hc ?_
    | simp only [bne_self_eq_false, Bool.false_eq_true, if_false]
    | wp_step)
  exact q
theorem new_made (FB : ExcBaseFacts B nid iid bmB) (hT : kin bm bmB) (hc : hp.get? C = some (excClassObj nm qn C N bs bm hdct sn sub ab col dd k0 k1 k2 k3 k5 nid)) (hz : us.length ≤ sizeLine)
    (q : R (.ok (.ret (.ref (hp.objs.size + 1)))) ⟨(hp.push (PySem.W.kdv_tup us)).push (HandSPX.excO C hp.objs.size), gs, dr, tk, os⟩) : codeAny (model prog w) A (.builtin nid ⟨.ref C :: us, kw⟩) R ⟨hp, gs, dr, tk, os⟩ := by
  have e0 := FB.ends
  have c1 : (Value.ref C :: bm).contains (.type B) = true := by rw [List.contains_cons, hT, FB.hasB, Bool.or_true]
  have c2 : (Value.ref C :: bm).contains (.type "AttributeError") = false := by rw [List.contains_cons, hT, FB.noAttr]; rfl
  have c3 : (Value.ref C :: bm).contains (.type "NameError") = false := by rw [List.contains_cons, hT, FB.noName]; rfl
  refine codeAny_builtinAt FB.entry ?_
  unfold Builtin.«BaseException.__new__»
  refine wpAt_bind ?_
  show wpAt _ _ _ (stack >>= _) _ _ _
  refine wpAt_bind (wpAt_stack fun p0 b0 => wpAt_of_wpAny ?_)
  wp_walk
  refine wpAt_of_wpAny ?_
  rw [FB.owner]
  repeat (first
    | with_reducible refine wpAny_madeHere_exc FB.canon hc ?_
    | with_reducible refine wpAny_loadPart_at hc ?_
    | (with_reducible refine wpAny_isSubtype_exc hc ?_; first | rw [c1] | rw [c2] | rw [c3])
    | wp_step)
  show R _ _
  rw [Heap.size_push]
  exact q
theorem type_called (FB : ExcBaseFacts B nid iid bmB) (hT : kin bm bmB) {Q : Fin → Shared → Prop} (hc : hp.get? C = some (excClassObj nm qn C N bs bm hdct sn sub ab col dd k0 k1 k2 k3 k5 nid))
    (hi : PySem.W.Looks (model prog w) hp (typeLookup (.ref C) "__init__") (some (.ref fI))) (hb : ∀ self, PySem.W.Looks (model prog w) hp (bindSpecial (.ref fI) self) (.ref fI, [self])) (hz : us.length ≤ sizeLine)
    (q : codeAny (model prog w) A (.call (.ref fI) ⟨.ref (hp.objs.size + 1) :: us, kw⟩)
      (fun r s' => match r with
        | .ok (.ret v) => v = .none ∧ Q (.done (.ret (.ref (hp.objs.size + 1)))) s'
        | .ok _ => False
        | .error e => E e s') ⟨(hp.push (PySem.W.kdv_tup us)).push (HandSPX.excO C hp.objs.size), gs, dr, tk, os⟩) :
    wpAny (model prog w) A (Builtin.«type.__call__» ⟨.ref C :: us, kw⟩) Q E ⟨hp, gs, dr, tk, os⟩ := by
  repeat (first
    | with_reducible refine wpAny_loadPart_at hc ?_
    | with_reducible refine wpAny_madeBy_exc hc ?_
    | wp_step)
  refine codeAny_call_builtin_code (Code.quiet_builtin _ FB.quiet) (new_check FB hT hc ?_)
  refine new_made FB hT hc hz ?_
  show wpAny _ _ _ _ _ _
  have k : ∀ (b : Addr) (o : Obj), hp.get? b = some o → ((hp.push (PySem.W.kdv_tup us)).push (HandSPX.excO C hp.objs.size)).get? b = some o := fun b o e => Heap.get?_push_of_some _ (Heap.get?_push_of_some _ e)
  have hc1 := k _ _ hc
  have hg : ((hp.push (PySem.W.kdv_tup us)).push (HandSPX.excO C hp.objs.size)).get? (hp.objs.size + 1) = some (HandSPX.excO C hp.objs.size) := by heap_get
  have cc : (Value.ref C :: bm).contains (.ref C) = true := by simp
  have i1 := hi.keeps k
  have b1 := (hb (.ref (hp.objs.size + 1))).keeps k
  unfold isInstance
  repeat (first
    | with_reducible refine wpAny_loadPart_at hg ?_
    | (with_reducible refine wpAny_isSubtype_exc hc1 ?_; rw [cc])
    | wp_step)
  show wpAny _ _ (typeLookup (.ref C) _) _ _ _
  refine i1.at ?_
  refine wpAny_holding (wpAny_bind (b1.at ?_))
  refine wpAny_bind (wpAny_call (codeAny_mono q fun r s' z => ?_))
  rcases r with e | (v | _ | _ | _) <;> first
    | exact z
    | exact z.elim
    | skip
  obtain ⟨rfl, z⟩ := z
  first
    | exact wpAny_pure (wpAny_pure z)
    | (wp_walk; exact z)
theorem class_called (FB : ExcBaseFacts B nid iid bmB) (hT : kin bm bmB) (hc : hp.get? C = some (excClassObj nm qn C N bs bm hdct sn sub ab col dd k0 k1 k2 k3 k5 nid))
    (hi : PySem.W.Looks (model prog w) hp (typeLookup (.ref C) "__init__") (some (.ref fI))) (hb : ∀ self, PySem.W.Looks (model prog w) hp (bindSpecial (.ref fI) self) (.ref fI, [self])) (hz : us.length ≤ sizeLine)
    (q : codeAny (model prog w) (A.under (.builtin "type.__call__" ⟨.ref C :: us, kw⟩)) (.call (.ref fI) ⟨.ref (hp.objs.size + 1) :: us, kw⟩) (PySem.W.InitBack (hp.objs.size + 1) R)
      ⟨(hp.push (PySem.W.kdv_tup us)).push (HandSPX.excO C hp.objs.size), gs, dr, tk, os⟩) : codeAny (model prog w) A (.call (.ref C) ⟨us, kw⟩) R ⟨hp, gs, dr, tk, os⟩ := by
  have t1 := tc_lookup
  have t2 := tc_bind (.ref C)
  have hty : (⟨hp, gs, dr, tk, os⟩ : Shared).TypeIs (.ref C) "type" := ⟨_, hc, rfl⟩
  refine codeAny_of_tree ?_
  show wpAny _ _ (callAny (.ref C) _) _ _ _
  repeat (any_goals (first
    | assumption
    | with_reducible refine wpAny_loadPart_at hc ?_
    | wp_step))
  refine ⟨rfl, ?_⟩
  have ty : PySem.W.Looks (model prog w) hp (isInstance (.ref C) (.type "type")) true := by
    have a1 : PySem.W.Looks (model prog w) hp (typeOf (.ref C)) (.type "type") := (PySem.W.Looks.ld hc).andThen .now
    exact a1.andThen (PySem.W.Looks.of_pure tc_sub)
  refine codeAny_call_builtin_at (Code.quiet_builtin _ (by decide +kernel)) entry_typeCall (PySem.W.check_slot tc_kind tc_split ty (PySem.W.tc_args _ _ _) (type_called FB hT hc hi hb hz ?_))
  refine codeAny_mono q fun r s' z => ?_
  rcases r with e | (v | _ | _ | _) <;> exact z
end
end Den

set_option maxRecDepth 100000
set_option maxHeartbeats 4000000
/-! Den: an own error's __init__ that keeps its arguments; such an error as a value. -/
namespace Den
open PySem PySem.Spec PyProof.Rows L2

/-! ### fields put on an error -/
/-- what the text says of a class of errors: B its built-in base -/
structure ErrK (K : PySem.W.Frag) (C : Addr) (bmB : List Value) (nid : String) : Prop where
  q : PySem.W.excInitIn K C bmB nid = true
  ov : PySem.W.excOver K C bmB = true
  hd : PySem.W.hasDictIn K C = true
  sa : PySem.W.findIn K (.ref C) "__setattr__" = some (some (.builtin "object.__setattr__"))
  kp : PySem.W.keepIn K (.ref C) = true
section
open PySem.Builtin PySem.Builtin.ObjectAttr
variable {prog : Program} {w : World} {A : Around} {R : Result → Shared → Prop} {hp : Heap} {gs : Array GenState} {dr : Drawn} {tk : Nat} {os : OsState} {K : PySem.W.Frag} {C x dx : Addr} {bmB : List Value} {nid B : String} {f : Str} {t0 : Tok} {u : Value} {fv : Array Value}
theorem taker_no (no : PySem.W.findIn K (.ref C) f = some none) : PySem.W.takerIn K C f = some none := by
  unfold PySem.W.takerIn
  rw [no]
  rfl
theorem osa_first (SF : StoreFacts B bmB "object.__setattr__" "object") (T : ErrK K C bmB nid) (no : PySem.W.findIn K (.ref C) f = some none) (kin : K.In hp) (hx : hp.get? x = some { cls := .ref C, data := .fields fv })
    (q : ∀ h2 t2 d, (∀ (b : Addr) (o : Obj), b ≠ x → hp.get? b = some o → h2.get? b = some o) → hp.objs.size ≤ d → d ≠ x → h2.get? x = some { cls := .ref C, dict := some d, data := .fields fv } → h2.Ns1 d (fun y => if y = f then some u else none) →
      R (.ok (.ret .none)) ⟨h2, gs, dr, t2, os⟩) : codeAny (model prog w) A (.call (.builtin "object.__setattr__") ⟨[.ref x, .str f t0, u], []⟩) R ⟨hp, gs, dr, tk, os⟩ := by
  have nx : x ≠ hp.objs.size := Nat.ne_of_lt (Heap.lt_size hx)
  refine PySem.W.osa_openX (s := ⟨hp, gs, dr, tk, os⟩) (ox := { cls := .ref C, data := .fields fv }) (od := none) SF kin ⟨hx, rfl, rfl, trivial⟩ T.ov (taker_no no) fun b => ?_
  obtain ⟨cd, hcd, hd'⟩ := PySem.W.any_some T.hd
  have lc : PySem.W.Looks (model prog w) hp (classData C) cd := PySem.W.looks_clsIn kin hcd
  obtain ⟨n0, bs, mro, ns, qn, hd, sn, sb, ab, col, del⟩ := cd
  dsimp only at hd'
  subst hd'
  dsimp only
  unfold storeInOwnDict ownDictForStores
  repeat (first
    | with_reducible refine HandSPX.store_in_new ?_ ?_
    | with_reducible refine wpAny_loadPart_at hx ?_
    | with_reducible refine lc.at ?_
    | wp_step)
  · exact ⟨_, #[], _, (Heap.get?_update_ne _ _ _ _ nx.symm).trans (Heap.get?_push_at rfl rfl), rfl, fun e he => absurd he (by simp), fun _ => rfl⟩
  · intro h2 t2 n2 sm
    have hx1 : (hp.push { cls := .type "dict", data := .dict #[] }).get? x = some { cls := .ref C, data := .fields fv } := Heap.get?_push_of_some _ hx
    refine q h2 t2 hp.objs.size (fun b o nb ho => ?_) (Nat.le_refl _) nx.symm ?_ n2
    · exact (sm.2 b (Nat.ne_of_lt (Heap.lt_size ho))).trans ((Heap.get?_update_ne _ _ _ _ nb).trans (Heap.get?_push_of_some _ ho))
    · exact (sm.2 x nx).trans (Heap.get?_update_self _ hx1 rfl)
theorem osa_next {m0 : Str → Option Value} {nl : List Str} (SF : StoreFacts B bmB "object.__setattr__" "object") (T : ErrK K C bmB nid) (no : PySem.W.findIn K (.ref C) f = some none) (kin : K.In hp) (hx : hp.get? x = some { cls := .ref C, dict := some dx, data := .fields fv })
    (hn : hp.Ns1 dx m0) (hw : Within m0 nl) (hz : nl.length ≤ 1000)
    (q : ∀ h2 t2, (∀ (b : Addr) (o : Obj), b ≠ dx → hp.get? b = some o → h2.get? b = some o) → h2.Ns1 dx (fun y => if y = f then some u else m0 y) → R (.ok (.ret .none)) ⟨h2, gs, dr, t2, os⟩) :
    codeAny (model prog w) A (.call (.builtin "object.__setattr__") ⟨[.ref x, .str f t0, u], []⟩) R ⟨hp, gs, dr, tk, os⟩ := by
  obtain ⟨oD, _, _, hoD, _, _⟩ := hn.count hw
  refine PySem.W.osa_openX (s := ⟨hp, gs, dr, tk, os⟩) (ox := { cls := .ref C, dict := some dx, data := .fields fv }) (od := some oD) SF kin ⟨hx, rfl, rfl, hoD⟩ T.ov (taker_no no) fun b => ?_
  obtain ⟨cd, hcd, hd'⟩ := PySem.W.any_some T.hd
  have lc : PySem.W.Looks (model prog w) hp (classData C) cd := PySem.W.looks_clsIn kin hcd
  obtain ⟨n0, bs, mro, ns, qn, hd, sn, sb, ab, col, del⟩ := cd
  dsimp only at hd'
  subst hd'
  dsimp only
  unfold storeInOwnDict ownDictForStores
  repeat (first
    | with_reducible refine PySem.OEX.store_in_old hn hw hz ?_
    | with_reducible refine wpAny_loadPart_at hx ?_
    | with_reducible refine lc.at ?_
    | wp_step)
  intro h2 t2 n2 sm
  exact q h2 t2 (fun b o nb ho => (sm.2 b nb).trans ho) n2
end
section
variable {X : Cx} {pins : List (Addr × Obj)} {σ : L2.St} {H : Hp} {s : Shared} {a C dx : Addr} {f : Str} {y : V} {u : Value} {fs : List (Str × V)} {Q : Unit → Shared → Prop} {E : Value → Shared → Prop} {A : Around} {bmB : List Value} {nid B : String}
theorem put_first (SF : StoreFacts B bmB "object.__setattr__" "object") (T : ErrK X.K C bmB nid) (I : Inv X pins σ H s) (e : H a = some (exo a C none)) (no : PySem.W.findIn X.K (.ref C) f = some none) (ry : RelV y u)
    (h : ∀ d s2, H d = none → d ≠ a → Inv X pins σ (upd (upd H d (exd d [(f, y)])) a (exo a C (some d))) s2 → Q () s2) : wpAny (model X.prog X.w) A (setAttr (.ref a) f u) Q E s := by
  obtain ⟨t1, ho⟩ := exo_at I.hok e
  obtain ⟨hp, g, d, t, os⟩ := s
  refine PySem.W.set_plain I.kIn (ox := HandSPX.excO C t1) (od := none) ⟨ho, rfl, rfl, trivial⟩ T.sa ?_
  refine osa_first SF T no I.kIn ho fun h2 t2 d2 kp dn dne hx hn => ?_
  have hd0 : H d2 = none := I.hok.fresh dn
  have old : ∀ {b : Addr} {o : Obj}, hp.get? b = some o → b ≠ d2 := fun {b o} z => Nat.ne_of_lt (Nat.lt_of_lt_of_le (Heap.lt_size z) dn)
  have off : ∀ {b : Addr}, H b = none → b ≠ a := fun {b} n z => by
    rw [z, e] at n
    cases n
  have look : ∀ {b : Addr} {o : HO}, H b = some o → b ≠ a → upd (upd H d2 (exd d2 [(f, y)])) a (exo a C (some d2)) b = some o := fun {b o} z nb => by
    rw [upd_ne nb, upd_ne (ne_of_none z hd0)]
    exact z
  have un : Un X.fs [] H (upd (upd H d2 (exd d2 [(f, y)])) a (exo a C (some d2))) hp h2 := {
    keep := fun b o z n _ _ => kp b o (off n) z
    slot := fun b o z n _ _ => ⟨o.slots, kp b o (off n) z⟩
    free := fun b o z n _ => by
      rw [upd_ne (off n), upd_ne (old z)]
      exact n
    there := fun b o z _ => by
      by_cases hb : b = a
      · subst hb
        exact ⟨_, hx⟩
      · exact ⟨o, kp b o hb z⟩
    tups := fun b xs z => look z (at_ne e z exo_tup)
    frzs := fun b o v z => look z (at_ne e z exo_frz)
    tbls := fun b ps z => ⟨#[], by
      rw [look z (at_ne e z exo_tbl)]
      simp⟩ }
  refine h d2 _ hd0 dne (I.un (t' := t2) un fun b o z => ?_)
  by_cases hb : b = a
  · subst hb
    rw [upd_same] at z
    cases z
    exact exo_ok hx
  · rw [upd_ne hb] at z
    by_cases hd : b = d2
    · subst hd
      rw [upd_same] at z
      cases z
      exact exd_ok hn (relO_put (fs := []) ry fun g => True.intro)
    · rw [upd_ne hd] at z
      refine (I.hok b o z).stay (fun c v hc k => kp c v ?_ k) (fun c hc => look hc (at_ne e hc exo_own)) fun c xs hc => look hc (at_ne e hc exo_tup)
      rcases hc with hc | hc
      · rw [hc]
        exact hb
      · exact at_ne e hc exo_own
theorem put_next (SF : StoreFacts B bmB "object.__setattr__" "object") (T : ErrK X.K C bmB nid) (I : Inv X pins σ H s) (e : H a = some (exo a C (some dx))) (ed : H dx = some (exd dx fs)) (few : fs.length ≤ 900) (no : PySem.W.findIn X.K (.ref C) f = some none) (ry : RelV y u)
    (h : ∀ s2, Inv X pins σ (upd H dx (exd dx ((f, y) :: fs))) s2 → Q () s2) : wpAny (model X.prog X.w) A (setAttr (.ref a) f u) Q E s := by
  obtain ⟨t1, ho⟩ := exo_at I.hok e
  obtain ⟨mA, hn, rel⟩ := exd_at I.hok ed
  have hw := within_of rel
  obtain ⟨hp, g, d, t, os⟩ := s
  obtain ⟨oD, _, _, hoD, _, _⟩ := hn.count hw
  refine PySem.W.set_plain I.kIn (ox := { cls := .ref C, dict := some dx, data := .fields #[.ref t1, .none, .none, .none, .bool false, .none] }) (od := some oD) ⟨ho, rfl, rfl, hoD⟩ T.sa ?_
  refine osa_next SF T no I.kIn ho hn hw (by rw [List.length_map]; omega) fun h2 t2 kp n2 => ?_
  have there : ∃ o, h2.get? dx = some o := by
    obtain ⟨o, _, _, e', _⟩ := n2
    exact ⟨o, e'⟩
  refine h _ (I.write (t' := t2) (x := dx) (e := dx) (o := exd dx ((f, y) :: fs)) ?_ (.inl rfl) kp there (exd_ok n2 (relO_put ry rel)))
  rw [ed]
  exact True.intro
end
/-- one more field of the error at a -/
def PutC (K : PySem.W.Frag) (C : Addr) (f : Str) : Prop := ∃ B bmB nid, StoreFacts B bmB "object.__setattr__" "object" ∧ ErrK K C bmB nid ∧ PySem.W.findIn K (.ref C) f = some none
def tPut (K : PySem.W.Frag) (f : Str) (to te : TE) : TS := fun D σ H => te σ H fun y H1 => to σ H1 fun x H2 => ∃ a C : Addr, x = .ref a ∧ PutC K C f ∧
  ((H2 a = some (exo a C none) ∧ ∀ d, H2 d = none → d ≠ a → D.nx σ (upd (upd H2 d (exd d [(f, y)])) a (exo a C (some d)))) ∨
    ∃ (d : Addr) (fs : List (Str × V)), H2 a = some (exo a C (some d)) ∧ H2 d = some (exd d fs) ∧ fs.length ≤ 900 ∧ D.nx σ (upd H2 d (exd d ((f, y) :: fs))))
theorem ps_put {X : Cx} {o e : Expr} {to te : TE} {f : Str} {p' pos : Pos} (ho : PE X o to) (he : PE X e te) (hs : swapsWith e (some (.Attribute o f p')) pos.line X.env = pure false := by rfl) : PS X (.Assign [.Attribute o f p'] e pos) (tPut X.K f to te) := by
  refine ⟨fun pins s σ H D I h => ?_⟩
  refine plainObj_wpAny_Assign_Attribute (thn (he.run pins s σ H _ I h) fun v s1 ⟨y, H1, I1, r1, q1⟩ => thn (ho.run pins s1 σ H1 _ I1 q1) fun u s2 ⟨x, H2, I2, r2, a, C, ex, hp, q⟩ => ?_) hs
  subst ex
  obtain rfl : u = Value.ref a := r2
  obtain ⟨B, bmB, nid, SF, T, no⟩ := hp
  rcases q with ⟨ea, q⟩ | ⟨d, fs, ea, ed, few, q⟩
  · exact put_first SF T I2 ea no r1 fun d s' n ne J => ⟨σ, _, J, q d n ne⟩
  · exact put_next SF T I2 ea ed few no r1 fun s' J => ⟨σ, _, J, q⟩
/-! ### the whole of such an __init__ -/
/-- at σ0, self at a: the fields l are still to be put -/
def tFill (σ0 : L2.St) (a C : Addr) (l : List (Str × V)) : TS := fun D σ H => σ = σ0 ∧
  ((H a = some (exo a C none) ∧ l ≠ [] ∧ l.length ≤ 900 ∧ ∀ d, H d = none → d ≠ a → D.nx σ0 (upd (upd H a (exo a C (some d))) d (exd d l.reverse))) ∨
    ∃ (d : Addr) (fs : List (Str × V)), d ≠ a ∧ H a = some (exo a C (some d)) ∧ H d = some (exd d fs) ∧ fs.length + l.length ≤ 900 ∧ D.nx σ0 (upd H d (exd d (l.reverse ++ fs))))
theorem upd_at {H : Hp} {d : Addr} {o : HO} (h : H d = some o) : upd H d o = H := by
  funext b
  by_cases e : b = d
  · rw [e, upd_same, h]
  · rw [upd_ne e]
theorem upd_swap {H : Hp} {a b : Addr} {o u : HO} (n : a ≠ b) : upd (upd H a o) b u = upd (upd H b u) a o := by
  funext c
  by_cases e : c = b
  · subst e
    rw [upd_same, upd_ne (Ne.symm n), upd_same]
  · rw [upd_ne e]
    by_cases e2 : c = a
    · subst e2
      rw [upd_same, upd_same]
    · rw [upd_ne e2, upd_ne e2, upd_ne e]
section
variable {X : Cx} {σ0 : L2.St} {a C : Addr} {l : List (Str × V)}
theorem pss_fill0 : PSs X [] (tFill σ0 a C []) := PSs.imp pss_nil fun D σ H ⟨e, q⟩ => by
  subst e
  rcases q with ⟨_, n, _, _⟩ | ⟨d, fs, _, ea, ed, _, q⟩
  · exact absurd rfl n
  · rw [show ([] : List (Str × V)).reverse ++ fs = fs from rfl, upd_at ed] at q
    exact q
theorem pss_fill {f x z : Str} {y : V} {i : Nat} {rest : List Stmt} {p1 p2 p3 pos : Pos} (hp : PutC X.K C f) (hs : X.N[0]? = some z) (hv : Vis X.env.scope z) (hx : X.N[i]? = some x) (hw : Vis X.env.scope x) (h0 : σ0[0]? = some (some (.ref a))) (hi : σ0[i]? = some (some y)) (hr : PSs X rest (tFill σ0 a C l))
    (hd : (z == ("__debug__" : Str)) = false := by decide) (hcd : (z == ("__classdict__" : Str)) = false := by decide) (hd' : (x == ("__debug__" : Str)) = false := by decide) (hcd' : (x == ("__classdict__" : Str)) = false := by decide)
    (hsw : swapsWith (.Name x p2) (some (.Attribute (.Name z p1) f p3)) pos.line X.env = pure false := by rfl) :
    PSs X (.Assign [.Attribute (.Name z p1) f p3] (.Name x p2) pos :: rest) (tFill σ0 a C ((f, y) :: l)) := by
  refine PSs.imp (pss_cons (ps_put (pe_var hs hv hd hcd) (pe_var hx hw hd' hcd') hsw) hr) fun D σ H ⟨e, q⟩ => ?_
  subst e
  refine ⟨y, hi, .ref a, h0, a, C, rfl, hp, ?_⟩
  rcases q with ⟨ea, _, few, q⟩ | ⟨d, fs, nd, ea, ed, few, q⟩
  · refine .inl ⟨ea, fun d hd n => ⟨rfl, .inr ⟨d, [(f, y)], n, upd_same, (upd_ne n).trans upd_same, ?_, ?_⟩⟩⟩
    · simp only [List.length_cons, List.length_nil] at few ⊢
      omega
    · have := q d hd n
      rw [List.reverse_cons] at this
      rw [upd_swap n, upd_two]
      exact this
  · refine .inr ⟨d, fs, ea, ed, by simp only [List.length_cons] at few; omega, rfl, .inr ⟨d, (f, y) :: fs, nd, (upd_ne (Ne.symm nd)).trans ea, upd_same, by simp only [List.length_cons] at few ⊢; omega, ?_⟩⟩
    rw [List.reverse_cons, List.append_assoc] at q
    rw [upd_two]
    exact q
end
end Den

set_option maxRecDepth 100000
set_option maxHeartbeats 4000000
/-! Den: calls of classes of errors, their fields, isinstance of errors as values. -/
namespace Den
open PySem PySem.Spec PyProof.Rows L2

/-! ### an error's __init__ -/
/-- __init__(self, f1, ..) of the error class c: it keeps all -/
def spErr (T : Txt) (c : Nat) : Sp := fun vs H Q _ => ∃ (a : Addr) (ws : List V), vs = .ref a :: ws ∧ ws.length = (T.fl c).length ∧ H a = some (exo a (T.ca c) none) ∧ ∀ d, H d = none → d ≠ a → Q .non (upd (upd H a (exo a (T.ca c) (some d))) d (exd d ((T.fl c).zip ws).reverse))
theorem init_fill {P : Program} {w : World} {mg : Str → Option Value} {base : Heap} {T : Txt} {qual : Str} {params : Arguments} {bd : List Stmt} {scope : Scope} {dvs : List V} {f : Addr} {fd : FuncData} {N ps : List Str} {k c : Nat} (F : FunD T.K "__init__" qual params bd scope dvs [] f fd) (S : FnScope N ps scope)
    (hl : ps.length = (T.fl c).length + 1) (hne : T.fl c ≠ []) (few : (T.fl c).length ≤ 900)
    (h : ∀ (cdv : Value) (A : Around) (outer : List Env) (s : Shared) (H : Hp) (E : XK) (a : Addr) (ws : List V), ws.length = (T.fl c).length →
      PSs (cxOf (L2N.CX P w) P w T.K mg base N qual scope f cdv A outer s H E) bd (tFill (L2.start N (.ref a :: ws)) a (T.ca c) ((T.fl c).zip ws))) : FnG P w T.K mg base (k + 1) f fd ps (spErr T c) := by
  refine fnG_ofD F S (fun vs H Q E ⟨a, ws, e, l, _⟩ => ?_) fun cdv A outer s H vs Q E _ ⟨a, ws, e, l, ea, q⟩ => ?_
  · rw [e, hl, ← l]
    rfl
  · subst e
    refine ⟨_, h cdv A outer s H E a ws l, rfl, .inl ⟨ea, ?_, ?_, q⟩⟩
    · intro z
      have z2 := congrArg List.length z
      rw [List.length_zip, l, Nat.min_self] at z2
      exact hne (List.eq_nil_of_length_eq_zero z2)
    · rw [List.length_zip, l, Nat.min_self]
      exact few
/-- how a call of an error's class binds: g puts all in the fields' order -/
structure BdE (T : Txt) (fd : FuncData) (ps : List Str) (n : Nat) (ks : List Str) (dds : List D) (g : (α : Type) → List α → List α → List α → List α) : Prop where
  ex : ∃ (dvs : List V) (its : List Value), Vals dvs its ∧ (∀ xp G ι, RepL T xp G ι dvs dds) ∧ (∀ vs zs, vs.length = n → zs.length = ks.length → (g V vs dvs zs).length + 1 = ps.length) ∧
    ∀ (s : Shared) (self : Value) (us ws : List Value), T.K.In s.heap → us.length = n → ws.length = ks.length → BindsTo s fd ⟨self :: us, ks.zip ws⟩ (ps.zip (self :: g Value us its ws))
  rel : ∀ {vs ds zs : List V} {us its ws : List Value}, Vals vs us → Vals ds its → Vals zs ws → Vals (g V vs ds zs) (g Value us its ws)
  rep : ∀ xp G ι {vs ds zs : List V} {us its ws : List D}, RepL T xp G ι vs us → RepL T xp G ι ds its → RepL T xp G ι zs ws → RepL T xp G ι (g V vs ds zs) (g D us its ws)
section
variable {T : Txt} {fd : FuncData} {ps ks : List Str} {n : Nat} {x qual : Str} {params : Arguments} {bd : List Stmt} {scope : Scope} {f : Addr}
theorem bdE_no (g : (α : Type) → List α → List α → List α → List α) (F : FunD T.K x qual params bd scope [] [] f fd)
    (hrel : ∀ {vs ds zs : List V} {us its ws : List Value}, Vals vs us → Vals ds its → Vals zs ws → Vals (g V vs ds zs) (g Value us its ws))
    (hrep : ∀ xp G ι {vs ds zs : List V} {us its ws : List D}, RepL T xp G ι vs us → RepL T xp G ι ds its → RepL T xp G ι zs ws → RepL T xp G ι (g V vs ds zs) (g D us its ws))
    (hlen : ∀ vs zs : List V, vs.length = n → zs.length = ks.length → (g V vs [] zs).length + 1 = ps.length)
    (h : ∀ (kV doc pm : Value) (an : Option Addr) (cdv ct self : Value) (us ws : List Value), us.length = n → ws.length = ks.length →
      bindArgs (PySem.W.fnOf x qual params bd scope .none kV doc pm an cdv ct) ⟨self :: us, ks.zip ws⟩ = pure (ps.zip (self :: g Value us [] ws))) : BdE T fd ps n ks [] g := by
  obtain ⟨oc, od, dV, kV, doc, pm, an, cdv, ct, osl, rfl, lk, hcd, hD, hK⟩ := F.ex
  rcases hD with ⟨_, rfl⟩ | ⟨e, _⟩
  · exact ⟨⟨[], [], .nil, fun _ _ _ => .nil, hlen, fun s self us ws X l1 l2 => BindsTo.of_looks fun M => PySem.W.Looks.of_pure (h kV doc pm an cdv ct self us ws l1 l2)⟩, hrel, hrep⟩
  · exact absurd rfl e
theorem bdE_dfl {dvs : List V} {dds : List D} (g : (α : Type) → List α → List α → List α → List α) (F : FunD T.K x qual params bd scope dvs [] f fd) (hd : dvs ≠ []) (hdd : ∀ xp G ι, RepL T xp G ι dvs dds)
    (hrel : ∀ {vs ds zs : List V} {us its ws : List Value}, Vals vs us → Vals ds its → Vals zs ws → Vals (g V vs ds zs) (g Value us its ws))
    (hrep : ∀ xp G ι {vs ds zs : List V} {us its ws : List D}, RepL T xp G ι vs us → RepL T xp G ι ds its → RepL T xp G ι zs ws → RepL T xp G ι (g V vs ds zs) (g D us its ws))
    (hlen : ∀ vs zs : List V, vs.length = n → zs.length = ks.length → (g V vs dvs zs).length + 1 = ps.length)
    (h : ∀ (Dv : Addr) (kV doc pm : Value) (an : Option Addr) (cdv ct self : Value) (us its ws : List Value), us.length = n → its.length = dvs.length → ws.length = ks.length →
      ∃ k, bindArgs (PySem.W.fnOf x qual params bd scope (.ref Dv) kV doc pm an cdv ct) ⟨self :: us, ks.zip ws⟩ = seqItems? (.ref Dv) >>= k ∧ k (some its.toArray) = pure (ps.zip (self :: g Value us its ws))) : BdE T fd ps n ks dds g := by
  obtain ⟨oc, od, dV, kV, doc, pm, an, cdv, ct, osl, rfl, lk, hcd, hD, hK⟩ := F.ex
  rcases hD with ⟨e, _⟩ | ⟨_, Dv, o, its, m, rfl, lT, oT, rT⟩
  · exact absurd e hd
  · refine ⟨⟨dvs, its, rT, hdd, hlen, fun s self us ws X l1 l2 => ?_⟩, hrel, hrep⟩
    obtain ⟨k, e1, e2⟩ := h Dv kV doc pm an cdv ct self us its ws l1 rT.length.symm l2
    refine BindsTo.of_looks fun M => ?_
    rw [e1]
    exact looks_items X lT oT (.of_pure e2)
end
/-! ### the call -/
/-- the class c of errors, by its own __init__ -/
structure MkE (P : Program) (w : World) (T : Txt) (mg : Str → Option Value) (base : Heap) (c : Nat) (x : Str) (ps : List Str) (ways : List (Nat × List Str × List D × ((α : Type) → List α → List α → List α → List α))) : Prop where
  ex : ∃ (f : Addr) (fd : FuncData) (B nid iid : String) (bmB : List Value), ExcBaseFacts B nid iid bmB ∧ ErrK T.K (T.ca c) bmB nid ∧ PySem.W.findIn T.K (.ref (T.ca c)) "__init__" = some (some (.ref f)) ∧ PySem.W.typeIn T.K (.ref f) = some (.type "function") ∧
    FnG P w T.K mg base 1 f fd ps (spErr T c) ∧ ∀ z ∈ ways, BdE T fd ps z.1 z.2.1 z.2.2.1 z.2.2.2
  few : (T.fl c).length ≤ 900
  nd : (T.fl c).Nodup
  len : ps.length = (T.fl c).length + 1
  g : mg x = some (.ref (T.ca c))
def dErr (c n m : Nat) (dds : List D) (g : (α : Type) → List α → List α → List α → List α) (a k : DA) : DE := fun ρ st => (a ρ st).bind fun ds s1 => (k ρ s1).bind fun es s2 => if ds.length = n ∧ es.length = m then .ok (.err c (g D ds dds es)) s2 else .bad
theorem lookup_rev_no {f : Str} : ∀ {ns : List Str} {xs : List V}, f ∉ ns → (ns.zip xs).reverse.lookup f = none
  | [], _, _ => rfl
  | _ :: _, [], _ => rfl
  | n :: ns, x :: xs, h => by
    rw [List.zip_cons_cons, List.reverse_cons, List.lookup_append, lookup_rev_no fun z => h (List.mem_cons_of_mem _ z)]
    have ne : (f == n) = false := beq_eq_false_iff_ne.mpr fun z => h (z ▸ List.mem_cons_self)
    simp [List.lookup, ne]
theorem lookup_rev {f : Str} : ∀ {ns : List Str} {xs : List V} {i : Nat}, ns.Nodup → ns.length = xs.length → ns[i]? = some f → (ns.zip xs).reverse.lookup f = xs[i]?
  | [], _, _, _, _, h => by simp at h
  | _ :: _, [], _, _, hl, _ => by simp at hl
  | n :: ns, x :: xs, 0, nd, hl, h => by
    obtain rfl : n = f := by simpa using h
    rw [List.zip_cons_cons, List.reverse_cons, List.lookup_append, lookup_rev_no (List.nodup_cons.mp nd).1]
    simp [List.lookup]
  | n :: ns, x :: xs, i + 1, nd, hl, h => by
    have h' : ns[i]? = some f := by simpa using h
    have ne : (f == n) = false := beq_eq_false_iff_ne.mpr fun z => (List.nodup_cons.mp nd).1 (z ▸ List.mem_of_getElem? h')
    rw [List.zip_cons_cons, List.reverse_cons, List.lookup_append, lookup_rev (i := i) (List.nodup_cons.mp nd).2 (by simpa using hl) h']
    have e2 : List.lookup f [(n, x)] = none := by simp [List.lookup, ne]
    rw [e2, Option.or_none]
    simp
section
variable {C : Ctx} {c n k : Nat} {ps ks : List Str} {dds : List D} {g : (α : Type) → List α → List α → List α → List α} {x : Str} {p pos : Pos} {e : Expr} {es : List Expr} {kws : List Keyword} {ma mk : DA} {ways : List (Nat × List Str × List D × ((α : Type) → List α → List α → List α → List α))}
theorem err_den {pins : List (Addr × Obj)} {s : Shared} {σ : L2.St} {H : Hp} {us ws : List Value} {vs zs : List V} {ds ess : List D} {st : Store} {ι : Io} {Q : VK} (M : MkE C.X.prog C.X.w C.T C.X.mg C.X.base c x ps ways) (hw : (n, ks, dds, g) ∈ ways) (hr : RoomG 2 C.X.A) (tk : L2N.Takes C.X C.W)
    (I : Inv C.X pins σ H s) (r : Vals vs us) (rz : Vals zs ws) (l1 : vs.length = n) (l2 : zs.length = ks.length) (rd : RepL C.T C.xp (hide ι st H) ι vs ds) (re : RepL C.T C.xp (hide ι st H) ι zs ess) (rl : RelSt C.T C.xp ι st H) (few : us.length ≤ sizeLine)
    (h : Post C.T C.xp (fun c d H => C.W c d σ H) ι st H (Rep C.T C.xp) Q (.ok (.err c (g D ds dds ess)) st)) : wpAny (model C.X.prog C.X.w) C.X.A (call (.ref (C.T.ca c)) us (ks.zip ws)) (EP C.X pins σ Q) C.X.xe s := by
  obtain ⟨f, fd, B, nid, iid, bmB, FB, K0, fi, tf, F, hb⟩ := M.ex
  obtain ⟨⟨dvs, its, rdv, rdd, hlen, hbind⟩, hrel, hrep⟩ := hb _ hw
  dsimp only at hlen hbind hrel hrep
  have kin0 : C.T.K.In s.heap := by rw [← C.hK]; exact I.kIn
  obtain ⟨nm, N, qn, bs, bm, hdct, sn, sub, ab, col, dd, k0, k1, k2, k3, k5, hc, hT⟩ := PySem.W.excInit_of kin0 K0.q
  obtain ⟨hp, gs, dr, t0, os⟩ := s
  have sz : hp.objs.size ≤ hp.objs.size + 1 := Nat.le_succ _
  have na : H (hp.objs.size + 1) = none := I.hok.fresh sz
  have kp : ∀ (b : Addr) (o : Obj), hp.get? b = some o → ((hp.push (PySem.W.kdv_tup us)).push (HandSPX.excO (C.T.ca c) hp.objs.size)).get? b = some o := fun b o z => Heap.get?_push_of_some _ (Heap.get?_push_of_some _ z)
  have hg : ((hp.push (PySem.W.kdv_tup us)).push (HandSPX.excO (C.T.ca c) hp.objs.size)).get? (hp.objs.size + 1) = some (HandSPX.excO (C.T.ca c) hp.objs.size) := by heap_get
  have I2 : Inv C.X pins σ (upd H (hp.objs.size + 1) (exo (hp.objs.size + 1) (C.T.ca c) none)) ⟨(hp.push (PySem.W.kdv_tup us)).push (HandSPX.excO (C.T.ca c) hp.objs.size), gs, dr, t0, os⟩ :=
    I.laid (t' := t0) (a := hp.objs.size + 1) (o := exo (hp.objs.size + 1) (C.T.ca c) none) (h' := (hp.push (PySem.W.kdv_tup us)).push (HandSPX.excO (C.T.ca c) hp.objs.size)) kp sz (exo_ok hg)
  have lw : (g V vs dvs zs).length = (C.T.fl c).length := by
    have := hlen vs zs l1 l2
    rw [M.len] at this
    omega
  have z := F.run _ C.X.stack _ _ ⟨Value.ref (hp.objs.size + 1) :: us, ks.zip ws⟩ (Value.ref (hp.objs.size + 1) :: g Value us its ws) (V.ref (hp.objs.size + 1) :: g V vs dvs zs) (fun v H2 => v = V.non ∧ Q (.ref (hp.objs.size + 1)) H2) (fun c d H' => C.W c d σ H')
    (RoomG.make (k := 1) hr (C.T.ca c) us (ks.zip ws)) (C.hK ▸ I2.env0.make (C.T.ca c) us (ks.zip ws)) (hbind _ _ us ws (by rw [← C.hK]; exact I2.kIn) (r.length.symm.trans l1) (rz.length.symm.trans l2)) (.cons rfl (hrel r rdv rz))
    ⟨_, _, rfl, lw, upd_same, fun d hd nd => ⟨rfl, ?_⟩⟩
  · refine wpAny_call (class_called (kw := ks.zip ws) FB hT hc (PySem.W.looks_findIn kin0 fi) (fun self => PySem.W.bind_fn kin0 self tf) few (codeAny_mono z fun res s' q => ?_))
    have e : Ended C.X pins σ (fun v H2 => v = V.non ∧ Q (.ref (hp.objs.size + 1)) H2) res s' := ends_of I2 tk (fun _ _ _ h => h) q
    clear q
    match res, e with
    | .error e', q' => exact q'
    | .ok (.ret u), ⟨v, H', I3, rv, ev, q3⟩ =>
      subst ev
      exact ⟨rv, ⟨V.ref (hp.objs.size + 1), H', I3, rfl, q3⟩⟩
    | .ok .next, q' => exact False.elim q'
    | .ok .brk, q' => exact False.elim q'
    | .ok .cont, q' => exact False.elim q'
  · rw [upd_two]
    rw [upd_ne nd] at hd
    obtain ⟨ra, sa, ea⟩ := rl.new (o := exo (hp.objs.size + 1) (C.T.ca c) (some d)) na
    obtain ⟨rb, sb, eb⟩ := ra.new (p := d) (o := exd d ((C.T.fl c).zip (g V vs dvs zs)).reverse) ((upd_ne nd).trans hd)
    have sab := sa.trans sb
    exact h _ ι _ sab rb (.errd (sb.ex _ _ ea) eb (fun i f hi => lookup_rev M.nd lw.symm hi) ((hrep _ _ _ rd (rdd _ _ _) re).mono sab.ex sab.pre))
theorem pd_err (M : MkE C.X.prog C.X.w C.T C.X.mg C.X.base c x ps ways) (hw : (n, ks, dds, g) ∈ ways) (ft : Fit C 2) (hg : Gl C.X x) (ha : PDA C (e :: es) ma) (hkw : PDK C kws mk) (hn : n ≤ 1000)
    (hall : (backToKw pos (keywordEach kws C.X.env)).all (·.1.isSome) = true := by rfl) (hks : (backToKw pos (keywordEach kws C.X.env)).filterMap (·.1) = ks := by rfl) (hdb : (x == ("__debug__" : Str)) = false := by decide)
    (he : starEach (e :: es) C.X.env = (false, eval e C.X.env) :: starEach es C.X.env := by rfl) (hpl : ((backTo pos (starEach (e :: es) C.X.env)).any (·.1) || (backToKw pos (keywordEach kws C.X.env)).any (·.1.isNone)) = false := by rfl) :
    PD C (.Call (.Name x p) (e :: es) kws pos) (dErr c n ks.length dds g ma mk) := by
  have kc : PySem.W.keepIn C.X.K (.ref (C.T.ca c)) = true := by
    obtain ⟨f, fd, B, nid, iid, bmB, FB, K0, _⟩ := M.ex
    rw [C.hK]
    exact K0.kp
  refine ⟨fun pins s σ H Q I ⟨ρ, st, ι, er, rl, h⟩ => ?_⟩
  refine wpAny_Call_Name_kw (ld_glob I hg M.g ?_ hdb)
  refine args_call (ks := ks) ha hkw I kc ⟨ρ, st, ι, er, rl, post_bind h fun ds s1 vs ι1 H1 st1 rl1 rv p1 => ⟨ρ, s1, ι1, er.step st1, rl1, post_bind p1 fun es s2 zs ι2 H2 st2 rl2 rv2 p2 => ?_⟩⟩ hall hks he hpl
  intro us ws s3 I3 r rz
  split at p2
  · rename_i hl
    refine err_den M hw ft.room ft.tk I3 r rz (rv.length.trans hl.1) (rv2.length.trans hl.2) (rv.mono st2.ex st2.pre) rv2 rl2 ?_ p2
    show us.length ≤ sizeLine
    rw [← r.length, rv.length, hl.1]
    exact Nat.le_trans hn (by decide)
  · exact p2.elim
theorem pd_err0 (M : MkE C.X.prog C.X.w C.T C.X.mg C.X.base c x ps ways) (hw : (0, ks, dds, g) ∈ ways) (ft : Fit C 2) (hg : Gl C.X x) (hkw : PDK C kws mk)
    (hall : (backToKw pos (keywordEach kws C.X.env)).all (·.1.isSome) = true := by rfl) (hks : (backToKw pos (keywordEach kws C.X.env)).filterMap (·.1) = ks := by rfl) (hdb : (x == ("__debug__" : Str)) = false := by decide)
    (hpl : ((backTo pos (starEach [] C.X.env)).any (·.1) || (backToKw pos (keywordEach kws C.X.env)).any (·.1.isNone)) = false := by rfl) :
    PD C (.Call (.Name x p) [] kws pos) (dErr c 0 ks.length dds g dNil mk) := by
  have kc : PySem.W.keepIn C.X.K (.ref (C.T.ca c)) = true := by
    obtain ⟨f, fd, B, nid, iid, bmB, FB, K0, _⟩ := M.ex
    rw [C.hK]
    exact K0.kp
  refine ⟨fun pins s σ H Q I ⟨ρ, st, ι, er, rl, h⟩ => ?_⟩
  refine wpAny_Call_Name_kw (ld_glob I hg M.g ?_ hdb)
  have h' : Post C.T C.xp (fun c d H => C.W c d σ H) ι st H (Rep C.T C.xp) Q ((mk ρ st).bind fun es s2 => if ([] : List D).length = 0 ∧ es.length = ks.length then .ok (.err c (g D [] dds es)) s2 else .bad) := h
  refine args_call0 (ks := ks) hkw I kc ⟨ρ, st, ι, er, rl, post_bind h' fun es s2 zs ι2 H2 st2 rl2 rv2 p2 => ?_⟩ hall hks hpl
  intro ws s3 I3 rz
  split at p2
  · rename_i hl
    exact err_den (vs := []) M hw ft.room ft.tk I3 .nil rz rfl (rv2.length.trans hl.2) .nil rv2 rl2 (Nat.zero_le _) p2
  · exact p2.elim
end
end Den

set_option maxRecDepth 100000
set_option maxHeartbeats 4000000
/-! Den: errors made with nothing; fields of errors; isinstance of errors as values. -/
namespace Den
open PySem PySem.Spec PyProof.Rows L2

/-! ### NoX() -/
section
variable {C : Ctx} {c i : Nat} {x : Str} {p pos : Pos} {B newId initId : String} {bmB : List Value}
theorem pd_errN (F : ExcBaseFacts B newId initId bmB) (hq : PySem.W.excIn C.T.K (C.T.ca c) bmB newId = true) (kc : PySem.W.keepIn C.T.K (.ref (C.T.ca c)) = true) (hg : Gl C.X x) (hm : C.X.mg x = some (.ref (C.T.ca c))) (hdb : (x == ("__debug__" : Str)) = false := by decide) :
    PD C (.Call (.Name x p) [] [] pos) (dC (.err c [])) := by
  refine ⟨fun pins s σ H Q I ⟨ρ, st, ι, er, rl, h⟩ => ?_⟩
  refine wpAny_Call_Name_kw (ld_glob I hg hm ?_ hdb)
  refine args_call0 (ks := []) pdk_nil I (by rw [C.hK]; exact kc) ⟨ρ, st, ι, er, rl, post_bind (m := dNil ρ st) (k := fun _ s1 => Res.ok (D.err c []) s1) h fun es s2 zs ι2 H2 st2 rl2 rv2 p2 => ?_⟩ rfl rfl rfl
  intro ws s3 I3 rz
  show wpAny _ _ (call (.ref (C.T.ca c)) [] []) _ _ _
  obtain ⟨bm, N, nm, qn, bs, hdct, sn, sub, ab, col, dd, k0, k1, k2, k3, k5, mN, hC, hN, hni, T⟩ := exc_obj I3.kIn (C.hK ▸ hq)
  refine wpAny_call_exc_subT (rest := []) F T hC hN hni (fun h' a hm' => ?_) (Nat.zero_le _)
  have hn : H2 a = none := I3.hok.gone hm'.new
  obtain ⟨t, ht, _, _⟩ := hm'.there
  obtain ⟨ra, sa, ea⟩ := rl2.new (o := exo a (C.T.ca c) none) hn
  exact ⟨.ref a, upd H2 a (exo a (C.T.ca c) none), I3.laidN hm'.keeps hm'.new hn (exo_ok ht), rfl, p2 _ ι2 _ sa ra (.err ea rfl)⟩
end

/-! ### a field of an error -/
structure ErrF (T : Txt) (c : Nat) : Prop where
  xf : XfC T.K (T.ca c)
  no : ∀ f ∈ T.fl c, PySem.W.findIn T.K (.ref (T.ca c)) f = some none
def dFldE (c i : Nat) (o : DE) : DE := fun ρ st => (o ρ st).bind fun d s1 => match d with
  | .err c' xs => if c' = c then (match xs[i]? with
    | some x => .ok x s1
    | none => .bad) else .bad
  | _ => .bad
section
variable {C : Ctx} {c i : Nat} {o : Expr} {mo : DE} {pos : Pos}
theorem pd_fldE {fn : Str} (hc : ErrF C.T c) (hi : (C.T.fl c)[i]? = some fn) (ho : PD C o mo) (hb : attributeBase o fn C.X.env (eval o C.X.env) = eval o C.X.env := by rfl) : PD C (.Attribute o fn pos) (dFldE c i mo) := by
  refine ⟨fun pins s σ H Q I ⟨ρ, st, ι, er, rl, h⟩ => ?_⟩
  refine attr_of hb (thn (ho.run pins s σ H _ I ⟨ρ, st, ι, er, rl, post_bind (Q := fun v H1 => ∃ (a d : Addr) (fs : List (Str × V)) (y : V), v = .ref a ∧ H1 a = some (exo a (C.T.ca c) (some d)) ∧ H1 d = some (exd d fs) ∧ fs.lookup fn = some y ∧ Q y H1) h fun d s1 v ι1 H1 st1 rl1 rv p1 => ?_⟩) fun u s1 hh => ?_)
  · cases rv with
    | err h1 e =>
      subst e
      simp at p1
      exact p1.elim
    | errd h1 h2 h3 h4 =>
      rename_i a d c' fs xs ds
      dsimp only at p1
      split at p1
      · rename_i ec
        subst ec
        cases hx : ds[i]? with
        | none =>
          rw [hx] at p1
          exact p1.elim
        | some y =>
          rw [hx] at p1
          obtain ⟨u, hu, ru⟩ := h4.get hx
          exact ⟨_, _, _, u, rfl, hide_sub h1, hide_sub h2, (h3 i fn hi).trans hu, p1 u ι1 H1 (Step.refl _ _ _) rl1 ru⟩
      · exact p1.elim
    | _ => exact p1.elim
  · obtain ⟨v, H1, I1, rv, a, d, fs, y, rfl, ha, hd, hl, q⟩ := hh
    obtain rfl : u = Value.ref a := rv
    obtain ⟨t1, ho1⟩ := exo_at I1.hok ha
    obtain ⟨mA, hns, rel⟩ := exd_at I1.hok hd
    obtain ⟨od, hod, hlk⟩ := lookIn_ns hns
    obtain ⟨z, hz, rz⟩ := RelO.some_of (v := y) (o := mA fn) (by rw [← hl]; exact rel fn)
    have kin : C.T.K.In s1.heap := by rw [← C.hK]; exact I1.kIn
    have J : PySem.W.InstAt s1.heap a { cls := .ref (C.T.ca c), dict := some d, data := .fields #[.ref t1, .none, .none, .none, .bool false, .none] } (C.T.ca c) (some od) := ⟨ho1, rfl, rfl, hod⟩
    exact HandSPX.exc_get kin J hc.xf.ga hc.xf.gg hc.xf.exC (PySem.W.findObj_own hc.xf.hdC (hc.no fn (List.mem_of_getElem? hi)) rfl (by rw [hlk, hz])) (handed_of rz) ⟨y, H1, I1.tok _, rz, q⟩
end

/-! ### isinstance of an error as a value -/
/-- where an error stands -/
def ErrAt (H : Hp) (a C : Addr) : Prop := ∃ d, H a = some (exo a C d) ∧ ∀ dd, d = some dd → ∃ fs, H dd = some (exd dd fs)
theorem inst_err {X : Cx} {pins : List (Addr × Obj)} {σ : L2.St} {H : Hp} {s : Shared} {a C : Addr} (I : Inv X pins σ H s) (h : ErrAt H a C) : ∃ (ox : Obj) (od : Option Obj), PySem.W.InstAt s.heap a ox C od := by
  obtain ⟨d, ha, hd⟩ := h
  obtain ⟨t1, ho⟩ := exo_at I.hok ha
  cases d with
  | none => exact ⟨_, none, ho, rfl, rfl, trivial⟩
  | some dd =>
    obtain ⟨fs, hf⟩ := hd dd rfl
    obtain ⟨mA, hns, _⟩ := exd_at I.hok hf
    obtain ⟨od, hod, _⟩ := lookIn_ns hns
    exact ⟨_, some od, ho, rfl, rfl, hod⟩
theorem exc_cls {K : PySem.W.Frag} {D : Addr} (cc : ExcC K D) : (PySem.W.clsIn K D).isSome = true := by
  obtain ⟨cd, hcd, _⟩ := PySem.W.any_some cc.hd
  rw [hcd]
  rfl
def rIsV (C : Ctx) : List V → Hp → VK → Prop := fun xs H Q => ∃ (a : Addr) (c : Nat), ErrAt H a (C.T.ca c) ∧ ExcC C.T.K (C.T.ca c) ∧
  ((∃ (k : V) (cv : Value) (b : Bool), xs = [.ref a, k] ∧ ClsV k cv ∧ PySem.W.kitOne C.T.K (.ref (C.T.ca c)) cv = some b ∧ Q (.bl b) H) ∨
    ∃ (tp : Addr) (cs : List V) (us : List Value) (b : Bool), xs = [.ref a, .ref tp] ∧ SqT C.T.K H tp cs ∧ Paired ClsV cs us ∧ PySem.W.kitAny C.T.K (.ref (C.T.ca c)) us = some b ∧ Q (.bl b) H)
theorem call_isV {C : Ctx} : CallR C.X (.builtin "isinstance") (rIsV C) := by
  intro pins s σ H xs us Q I r h
  obtain ⟨a, c, hx, cc, h⟩ := h
  obtain ⟨ox, od, J⟩ := inst_err I hx
  have kin : C.T.K.In s.heap := by rw [← C.hK]; exact I.kIn
  rcases h with ⟨k, cv, b, rfl, hk, e, q⟩ | ⟨tp, cs, ws, b, rfl, hT, hk, e, q⟩
  · obtain ⟨u1, u2, rfl, r1, r2⟩ := vals2 r
    cases r1
    have ec := hk.eq r2
    subst ec
    exact PySem.W.kia_one (PySem.W.kitx_exc (exc_cls cc) cc.hg cc.hk cc.hs cc.ha cc.hn cc.ht cc.hm) kin J e (fun z => nomatch z) fun tk => ⟨.bl b, H, I.kept (t' := tk) fun _ _ z => z, rfl, q⟩
  · obtain ⟨u1, u2, rfl, r1, r2⟩ := vals2 r
    cases r1
    cases (show u2 = Value.ref tp from r2)
    obtain ⟨its, rv, ⟨o, h1, h2, n, h3⟩, _⟩ := I.tuple (by rw [C.hK]; exact hT)
    have e3 := ClsV.all hk rv
    subst e3
    obtain ⟨oc, odd, dt, sl⟩ := o
    dsimp only at h2 h3
    subst h2 h3
    exact PySem.W.kia_tup (PySem.W.kitx_exc (exc_cls cc) cc.hg cc.hk cc.hs cc.ha cc.hn cc.ht cc.hm) kin J h1 e (fun z => nomatch z) fun tk => ⟨.bl b, H, I.kept (t' := tk) fun _ _ z => z, rfl, q⟩
def bIsV (es : List Nat) (isT : Tag → Tag → Option Bool) : FB := fun ds st => match ds with
  | [.err c _, .tup ks] => if c ∈ es then (match clsL ks with
    | some us => (isAny isT (.ow c) us).map fun b => (.bl b, st)
    | none => none) else none
  | [.err c _, k] => if c ∈ es then (match clsA k with
    | some u => (isT (.ow c) u).map fun b => (.bl b, st)
    | none => none) else none
  | _ => none
theorem err_at {T : Txt} {xp : XT} {ι : Io} {st : Store} {H : Hp} {v : V} {c : Nat} {xs : List D} (r : Rep T xp (hide ι st H) ι v (.err c xs)) : ∃ a, v = .ref a ∧ ErrAt H a (T.ca c) := by
  cases r with
  | err h1 _ => exact ⟨_, rfl, none, hide_sub h1, fun _ z => by cases z⟩
  | errd h1 h2 _ _ => exact ⟨_, rfl, _, hide_sub h1, fun dd z => by cases z; exact ⟨_, hide_sub h2⟩⟩
section
variable {C : Ctx} {isT : Tag → Tag → Option Bool}
theorem blt_isV {es : List Nat} (hc : ∀ c ∈ es, ExcC C.T.K (C.T.ca c)) (hi : IsT C.T isT) : BltD C "isinstance" (bIsV es isT) := ⟨_, call_isV, fun ι st H xs ds d st' Q rl rx e k => by
  unfold bIsV at e
  split at e
  · rename_i c ys kk
    split at e
    · rename_i hm
      split at e
      · rename_i us h2
        obtain ⟨b, hb, e'⟩ := Option.map_eq_some_iff.mp e
        cases e'
        obtain ⟨v, w, rfl, rv, rw'⟩ := repL_two rx
        obtain ⟨a, rfl, hx⟩ := err_at rv
        obtain ⟨tp, cs, rfl, ht, rc⟩ := tup_H rw'
        exact ⟨a, c, hx, hc c hm, .inr ⟨tp, cs, _, b, rfl, ht, clsL_rep rc h2, isAny_ok hi hb, k _ ι H (Step.refl _ _ _) rl (.bl b)⟩⟩
      · cases e
    · cases e
  · rename_i c ys kk _
    split at e
    · rename_i hm
      split at e
      · rename_i u h2
        obtain ⟨b, hb, e'⟩ := Option.map_eq_some_iff.mp e
        cases e'
        obtain ⟨v, w, rfl, rv, rw'⟩ := repL_two rx
        obtain ⟨a, rfl, hx⟩ := err_at rv
        exact ⟨a, c, hx, hc c hm, .inl ⟨w, _, b, rfl, clsA_rep rw' h2, hi _ _ _ hb, k _ ι H (Step.refl _ _ _) rl (.bl b)⟩⟩
      · cases e
    · cases e
  · cases e⟩
end
end Den

set_option maxRecDepth 100000
set_option maxHeartbeats 4000000
/-! Den: try with several clauses, with a name or without. -/
namespace Den
open PySem PySem.Spec PyProof.Rows L2
open L2N (Zn)
abbrev Suite := Addr → Value → Option Addr → TS
/-- what the suite's ways out wish once its name is gone -/
def offE (o : Option Nat) (D : Ends) : Ends := match o with
  | none => D
  | some i => { nx := fun σ H => D.nx (σ.set i none) H, rt := D.rt, bk := fun σ H => D.bk (σ.set i none) H, ct := fun σ H => D.ct (σ.set i none) H }
def onS1 (o : Option Nat) (a : Addr) (σ : L2.St) : L2.St := match o with
  | none => σ
  | some i => σ.set i (some (.ref a))
def wCl (K : PySem.W.Frag) (Wo : WX) (D : Ends) : List (Value × Option Nat × Suite) → WX
  | [] => Wo
  | (cv, o, ts) :: r => fun cls d σ H => ∃ b, PySem.W.exmOne K cls cv = some b ∧ (b = true → ∀ a, H a = none → ts a cls d (offE o D) (onS1 o a σ) H) ∧ (b = false → wCl K Wo D r cls d σ H)
/-- the name behind `as`, and its slot -/
def AsN (X : Cx) : Option Str → Option Nat → Prop
  | none, none => True
  | some n, some i => X.N[i]? = some n ∧ X.env.kindOf n = some .local
  | _, _ => False
inductive Clauses (X : Cx) : List ExceptHandler → List (Value × Option Nat × Suite) → Prop
  | nil : Clauses X [] []
  | cons {x : Str} {cv : Value} {nm : Option Str} {o : Option Nat} {ts : Suite} {b0 : Stmt} {su : List Stmt} {np pp : Pos} {hds : List ExceptHandler} {l : List (Value × Option Nat × Suite)} (hc : Names X x cv) (ho : AsN X nm o)
      (hs : ∀ (a : Addr) (oe : Obj) (cls : Value) (d : Option Addr) (pn : List (Addr × Obj)), Zn cls d oe → (∃ vs, oe.data = .fields vs) → PSs (X.suite a ((a, oe) :: pn)) (b0 :: su) (ts a cls d)) (r : Clauses X hds l) :
      Clauses X (.ExceptHandler (some (.Name x np)) nm (b0 :: su) pp :: hds) ((cv, o, ts) :: l)
section
variable {X : Cx} {body : List Stmt} {h0 : ExceptHandler} {hds : List ExceptHandler} {l : List (Value × Option Nat × Suite)} {pos : Pos} {tb : WX → TS} {Wo : WX}
theorem ps_tryC (hs : X.stack = X.env :: X.outer) (hf : X.env.frame = some X.env.locals) (hN : X.N.Nodup) (tk : L2N.Takes X Wo)
    (hb : ∀ (W : WX) (pn : List (Addr × Obj)) (xe : Value → Shared → Prop), L2N.Takes (X.tr pn xe) W → PassesOwn (model X.prog X.w) X.A X.env xe → PSs (X.tr pn xe) body (tb W)) (hh : Clauses X (h0 :: hds) l) :
    PS X (.Try body (h0 :: hds) [] [] pos) (fun D σ H => tb (wCl X.K Wo D l) D σ H) := by
  refine ⟨fun pins s σ H D I h => ?_⟩
  have xok := I.ok
  have frm : X.A.frames = some (X.env :: X.outer) := by rw [xok.frames, hs]
  refine wpAny_Try_except ?_
  have bodyRun := hb (wCl X.K Wo D l) (X.pn ++ pins) (fun e t1 => wpAny (model X.prog X.w) X.A (noteFrame e X.env) (fun _ t2 => wpAny (model X.prog X.w) X.A (setFlight e none) (fun _ t3 => wpAny (model X.prog X.w) X.A (handleBy e X.env (h0 :: hds)) (SP X pins D) X.xe t3) X.xe t2) X.xe t1)
  refine wpAny_mono ((bodyRun (fun u s2 xx => ?_) PassesOwn.looking).run [] s σ H D (I.toTry _) h) (fun fl s1 out => ?_) fun _ _ z => z
  · obtain ⟨a, B, sB, pB, σB, HB, cls, d, rfl, JB, nb, up, sky, na, os, ag, wx⟩ := xx
    have J0 : Inv X pins σB HB sB := JB.ofTry xok
    have sk : Sky B (X.env :: X.outer) a (Zn cls d) X.env.locals s2.heap := by rw [← hs]; exact sky
    show wpAny (model X.prog X.w) X.A (noteFrame (.ref a) X.env) _ _ _
    refine L2N.Sky.land Zn.steady frm hf sk fun g3 fl3 up3 => ?_
    have J3 : Inv X pins σB HB { s2 with heap := g3 } := J0.landed nb fl3.1 (up.trans up3) os ag
    obtain ⟨o3, vs3, at3, z3, dt3⟩ := fl3.there
    have nfr : a ∉ frs (X.env :: X.outer) := fun hm => by
      obtain ⟨_, o', e', nf⟩ := fl3.2.2.1.mem hm
      rw [at3] at e'
      cases e'
      exact nf _ dt3
    have nl : a ≠ X.env.locals := fun z => nfr (List.mem_filterMap.mpr ⟨X.env, List.mem_cons_self, by rw [hf, z]⟩)
    have nfs : a ∉ X.fs := fun hm => by
      obtain ⟨ev, hev, q⟩ := List.mem_filterMap.mp hm
      exact nfr (List.mem_filterMap.mpr ⟨ev, List.mem_cons_of_mem _ hev, q⟩)
    have S3 := J3.suite at3 dt3 na nl nfs
    have each : ∀ {hs2 : List ExceptHandler} {l2 : List (Value × Option Nat × Suite)}, Clauses X hs2 l2 → wCl X.K Wo D l2 cls d σB HB → wpAny (model X.prog X.w) X.A (handleBy (.ref a) X.env hs2) (SP X pins D) X.xe { s2 with heap := g3 } := by
      intro hs2 l2 cl
      induction cl with
      | nil =>
        intro wx
        refine wpAny_handleBy_nil ?_
        obtain ⟨_, _, _, oe, vs, T, oT, tT, hoe, _, hdt, hv1, _⟩ := id fl3
        unfold PySem.passOn
        refine wpAny_bind (wpAny_field hoe hdt hv1 ?_)
        rw [if_neg (show ¬ ((Value.ref T == Value.none) = true) from by simp)]
        have on : wpAny (model X.prog X.w) X.A (setFlight (.ref a) X.env.frame) (fun _ t4 => wpAny (model X.prog X.w) X.A (throw (.ref a) : Sem Flow) (SP X pins D) X.xe t4) X.xe { s2 with heap := g3 } := by
          rw [hf]
          refine HandSPX.setFlight_upZ fl3 fun g4 st4 up4 => wpAny_throw (tk _ _ ?_)
          exact ⟨a, B, sB, pins, σB, HB, cls, d, rfl, J0, nb, (up.trans up3).trans up4, .inr (.inr (by rw [hs]; exact st4)), na, os, ag, wx⟩
        first
          | exact wpAny_bind (wpAny_pure (wpAny_bind on))
          | exact wpAny_bind on
      | @cons x cv nm o ts b0 su np pp hds3 l3 hc ho hsu r ih =>
        intro wx
        obtain ⟨b, eb, yes, no⟩ := wx
        refine wpAny_handleBy_cons (codeAny_handlers_test ?_) (by intro q; cases q)
        have lt : PySem.W.Looks (model X.prog X.w) g3 (typeOf (.ref a)) cls := fun A Q E s k q => wpAny_typeOf_ref (k _ _ at3) (by rw [z3.1]; exact q)
        have lm := PySem.W.exm_one (M := model X.prog X.w) J3.kIn lt eb
        have asked : ∀ {Q : Value → Shared → Prop} {E : Value → Shared → Prop}, Q cv { s2 with heap := g3 } → wpAny (model X.prog X.w) (X.A.mark (some (.ref a))) (eval (.Name x np) X.env) Q E { s2 with heap := g3 } := fun {Q E} q => by
          obtain ⟨hg, hdb, hm | ⟨hm, hv, hn⟩⟩ := hc
          · exact ld_glob (X := X.suite a ((a, o3) :: (X.pn ++ pins))) S3 hg hm q hdb
          · exact ld_blt (X := X.suite a ((a, o3) :: (X.pn ++ pins))) S3 hg hm hv q hn hdb
        refine asked (lm.here ?_)
        cases b with
        | false =>
          show wpAny _ X.A (handleBy (.ref a) X.env hds3) _ _ _
          exact ih (no rfl)
        | true =>
          have y := yes rfl a na
          cases nm with
          | none =>
            cases o with
            | some i => exact ho.elim
            | none =>
              refine codeAny_handlers_suite ?_
              refine HandSPX.lands_againZ fl3 fun g4 fl4 up4 => ?_
              have J4 : Inv X pins σB HB { s2 with heap := g4 } := J0.landed nb fl4.1 ((up.trans up3).trans up4) os ag
              obtain ⟨o4, vs4, at4, z4, dt4⟩ := fl4.there
              have S4 := J4.suite at4 dt4 na nl nfs
              refine wpAny_mono ((hsu a o4 cls d (X.pn ++ pins) z4 ⟨_, dt4⟩).run [] _ _ HB _ S4 y) (fun fl t6 out => ?_) fun _ _ z => z.elim
              match fl, out with
              | .next, ⟨σ6, H6, S6, q6⟩ => exact ⟨_, _, S6.unsuite xok, q6⟩
              | .brk, ⟨σ6, H6, S6, q6⟩ => exact ⟨_, _, S6.unsuite xok, q6⟩
              | .cont, ⟨σ6, H6, S6, q6⟩ => exact ⟨_, _, S6.unsuite xok, q6⟩
              | .ret u, ⟨v6, σ6, H6, S6, r6, q6⟩ => exact ⟨_, _, _, S6.unsuite xok, r6, q6⟩
          | some n =>
            cases o with
            | none => exact ho.elim
            | some i =>
              obtain ⟨hi, hln⟩ := ho
              refine codeAny_handlers_suite_as ?_
              refine HandSPX.lands_againZ fl3 fun g4 fl4 up4 => ?_
              have J4 : Inv X pins σB HB { s2 with heap := g4 } := J0.landed nb fl4.1 ((up.trans up3).trans up4) os ag
              obtain ⟨o4, vs4, at4, z4, dt4⟩ := fl4.there
              have S4 := J4.suite at4 dt4 na nl nfs
              refine store_ok (X := X.suite a ((a, o4) :: (X.pn ++ pins))) (v := .ref a) S4 hN hi (.inl hln) rfl (fun s5 S5 => ?_) (.inr hln)
              refine wpAny_mono ((hsu a o4 cls d (X.pn ++ pins) z4 ⟨_, dt4⟩).run [] s5 _ HB _ S5 y) (fun fl t6 out => ?_) fun _ _ z => z.elim
              have off : ∀ {σ6 : L2.St} {H6 : Hp} {Q : Shared → Prop}, Inv (X.suite a ((a, o4) :: (X.pn ++ pins))) [] σ6 H6 t6 → (∀ s7, Inv X pins (σ6.set i none) H6 s7 → Q s7) →
                  wpAny (model X.prog X.w) X.A (do bindName X.env n .none; unbindBehindTheSuite X.env n pp) (fun _ s7 => Q s7) X.xe t6 := fun {σ6 H6 Q} S6 hq => gone_ok (S6.unsuite xok) hN hi hln hq
              match fl, out with
              | .next, ⟨σ6, H6, S6, q6⟩ => exact off S6 fun s7 J7 => ⟨_, _, J7, q6⟩
              | .brk, ⟨σ6, H6, S6, q6⟩ => exact off S6 fun s7 J7 => ⟨_, _, J7, q6⟩
              | .cont, ⟨σ6, H6, S6, q6⟩ => exact off S6 fun s7 J7 => ⟨_, _, J7, q6⟩
              | .ret u, ⟨v6, σ6, H6, S6, r6, q6⟩ => exact off S6 fun s7 J7 => ⟨_, _, _, J7, r6, q6⟩
    exact each hh wx
  · match fl, out with
    | .next, ⟨σ', H', J', q⟩ => exact wpAny_execs_nil ⟨σ', H', J'.ofTry xok, q⟩
    | .brk, ⟨σ', H', J', q⟩ => exact ⟨σ', H', J'.ofTry xok, q⟩
    | .cont, ⟨σ', H', J', q⟩ => exact ⟨σ', H', J'.ofTry xok, q⟩
    | .ret u, ⟨v, σ', H', J', r, q⟩ => exact ⟨v, σ', H', J'.ofTry xok, r, q⟩
end
end Den

set_option maxRecDepth 100000
set_option maxHeartbeats 4000000
/-! Den: try with several clauses, as data. -/
namespace Den
open PySem PySem.Spec PyProof.Rows L2
abbrev Clause := (Nat → Option Bool) × Option Nat × DS
def offD (o : Option Nat) (ρ : Rho) : Rho := match o with
  | none => ρ
  | some i => ρ.set i none
def onD (o : Option Nat) (c : Nat) (xs : List D) (ρ : Rho) : Rho := match o with
  | none => ρ
  | some i => ρ.set i (some (.exc c xs))
def caught (o : Option Nat) (h : DS) (c : Nat) (xs : List D) : DS := fun ρ st => match h (onD o c xs ρ) st with
  | .ret d s2 => if noE d = true ∧ noES s2 = true then .ret d s2 else .bad
  | .nx ρ2 s2 => if noER (offD o ρ2) = true ∧ noES s2 = true then .nx (offD o ρ2) s2 else .bad
  | _ => .bad
def sCatch : List Clause → Nat → List D → DS
  | [], c, xs, ρ, st => .exc c xs ρ st
  | (cth, o, h) :: r, c, xs, ρ, st => match cth c with
    | some true => caught o h c xs ρ st
    | some false => sCatch r c xs ρ st
    | none => .bad
def sTryC (cs : List Clause) (b : DS) : DS := fun ρ st => match b ρ st with
  | .exc c xs ρ1 s1 => sCatch cs c xs ρ1 s1
  | r => r
inductive ClausesD (C : Ctx) : List ExceptHandler → List Clause → List (Value × Option Nat × Suite) → Prop
  | nil : ClausesD C [] [] []
  | cons {x : Str} {cv : Value} {nm : Option Str} {o : Option Nat} {cth : Nat → Option Bool} {mh : DS} {b0 : Stmt} {su : List Stmt} {np pp : Pos} {hds : List ExceptHandler} {cs : List Clause} {l : List (Value × Option Nat × Suite)} (hc : Names C.X x cv) (ho : AsN C.X nm o)
      (hk : ∀ c b, cth c = some b → PySem.W.exmOne C.T.K (.ref (C.T.ca c)) cv = some b)
      (hs : ∀ (a : Addr) (oe : Obj) (c : Nat) (d : Option Addr) (pn : List (Addr × Obj)), L2N.Zn (.ref (C.T.ca c)) d oe → (∃ vs, oe.data = .fields vs) → PDSs (C.suite a c d ((a, oe) :: pn)) (b0 :: su) mh) (r : ClausesD C hds cs l) :
      ClausesD C (.ExceptHandler (some (.Name x np)) nm (b0 :: su) pp :: hds) ((cth, o, mh) :: cs) ((cv, o, fun a cls d E σ H => ∃ c, cls = .ref (C.T.ca c) ∧ tDS C.T ((a, c, d) :: C.xp) (fun _ _ _ _ => False) mh E σ H) :: l)
section
variable {C : Ctx} {bd : List Stmt} {h0 : ExceptHandler} {hds : List ExceptHandler} {cs : List Clause} {l : List (Value × Option Nat × Suite)} {pos : Pos} {mb : DS}
theorem ClausesD.to {hs : List ExceptHandler} (k : ClausesD C hs cs l) : Clauses C.X hs l := by
  induction k with
  | nil => exact .nil
  | cons hc ho hk hs r ih =>
    exact .cons hc ho (fun a oe cls d pn hz hd => ⟨fun pins s σ H D I ⟨c, ec, hw⟩ => by
      subst ec
      exact (hs a oe c d pn hz hd).run pins s σ H D I hw⟩) ih
theorem EnvR.off {T : Txt} {xp : XT} {G : Hp} {ι : Io} {ρ : Rho} {σ : L2.St} (o : Option Nat) (h : EnvR T xp G ι ρ σ) : EnvR T xp G ι (offD o ρ) (match o with
  | none => σ
  | some i => σ.set i none) := by
  cases o with
  | none => exact h
  | some i => exact h.unset i
theorem catch_den {hs : List ExceptHandler} (k : ClausesD C hs cs l) {E : Ends} {ι ι1 : Io} {st s1 : Store} {H H1 : Hp} {σ1 : L2.St} {ρ1 : Rho} {c : Nat} {xs : List D} {dx : Option Addr} (st1 : Step ι st H ι1 s1 H1) (rl1 : RelSt C.T C.xp ι1 s1 H1) (er1 : EnvR C.T C.xp (hide ι1 s1 H1) ι1 ρ1 σ1)
    (xd : XdR C.T C.xp ι1 s1 H1 dx c xs) (p : PostS C.T C.xp C.W ι st H E (sCatch cs c xs ρ1 s1)) : wCl C.X.K C.W E l (.ref (C.T.ca c)) dx σ1 H1 := by
  induction k with
  | nil => exact p σ1 ι1 H1 dx st1 rl1 er1 xd
  | @cons x cv nm o cth mh b0 su np pp hds' cs' l' hc ho hk hs r ih =>
    unfold sCatch at p
    cases hcc : cth c with
    | none =>
      rw [hcc] at p
      exact p.elim
    | some b =>
      rw [hcc] at p
      refine ⟨b, by rw [C.hK]; exact hk c b hcc, fun hbt a ha => ?_, fun hbf => ?_⟩
      · subst hbt
        dsimp only at p
        unfold caught at p
        have sub : ∀ q ∈ C.xp, q ∈ (a, c, dx) :: C.xp := fun q hq => List.mem_cons_of_mem _ hq
        have re : Rep C.T ((a, c, dx) :: C.xp) (hide ι1 s1 H1) ι1 (.ref a) (.exc c xs) := by
          rcases xd with ⟨rfl, rfl⟩ | ⟨d, ys, rfl, h1, h2, h3, h4, h5⟩
          · exact .exc List.mem_cons_self rfl
          · exact .excd List.mem_cons_self (h2.trans h1) h3 (h4.more sub) h5
        have er2 : EnvR C.T ((a, c, dx) :: C.xp) (hide ι1 s1 H1) ι1 (onD o c xs ρ1) (onS1 o a σ1) := by
          cases o with
          | none => exact er1.more sub
          | some i => exact (er1.more sub).set i re
        refine ⟨c, rfl, onD o c xs ρ1, s1, ι1, er2, rl1.more sub, ?_⟩
        cases hh : mh (onD o c xs ρ1) s1 with
        | ret d s2 =>
          rw [hh] at p
          dsimp only at p
          split at p
          · rename_i hn
            cases o with
            | none => exact fun v ι2 H2 st2 rl2 rv => p v ι2 H2 (st1.trans st2) (rl2.noE hn.2) (rv.noE hn.1)
            | some i => exact fun v ι2 H2 st2 rl2 rv => p v ι2 H2 (st1.trans st2) (rl2.noE hn.2) (rv.noE hn.1)
          · exact p.elim
        | nx ρ2 s2 =>
          rw [hh] at p
          dsimp only at p
          split at p
          · rename_i hn
            cases o with
            | none => exact fun σ2 ι2 H2 st2 rl2 er3 => p σ2 ι2 H2 (st1.trans st2) (rl2.noE hn.2) (er3.noE hn.1)
            | some i => exact fun σ2 ι2 H2 st2 rl2 er3 => p (σ2.set i none) ι2 H2 (st1.trans st2) (rl2.noE hn.2) ((er3.unset i).noE hn.1)
          · exact p.elim
        | _ =>
          rw [hh] at p
          exact p.elim
      · subst hbf
        exact ih p
theorem pds_tryC (hs : C.X.stack = C.X.env :: C.X.outer) (hf : C.X.env.frame = some C.X.env.locals) (hN : C.X.N.Nodup) (tk : L2N.Takes C.X C.W)
    (hb : ∀ (W : WX) (pn : List (Addr × Obj)) (xe : Value → Shared → Prop), L2N.Takes (C.X.tr pn xe) W → PassesOwn (model C.X.prog C.X.w) C.X.A C.X.env xe → PDSs (C.try W pn xe) bd mb) (k : ClausesD C (h0 :: hds) cs l) :
    PDS C (.Try bd (h0 :: hds) [] [] pos) (sTryC cs mb) := by
  have q0 := ps_tryC (pos := pos) (body := bd) (tb := fun W => tDS C.T C.xp W mb) hs hf hN tk (fun W pn xe t p => hb W pn xe t p) k.to
  refine PS.imp q0 fun E σ H ⟨ρ, st, ι, er, rl, p⟩ => ⟨ρ, st, ι, er, rl, ?_⟩
  unfold sTryC at p
  cases hm : mb ρ st with
  | exc c xs ρ1 s1 =>
    rw [hm] at p
    intro σ1 ι1 H1 dx st1 rl1 er1 xd
    exact catch_den k st1 rl1 er1 xd p
  | nx ρ1 s1 => rw [hm] at p; exact p
  | ret d s1 => rw [hm] at p; exact p
  | brk ρ1 s1 => rw [hm] at p; exact p
  | cnt ρ1 s1 => rw [hm] at p; exact p
  | bad => rw [hm] at p; exact p
end
end Den

set_option maxRecDepth 100000
set_option maxHeartbeats 4000000
/-! Den: three names at once. -/
namespace Den
open PySem PySem.Spec PyProof.Rows L2
def sPar3 (i j l : Nat) (a : DA) : DS := fun ρ st => (a ρ st).into ρ fun ds s1 => match ds with
  | [x, y, z] => .nx (((ρ.set i (some x)).set j (some y)).set l (some z)) s1
  | _ => .bad
section
variable {C : Ctx}
theorem pds_par3 {i j l : Nat} {x y z : Str} {a b c : Expr} {ma : DA} {px py pz pt pos : Pos} {kt k2 pt2} (hc : C.X.calm = true) (hN : C.X.N.Nodup) (hi : C.X.N[i]? = some x) (hj : C.X.N[j]? = some y) (hl : C.X.N[l]? = some z) (hij : i ≠ j) (hil : i ≠ l) (hjl : j ≠ l)
    (hx : C.X.env.scope.names.lookup x = some .local) (hy : C.X.env.scope.names.lookup y = some .local) (hz : C.X.env.scope.names.lookup z = some .local) (ha : PDA C [a, b, c] ma)
    (hw : swappedStores [.Tuple [.Name x px, .Name y py, .Name z pz] kt pt] (.Tuple [a, b, c] k2 pt2) C.X.env = pure (some [x, y, z])) (hs : swapsWithSole [.Tuple [.Name x px, .Name y py, .Name z pz] kt pt] (.Tuple [a, b, c] k2 pt2) pos.line C.X.env = pure false := by rfl) :
    PDS C (.Assign [.Tuple [.Name x px, .Name y py, .Name z pz] kt pt] (.Tuple [a, b, c] k2 pt2) pos) (sPar3 i j l ma) :=
  PS.imp (ps_par3 hc hN hi hj hl hij hil hjl hx hy hz ha hw hs) fun D σ H ⟨ρ, st, ι, er, rl, p⟩ => by
    refine ⟨ρ, st, ι, er, rl, post_into p er fun ds s1 vs ι1 H1 st1 rl1 er1 rv p1 => ?_⟩
    split at p1
    · cases rv with
      | cons r1 r2 =>
        cases r2 with
        | cons r2 r3 =>
          cases r3 with
          | cons r3 r4 =>
            cases r4
            exact ⟨_, _, _, rfl, p1 _ ι1 H1 (Step.refl _ _ _) rl1 (((er1.set i r1).set j r2).set l r3)⟩
    · exact p1.elim
end
end Den

set_option maxRecDepth 100000
set_option maxHeartbeats 4000000
/-! Den: x = [.. for ..], a def called with nothing. -/
namespace Den
open PySem PySem.Spec PyProof.Rows L2
section
variable {C : Ctx} {elt tg iter : Expr} {ifs : List Expr} {scope : Scope} {own : List (Str × Nat)} {mi e : DE} {t : DT} {g : TG} {gd : GD} {is vs : List Nat} {pos spos py : Pos} {x y : Str} {p : Pos} {i k n : Nat} {m : DF}
theorem lcL_imp (hd : TgD C.T C.T.K g gd is) (hv : ∀ j ∈ is, j ∈ vs) {σ : L2.St} {H : Hp} {Q : VK} (h : tD C.T C.xp C.W (dLcL mi gd t e vs) σ H Q) :
    tLc (iList C.X.K (tD C.T C.xp C.W mi)) g (tDT C.T C.xp (fun _ _ _ _ => False) t) (tD C.T C.xp (fun _ _ _ _ => False) e) vs σ H Q := by
  obtain ⟨ρ, st, ι, er, rl, q⟩ := h
  refine ⟨ρ, st, ι, er, rl, post_bind q fun d s1 v ι1 H1 st1 rl1 rv p1 => ?_⟩
  have er1 := er.step st1
  rw [C.hK]
  have turns : ∀ a xs ds, SqL C.T.K (hide ι1 s1 H1) a xs → RepL C.T C.xp (hide ι1 s1 H1) ι1 xs ds → ds.length ≤ 100000 → Post C.T C.xp (fun c d H => C.W c d σ H) ι1 s1 H1 (Rep C.T C.xp) Q (lcEnd (lcL gd t e (wipeD ρ vs) ds s1)) →
      ∀ L, H1 L = none → ∃ W' : Nat → Nat → Hp → Prop, (∃ m, W' 0 m (upd H1 L (.lst []))) ∧ ∀ i m H, W' i m H → ((Itl C.T.K a).stop i H ∧ Q (.ref L) H) ∨ ((Itl C.T.K a).go i H ∧ ∃ Nx : Hp → Prop, (∀ H', Nx H' → ∃ m', m' < m ∧ W' (i + 1) m' H') ∧
        ∀ x H', (Itl C.T.K a).yld i H x H' → g x (L2.wipe σ vs) H' fun σ2 H2 => L2.wipe σ2 vs = L2.wipe σ vs ∧ tDT C.T C.xp (fun _ _ _ _ => False) t σ2 H2 fun b H3 =>
          if b = true then tD C.T C.xp (fun _ _ _ _ => False) e σ2 H3 fun y H4 => ∃ acc, H4 L = some (.lst acc) ∧ acc.length < sizeLine ∧ Nx (upd H4 L (.lst (acc ++ [y]))) else Nx H3) := by
    intro a xs ds sq rs hl q L hL
    refine lc_list (K := C.T.K) (a := a) (xs := xs) (LeftC C.T C.xp (fun c d H => C.W c d σ H) Q gd t e (wipeD ρ vs) ds ι1 s1 H1 L) (leftC_start rl1 hL q) (fun i H' _ w => le_l (leftC_sq hL w) sq) (fun i x H' hx w => ?_) fun H' w => leftC_end rl1 hL (by rw [rs.length]; exact Nat.le_refl _) w
    obtain ⟨z, hz, rz⟩ := rs.getV hx
    have lt : i < ds.length := (List.getElem?_eq_some_iff.mp hz).1
    exact leftC_turn hd hv (by omega) er1 hL hz rz w
  cases rv with
  | lst h1 r1 =>
    dsimp only at p1
    split at p1
    · rename_i hl
      exact ⟨_, rfl, ⟨_, SqL.of (hide_sub h1)⟩, turns _ _ _ (SqL.of h1) r1 hl p1⟩
    · exact p1.elim
  | ro h1 r1 =>
    dsimp only at p1
    split at p1
    · rename_i hl
      exact ⟨_, rfl, ⟨_, le_l (hide_le _ _ _) h1⟩, turns _ _ _ h1 r1 hl p1⟩
    · exact p1.elim
  | _ => exact p1.elim
theorem pds_setLcL (hc : C.X.calm = true) (hN : C.X.N.Nodup) (hy : C.X.N[i]? = some y) (hyl : C.X.env.scope.names.lookup y = some .local) (hi : PD C iter mi) (ok : BlkOk C.X.N C.X.env.scope scope own) (hg : ∀ s H c cl fp, PG (C.blk s H scope c cl fp).X tg g) (hd : TgD C.T C.T.K g gd is) (hv : ∀ j ∈ is, j ∈ own.map (·.2))
    (ht : ∀ s H c cl fp, PDTs (C.blk s H scope c cl fp) ifs t) (he : ∀ s H c cl fp, PD (C.blk s H scope c cl fp) elt e) (hs : ∀ x, foldedSetIterable iter C.X.env x = pure x := by intro _; rfl)
    (hsw : swapsWith (.ListComp elt [⟨tg, iter, ifs, 0⟩] scope pos) (some (.Name y py)) spos.line C.X.env = pure true := by first | rfl | exact sw_true rfl rfl rfl rfl) :
    PDS C (.Assign [.Name y py] (.ListComp elt [⟨tg, iter, ifs, 0⟩] scope pos) spos) (sSet i (dLcL mi gd t e (own.map (·.2)))) :=
  PS.imp (ps_setLc hc hN hy hyl hsw (pi_list hi) ok hg ht he hs) fun D σ H ⟨ρ, st, ι, er, rl, q⟩ =>
    lcL_imp hd hv ⟨ρ, st, ι, er, rl, post_into q er fun d s1 v ι1 H1 st1 rl1 er1 rv p1 => p1 _ ι1 H1 (Step.refl _ _ _) rl1 (er1.set i rv)⟩
theorem pd_callN (d : Def C.X.prog C.X.w C.T C.X.mg C.X.base k n x [] m) (ft : Fit C k) (hg : Gl C.X x) (hdb : (x == ("__debug__" : Str)) = false := by decide)
    (hpl : ((backTo pos (starEach [] C.X.env)).any (·.1) || (backToKw pos (keywordEach [] C.X.env)).any (·.1.isNone)) = false := by rfl) : PD C (.Call (.Name x p) [] [] pos) (dCallA 0 m dNil) := by
  obtain ⟨fd, F, b⟩ := d.ex
  have F' : FnD C k (C.T.fa n) fd [] m := by rw [FnD, C.hK]; exact F
  have h := pd_call0 (pos := pos) (p := p) (ks := []) F' ft.room ft.tk (bd_all b rfl) hg d.g (by rw [C.hK]; exact d.kp) pdk_nil rfl rfl hdb hpl
  exact PE.imp h fun σ H Q ⟨ρ, st, ι, er, rl, q⟩ => ⟨ρ, st, ι, er, rl, q⟩
end
end Den

set_option maxRecDepth 100000
set_option maxHeartbeats 4000000
/-! Den: x = [..] over any walk, of one clause and of two. -/
namespace Den
open PySem PySem.Spec PyProof.Rows L2
theorem Fit.u1 {C : Ctx} {k : Nat} (h : Fit C k) : C.X.A.units + 1 < cLine := by have := h.u; omega
section
variable {C : Ctx} {tg iter tg1 iter1 elt : Expr} {ifs ifs1 : List Expr} {scope : Scope} {own : List (Str × Nat)} {pos spos py : Pos} {mi mi1 : DIt} {g g1 : TG} {gd gd1 : GD} {is is1 vs1 : List Nat} {t t1 : DT} {e de : DE} {i : Nat} {y : Str}
theorem lc_imp {vs : List Nat} {σ : L2.St} {H : Hp} {Q : VK} (hd : TgD C.T C.T.K g gd is) (hv : ∀ j ∈ is, j ∈ vs) (h : tD C.T C.xp C.W (dLc mi gd t de vs) σ H Q) :
    tLc (tDI C.T C.xp C.W mi) g (tDT C.T C.xp (fun _ _ _ _ => False) t) (tD C.T C.xp (fun _ _ _ _ => False) de) vs σ H Q := by
    obtain ⟨ρ, st, ι, er, rl, p⟩ := h
    refine ⟨ρ, st, ι, er, rl, post_bind p fun ds s1 J ι1 H1 st1 rl1 ⟨Gd, wk, hG⟩ p1 => ?_⟩
    have er1 := er.step st1
    intro D hD
    split at p1
    · rename_i hl
      exact lc_it wk (LeftC C.T C.xp (fun c d H => C.W c d σ H) Q gd t de (wipeD ρ vs) ds ι1 s1 H1 D) (leftC_start rl1 hD p1) (fun i H' _ hL => hG _ (leftC_sq hD hL))
        (fun i x H' H'' hi hL ⟨eH, d, hd', rd⟩ => by
          subst eH
          exact leftC_turn hd hv (by omega) er1 hD hd' rd hL)
        (fun H' hL => leftC_end rl1 hD (Nat.le_refl _) hL)
    · exact p1.elim

theorem lc2_imp {vs : List Nat} {σ : L2.St} {H : Hp} {Q : VK} (hd : TgD C.T C.T.K g gd is) (hv : ∀ j ∈ is, j ∈ vs) (hd1 : TgD C.T C.T.K g1 gd1 is1) (hv1 : ∀ j ∈ is1, j ∈ vs1) (h : tD C.T C.xp C.W (dLc2 mi gd t mi1 gd1 t1 e vs vs1) σ H Q) :
    tLc2 (tDI C.T C.xp C.W mi) g (tDT C.T C.xp (fun _ _ _ _ => False) t) (tDI C.T C.xp (fun _ _ _ _ => False) mi1) g1 (tDT C.T C.xp (fun _ _ _ _ => False) t1) (tD C.T C.xp (fun _ _ _ _ => False) e) vs vs1 σ H Q := by
    obtain ⟨ρ, st, ι, er, rl, q⟩ := h
    refine ⟨ρ, st, ι, er, rl, post_bind q fun ds s1 J ι1 H1 st1 rl1 ⟨Gd, wk, hG⟩ q1 => ?_⟩
    have er1 := er.step st1
    intro p hp
    refine loop_of wk (P := fun i H => ∃ ι st acc ys, Way C (fun c d H => C.W c d σ H) Q ι1 s1 H1 p (lc2L gd t mi1 gd1 t1 e vs1 (wipeD ρ vs) (ds.drop i) st) acc ys ι st H) ⟨ι1.under p, s1, [], [], ?_⟩ (fun i H ⟨ι, st, acc, ys, w⟩ => ?_) (fun i x Ha Hb hlt ⟨ι, st, acc, ys, w⟩ ⟨eH, d, hx, hr⟩ => ?_) (fun H ⟨ι, st, acc, ys, w⟩ => ?_)
    · refine ⟨by rw [upd_upd]; exact Step.refl _ _ _, rl1.under hp, upd_same, .nil, ?_⟩
      have eb : ∀ m : Res (List D), (m.bind fun zs s2 => .ok (([] : List D) ++ zs) s2) = m := fun m => by cases m <;> rfl
      rw [eb]
      exact q1
    · have hx1 := w.s.ex
      rw [hide_under hp, hide_hd w.hd] at hx1
      exact hG _ (hx1.trans (hide_le _ _ _))
    · subst eH
      have hx1 := w.s.ex
      rw [hide_under hp, hide_hd w.hd] at hx1
      have pad : ∀ (k : Nat) (a : Addr), ι1.ad[k]? = some a → ι.ad[k]? = some a := w.s.pre.ad
      rw [drop_at hx] at w
      unfold lc2L at w
      have erw := er1.wipe vs
      have er' : EnvR C.T C.xp (hide ι st Hb) ι (wipeD ρ vs) (wipe σ vs) := ⟨erw.len, fun i y hy => let ⟨v, z1, z2⟩ := erw.at_ i y hy; ⟨v, z1, z2.monoA hx1 pad⟩⟩
      cases hgd : gd d (wipeD ρ vs) with
      | none => rw [hgd] at w; exact w.q.elim
      | some ρ' =>
        rw [hgd] at w
        dsimp only at w
        refine hd.ok _ _ _ _ _ _ _ _ _ _ er' (hr.monoA hx1 pad) hgd fun σ2 er2 hw => ⟨?_, ρ', st, ι, er2, w.rl, ?_⟩
        · rw [hw _ hv]
          have again : ∀ (ws : List Nat) (τ : L2.St), (∀ i ∈ ws, i ∈ vs) → wipe (wipe τ ws) vs = wipe τ vs := by
            intro ws
            induction ws with
            | nil => exact fun τ _ => rfl
            | cons i ws ih =>
              intro τ hi
              show wipe ((wipe τ ws).set i none) vs = _
              rw [wipe_set (hi i List.mem_cons_self)]
              exact ih τ fun z hz => hi z (List.mem_cons_of_mem _ hz)
          exact again _ σ fun _ z => z
        · cases htt : t ρ' st with
          | bad => rw [htt] at w; exact w.q.elim
          | exc c es s2 => rw [htt] at w; exact w.q.elim
          | ok bb s2 =>
            rw [htt] at w
            simp only [noX, bind_ok] at w
            intro b' ι2 H2 st2 rl2 eb
            have eb' : b' = bb := eb
            subst eb'
            have w2 := w.step st2 rl2
            cases b' with
            | false => exact iteF ⟨ι2, s2, acc, ys, w2⟩
            | true =>
              refine iteT ⟨ρ', s2, ι2, er2.step st2, rl2, ?_⟩
              cases hm : mi1 ρ' s2 with
              | bad => rw [hm] at w2; exact w2.q.elim
              | exc c es s3 => rw [hm] at w2; exact w2.q.elim
              | ok ds1 s3 =>
                rw [hm] at w2
                simp only [noX, bind_ok] at w2
                intro J1 ι3 H3 st3 rl3 ⟨Gd1, wk1, hG1⟩
                have w3 := w2.step st3 rl3
                have er3 := (er2.step st2).step st3
                refine loop_of wk1 (P := Inner C (fun c d H => C.W c d σ H) Q ι1 s1 H1 p gd1 t1 e (wipeD ρ' vs1) ds1 (fun s => lc2L gd t mi1 gd1 t1 e vs1 (wipeD ρ vs) (ds.drop (i + 1)) s) ι3 s3 H3) ⟨ι3, s3, acc, ys, w3, Le.refl _, fun _ _ z => z⟩
                  (fun j H' ⟨_, _, _, _, _, b⟩ => hG1 _ (b.le.trans (hide_le _ _ _))) (fun j x Hc Hd hj hI ⟨eH2, d1, hx2, hr2⟩ => ?_) (fun H' hI => ?_)
                · subst eH2
                  exact inner_turn hd1 hv1 (fun s => lc2L_no) er3 hx2 hr2 hI
                · exact inner_end (Nat.le_refl _) hI
    · rw [List.drop_eq_nil_of_le (Nat.le_refl _)] at w
      exact w.ends rl1 hp

theorem pds_setLc (hc : C.X.calm = true) (hN : C.X.N.Nodup) (hy : C.X.N[i]? = some y) (hyl : C.X.env.scope.names.lookup y = some .local) (hi : PDI C tg iter mi) (ok : BlkOk C.X.N C.X.env.scope scope own) (hg : ∀ s H c cl fp, PG (C.blk s H scope c cl fp).X tg g) (hd : TgD C.T C.T.K g gd is) (hv : ∀ j ∈ is, j ∈ own.map (·.2))
    (ht : ∀ s H c cl fp, PDTs (C.blk s H scope c cl fp) ifs t) (he : ∀ s H c cl fp, PD (C.blk s H scope c cl fp) elt de) (hs : ∀ x, foldedSetIterable iter C.X.env x = pure x := by intro _; rfl)
    (hsw : swapsWith (.ListComp elt [⟨tg, iter, ifs, 0⟩] scope pos) (some (.Name y py)) spos.line C.X.env = pure true := by first | rfl | exact sw_true rfl rfl rfl rfl) :
    PDS C (.Assign [.Name y py] (.ListComp elt [⟨tg, iter, ifs, 0⟩] scope pos) spos) (sSet i (dLc mi gd t de (own.map (·.2)))) :=
  PS.imp (ps_setLc hc hN hy hyl hsw hi ok hg ht he hs) fun D σ H ⟨ρ, st, ι, er, rl, q⟩ =>
    lc_imp hd hv ⟨ρ, st, ι, er, rl, post_into q er fun d s1 v ι1 H1 st1 rl1 er1 rv p1 => p1 _ ι1 H1 (Step.refl _ _ _) rl1 (er1.set i rv)⟩
theorem pds_setLc2 (hc : C.X.calm = true) (hN : C.X.N.Nodup) (hy : C.X.N[i]? = some y) (hyl : C.X.env.scope.names.lookup y = some .local) (hi : PDI C tg iter mi) (ok : BlkOk C.X.N C.X.env.scope scope own) (hvo : ∀ i ∈ vs1, i ∈ own.map (·.2)) (hg : ∀ s H c cl fp, PG (C.blk s H scope c cl fp).X tg g) (hd : TgD C.T C.T.K g gd is) (hv : ∀ j ∈ is, j ∈ own.map (·.2))
    (ht : ∀ s H c cl fp, PDTs (C.blk s H scope c cl fp) ifs t) (hi1 : ∀ s H c cl fp, PDI (C.blk s H scope c cl fp) tg1 iter1 mi1) (hg1 : ∀ s H c cl fp, PG (C.blk s H scope c cl fp).X tg1 g1) (hd1 : TgD C.T C.T.K g1 gd1 is1) (hv1 : ∀ j ∈ is1, j ∈ vs1)
    (ht1 : ∀ s H c cl fp, PDTs (C.blk s H scope c cl fp) ifs1 t1) (he : ∀ s H c cl fp, PD (C.blk s H scope c cl fp) elt e) (hs : ∀ x, foldedSetIterable iter C.X.env x = pure x := by intro _; rfl) (hs1 : ∀ env x, foldedSetIterable iter1 env x = pure x := by intro _ _; rfl)
    (hsw : swapsWith (.ListComp elt [⟨tg, iter, ifs, 0⟩, ⟨tg1, iter1, ifs1, 0⟩] scope pos) (some (.Name y py)) spos.line C.X.env = pure true := by first | rfl | exact sw_true rfl rfl rfl rfl) :
    PDS C (.Assign [.Name y py] (.ListComp elt [⟨tg, iter, ifs, 0⟩, ⟨tg1, iter1, ifs1, 0⟩] scope pos) spos) (sSet i (dLc2 mi gd t mi1 gd1 t1 e (own.map (·.2)) vs1)) :=
  PS.imp (ps_setLc2 (wi1 := tDI C.T C.xp (fun _ _ _ _ => False) mi1) (tt := tDT C.T C.xp (fun _ _ _ _ => False) t) (tt1 := tDT C.T C.xp (fun _ _ _ _ => False) t1) (te := tD C.T C.xp (fun _ _ _ _ => False) e) hc hN hy hyl hsw hi ok hvo hg ht hi1 hg1 ht1 he hs hs1) fun D σ H ⟨ρ, st, ι, er, rl, q⟩ =>
    lc2_imp hd hv hd1 hv1 ⟨ρ, st, ι, er, rl, post_into q er fun d s1 v ι1 H1 st1 rl1 er1 rv p1 => p1 _ ι1 H1 (Step.refl _ _ _) rl1 (er1.set i rv)⟩
end
end Den

set_option maxRecDepth 100000
set_option maxHeartbeats 4000000
/-! Den: operations that may change the store; == by a class's own __eq__. -/
namespace Den
open PySem PySem.Spec PyProof.Rows L2
abbrev F2 := D → D → Store → Option (D × Store)
def dOpS (g : F2) (a b : DE) : DE := fun ρ st => (a ρ st).bind fun d s1 => (b ρ s1).bind fun e s2 => match g d e s2 with
  | some (z, s3) => .ok z s3
  | none => .bad
def OpSD (C : Ctx) (r : R2) (g : F2) : Prop := ∀ ι st H x y dx dy dz st1 (Q : VK), RelSt C.T C.xp ι st H → Rep C.T C.xp (hide ι st H) ι x dx → Rep C.T C.xp (hide ι st H) ι y dy → g dx dy st = some (dz, st1) →
  (∀ v ι' H', Step ι st H ι' st1 H' → RelSt C.T C.xp ι' st1 H' → Rep C.T C.xp (hide ι' st1 H') ι' v dz → Q v H') → r x y H Q
/-- what leaves the store -/
def still (f : D → D → Option D) : F2 := fun x y st => (f x y).map fun z => (z, st)
def orS (g g' : F2) : F2 := fun x y st => (g x y st).or (g' x y st)
section
variable {C : Ctx}
theorem OpSD.of {r : R2} {f : D → D → Option D} (h : OpD C r f) : OpSD C r (still f) := fun ι st H x y dx dy dz st1 Q rl rx ry e k => by
  obtain ⟨z, hz, e2⟩ := Option.map_eq_some_iff.mp e
  cases e2
  exact h ι st H x y dx dy _ Q rl rx ry hz k
theorem OpSD.or {r r' : R2} {g g' : F2} (h : OpSD C r g) (h' : OpSD C r' g') : OpSD C (fun x y H Q => r x y H Q ∨ r' x y H Q) (orS g g') := fun ι st H x y dx dy dz st1 Q rl rx ry e k => by
  unfold orS at e
  cases hg : g dx dy st with
  | some z =>
    rw [hg] at e
    exact .inl (h ι st H x y dx dy dz st1 Q rl rx ry (hg.trans e) k)
  | none =>
    rw [hg] at e
    exact .inr (h' ι st H x y dx dy dz st1 Q rl rx ry e k)
theorem tOpS_of {r : R2} {g : F2} {ma mb : DE} (hr : OpSD C r g) : ∀ σ H Q, tD C.T C.xp C.W (dOpS g ma mb) σ H Q → tOp r (tD C.T C.xp C.W ma) (tD C.T C.xp C.W mb) σ H Q := fun σ H Q ⟨ρ, st, ι, e, rl, p⟩ => by
  refine ⟨ρ, st, ι, e, rl, post_bind p fun d s1 v ι1 H1 st1 rl1 rv p1 => ?_⟩
  refine ⟨ρ, s1, ι1, e.step st1, rl1, post_bind p1 fun d2 s2 v2 ι2 H2 st2 rl2 rv2 p2 => ?_⟩
  cases hg : g d d2 s2 with
  | none =>
    rw [hg] at p2
    exact p2.elim
  | some z =>
    obtain ⟨z, s3⟩ := z
    rw [hg] at p2
    exact hr ι2 s2 H2 v v2 d d2 z s3 Q rl2 (rv.mono st2.ex st2.pre) rv2 hg fun v' ι' H' s' r' e' => p2 v' ι' H' s' r' e'
theorem pd_cmpS {op : CmpOp} {r : R2} {g : F2} {a b : Expr} {ma mb : DE} {pos : Pos} (ho : OpR C.X (compareOp op) r) (hr : OpSD C r g) (ha : PD C a ma) (hb : PD C b mb) (hm : behindInMarks op b = false) : PD C (.Compare a [op] [b] pos) (dOpS g ma mb) :=
  PE.imp (pe_cmpR ho ha hb hm) (tOpS_of hr)
end
/-! ### == by an own __eq__ -/
structure OwnE (T : Txt) (c : Nat) (f : Addr) (nf : Tag → Bool) : Prop where
  eq : PySem.W.findIn T.K (.ref (T.ca c)) "__eq__" = some (some (.ref f))
  fn : PySem.W.isFn T.K (.ref f) = true
  nf : ∀ t, nf t = true → PySem.W.notFirst T.K (T.ca c) (tagV T t) = true
/-- the own == says so -/
def gOwnE (c : Nat) (own : List Nat) (nf : Tag → Bool) (m : DF) : F2 := fun x y st => if (fieldsOf c x st).isSome = true ∧ ((tagD own y st).map nf).getD false = true then (match m [x, y] st with
  | .ok (.bl b) s1 => some (.bl b, s1)
  | _ => none) else none
section
variable {C : Ctx} {c k : Nat} {own : List Nat} {nf : Tag → Bool} {f : Addr} {fd : FuncData} {ps : List Str} {m : DF}
def rOwnE (C : Ctx) (c : Nat) (own : List Nat) (nf : Tag → Bool) (m : DF) : R2 := fun x y H Q => ∃ ι st dx dy t b s1, RelSt C.T C.xp ι st H ∧ Rep C.T C.xp (hide ι st H) ι x dx ∧ Rep C.T C.xp (hide ι st H) ι y dy ∧ (fieldsOf c dx st).isSome = true ∧ tagD own dy st = some t ∧ nf t = true ∧
  m [dx, dy] st = .ok (.bl b) s1 ∧ ∀ ι' H', Step ι st H ι' s1 H' → RelSt C.T C.xp ι' s1 H' → Q (.bl b) H'
theorem osd_ownE : OpSD C (rOwnE C c own nf m) (gOwnE c own nf m) := fun ι st H x y dx dy dz st1 Q rl rx ry e q => by
  unfold gOwnE at e
  split at e
  · rename_i hc
    obtain ⟨h1, h2⟩ := hc
    cases ht : tagD own dy st with
    | none =>
      rw [ht] at h2
      cases h2
    | some t =>
      rw [ht] at h2
      split at e
      · rename_i b s1 hm
        cases e
        exact ⟨ι, st, dx, dy, t, b, _, rl, rx, ry, h1, ht, h2, hm, fun ι' H' s r => q _ ι' H' s r (.bl b)⟩
      · cases e
  · cases e
theorem op_ownE (ho : ∀ c ∈ own, ClsI C.T c) (oe : OwnE C.T c f nf) (F : FnD C k f fd ps m) (hb : Binds C.T.K fd ps []) (hr : RoomG k C.X.A) (tk : L2N.Takes C.X C.W) (hp : ps.length = 2) : OpR C.X (compareOp .Eq) (rOwnE C c own nf m) := by
  intro pins s σ H x y v u Q I rx ry q
  obtain ⟨ι, st, dx, dy, t, b, s1, rl, rdx, rdy, h1, ht, hn, hm, q⟩ := q
  obtain ⟨ds, hds⟩ := Option.isSome_iff_exists.mp h1
  obtain ⟨a, da, xs, ev, ha, hl, rxs⟩ := inst_of rl rdx hds
  subst ev
  obtain rfl : v = Value.ref a := rx
  obtain ⟨mA, J, _⟩ := ins_get I.hok ha
  obtain ⟨od, J, _⟩ := J.look
  obtain ⟨m', hF⟩ := I.fr
  obtain ⟨P, Z, hP, _⟩ := kit_of I ry (by rw [C.hK]; exact tagD_rep ho rl rdy ht)
  show wpAny (model C.X.prog C.X.w) C.X.A (richCompare .Eq (.ref a) u) (EP C.X pins σ Q) C.X.xe s
  refine PySem.W.cmp_K (op := .Eq) (tb := tagV C.T t) hr.room.units0 hF I.ok.mod.kin J (Z.ty _ _ I.kIn hP) (by rw [C.hK]; exact oe.nf t hn) (by rw [C.hK]; exact oe.eq) (by rw [C.hK]; exact oe.fn) ?_
  have sp : spM C.T ps.length m [.ref a, y] H (fun w H' => w = .bl b ∧ Q w H') (fun c d H' => C.W c d σ H') := by
    refine ⟨hp.symm, C.xp, [dx, dy], st, ι, .cons rdx (.cons rdy .nil), rl, ?_⟩
    rw [hm]
    intro w ι' H' s' r' e'
    cases e'
    exact ⟨rfl, q ι' H' s' r'⟩
  have bb := hb s [Value.ref a, u] (by rw [← C.hK]; exact I.kIn) hp.symm
  rw [List.append_nil] at bb
  have z := run_fnG (vs := [.ref a, y]) F hr tk (fun _ _ _ h => h) I bb (.cons rfl (.cons ry .nil)) sp
  refine wpAny_mono z (fun w s' e => ?_) fun _ _ e => e
  obtain ⟨v', H', I', rv, ev, q'⟩ := e
  subst ev
  cases rv
  exact ⟨.bl b, H', I', rfl, q'⟩
end
end Den

set_option maxRecDepth 100000
set_option maxHeartbeats 4000000
/-! Den: != by a class's own __eq__. -/
namespace Den
open PySem PySem.Spec PyProof.Rows L2
section
variable {prog : Program} {w : World} {A : Around} {E : Value → Shared → Prop} {s : Shared} {K : PySem.W.Frag} {x cl f : Addr} {ox : Obj} {od : Option Obj} {b tb : Value}
theorem ne_in {Q : Fin → Shared → Prop} (hu : A.units < cLine) (X : K.In s.heap) (I : PySem.W.InstAt s.heap x ox cl od) (hs : PySem.W.findIn K (.ref cl) "__eq__" = some (some (.ref f))) (hf : PySem.W.isFn K (.ref f) = true)
    (h : wpAny (model prog w) A (call (.ref f) [.ref x, b]) (fun v s' => ∃ r, v = .bool r ∧ Q (.done (.ret (.bool (!r)))) s') E s) : wpAny (model prog w) A (Builtin.«object.__ne__» ⟨[.ref x, b], []⟩) Q E s := by
  have ask : wpAny (model prog w) A (callSpecialIfBound? (.ref x) "__eq__" [b]) (fun o s' => ∃ r, o = some (.bool r) ∧ Q (.done (.ret (.bool (!r)))) s') E s :=
    PySem.W.ifBound_K X I hs hf (wpAny_mono h (fun v s' hv => by obtain ⟨r, rfl, q⟩ := hv; exact ⟨r, rfl, q⟩) fun _ _ e => e)
  unfold Builtin.«object.__ne__»
  refine wpAny_bind (m := slotArgs "__ne__" 1 _) (wpAny_pure ?_)
  dsimp only
  refine wpAny_bind (m := cRoomFor _ _) (wpAny_cRoomFor hu ?_)
  refine wpAny_bind (m := callSpecialIfBound? _ _ _) (wpAny_mono ask (fun o s' ho => ?_) fun _ _ e => e)
  obtain ⟨r, rfl, q⟩ := ho
  dsimp only
  exact wpAny_bind (m := truthy _) (wpAny_truthy_bool (wpAny_pure q))
theorem ne_bound {args : List Value} {Q : Option Value → Shared → Prop} (X : K.In s.heap) (I : PySem.W.InstAt s.heap x ox cl od) (hn : PySem.W.findIn K (.ref cl) "__ne__" = some (some (.builtin "object.__ne__")))
    (h : wpAny (model prog w) A (call (.builtin "object.__ne__") (.ref x :: args)) (fun v => Q (some v)) E s) : wpAny (model prog w) A (callSpecialIfBound? (.ref x) "__ne__" args) Q E s := by
  have last : wpAny (model prog w) A (call (.builtin "object.__ne__") ([.ref x] ++ args) >>= fun v => pure (some v)) Q E s :=
    wpAny_bind (m := call _ _) (wpAny_mono h (fun _ _ q => wpAny_pure q) fun _ _ e => e)
  simp only [callSpecialIfBound?, bindSpecialIfBound?]
  refine wpAny_holding (wpAny_bind (wpAny_bind (wpAny_bind (I.type.here ((PySem.W.looks_findIn X hn).here (wpAny_bind (wpAny_askSetting (wpAny_ite ?_))))))))
  split
  · refine wpAny_bind (wpAny_of_eq (F.cmp_object.ne.bind _) (wpAny_pure ?_))
    exact last
  · refine wpAny_tryCatch (wpAny_bind (wpAny_of_eq (F.cmp_object.ne.bind _) (wpAny_pure ?_)))
    exact last
theorem ne_try {Q : Option Value → Shared → Prop} (hu : A.units + 1 < cLine) (X : K.In s.heap) (I : PySem.W.InstAt s.heap x ox cl od) (hm : PySem.W.mroIn K cl (.type "object") = some true) (hn : PySem.W.findIn K (.ref cl) "__ne__" = some (some (.builtin "object.__ne__")))
    (hs : PySem.W.findIn K (.ref cl) "__eq__" = some (some (.ref f))) (hf : PySem.W.isFn K (.ref f) = true)
    (h : wpAny (model prog w) A.in1 (call (.ref f) [.ref x, b]) (fun v s' => ∃ r, v = .bool r ∧ Q (some (.bool (!r))) s') E s) : wpAny (model prog w) A (tryCompare (.ref x) "__ne__" b) Q E s := by
  have inn := ne_in (A := A.in1) (Q := fun fin s' => ∃ r, fin = .done (.ret (.bool (!r))) ∧ Q (some (.bool (!r))) s') hu X I hs hf (wpAny_mono h (fun v s' hv => by obtain ⟨r, e, q⟩ := hv; exact ⟨r, e, r, rfl, q⟩) fun _ _ e => e)
  have ask : wpAny (model prog w) A (call (.builtin "object.__ne__") [.ref x, b]) (fun v s' => ∃ r, v = .bool (!r) ∧ Q (some (.bool (!r))) s') E s := by
    refine wpAny_call (codeAny_call_builtin F.cmp_object.ne.plain F.cmpEntry_ne (PySem.W.check_slot F.cmpKind_ne F.cmpSplit_ne (I.type.andThen (PySem.W.looks_mroIn X hm)) (F.cmpArgs_ne _ _) ?_))
    refine wpAny_mono inn (fun fin s' z => ?_) fun _ _ e => e
    obtain ⟨r, rfl, q⟩ := z
    exact ⟨r, rfl, q⟩
  unfold tryCompare
  refine wpAny_bind (m := callSpecialIfBound? _ _ _) (ne_bound X I hn (wpAny_mono ask (fun v s' z => ?_) fun _ _ e => e))
  obtain ⟨r, rfl, q⟩ := z
  exact wpAny_pure q
theorem ne_cmp {h₀ : Heap} {L : Addr} {m : Str → Option Value} {Q : Value → Shared → Prop} (hu : A.units + 1 < cLine) (hF : Fr h₀ L s.heap m) (X₀ : K.In h₀) (I : PySem.W.InstAt s.heap x ox cl od) (hb : PySem.W.Looks (model prog w) s.heap (typeOf b) tb) (hN : PySem.W.notFirst K cl tb = true)
    (hm : PySem.W.mroIn K cl (.type "object") = some true) (hn : PySem.W.findIn K (.ref cl) "__ne__" = some (some (.builtin "object.__ne__"))) (hs : PySem.W.findIn K (.ref cl) "__eq__" = some (some (.ref f))) (hf : PySem.W.isFn K (.ref f) = true)
    (h : wpAny (model prog w) A.in1 (call (.ref f) [.ref x, b]) (fun v s' => ∃ r, v = .bool r ∧ Q (.bool (!r)) s') E s) : wpAny (model prog w) A (richCompare .NotEq (.ref x) b) Q E s := by
  have X := X₀.keeps hF.keep
  have ask := ne_try (Q := fun o s' => ∃ r, o = some (.bool (!r)) ∧ Q (.bool (!r)) s') hu X I hm hn hs hf (wpAny_mono h (fun v s' hv => by obtain ⟨r, e, q⟩ := hv; exact ⟨r, e, r, rfl, q⟩) fun _ _ e => e)
  unfold richCompare
  simp only [oneThing_ref]
  refine wpAny_holding (wpAny_bind (m := cRoomFor _ _) (wpAny_cRoomFor (Nat.lt_of_succ_lt hu) (wpAny_bind (m := typeOf _) (I.type.here (wpAny_bind (m := typeOf _) (hb.here ?_))))))
  have go : ∀ (k : Option Value → Sem Value), (∀ v, k (some v) = pure v) → wpAny (model prog w) A (tryCompare (.ref x) "__ne__" b >>= k) Q E s := fun k hk => by
    refine wpAny_bind (m := tryCompare _ _ _) (wpAny_mono ask (fun o s' z => ?_) fun _ _ e => e)
    obtain ⟨r, rfl, q⟩ := z
    rw [hk]
    exact wpAny_pure q
  split
  · rename_i d
    have e : PySem.W.subIn K tb (.ref cl) = some false := by
      rcases Bool.or_eq_true_iff.mp hN with e | e
      · exact absurd (beq_iff_eq.mp e).symm (by simpa using d)
      · exact beq_iff_eq.mp e
    refine wpAny_bind (m := isSubtype _ _) ((PySem.W.looks_subIn X e).here ?_)
    simp only [if_false, Bool.false_eq_true]
    exact go _ fun _ => rfl
  · refine (wpAny_bind (wpAny_pure ?_) :)
    simp only [if_false, Bool.false_eq_true]
    exact go _ fun _ => rfl
end
end Den

set_option maxRecDepth 100000
set_option maxHeartbeats 4000000
/-! Den: a def that a built-in calls; != as a rule. -/
namespace Den
open PySem PySem.Spec PyProof.Rows L2
section
variable {X : Cx} {k : Nat} {f : Addr} {fd : FuncData} {ps : List Str} {sp : Sp} {pins : List (Addr × Obj)} {σ : L2.St} {H : Hp} {s : Shared} {Q : VK} {E : XK} {W : WX}
/-- one built-in further in -/
theorem run_in1 {us us' : List Value} {vs : List V} (F : FnG X.prog X.w X.K X.mg X.base k f fd ps sp) (hr : RoomG (k + 1) X.A) (tk : L2N.Takes X W) (hW : ∀ cls d H', E cls d H' → W cls d σ H')
    (I : Inv X pins σ H s) (hb : BindsTo s fd ⟨us, []⟩ (ps.zip us')) (r : Vals vs us') (h : sp vs H Q E) : wpAny (model X.prog X.w) X.A.in1 (call (.ref f) us) (EP X pins σ Q) X.xe s := by
  have e := I.env0
  have e1 : Env0 X.prog X.w X.K X.mg X.base X.A.in1 X.stack s H := ⟨e.frames, e.mod, e.bs, e.bsz, e.funs, e.frf, e.hok, e.bare⟩
  have z := F.run X.A.in1 X.stack s H ⟨us, []⟩ us' vs Q E ⟨hr.room.in1, hr.gd⟩ e1 hb r h
  refine wpAny_call (codeAny_mono z fun res s' q => ?_)
  have g : Ended X pins σ Q res s' := ends_of I tk hW q
  clear q
  match res, g with
  | .error e', q' => exact q'
  | .ok (.ret u), q' => exact q'
  | .ok .next, q' => exact False.elim q'
  | .ok .brk, q' => exact False.elim q'
  | .ok .cont, q' => exact False.elim q'
end
structure OwnN (T : Txt) (c : Nat) (f : Addr) (nf : Tag → Bool) : Prop where
  e : OwnE T c f nf
  ne : PySem.W.findIn T.K (.ref (T.ca c)) "__ne__" = some (some (.builtin "object.__ne__"))
  ob : PySem.W.mroIn T.K (T.ca c) (.type "object") = some true
/-- the own ==, turned about -/
def gOwnNe (c : Nat) (own : List Nat) (nf : Tag → Bool) (m : DF) : F2 := fun x y st => match gOwnE c own nf m x y st with
  | some (.bl b, s1) => some (.bl (!b), s1)
  | _ => none
section
variable {C : Ctx} {c k : Nat} {own : List Nat} {nf : Tag → Bool} {f : Addr} {fd : FuncData} {ps : List Str} {m : DF}
def rOwnNe (C : Ctx) (c : Nat) (own : List Nat) (nf : Tag → Bool) (m : DF) : R2 := fun x y H Q => ∃ ι st dx dy t b s1, RelSt C.T C.xp ι st H ∧ Rep C.T C.xp (hide ι st H) ι x dx ∧ Rep C.T C.xp (hide ι st H) ι y dy ∧ (fieldsOf c dx st).isSome = true ∧ tagD own dy st = some t ∧ nf t = true ∧
  m [dx, dy] st = .ok (.bl b) s1 ∧ ∀ ι' H', Step ι st H ι' s1 H' → RelSt C.T C.xp ι' s1 H' → Q (.bl (!b)) H'
theorem osd_ownNe : OpSD C (rOwnNe C c own nf m) (gOwnNe c own nf m) := fun ι st H x y dx dy dz st1 Q rl rx ry e q => by
  unfold gOwnNe gOwnE at e
  split at e
  · rename_i b s1 e2
    cases e
    split at e2
    · rename_i hc
      obtain ⟨h1, h2⟩ := hc
      cases ht : tagD own dy st with
      | none =>
        rw [ht] at h2
        cases h2
      | some t =>
        rw [ht] at h2
        split at e2
        · rename_i b' s1' hm
          cases e2
          exact ⟨ι, st, dx, dy, t, b, _, rl, rx, ry, h1, ht, h2, hm, fun ι' H' s r => q _ ι' H' s r (.bl (!b))⟩
        · cases e2
    · cases e2
  · cases e
theorem op_ownNe (ho : ∀ c ∈ own, ClsI C.T c) (oe : OwnN C.T c f nf) (F : FnD C k f fd ps m) (hb : Binds C.T.K fd ps []) (hr : RoomG (k + 1) C.X.A) (tk : L2N.Takes C.X C.W) (hp : ps.length = 2) : OpR C.X (compareOp .NotEq) (rOwnNe C c own nf m) := by
  intro pins s σ H x y v u Q I rx ry q
  obtain ⟨ι, st, dx, dy, t, b, s1, rl, rdx, rdy, h1, ht, hn, hm, q⟩ := q
  obtain ⟨ds, hds⟩ := Option.isSome_iff_exists.mp h1
  obtain ⟨a, da, xs, ev, ha, hl, rxs⟩ := inst_of rl rdx hds
  subst ev
  obtain rfl : v = Value.ref a := rx
  obtain ⟨mA, J, _⟩ := ins_get I.hok ha
  obtain ⟨od, J, _⟩ := J.look
  obtain ⟨m', hF⟩ := I.fr
  obtain ⟨P, Z, hP, _⟩ := kit_of I ry (by rw [C.hK]; exact tagD_rep ho rl rdy ht)
  show wpAny (model C.X.prog C.X.w) C.X.A (richCompare .NotEq (.ref a) u) (EP C.X pins σ Q) C.X.xe s
  refine ne_cmp (tb := tagV C.T t) (f := f) (by have := hr.room.in1.units0; exact this) hF I.ok.mod.kin J (Z.ty _ _ I.kIn hP) (by rw [C.hK]; exact oe.e.nf t hn) (by rw [C.hK]; exact oe.ob) (by rw [C.hK]; exact oe.ne) (by rw [C.hK]; exact oe.e.eq) (by rw [C.hK]; exact oe.e.fn) ?_
  have sp : spM C.T ps.length m [.ref a, y] H (fun w H' => w = .bl b ∧ Q (.bl (!b)) H') (fun c d H' => C.W c d σ H') := by
    refine ⟨hp.symm, C.xp, [dx, dy], st, ι, .cons rdx (.cons rdy .nil), rl, ?_⟩
    rw [hm]
    intro w ι' H' s' r' e'
    cases e'
    exact ⟨rfl, q ι' H' s' r'⟩
  have bb := hb s [Value.ref a, u] (by rw [← C.hK]; exact I.kIn) hp.symm
  rw [List.append_nil] at bb
  have z := run_in1 (vs := [.ref a, y]) F hr tk (fun _ _ _ h => h) I bb (.cons rfl (.cons ry .nil)) sp
  refine wpAny_mono z (fun w s' e => ?_) fun _ _ e => e
  obtain ⟨v', H', I', rv, ev, q'⟩ := e
  subst ev
  cases rv
  exact ⟨b, rfl, .bl (!b), H', I', rfl, q'⟩
end
end Den

set_option maxRecDepth 100000
set_option maxHeartbeats 4000000
/-! Den: str, repr, len by a class's own defs. -/
namespace Den
open PySem PySem.Spec PyProof.Rows L2
section
variable {X : Cx} {k : Nat} {f : Addr} {fd : FuncData} {ps : List Str} {sp : Sp} {pins : List (Addr × Obj)} {σ : L2.St} {H : Hp} {s : Shared} {Q : VK} {E : XK} {W : WX}
theorem run_in2 {us us' : List Value} {vs : List V} (F : FnG X.prog X.w X.K X.mg X.base k f fd ps sp) (hr : RoomG (k + 2) X.A) (tk : L2N.Takes X W) (hW : ∀ cls d H', E cls d H' → W cls d σ H')
    (I : Inv X pins σ H s) (hb : BindsTo s fd ⟨us, []⟩ (ps.zip us')) (r : Vals vs us') (h : sp vs H Q E) : wpAny (model X.prog X.w) X.A.in1.in1 (call (.ref f) us) (EP X pins σ Q) X.xe s := by
  have e := I.env0
  have e1 : Env0 X.prog X.w X.K X.mg X.base X.A.in1.in1 X.stack s H := ⟨e.frames, e.mod, e.bs, e.bsz, e.funs, e.frf, e.hok, e.bare⟩
  have z := F.run X.A.in1.in1 X.stack s H ⟨us, []⟩ us' vs Q E ⟨hr.room.in1.in1, hr.gd⟩ e1 hb r h
  refine wpAny_call (codeAny_mono z fun res s' q => ?_)
  have g : Ended X pins σ Q res s' := ends_of I tk hW q
  clear q
  match res, g with
  | .error e', q' => exact q'
  | .ok (.ret u), q' => exact q'
  | .ok .next, q' => exact False.elim q'
  | .ok .brk, q' => exact False.elim q'
  | .ok .cont, q' => exact False.elim q'
end
/-- a def of the class's own under a name with underscores -/
structure OwnF (T : Txt) (c : Nat) (nm : Str) (f : Addr) : Prop where
  at_ : PySem.W.findIn T.K (.ref (T.ca c)) nm = some (some (.ref f))
  fn : PySem.W.isFn T.K (.ref f) = true
/-- asked of an own instance: a text -/
def gOwnT (c : Nat) (m : DF) : FB := fun ds st => match ds with
  | [x] => if (fieldsOf c x st).isSome = true then (match m [x] st with
    | .ok (.str z) s1 => some (.str z, s1)
    | _ => none) else none
  | _ => none
/-- asked of an own instance: how many -/
def gOwnL (c : Nat) (m : DF) : FB := fun ds st => match ds with
  | [x] => if (fieldsOf c x st).isSome = true then (match m [x] st with
    | .ok (.int n) s1 => if 0 ≤ n ∧ n < 2 ^ 63 then some (.int n, s1) else none
    | _ => none) else none
  | _ => none
section
variable {C : Ctx} {c k : Nat} {f : Addr} {fd : FuncData} {ps : List Str} {m : DF}
theorem inst_look {pins : List (Addr × Obj)} {s : Shared} {σ : L2.St} {H : Hp} {v : V} {u : Value} {d : D} {st : Store} {ι : Io} (I : Inv C.X pins σ H s) (rl : RelSt C.T C.xp ι st H) (rd : Rep C.T C.xp (hide ι st H) ι v d) (ru : RelV v u) (h : (fieldsOf c d st).isSome = true) :
    ∃ a ox od, v = .ref a ∧ u = .ref a ∧ PySem.W.InstAt s.heap a ox (C.T.ca c) od := by
  obtain ⟨ds, hds⟩ := Option.isSome_iff_exists.mp h
  obtain ⟨a, da, xs, ev, ha, _, _⟩ := inst_of rl rd hds
  subst ev
  obtain ⟨mA, J, _⟩ := ins_get I.hok ha
  obtain ⟨od, J, _⟩ := J.look
  exact ⟨a, _, _, rfl, ru, J⟩
/-- what is asked of one own instance by its own def -/
def rOwn1 (C : Ctx) (c : Nat) (m : DF) (P : D → Bool) : List V → Hp → VK → Prop := fun xs H Q => ∃ x ι st d z s1, xs = [x] ∧ RelSt C.T C.xp ι st H ∧ Rep C.T C.xp (hide ι st H) ι x d ∧ (fieldsOf c d st).isSome = true ∧ m [d] st = .ok z s1 ∧ P z = true ∧
  ∀ v ι' H', Step ι st H ι' s1 H' → RelSt C.T C.xp ι' s1 H' → Rep C.T C.xp (hide ι' s1 H') ι' v z → Q v H'
def isStrD : D → Bool
  | .str _ => true
  | _ => false
def isLenD : D → Bool
  | .int n => decide (0 ≤ n) && decide (n < 2 ^ 63)
  | _ => false
theorem sp_own1 {x : V} {H : Hp} {Q : VK} {σ : L2.St} {ι : Io} {st s1 : Store} {d z : D} {W : WX} (hp : ps.length = 1) (rl : RelSt C.T C.xp ι st H) (rd : Rep C.T C.xp (hide ι st H) ι x d) (hm : m [d] st = .ok z s1)
    (q : ∀ v ι' H', Step ι st H ι' s1 H' → RelSt C.T C.xp ι' s1 H' → Rep C.T C.xp (hide ι' s1 H') ι' v z → Q v H') : spM C.T ps.length m [x] H (fun v H' => Q v H' ∧ ∃ ι' , Rep C.T C.xp (hide ι' s1 H') ι' v z) (fun c d H' => C.W c d σ H') := by
  refine ⟨hp.symm, C.xp, [d], st, ι, .cons rd .nil, rl, ?_⟩
  rw [hm]
  intro v ι' H' s' r' e'
  exact ⟨q v ι' H' s' r' e', ι', e'⟩
theorem call_ownR (oe : OwnF C.T c "__repr__" f) (F : FnD C k f fd ps m) (hb : Binds C.T.K fd ps []) (hr : RoomG (k + 1) C.X.A) (tk : L2N.Takes C.X C.W) (hp : ps.length = 1) : CallR C.X (.builtin "repr") (rOwn1 C c m isStrD) := by
  intro pins s σ H xs us Q I r h
  obtain ⟨x, ι, st, d, z, s1, rfl, rl, rd, hi, hm, hP, q⟩ := h
  obtain ⟨u, rfl, ru⟩ := vals1 r
  obtain ⟨a, ox, od, rfl, rfl, J⟩ := inst_look I rl rd ru hi
  obtain ⟨m', hF⟩ := I.fr
  have bb := hb s [Value.ref a] (by rw [← C.hK]; exact I.kIn) hp.symm
  rw [List.append_nil] at bb
  have run := run_in1 (vs := [.ref a]) F hr tk (fun _ _ _ h => h) I bb (.cons rfl .nil) (sp_own1 (σ := σ) (W := C.W) hp rl rd hm q)
  refine PySem.W.repr_K (f := f) hr.room.in1.units0 hF I.ok.mod.kin J (by rw [C.hK]; exact oe.at_) (by rw [C.hK]; exact oe.fn) ?_
  refine wpAny_mono run (fun w s' e => ?_) fun _ _ e => e
  obtain ⟨v', H', I', rv, q', ι', rz⟩ := e
  cases z <;> first | (cases hP; done) | skip
  cases rz
  obtain ⟨t, rfl⟩ := rv
  exact ⟨.str _, H', I', ⟨t, rfl⟩, q'⟩
theorem call_ownS (oe : OwnF C.T c "__str__" f) (F : FnD C k f fd ps m) (hb : Binds C.T.K fd ps []) (hr : RoomG (k + 2) C.X.A) (tk : L2N.Takes C.X C.W) (hp : ps.length = 1) : CallR C.X (.type "str") (rOwn1 C c m isStrD) := by
  intro pins s σ H xs us Q I r h
  obtain ⟨x, ι, st, d, z, s1, rfl, rl, rd, hi, hm, hP, q⟩ := h
  obtain ⟨u, rfl, ru⟩ := vals1 r
  obtain ⟨a, ox, od, rfl, rfl, J⟩ := inst_look I rl rd ru hi
  have bb := hb s [Value.ref a] (by rw [← C.hK]; exact I.kIn) hp.symm
  rw [List.append_nil] at bb
  have run := run_in2 (vs := [.ref a]) F hr tk (fun _ _ _ h => h) I bb (.cons rfl .nil) (sp_own1 (σ := σ) (W := C.W) hp rl rd hm q)
  refine PySem.W.kso_call (f := f) hr.room.in1.in1.units0 I.kIn J (by rw [C.hK]; exact oe.at_) (by rw [C.hK]; exact oe.fn) ?_
  refine wpAny_mono run (fun w s' e => ?_) fun _ _ e => e
  obtain ⟨v', H', I', rv, q', ι', rz⟩ := e
  cases z <;> first | (cases hP; done) | skip
  cases rz
  obtain ⟨t, rfl⟩ := rv
  exact ⟨.str _, H', I', ⟨t, rfl⟩, q'⟩
theorem call_ownL (oe : OwnF C.T c "__len__" f) (F : FnD C k f fd ps m) (hb : Binds C.T.K fd ps []) (hr : RoomG (k + 1) C.X.A) (tk : L2N.Takes C.X C.W) (hp : ps.length = 1) : CallR C.X (.builtin "len") (rOwn1 C c m isLenD) := by
  intro pins s σ H xs us Q I r h
  obtain ⟨x, ι, st, d, z, s1, rfl, rl, rd, hi, hm, hP, q⟩ := h
  obtain ⟨u, rfl, ru⟩ := vals1 r
  obtain ⟨a, ox, od, rfl, rfl, J⟩ := inst_look I rl rd ru hi
  obtain ⟨m', hF⟩ := I.fr
  have bb := hb s [Value.ref a] (by rw [← C.hK]; exact I.kIn) hp.symm
  rw [List.append_nil] at bb
  have run := run_in1 (vs := [.ref a]) F hr tk (fun _ _ _ h => h) I bb (.cons rfl .nil) (sp_own1 (σ := σ) (W := C.W) hp rl rd hm q)
  refine PySem.W.len_K (f := f) hF I.ok.mod.kin J (by rw [C.hK]; exact oe.at_) (by rw [C.hK]; exact oe.fn) ?_
  refine wpAny_mono run (fun w s' e => ?_) fun _ _ e => e
  obtain ⟨v', H', I', rv, q', ι', rz⟩ := e
  cases z <;> first | (cases hP; done) | skip
  rename_i n
  cases rz
  obtain ⟨t, rfl⟩ := rv
  have hP' := (Bool.and_eq_true _ _).mp hP
  exact ⟨⟨of_decide_eq_true hP'.1, of_decide_eq_true hP'.2⟩, ⟨.int n, H', I'.tok _, ⟨_, rfl⟩, q'⟩⟩
theorem cd_ownT : CallD C (rOwn1 C c m isStrD) (gOwnT c m) := fun ι st H xs ds d st' Q rl rx e q => by
  unfold gOwnT at e
  split at e
  · rename_i x
    split at e
    · rename_i hi
      split at e
      · rename_i z s1 hm
        cases e
        obtain ⟨v, rfl, rv⟩ := repL_one rx
        exact ⟨v, ι, st, x, _, _, rfl, rl, rv, hi, hm, rfl, q⟩
      · cases e
    · cases e
  · cases e
theorem cd_ownL : CallD C (rOwn1 C c m isLenD) (gOwnL c m) := fun ι st H xs ds d st' Q rl rx e q => by
  unfold gOwnL at e
  split at e
  · rename_i x
    split at e
    · rename_i hi
      split at e
      · rename_i n s1 hm
        split at e
        · rename_i hn
          cases e
          obtain ⟨v, rfl, rv⟩ := repL_one rx
          exact ⟨v, ι, st, x, _, _, rfl, rl, rv, hi, hm, (by unfold isLenD; dsimp only; rw [decide_eq_true hn.1, decide_eq_true hn.2]; rfl), q⟩
        · cases e
      · cases e
    · cases e
  · cases e
theorem blt_ownR (oe : OwnF C.T c "__repr__" f) (F : FnD C k f fd ps m) (hb : Binds C.T.K fd ps []) (hr : RoomG (k + 1) C.X.A) (tk : L2N.Takes C.X C.W) (hp : ps.length = 1) : BltD C "repr" (gOwnT c m) := ⟨_, call_ownR oe F hb hr tk hp, cd_ownT⟩
theorem ty_ownS (oe : OwnF C.T c "__str__" f) (F : FnD C k f fd ps m) (hb : Binds C.T.K fd ps []) (hr : RoomG (k + 2) C.X.A) (tk : L2N.Takes C.X C.W) (hp : ps.length = 1) : TyD C "str" (gOwnT c m) := ⟨_, call_ownS oe F hb hr tk hp, cd_ownT⟩
theorem blt_ownL (oe : OwnF C.T c "__len__" f) (F : FnD C k f fd ps m) (hb : Binds C.T.K fd ps []) (hr : RoomG (k + 1) C.X.A) (tk : L2N.Takes C.X C.W) (hp : ps.length = 1) : BltD C "len" (gOwnL c m) := ⟨_, call_ownL oe F hb hr tk hp, cd_ownL⟩
end
end Den

set_option maxRecDepth 100000
set_option maxHeartbeats 4000000
/-! Den: f-strings. -/
namespace Den
open PySem PySem.Spec PyProof.Rows L2
def dFmt (a : DE) : DE := fun ρ st => (a ρ st).bind fun d s1 => match d with
  | .str y => if y.length ≤ 1000000 then .ok (.str y) s1 else .bad
  | .int i => if i.natAbs.log2 < 1920 then .ok (.str (toString i)) s1 else .bad
  | _ => .bad
def dFmtR (a : DE) : DE := fun ρ st => (a ρ st).bind fun d s1 => match d with
  | .str y => if (reprText y).length ≤ 1000000 then .ok (.str (reprText y)) s1 else .bad
  | .int i => if i.natAbs.log2 < 1920 then .ok (.str (toString i)) s1 else .bad
  | _ => .bad
def dJs : List DE → Str → DE
  | [], acc => fun _ st => .ok (.str acc) st
  | a :: r, acc => fun ρ st => (a ρ st).bind fun d s1 => match d with
    | .str y => if (acc ++ y).length ≤ 1000000 then dJs r (acc ++ y) ρ s1 else .bad
    | _ => .bad
section
variable {C : Ctx} {e : Expr} {ma : DE} {pos : Pos}
theorem pd_fmt (h : PD C e ma) : PD C (.FormattedValue e (-1) none pos) (dFmt ma) := PE.imp (pe_fmt h) fun σ H Q ⟨ρ, st, ι, er, rl, p⟩ => by
  refine ⟨ρ, st, ι, er, rl, post_bind p fun d s1 v ι1 H1 st1 rl1 rv p1 => ?_⟩
  cases rv with
  | str y =>
    dsimp only at p1
    split at p1
    · rename_i hl
      exact .inl ⟨y, rfl, Nat.le_trans hl (by decide), p1 _ ι1 H1 (Step.refl _ _ _) rl1 (.str _)⟩
    · exact p1.elim
  | int i =>
    dsimp only at p1
    split at p1
    · rename_i hl
      exact .inr ⟨i, rfl, hl, p1 _ ι1 H1 (Step.refl _ _ _) rl1 (.str _)⟩
    · exact p1.elim
  | _ => exact p1.elim
theorem pd_fmtR (h : PD C e ma) : PD C (.FormattedValue e 114 none pos) (dFmtR ma) := PE.imp (pe_fmtR h) fun σ H Q ⟨ρ, st, ι, er, rl, p⟩ => by
  refine ⟨ρ, st, ι, er, rl, post_bind p fun d s1 v ι1 H1 st1 rl1 rv p1 => ?_⟩
  cases rv with
  | str y =>
    dsimp only at p1
    split at p1
    · rename_i hl
      exact .inl ⟨y, rfl, Nat.le_trans hl (by decide), p1 _ ι1 H1 (Step.refl _ _ _) rl1 (.str _)⟩
    · exact p1.elim
  | int i =>
    dsimp only at p1
    split at p1
    · rename_i hl
      exact .inr ⟨i, rfl, hl, p1 _ ι1 H1 (Step.refl _ _ _) rl1 (.str _)⟩
    · exact p1.elim
  | _ => exact p1.elim
inductive PJD (C : Ctx) : List Expr → List DE → Prop where
  | nil : PJD C [] []
  | cons {e : Expr} {m : DE} {es : List Expr} {ms : List DE} (h : PD C e m) (r : PJD C es ms) : PJD C (e :: es) (m :: ms)
theorem PJD.to {es : List Expr} {ms : List DE} (h : PJD C es ms) : PJ C.X es (ms.map fun m => tD C.T C.xp C.W m) := by
  induction h with
  | nil => exact .nil
  | cons h _ ih => exact .cons h ih
theorem js_of {Q : VK} {σ : L2.St} : ∀ {ms : List DE} {acc : Str} {H : Hp}, tD C.T C.xp C.W (dJs ms acc) σ H Q → tJs (ms.map fun m => tD C.T C.xp C.W m) acc σ H fun out H1 => Q (.str out) H1
  | [], acc, H, ⟨ρ, st, ι, er, rl, p⟩ => p _ ι H (Step.refl _ _ _) rl (.str _)
  | m :: ms, acc, H, ⟨ρ, st, ι, er, rl, p⟩ => by
    refine ⟨ρ, st, ι, er, rl, post_bind p fun d s1 v ι1 H1 st1 rl1 rv p1 => ?_⟩
    cases rv with
    | str y =>
      dsimp only at p1
      split at p1
      · rename_i hl
        exact ⟨y, rfl, Nat.le_trans hl (by decide), js_of ⟨ρ, s1, ι1, er.step st1, rl1, p1⟩⟩
      · exact p1.elim
    | _ => exact p1.elim
theorem pd_joined {v1 v2 : Expr} {rest : List Expr} {ms : List DE} (h : PJD C (v1 :: v2 :: rest) ms) : PD C (.JoinedStr (v1 :: v2 :: rest) pos) (dJs ms Str.empty) := PE.imp (pe_joined h.to) fun σ H Q t => js_of t
theorem pd_joined1 (h : PD C e ma) : PD C (.JoinedStr [e] pos) ma := pe_joined1 h
end
end Den

set_option maxRecDepth 100000
set_option maxHeartbeats 2000000
/-! Den: in, count, index where == may run a def: the loops. -/
namespace PySem
open StrLaws MeetsSeq SeqAt
section
variable {prog : Program} {w : World} {A : Around} {R : Result → Shared → Prop}
/-- the list is read anew at each turn: N things; the i-th is compared, and e i comes out -/
def Asks (prog : Program) (w : World) (A : Around) (E : Value → Shared → Prop) (l : Addr) (x : Value) (N : Nat) (e : Nat → Bool) (I : Nat → Shared → Prop) : Prop :=
  ∀ i s, I i s → ∃ (its : Array Value) (n : Nat) (dd : Option Addr) (sl : Array (Option Value)), s.heap.get? l = some { cls := .type "list", dict := dd, data := .seq its n, slots := sl } ∧ its.size = N ∧
    ∀ h : i < its.size, wpAny (model prog w) A.in1 (eqBool its[i] x) (fun r s' => r = e i ∧ I (i + 1) s') E s
theorem in_loop {l : Addr} {x : Value} {N : Nat} {e : Nat → Bool} {I : Nat → Shared → Prop} (q : Asks prog w A (fun v s' => R (.error v) s') l x N e I) (b : Bool)
    (yes : ∀ i s, i < N → e i = true → I (i + 1) s → R (.ok (.ret (.bool true))) s) (no : ∀ s, (∀ i, i < N → e i = false) → I N s → R (.ok (.ret (.bool false))) s) : ∀ (k i : Nat), N - i = k → i ≤ N → (∀ j, j < i → e j = false) → ∀ s, I i s →
      wpAny (model prog w) A.in1 (Builtin.«list.__contains__.loop» ⟨[.ref l, x, rawInt i], []⟩) (GQ.FinOf prog w A R) (fun v s' => R (.error v) s') s := by
  intro k
  induction k with
  | zero =>
    intro i hk hi fr s h
    have ei : i = N := by omega
    subst ei
    have fin := no s fr h
    obtain ⟨its, n, dd, sl, hL, hN, ask⟩ := q _ _ h
    obtain ⟨hp, g, d, tk, os⟩ := s
    wp_walk using wpAny_loadPart' hL
    rw [show its[((i : Nat) : Int).toNat]? = none by simp; omega]
    wp_walk
    exact fin
  | succ k ih =>
    intro i hk hi fr s h
    have lt : i < N := by omega
    obtain ⟨its, n, dd, sl, hL, hN, ask⟩ := q _ _ h
    have li : i < its.size := by omega
    have turn := ask li
    obtain ⟨hp, g, d, tk, os⟩ := s
    wp_walk using wpAny_loadPart' hL
    rw [show its[((i : Nat) : Int).toNat]? = some its[i] by simp [li]]
    refine wpAny_bind (m := eqBool _ _) (wpAny_mono turn (fun r s2 z => ?_) fun _ _ v => v)
    obtain ⟨er, h2⟩ := z
    subst er
    cases hb : e i with
    | true =>
      have fin := yes i s2 lt hb h2
      obtain ⟨hp2, g2, d2, tk2, os2⟩ := s2
      wp_walk
      exact fin
    | false =>
      have rec' := ih (i + 1) (by omega) (by omega) (fun j hj => by
        rcases Nat.lt_succ_iff_lt_or_eq.mp hj with hj | rfl
        · exact fr j hj
        · exact hb) s2 h2
      obtain ⟨hp2, g2, d2, tk2, os2⟩ := s2
      wp_walk
      rw [show ((i : Int) + 1) = ((i + 1 : Nat) : Int) by omega]
      refine ⟨plainId_quiet plain_contains_loop _, codeAny_builtin entry_contains_loop ?_⟩; rw [Around.under_plainId plain_contains_loop _]
      exact rec'
theorem in_all {l : Addr} {x : Value} {N : Nat} {e : Nat → Bool} {I : Nat → Shared → Prop} (q : Asks prog w A (fun v s' => R (.error v) s') l x N e I) {s : Shared} (h : I 0 s)
    (yes : ∀ i s, i < N → e i = true → I (i + 1) s → R (.ok (.ret (.bool true))) s) (no : ∀ s, (∀ i, i < N → e i = false) → I N s → R (.ok (.ret (.bool false))) s) :
    wpAny (model prog w) A.in1 (Builtin.«list.__contains__» ⟨[.ref l, x], []⟩) (GQ.FinOf prog w A R) (fun v s' => R (.error v) s') s := by
  have run := in_loop q true yes no _ 0 rfl (Nat.zero_le _) (fun j hj => absurd hj (Nat.not_lt_zero j)) s h
  obtain ⟨its, n, dd, sl, hL, hN, ask⟩ := q _ _ h
  obtain ⟨hp, g, d, tk, os⟩ := s
  wp_walk using wpAny_loadPart' hL
  refine ⟨plainId_quiet plain_contains_loop _, codeAny_builtin entry_contains_loop ?_⟩; rw [Around.under_plainId plain_contains_loop _]
  exact run
/-- how many of the first ones -/
def hits (e : Nat → Bool) : Nat → Nat
  | 0 => 0
  | i + 1 => hits e i + (if e i = true then 1 else 0)
theorem count_loop {l : Addr} {x : Value} {N : Nat} {e : Nat → Bool} {I : Nat → Shared → Prop} (q : Asks prog w A (fun v s' => R (.error v) s') l x N e I)
    (fin : ∀ s, I N s → R (.ok (.ret (.int (hits e N : Nat) s.toks))) { s with toks := s.toks + 1 }) : ∀ (k i : Nat), N - i = k → i ≤ N → ∀ s, I i s →
      wpAny (model prog w) A.in1 (Builtin.«list.count.loop» ⟨[.ref l, x, rawInt i, rawInt (hits e i : Nat)], []⟩) (GQ.FinOf prog w A R) (fun v s' => R (.error v) s') s := by
  intro k
  induction k with
  | zero =>
    intro i hk hi s h
    have ei : i = N := by omega
    subst ei
    have z := fin s h
    obtain ⟨its, n, dd, sl, hL, hN, ask⟩ := q _ _ h
    obtain ⟨hp, g, d, tk, os⟩ := s
    wp_walk using wpAny_loadPart' hL
    rw [show its[((i : Nat) : Int).toNat]? = none by simp; omega]
    wp_walk
    exact z
  | succ k ih =>
    intro i hk hi s h
    have lt : i < N := by omega
    obtain ⟨its, n, dd, sl, hL, hN, ask⟩ := q _ _ h
    have li : i < its.size := by omega
    have turn := ask li
    obtain ⟨hp, g, d, tk, os⟩ := s
    wp_walk using wpAny_loadPart' hL
    rw [show its[((i : Nat) : Int).toNat]? = some its[i] by simp [li]]
    refine wpAny_bind (m := eqBool _ _) (wpAny_mono turn (fun r s2 z => ?_) fun _ _ v => v)
    obtain ⟨er, h2⟩ := z
    subst er
    have rec' := ih (i + 1) (by omega) (by omega) s2 h2
    obtain ⟨hp2, g2, d2, tk2, os2⟩ := s2
    wp_walk
    rw [show ((i : Int) + 1) = ((i + 1 : Nat) : Int) by omega]
    have many : (if e i = true then ((hits e i : Nat) : Int) + 1 else ((hits e i : Nat) : Int)) = ((hits e (i + 1) : Nat) : Int) := by
      rw [show hits e (i + 1) = hits e i + (if e i = true then 1 else 0) from rfl]
      split <;> omega
    refine ⟨plainId_quiet plain_count_loop _, codeAny_builtin entry_count_loop ?_⟩; rw [Around.under_plainId plain_count_loop _]
    rw [many]
    exact rec'
theorem count_all {l : Addr} {x : Value} {N : Nat} {e : Nat → Bool} {I : Nat → Shared → Prop} (q : Asks prog w A (fun v s' => R (.error v) s') l x N e I) {s : Shared} (h : I 0 s)
    (fin : ∀ s, I N s → R (.ok (.ret (.int (hits e N : Nat) s.toks))) { s with toks := s.toks + 1 }) :
    wpAny (model prog w) A.in1 (Builtin.«list.count» ⟨[.ref l, x], []⟩) (GQ.FinOf prog w A R) (fun v s' => R (.error v) s') s := by
  have run := count_loop q fin _ 0 rfl (Nat.zero_le _) s h
  obtain ⟨its, n, dd, sl, hL, hN, ask⟩ := q _ _ h
  obtain ⟨hp, g, d, tk, os⟩ := s
  wp_walk using wpAny_loadPart' hL
  refine ⟨plainId_quiet plain_count_loop _, codeAny_builtin entry_count_loop ?_⟩; rw [Around.under_plainId plain_count_loop _]
  exact run
theorem index_loop {l : Addr} {x : Value} {N : Nat} {e : Nat → Bool} {I : Nat → Shared → Prop} {j : Nat} {upto : Int} (q : Asks prog w A (fun v s' => R (.error v) s') l x N e I) (hj : j < N) (hu : (j : Int) < upto) (hit : e j = true) (fr : ∀ i, i < j → e i = false)
    (fin : ∀ s, I (j + 1) s → R (.ok (.ret (.int (j : Nat) s.toks))) { s with toks := s.toks + 1 }) : ∀ (k i : Nat), j - i = k → i ≤ j → ∀ s, I i s →
      wpAny (model prog w) A.in1 (Builtin.«list.index.loop» ⟨[.ref l, x, rawInt i, rawInt upto], []⟩) (GQ.FinOf prog w A R) (fun v s' => R (.error v) s') s := by
  intro k
  induction k with
  | zero =>
    intro i hk hi s h
    have ei : i = j := by omega
    subst ei
    obtain ⟨its, n, dd, sl, hL, hN, ask⟩ := q _ _ h
    have li : i < its.size := by omega
    have turn := ask li
    obtain ⟨hp, g, d, tk, os⟩ := s
    wp_walk using wpAny_loadPart' hL
    rw [show (if ((i : Nat) : Int) < upto then its[((i : Nat) : Int).toNat]? else none) = some its[i] by simp [hu, li]]
    refine wpAny_bind (m := eqBool _ _) (wpAny_mono turn (fun r s2 z => ?_) fun _ _ v => v)
    obtain ⟨er, h2⟩ := z
    rw [hit] at er
    subst er
    have z := fin s2 h2
    obtain ⟨hp2, g2, d2, tk2, os2⟩ := s2
    wp_walk
    exact z
  | succ k ih =>
    intro i hk hi s h
    have lt : i < N := by omega
    have lu : (i : Int) < upto := by omega
    obtain ⟨its, n, dd, sl, hL, hN, ask⟩ := q _ _ h
    have li : i < its.size := by omega
    have turn := ask li
    obtain ⟨hp, g, d, tk, os⟩ := s
    wp_walk using wpAny_loadPart' hL
    rw [show (if ((i : Nat) : Int) < upto then its[((i : Nat) : Int).toNat]? else none) = some its[i] by simp [lu, li]]
    refine wpAny_bind (m := eqBool _ _) (wpAny_mono turn (fun r s2 z => ?_) fun _ _ v => v)
    obtain ⟨er, h2⟩ := z
    rw [fr i (by omega)] at er
    subst er
    have rec' := ih (i + 1) (by omega) (by omega) s2 h2
    obtain ⟨hp2, g2, d2, tk2, os2⟩ := s2
    wp_walk
    rw [show ((i : Int) + 1) = ((i + 1 : Nat) : Int) by omega]
    refine ⟨plainId_quiet plain_index_loop _, codeAny_builtin entry_index_loop ?_⟩; rw [Around.under_plainId plain_index_loop _]
    exact rec'
theorem index_all {l : Addr} {x : Value} {N : Nat} {e : Nat → Bool} {I : Nat → Shared → Prop} {j : Nat} (q : Asks prog w A (fun v s' => R (.error v) s') l x N e I) (hj : j < N) (hs : (j : Int) < 2 ^ 63 - 1) (hit : e j = true) (fr : ∀ i, i < j → e i = false) {s : Shared} (h : I 0 s)
    (fin : ∀ s, I (j + 1) s → R (.ok (.ret (.int (j : Nat) s.toks))) { s with toks := s.toks + 1 }) :
    wpAny (model prog w) A.in1 (Builtin.«list.index» ⟨[.ref l, x], []⟩) (GQ.FinOf prog w A R) (fun v s' => R (.error v) s') s := by
  have run := index_loop (upto := 2 ^ 63 - 1) q hj hs hit fr fin _ 0 rfl (Nat.zero_le _) s h
  obtain ⟨its, n, dd, sl, hL, hN, ask⟩ := q _ _ h
  obtain ⟨hp, g, d, tk, os⟩ := s
  wp_walk using wpAny_loadPart' hL
  have b1 : ((fun i : Int => if i < 0 then max 0 (i + (its.size : Int)) else i) ((none : Option Int).getD 0)) = ((0 : Nat) : Int) := by simp
  have b2 : ((fun i : Int => if i < 0 then max 0 (i + (its.size : Int)) else i) ((none : Option Int).getD (2 ^ 63 - 1))) = 2 ^ 63 - 1 := by simp
  rw [b1, b2]
  refine ⟨plainId_quiet plain_index_loop _, codeAny_builtin entry_index_loop ?_⟩; rw [Around.under_plainId plain_index_loop _]
  exact run
end
end PySem

set_option maxRecDepth 100000
set_option maxHeartbeats 4000000
/-! Den: in, count, index over own instances with their own ==. -/
namespace Den
open PySem PySem.Spec PyProof.Rows L2
/-- an own class whose == is told by its fields: f says which are equal, where okF holds of both -/
structure OwnQ (C : Ctx) (c k : Nat) (fa : Addr) (okF : List D → Bool) (f : List D → List D → Bool) (m : DF) : Prop where
  ex : ∃ fd ps, FnD C k fa fd ps m ∧ Binds C.T.K fd ps [] ∧ ps.length = 2
  eq : PySem.W.findIn C.T.K (.ref (C.T.ca c)) "__eq__" = some (some (.ref fa))
  fn : PySem.W.isFn C.T.K (.ref fa) = true
  hr : RoomG (k + 1) C.X.A
  tk : L2N.Takes C.X C.W
  hm : ∀ xs ys st, okF xs = true → okF ys = true → m [.ins c xs, .ins c ys] st = .ok (.bl (f xs ys)) st
  det : ∀ (xp : XT) (G : Hp) (ι : Io) (vs : List V) (xs ys : List D), RepL C.T xp G ι vs xs → RepL C.T xp G ι vs ys → okF xs = true → okF ys = true → f xs ys = true
theorem zip_inj {α β : Type} {ns : List α} {xs ys : List β} (hx : xs.length ≤ ns.length) (hy : ys.length ≤ ns.length) (h : ns.zip xs = ns.zip ys) : xs = ys := by
  have e := congrArg (List.map Prod.snd) h
  rw [List.map_snd_zip hx, List.map_snd_zip hy] at e
  exact e
section
variable {C : Ctx} {c k : Nat} {fa : Addr} {okF : List D → Bool} {f : List D → List D → Bool} {m : DF} {pins : List (Addr × Obj)} {σ : L2.St}
def Going (C : Ctx) (pins : List (Addr × Obj)) (σ : L2.St) (ι : Io) (st : Store) (H : Hp) (s' : Shared) : Prop := ∃ H' ι', Inv C.X pins σ H' s' ∧ RelSt C.T C.xp ι' st H' ∧ Step ι st H ι' st H'
theorem own_ask (o : OwnQ C c k fa okF f m) {H : Hp} {s : Shared} {st : Store} {ι : Io} {x y : V} {u v : Value} {xs ys : List D} (I : Inv C.X pins σ H s) (rl : RelSt C.T C.xp ι st H) (rx : Rep C.T C.xp (hide ι st H) ι x (.ins c xs)) (ry : Rep C.T C.xp (hide ι st H) ι y (.ins c ys))
    (ru : RelV x u) (rv : RelV y v) (hx : okF xs = true) (hy : okF ys = true) : wpAny (model C.X.prog C.X.w) C.X.A.in1 (eqBool u v) (fun r s' => r = f xs ys ∧ Going C pins σ ι st H s') C.X.xe s := by
  have rx0 := rx
  have ry0 := ry
  cases rx with
  | @ins a dx _ vs _ g1 l1 r1 =>
    cases ry with
    | @ins b dy _ ws _ g2 l2 r2 =>
      obtain rfl : u = Value.ref a := ru
      obtain rfl : v = Value.ref b := rv
      by_cases hab : a = b
      · subst hab
        have e : vs = ws := by
          rw [g1] at g2
          injection g2 with g2
          injection g2 with _ _ g2
          exact zip_inj l1 l2 g2
        subst e
        have ft := o.det _ _ _ _ _ _ r1 r2 hx hy
        exact SeqAt.EqAt.same (A := C.X.A.in1) (s := s) (.ref a) C.X.prog C.X.w C.X.xe _ ⟨ft.symm, H, ι, I, rl, Step.refl _ _ _⟩
      · obtain ⟨mA, J, _⟩ := ins_get I.hok (hide_sub g1)
        obtain ⟨mB, J', _⟩ := ins_get I.hok (hide_sub g2)
        obtain ⟨od, J, _⟩ := J.look
        obtain ⟨od', J', _⟩ := J'.look
        obtain ⟨m', hF⟩ := I.fr
        obtain ⟨fd, ps, F, hb, hp⟩ := o.ex
        refine GQ.eqBool_refG hab ?_
        have sp : spM C.T ps.length m [.ref a, .ref b] H (fun w H' => w = .bl (f xs ys) ∧ ∃ ι', RelSt C.T C.xp ι' st H' ∧ Step ι st H ι' st H') (fun c d H' => C.W c d σ H') := by
          refine ⟨hp.symm, C.xp, [.ins c xs, .ins c ys], st, ι, .cons rx0 (.cons ry0 .nil), rl, ?_⟩
          rw [o.hm xs ys st hx hy]
          intro w ι' H' s' r' e'
          cases e'
          exact ⟨rfl, ι', r', s'⟩
        have bb := hb s [Value.ref a, Value.ref b] (by rw [← C.hK]; exact I.kIn) hp.symm
        rw [List.append_nil] at bb
        have run := run_in1 (vs := [.ref a, .ref b]) F o.hr o.tk (fun _ _ _ h => h) I bb (.cons rfl (.cons rfl .nil)) sp
        refine PySem.W.cmp_K (op := .Eq) (tb := .ref (C.T.ca c)) (A := C.X.A.in1) o.hr.room.in1.units0 hF I.ok.mod.kin J J'.type (by simp [PySem.W.notFirst]) (by rw [C.hK]; exact o.eq) (by rw [C.hK]; exact o.fn) ?_
        refine wpAny_mono run (fun w s' e => ?_) fun _ _ e => e
        obtain ⟨v', H', I', rv', ⟨ev, ι', r', s'⟩⟩ := e
        subst ev
        cases rv'
        exact ⟨_, rfl, rfl, H', ι', I', r', s'⟩
def fieldsI : D → List D
  | .ins _ xs => xs
  | _ => []
def isOk (c : Nat) (okF : List D → Bool) : D → Bool
  | .ins c' xs => c' == c && okF xs
  | _ => false
def hitsE (f : List D → List D → Bool) (zs : List D) (ys : List D) (i : Nat) : Bool := match zs[i]? with
  | some z => f (fieldsI z) ys
  | none => false
theorem hits_count {f : List D → List D → Bool} {zs ys : List D} : ∀ n, n ≤ zs.length → hits (hitsE f zs ys) n = (zs.take n).countP fun z => f (fieldsI z) ys
  | 0, _ => by simp [hits]
  | n + 1, h => by
    have ih := hits_count (f := f) (zs := zs) (ys := ys) n (by omega)
    have lt : n < zs.length := by omega
    rw [show hits (hitsE f zs ys) (n + 1) = hits (hitsE f zs ys) n + (if hitsE f zs ys n = true then 1 else 0) from rfl, ih, List.take_succ, List.countP_append]
    congr 1
    unfold hitsE
    rw [List.getElem?_eq_getElem lt]
    simp [List.countP_cons]
/-- the list asked one by one -/
theorem asks_own (o : OwnQ C c k fa okF f m) {H : Hp} {st : Store} {ι : Io} {y : V} {v : Value} {zs ys : List D} {p : Addr} {vs : List V} (hs : SqL C.X.K H p vs ∨ SqL C.T.K (hide ι st H) p vs) (rz : RepL C.T C.xp (hide ι st H) ι vs zs) (ry : Rep C.T C.xp (hide ι st H) ι y (.ins c ys)) (rv : RelV y v)
    (hz : zs.all (isOk c okF) = true) (hy : okF ys = true) (keep : ∀ H' ι', Step ι st H ι' st H' → SqL C.X.K H' p vs) :
    Asks C.X.prog C.X.w C.X.A C.X.xe p v zs.length (hitsE f zs ys) (fun _ s' => Going C pins σ ι st H s') := fun i s' ⟨H', ι', I', rl', sp⟩ => by
  obtain ⟨its, r, ⟨⟨cls, dd, data, sl⟩, n, ho, hc, hdn, hd⟩, hl⟩ := I'.list (keep H' ι' sp)
  simp only at hc hd
  subst hc hd
  refine ⟨its.toArray, n, dd, sl, ho, by rw [List.size_toArray, ← r.length, rz.length], fun h => ?_⟩
  have li : i < its.length := by simpa using h
  have lv : i < vs.length := by rw [r.length]; exact li
  have lz : i < zs.length := by rw [← rz.length]; exact lv
  obtain ⟨u, hu, ru⟩ := r.get (List.getElem?_eq_getElem lv)
  have eu : its.toArray[i] = u := by
    rw [List.getElem?_eq_getElem li] at hu
    have := Option.some.inj hu
    simpa using this
  have rep : Rep C.T C.xp (hide ι st H) ι vs[i] zs[i] := by
    obtain ⟨w, hw, rw'⟩ := rz.get (List.getElem?_eq_getElem lz)
    rw [List.getElem?_eq_getElem lv] at hw
    rw [Option.some.inj hw]
    exact rw'
  have ok := List.all_eq_true.mp hz _ (List.getElem_mem lz)
  have e0 : hitsE f zs ys i = f (fieldsI zs[i]) ys := by
    unfold hitsE
    rw [List.getElem?_eq_getElem lz]
  rw [eu, e0]
  generalize zs[i] = z at rep ok
  cases z <;> first | (cases ok; done) | skip
  rename_i c' xs
  obtain ⟨ec, okx⟩ := (Bool.and_eq_true _ _).mp ok
  obtain rfl : c' = c := eq_of_beq ec
  refine wpAny_mono (own_ask o I' rl' (rep.mono sp.ex sp.pre) (ry.mono sp.ex sp.pre) ru rv okx hy) (fun q s2 e => ?_) fun _ _ e => e
  obtain ⟨eq, H2, ι2, I2, rl2, sp2⟩ := e
  exact ⟨eq, H2, ι2, I2, rl2, sp.trans sp2⟩
end
end Den

set_option maxRecDepth 100000
set_option maxHeartbeats 4000000
/-! Den: in, count, index over own instances, as rules. -/
namespace Den
open PySem PySem.Spec PyProof.Rows L2
section
variable {C : Ctx} {c k : Nat} {fa : Addr} {okF : List D → Bool} {f : List D → List D → Bool} {m : DF}
/-- a told list of own instances, and one of them -/
structure RowO (C : Ctx) (c : Nat) (okF : List D → Bool) (ι : Io) (st : Store) (H : Hp) (l x : V) (zs ys : List D) : Prop where
  rl : RelSt C.T C.xp ι st H
  rr : Rep C.T C.xp (hide ι st H) ι l (.lst zs)
  rx : Rep C.T C.xp (hide ι st H) ι x (.ins c ys)
  hz : zs.all (isOk c okF) = true
  hy : okF ys = true
theorem RowO.asks {pins : List (Addr × Obj)} {σ : L2.St} {ι : Io} {st : Store} {H : Hp} {l x : V} {v : Value} {zs ys : List D} (w : RowO C c okF ι st H l x zs ys) (o : OwnQ C c k fa okF f m) (rv : RelV x v) :
    ∃ p, l = .ref p ∧ (∀ s, Inv C.X pins σ H s → ∃ its, PlainL s.heap p its) ∧ Asks C.X.prog C.X.w C.X.A C.X.xe p v zs.length (hitsE f zs ys) (fun _ s' => Going C pins σ ι st H s') := by
  obtain ⟨rl, rr, rx, hz, hy⟩ := w
  cases rr with
  | @lst p vs _ g r =>
    have keep : ∀ H' ι', Step ι st H ι' st H' → SqL C.X.K H' p vs := fun H' ι' sp => SqL.of (hide_sub (sp.ex _ _ g))
    refine ⟨p, rfl, fun s I => ?_, asks_own (p := p) (vs := vs) o (.inl (keep H ι (Step.refl _ _ _))) r rx rv hz hy keep⟩
    obtain ⟨its, _, pl, _⟩ := I.list (keep H ι (Step.refl _ _ _))
    exact ⟨_, pl⟩
theorem any_hits {zs ys : List D} : (∀ i, i < zs.length → hitsE f zs ys i = false) ↔ (zs.any fun z => f (fieldsI z) ys) = false := by
  rw [List.any_eq_false]
  constructor
  · intro h z hz
    obtain ⟨i, hi, e⟩ := List.getElem_of_mem hz
    have := h i hi
    unfold hitsE at this
    rw [List.getElem?_eq_getElem hi] at this
    dsimp only at this
    rw [← e, this]
    decide
  · intro h i hi
    unfold hitsE
    rw [List.getElem?_eq_getElem hi]
    have := h zs[i] (List.getElem_mem hi)
    simpa using this
/-! x in xs -/
def fInO (c : Nat) (okF : List D → Bool) (f : List D → List D → Bool) (x y : D) : Option D := match x, y with
  | .ins c' ys, .lst zs => if c' = c ∧ okF ys = true ∧ zs.all (isOk c okF) = true then some (.bl (zs.any fun z => f (fieldsI z) ys)) else none
  | _, _ => none
def rInO (C : Ctx) (c : Nat) (okF : List D → Bool) (f : List D → List D → Bool) (g : Bool → Bool) : R2 := fun x y H Q => ∃ ι st zs ys, RowO C c okF ι st H y x zs ys ∧ ∀ H' ι', Step ι st H ι' st H' → RelSt C.T C.xp ι' st H' → Q (.bl (g (zs.any fun z => f (fieldsI z) ys))) H'
theorem has_own (o : OwnQ C c k fa okF f m) {pins : List (Addr × Obj)} {σ : L2.St} {ι : Io} {st : Store} {H : Hp} {s : Shared} {l x : V} {u v : Value} {zs ys : List D} {Q : Bool → Shared → Prop} (w : RowO C c okF ι st H l x zs ys) (I : Inv C.X pins σ H s) (ru : RelV l u) (rv : RelV x v)
    (q : ∀ s', Going C pins σ ι st H s' → Q (zs.any fun z => f (fieldsI z) ys) s') : wpAny (model C.X.prog C.X.w) C.X.A (contains u v) Q C.X.xe s := by
  obtain ⟨p, rfl, pl, ak⟩ := w.asks (pins := pins) (σ := σ) o rv
  obtain rfl : u = Value.ref p := ru
  obtain ⟨its, ⟨⟨cls, dd, data, sl⟩, n, ho, hc, hdn, hd⟩⟩ := pl s I
  simp only at hc hd
  subst hc hd
  have run := in_all (A := C.X.A) (R := wants (fun v s' => ∃ b, v = .bool b ∧ Q b s') C.X.xe) ak (s := s) ⟨H, ι, I, w.rl, Step.refl _ _ _⟩
    (fun i s' li hi g => ⟨true, rfl, by
      have e : (zs.any fun z => f (fieldsI z) ys) = true := by
        rw [← Bool.not_eq_false]
        intro hn
        rw [any_hits.mpr hn i li] at hi
        cases hi
      rw [← e]
      exact q s' g⟩)
    (fun s' hno g => ⟨false, rfl, by
      rw [← any_hits.mp hno]
      exact q s' g⟩)
  refine wpAny_contains_slot (s := s) (T := "list") ⟨_, ho, rfl⟩ F.slot_list_contains (wpAny_mono (GQ.call_here (E := C.X.xe) (Q := fun v s' => ∃ b, v = .bool b ∧ Q b s') F.slot_list_contains ⟨_, ho, rfl⟩ F.entry_list_contains (F.args_list_contains_2 _ _) run) (fun r s' e => ?_) fun _ _ e => e)
  obtain ⟨b, rfl, q'⟩ := e
  exact wpAny_truthy_bool q'
theorem op_inO (o : OwnQ C c k fa okF f m) : OpR C.X (compareOp .In) (rInO C c okF f id) := by
  intro pins s σ H x y v u Q I rx ry h
  obtain ⟨ι, st, zs, ys, w, q⟩ := h
  show wpAny (model C.X.prog C.X.w) C.X.A (do return .bool (← contains u v)) (EP C.X pins σ Q) C.X.xe s
  refine wpAny_bind (m := contains _ _) (has_own o w I ry rx fun s' g => ?_)
  obtain ⟨H', ι', I', rl', sp⟩ := g
  exact wpAny_pure ⟨.bl _, H', I', rfl, q H' ι' sp rl'⟩
theorem op_notInO (o : OwnQ C c k fa okF f m) : OpR C.X (compareOp .NotIn) (rInO C c okF f not) := by
  intro pins s σ H x y v u Q I rx ry h
  obtain ⟨ι, st, zs, ys, w, q⟩ := h
  show wpAny (model C.X.prog C.X.w) C.X.A (do return .bool (!(← contains u v))) (EP C.X pins σ Q) C.X.xe s
  refine wpAny_bind (m := contains _ _) (has_own o w I ry rx fun s' g => ?_)
  obtain ⟨H', ι', I', rl', sp⟩ := g
  exact wpAny_pure ⟨.bl _, H', I', rfl, q H' ι' sp rl'⟩
theorem od_inO : OpD C (rInO C c okF f id) (fInO c okF f) := fun ι st H x y dx dy dz Q rl rx ry e q => by
  unfold fInO at e
  split at e
  · split at e
    · rename_i hc
      obtain ⟨rfl, hy, hz⟩ := hc
      cases e
      exact ⟨ι, st, _, _, ⟨rl, ry, rx, hz, hy⟩, fun H' ι' sp r => q _ ι' H' sp r (.bl _)⟩
    · cases e
  · cases e
theorem cmp_inO (o : OwnQ C c k fa okF f m) : CmpD C .In (fInO c okF f) := ⟨_, op_inO o, od_inO⟩
/-! xs.count(x) -/
def mCountO (c : Nat) (okF : List D → Bool) (f : List D → List D → Bool) : FM := fun d ds st => match d, ds with
  | .lst zs, [.ins c' ys] => if c' = c ∧ okF ys = true ∧ zs.all (isOk c okF) = true then some (.int ((zs.countP fun z => f (fieldsI z) ys) : Nat), st) else none
  | _, _ => none
def rCntO (C : Ctx) (c : Nat) (okF : List D → Bool) (f : List D → List D → Bool) : V → List V → Hp → VK → Prop := fun l xs H Q => ∃ x ι st zs ys, xs = [x] ∧ RowO C c okF ι st H l x zs ys ∧ ∀ H' ι', Step ι st H ι' st H' → RelSt C.T C.xp ι' st H' → Q (.int ((zs.countP fun z => f (fieldsI z) ys) : Nat)) H'
theorem mt_cntO (o : OwnQ C c k fa okF f m) : MtR C.X "list.count" (rCntO C c okF f) := by
  intro pins s σ H l xs u us Q I ru rxs h
  obtain ⟨x, ι, st, zs, ys, rfl, w, q⟩ := h
  obtain ⟨v, rfl, rv⟩ := rxs.one
  obtain ⟨p, rfl, pl, ak⟩ := w.asks (pins := pins) (σ := σ) o rv
  obtain rfl : u = Value.ref p := ru
  obtain ⟨its, ⟨⟨cls, dd, data, sl⟩, n, ho, hc, hdn, hd⟩⟩ := pl s I
  simp only at hc hd
  subst hc hd
  have run := count_all (A := C.X.A) (R := wants (EP C.X pins σ Q) C.X.xe) ak (s := s) ⟨H, ι, I, w.rl, Step.refl _ _ _⟩ (fun s' g => by
    obtain ⟨H', ι', I', rl', sp⟩ := g
    have e := hits_count (f := f) (zs := zs) (ys := ys) zs.length (Nat.le_refl _)
    rw [List.take_length] at e
    refine ⟨.int (hits (hitsE f zs ys) zs.length : Nat), H', I'.tok _, ⟨_, rfl⟩, ?_⟩
    rw [e]
    exact q H' ι' sp rl')
  exact GQ.call_here (E := C.X.xe) (Q := EP C.X pins σ Q) PySem.F.slot_list_count ⟨_, ho, rfl⟩ PySem.F.entry_list_count (PySem.F.args_list_count_2 _ _) run
theorem mt_countO (o : OwnQ C c k fa okF f m) : MtD C "list" "count" (mCountO c okF f) := ⟨_, _, PySem.F.plainAttrs_list, PySem.F.slot_list_count, PySem.F.type_list_count, mt_cntO o, fun ι st H l xs dl ds d st' Q rl r rs e q => by
  unfold mCountO at e
  split at e
  · split at e
    · rename_i hc
      obtain ⟨rfl, hy, hz⟩ := hc
      cases e
      obtain ⟨x, rfl, rx⟩ := repL_one rs
      exact ⟨x, ι, st, _, _, rfl, ⟨rl, r, rx, hz, hy⟩, fun H' ι' sp r' => q _ ι' H' sp r' (.int _)⟩
    · cases e
  · cases e⟩
/-! xs.index(x), x among them -/
def mIndexO (c : Nat) (okF : List D → Bool) (f : List D → List D → Bool) : FM := fun d ds st => match d, ds with
  | .lst zs, [.ins c' ys] => if c' = c ∧ okF ys = true ∧ zs.all (isOk c okF) = true ∧ zs.length ≤ 100000 then (zs.findIdx? fun z => f (fieldsI z) ys).map fun j => (.int (j : Nat), st) else none
  | _, _ => none
def rIdxO (C : Ctx) (c : Nat) (okF : List D → Bool) (f : List D → List D → Bool) : V → List V → Hp → VK → Prop := fun l xs H Q => ∃ x ι st zs ys j, xs = [x] ∧ RowO C c okF ι st H l x zs ys ∧ zs.length ≤ 100000 ∧ (zs.findIdx? fun z => f (fieldsI z) ys) = some j ∧ ∀ H' ι', Step ι st H ι' st H' → RelSt C.T C.xp ι' st H' → Q (.int (j : Nat)) H'
theorem mt_idxO (o : OwnQ C c k fa okF f m) : MtR C.X "list.index" (rIdxO C c okF f) := by
  intro pins s σ H l xs u us Q I ru rxs h
  obtain ⟨x, ι, st, zs, ys, j, rfl, w, few, hj, q⟩ := h
  obtain ⟨v, rfl, rv⟩ := rxs.one
  obtain ⟨p, rfl, pl, ak⟩ := w.asks (pins := pins) (σ := σ) o rv
  obtain rfl : u = Value.ref p := ru
  obtain ⟨its, ⟨⟨cls, dd, data, sl⟩, n, ho, hc, hdn, hd⟩⟩ := pl s I
  simp only at hc hd
  subst hc hd
  obtain ⟨lj, h1, h2⟩ := List.findIdx?_eq_some_iff_getElem.mp hj
  have hit : hitsE f zs ys j = true := by
    unfold hitsE
    rw [List.getElem?_eq_getElem lj]
    exact h1
  have fr : ∀ i, i < j → hitsE f zs ys i = false := fun i hi => by
    unfold hitsE
    rw [List.getElem?_eq_getElem (by omega)]
    have := h2 i hi
    simpa using this
  have run := index_all (A := C.X.A) (R := wants (EP C.X pins σ Q) C.X.xe) ak lj (by omega) hit fr (s := s) ⟨H, ι, I, w.rl, Step.refl _ _ _⟩ (fun s' g => by
    obtain ⟨H', ι', I', rl', sp⟩ := g
    exact ⟨.int (j : Nat), H', I'.tok _, ⟨_, rfl⟩, q H' ι' sp rl'⟩)
  exact GQ.call_here (E := C.X.xe) (Q := EP C.X pins σ Q) PySem.F.slot_list_index ⟨_, ho, rfl⟩ PySem.F.entry_list_index (PySem.F.args_list_index_2 _ _) run
theorem mt_indexO (o : OwnQ C c k fa okF f m) : MtD C "list" "index" (mIndexO c okF f) := ⟨_, _, PySem.F.plainAttrs_list, PySem.F.slot_list_index, PySem.F.type_list_index, mt_idxO o, fun ι st H l xs dl ds d st' Q rl r rs e q => by
  unfold mIndexO at e
  split at e
  · split at e
    · rename_i hc
      obtain ⟨rfl, hy, hz, few⟩ := hc
      obtain ⟨j, hj, e2⟩ := Option.map_eq_some_iff.mp e
      cases e2
      obtain ⟨x, rfl, rx⟩ := repL_one rs
      exact ⟨x, ι, st, _, _, j, rfl, ⟨rl, r, rx, hz, hy⟩, few, hj, fun H' ι' sp r' => q _ ι' H' sp r' (.int _)⟩
    · cases e
  · cases e⟩
end
end Den

set_option maxRecDepth 100000
set_option maxHeartbeats 1000000
/-! Den: a plain thing == an own instance: the plain thing's own == declines, the instance's is asked. -/
namespace PySem
open StrLaws MeetsSeq SeqAt
section
variable {prog : Program} {w : World} {A : Around} {E : Value → Shared → Prop} {s : Shared} {a dx cl : Addr}
theorem no_int {i : Int} {t : Tok} (hO : s.heap.get? a = some { cls := .ref cl, dict := some dx, data := .plain, slots := #[] }) : wpAny (model prog w) A (Builtin.«int.__eq__» ⟨[.int i t, .ref a], []⟩) (fun fin s' => fin = .done (.ret .notImplemented) ∧ s' = s) E s := by
  obtain ⟨hp, g, d, tk, os⟩ := s
  wp_walk using wpAny_loadPart' hO, wpAny_load hO
  exact ⟨rfl, rfl⟩
theorem no_bool {b : Bool} (hO : s.heap.get? a = some { cls := .ref cl, dict := some dx, data := .plain, slots := #[] }) : wpAny (model prog w) A (Builtin.«int.__eq__» ⟨[.bool b, .ref a], []⟩) (fun fin s' => fin = .done (.ret .notImplemented) ∧ s' = s) E s := by
  obtain ⟨hp, g, d, tk, os⟩ := s
  wp_walk using wpAny_loadPart' hO, wpAny_load hO
  exact ⟨rfl, rfl⟩
theorem no_str {z : Str} {t : Tok} (hO : s.heap.get? a = some { cls := .ref cl, dict := some dx, data := .plain, slots := #[] }) : wpAny (model prog w) A (Builtin.«str.__eq__» ⟨[.str z t, .ref a], []⟩) (fun fin s' => fin = .done (.ret .notImplemented) ∧ s' = s) E s := by
  obtain ⟨hp, g, d, tk, os⟩ := s
  wp_walk using wpAny_loadPart' hO, wpAny_load hO
  exact ⟨rfl, rfl⟩
theorem no_none : wpAny (model prog w) A (Builtin.«NoneType.__eq__» ⟨[.none, .ref a], []⟩) (fun fin s' => fin = .done (.ret .notImplemented) ∧ s' = s) E s := by
  obtain ⟨hp, g, d, tk, os⟩ := s
  wp_walk
  exact ⟨rfl, rfl⟩
theorem no_tup {p : Addr} (hi : ∀ {Q : Bool → Shared → Prop}, Q false s → wpAny (model prog w) A (isInstance (.ref a) (.type "tuple")) Q E s) : wpAny (model prog w) A (Builtin.«tuple.__eq__» ⟨[.ref p, .ref a], []⟩) (fun fin s' => fin = .done (.ret .notImplemented) ∧ s' = s) E s := by
  obtain ⟨hp, g, d, tk, os⟩ := s
  unfold Builtin.«tuple.__eq__»
  repeat (first | with_reducible refine hi ?_ | wp_step)
  all_goals first | exact ⟨rfl, rfl⟩ | skip
theorem no_lst {p : Addr} (hi : ∀ {Q : Bool → Shared → Prop}, Q false s → wpAny (model prog w) A (isInstance (.ref a) (.type "list")) Q E s) : wpAny (model prog w) A (Builtin.«list.__eq__» ⟨[.ref p, .ref a], []⟩) (fun fin s' => fin = .done (.ret .notImplemented) ∧ s' = s) E s := by
  obtain ⟨hp, g, d, tk, os⟩ := s
  unfold Builtin.«list.__eq__»
  repeat (first | with_reducible refine hi ?_ | wp_step)
  all_goals first | exact ⟨rfl, rfl⟩ | skip
theorem no_dic {p : Addr} (hi : ∀ {Q : Bool → Shared → Prop}, Q false s → wpAny (model prog w) A (isInstance (.ref a) (.type "dict")) Q E s) : wpAny (model prog w) A (Builtin.«dict.__eq__» ⟨[.ref p, .ref a], []⟩) (fun fin s' => fin = .done (.ret .notImplemented) ∧ s' = s) E s := by
  obtain ⟨hp, g, d, tk, os⟩ := s
  unfold Builtin.«dict.__eq__»
  repeat (first | with_reducible refine hi ?_ | wp_step)
  all_goals first | exact ⟨rfl, rfl⟩ | skip
end
end PySem
namespace Den
open PySem PySem.Spec PyProof.Rows L2
/-- plain things by their types -/
inductive PlainT (K : PySem.W.Frag) (H : Hp) : V → String → Prop where
  | non : PlainT K H .non "NoneType"
  | bl (b : Bool) : PlainT K H (.bl b) "bool"
  | int (i : Int) : PlainT K H (.int i) "int"
  | str (z : Str) : PlainT K H (.str z) "str"
  | tup {p : Addr} {xs : List V} (h : SqT K H p xs) : PlainT K H (.ref p) "tuple"
  | lst {p : Addr} {xs : List V} (h : SqL K H p xs) : PlainT K H (.ref p) "list"
  | dic {p : Addr} {o : Obj} {kvs : List (Key × V)} (h : H p = some (.frz o (.dK kvs))) : PlainT K H (.ref p) "dict"
section
variable {X : Cx} {pins : List (Addr × Obj)} {σ : L2.St} {H : Hp} {s : Shared}
theorem isi_no {A : Around} {E : Value → Shared → Prop} {K : PySem.W.Frag} {a cl : Addr} {ox : Obj} {od : Option Obj} {t : Value} {Q : Bool → Shared → Prop} {prog : Program} {w : World} (hK : K.In s.heap) (J : PySem.W.InstAt s.heap a ox cl od) (e : PySem.W.subIn K (.ref cl) t = some false) (q : Q false s) : wpAny (model prog w) A (isInstance (.ref a) t) Q E s := by
  unfold isInstance
  exact wpAny_bind (J.type.here ((PySem.W.looks_subIn hK e).here q))
/-- the plain thing's own == declines -/
theorem plain_no {A : Around} {E : Value → Shared → Prop} {y : V} {u : Value} {T : String} {a dx cl : Addr} {od : Option Obj} (I : Inv X pins σ H s) (pt : PlainT X.K H y T) (ru : RelV y u) (hO : s.heap.get? a = some { cls := .ref cl, dict := some dx, data := .plain, slots := #[] }) (J : PySem.W.InstAt s.heap a { cls := .ref cl, dict := some dx, data := .plain, slots := #[] } cl od)
    (hs : PySem.W.subIn X.K (.ref cl) (.type T) = some false) : s.TypeIs u T ∧ wpAny (model X.prog X.w) A (tryCompare u "__eq__" (.ref a)) (fun r s' => r = none ∧ s' = s) E s := by
  have fin : ∀ {id : String} {B : Builtin}, Slot T "__eq__" id → s.TypeIs u T → entryFor table id = some B → argsOk id ⟨[u, .ref a], []⟩ → wpAny (model X.prog X.w) A.in1 (B ⟨[u, .ref a], []⟩) (fun fin s' => fin = .done (.ret .notImplemented) ∧ s' = s) E s →
      s.TypeIs u T ∧ wpAny (model X.prog X.w) A (tryCompare u "__eq__" (.ref a)) (fun r s' => r = none ∧ s' = s) E s := fun slot hT entry args no => by
    refine ⟨hT, wpAny_tryCompare_declines hT slot (GQ.call_here (E := E) (Q := fun v s' => v = .notImplemented ∧ none = none ∧ s' = s) slot hT entry args (wpAny_mono no (fun r s' e => ?_) fun _ _ e => e))⟩
    obtain ⟨rfl, rfl⟩ := e
    exact ⟨rfl, rfl, rfl⟩
  cases pt with
  | non =>
    cases ru
    exact fin F.slot_NoneType_eq rfl F.entry_NoneType_eq (F.args_NoneType_eq_2 _ _) no_none
  | bl b =>
    cases ru
    exact fin F.slot_bool_eq rfl F.entry_int_eq (F.args_int_eq_2 _ _) (no_bool hO)
  | int i =>
    obtain ⟨t, rfl⟩ := ru
    exact fin F.slot_int_eq rfl F.entry_int_eq (F.args_int_eq_2 _ _) (no_int hO)
  | str z =>
    obtain ⟨t, rfl⟩ := ru
    exact fin F.slot_str_eq rfl F.entry_str_eq (F.args_str_eq_2 _ _) (no_str hO)
  | tup h =>
    obtain ⟨its, r, pl, _⟩ := I.tuple h
    cases ru
    obtain ⟨o, ho, hc, n, hd⟩ := pl
    exact fin F.slot_tuple_eq ⟨o, ho, hc⟩ F.entry_tuple_eq (F.args_tuple_eq_2 _ _) (no_tup fun q => isi_no I.kIn J hs q)
  | lst h =>
    obtain ⟨its, r, ⟨o, n, ho, hc, hdn, hd⟩, _⟩ := I.list h
    cases ru
    exact fin F.slot_list_eq ⟨o, ho, hc⟩ F.entry_list_eq (F.args_list_eq_2 _ _) (no_lst fun q => isi_no I.kIn J hs q)
  | dic h =>
    cases ru
    obtain ⟨_, _, hns, vs, kv, o, es, ep, ho, ex, _⟩ := I.hok _ _ h
    exact fin F.slot_dict_eq ⟨o, ho, ex.1⟩ F.entry_dict_eq (F.args_dict_eq_2 _ _) (no_dic fun q => isi_no I.kIn J hs q)
end
end Den

set_option maxRecDepth 100000
set_option maxHeartbeats 4000000
/-! Den: a plain thing == an own instance, as a rule; all of == and != with own instances. -/
namespace Den
open PySem PySem.Spec PyProof.Rows L2
section
variable {prog : Program} {w : World} {A : Around} {E : Value → Shared → Prop} {s : Shared} {K : PySem.W.Frag} {a cl f : Addr} {ox : Obj} {od : Option Obj} {u : Value} {T : String}
theorem eq_back {Q : Value → Shared → Prop} (hu : A.units < cLine) (X : K.In s.heap) (J : PySem.W.InstAt s.heap a ox cl od) (hT : s.TypeIs u T) (hsub : PySem.W.subIn K (.ref cl) (.type T) = some false) (no : wpAny (model prog w) A (tryCompare u "__eq__" (.ref a)) (fun r s' => r = none ∧ s' = s) E s)
    (hs : PySem.W.findIn K (.ref cl) "__eq__" = some (some (.ref f))) (hf : PySem.W.isFn K (.ref f) = true) (h : wpAny (model prog w) A (call (.ref f) [.ref a, u]) (PySem.W.CmpBack Q) E s) : wpAny (model prog w) A (richCompare .Eq u (.ref a)) Q E s := by
  have ask : wpAny (model prog w) A (tryCompare (.ref a) "__eq__" u) (fun r s' => ∃ v, r = some v ∧ Q v s') E s := by
    unfold tryCompare
    refine wpAny_bind (m := callSpecialIfBound? _ _ _) (PySem.W.ifBound_K X J hs hf (wpAny_mono h (fun v s' q => ?_) fun _ _ e => e))
    cases v <;> first | exact q.elim | exact wpAny_pure ⟨_, rfl, q⟩
  simp only [richCompare, cmpInfo_Eq, hT.oneThing_none]
  refine wpAny_holding (wpAny_bind (m := cRoomFor _ _) (wpAny_cRoomFor hu (wpAny_bind (m := typeOf _) (wpAny_typeOf hT (wpAny_bind (m := typeOf _) (J.type.here ?_))))))
  rw [if_pos (by simp : (Value.type T != Value.ref cl) = true)]
  refine wpAny_bind (m := isSubtype _ _) ((PySem.W.looks_subIn X hsub).here ?_)
  rw [if_neg (by decide)]
  refine wpAny_bind (m := tryCompare u _ _) (wpAny_mono no (fun r s1 z => ?_) fun _ _ e => e)
  obtain ⟨rfl, rfl⟩ := z
  rw [if_pos (by decide)]
  refine wpAny_bind (m := tryCompare _ _ u) (wpAny_mono ask (fun r s2 z => ?_) fun _ _ e => e)
  obtain ⟨v, rfl, q⟩ := z
  exact wpAny_pure q
end
def plainTy : D → Option String
  | .non => some "NoneType"
  | .bl _ => some "bool"
  | .int _ => some "int"
  | .str _ => some "str"
  | .tup _ => some "tuple"
  | .lst _ => some "list"
  | .dic _ _ => some "dict"
  | _ => none
theorem plainTy_rep {T : Txt} {xp : XT} {ι : Io} {st : Store} {H : Hp} {v : V} {d : D} {t : String} (r : Rep T xp (hide ι st H) ι v d) (h : plainTy d = some t) : PlainT T.K H v t := by
  cases r <;> first | (cases h; done) | skip
  case non => cases h; exact .non
  case bl b => cases h; exact .bl b
  case int i => cases h; exact .int i
  case str z => cases h; exact .str z
  case lst h1 h2 => cases h; exact .lst (SqL.of (hide_sub h1))
  case tup h1 h2 => cases h; exact .tup (le_t (hide_le _ _ _) h1)
  case dic h1 h2 h3 => cases h; exact .dic (hide_sub h1)
/-- none of the plain types is a kind of the class -/
structure OwnB (T : Txt) (c : Nat) (f : Addr) : Prop where
  eq : PySem.W.findIn T.K (.ref (T.ca c)) "__eq__" = some (some (.ref f))
  fn : PySem.W.isFn T.K (.ref f) = true
  sub : ∀ t ∈ ["NoneType", "bool", "int", "str", "tuple", "list", "dict"], PySem.W.subIn T.K (.ref (T.ca c)) (.type t) = some false
theorem plainTy_mem {d : D} {t : String} (h : plainTy d = some t) : t ∈ ["NoneType", "bool", "int", "str", "tuple", "list", "dict"] := by
  cases d <;> first | (cases h; done) | (cases h; simp)
def gBackE (c : Nat) (m : DF) : F2 := fun x y st => if (plainTy x).isSome = true ∧ (fieldsOf c y st).isSome = true then (match m [y, x] st with
  | .ok (.bl b) s1 => some (.bl b, s1)
  | _ => none) else none
section
variable {C : Ctx} {c k : Nat} {f : Addr} {fd : FuncData} {ps : List Str} {m : DF}
def rBackE (C : Ctx) (c : Nat) (m : DF) : R2 := fun x y H Q => ∃ ι st dx dy t b s1, RelSt C.T C.xp ι st H ∧ Rep C.T C.xp (hide ι st H) ι x dx ∧ Rep C.T C.xp (hide ι st H) ι y dy ∧ plainTy dx = some t ∧ (fieldsOf c dy st).isSome = true ∧
  m [dy, dx] st = .ok (.bl b) s1 ∧ ∀ ι' H', Step ι st H ι' s1 H' → RelSt C.T C.xp ι' s1 H' → Q (.bl b) H'
theorem osd_backE : OpSD C (rBackE C c m) (gBackE c m) := fun ι st H x y dx dy dz st1 Q rl rx ry e q => by
  unfold gBackE at e
  split at e
  · rename_i hc
    obtain ⟨t, ht⟩ := Option.isSome_iff_exists.mp hc.1
    split at e
    · rename_i b s1 hm
      cases e
      exact ⟨ι, st, dx, dy, t, b, _, rl, rx, ry, ht, hc.2, hm, fun ι' H' s r => q _ ι' H' s r (.bl b)⟩
    · cases e
  · cases e
theorem op_backE (oe : OwnB C.T c f) (F : FnD C k f fd ps m) (hb : Binds C.T.K fd ps []) (hr : RoomG k C.X.A) (tk : L2N.Takes C.X C.W) (hp : ps.length = 2) : OpR C.X (compareOp .Eq) (rBackE C c m) := by
  intro pins s σ H x y v u Q I rx ry q
  obtain ⟨ι, st, dx, dy, t, b, s1, rl, rdx, rdy, ht, h1, hm, q⟩ := q
  obtain ⟨ds, hds⟩ := Option.isSome_iff_exists.mp h1
  obtain ⟨a, da, xs, ev, ha, hl, rxs⟩ := inst_of rl rdy hds
  subst ev
  obtain rfl : u = Value.ref a := ry
  obtain ⟨mA, J0, _⟩ := ins_get I.hok ha
  have hO := J0.obj
  obtain ⟨od, J, _⟩ := J0.look
  have sub := oe.sub t (plainTy_mem ht)
  obtain ⟨hT, no⟩ := plain_no (A := C.X.A) (E := C.X.xe) I (by rw [C.hK]; exact plainTy_rep rdx ht) rx hO J (by rw [C.hK]; exact sub)
  show wpAny (model C.X.prog C.X.w) C.X.A (richCompare .Eq v (.ref a)) (EP C.X pins σ Q) C.X.xe s
  refine eq_back (f := f) hr.room.units0 I.kIn J hT (by rw [C.hK]; exact sub) no (by rw [C.hK]; exact oe.eq) (by rw [C.hK]; exact oe.fn) ?_
  have sp : spM C.T ps.length m [.ref a, x] H (fun w H' => w = .bl b ∧ Q w H') (fun c d H' => C.W c d σ H') := by
    refine ⟨hp.symm, C.xp, [dy, dx], st, ι, .cons rdy (.cons rdx .nil), rl, ?_⟩
    rw [hm]
    intro w ι' H' s' r' e'
    cases e'
    exact ⟨rfl, q ι' H' s' r'⟩
  have bb := hb s [Value.ref a, v] (by rw [← C.hK]; exact I.kIn) hp.symm
  rw [List.append_nil] at bb
  have z := run_fnG (vs := [.ref a, x]) F hr tk (fun _ _ _ h => h) I bb (.cons rfl (.cons rx .nil)) sp
  refine wpAny_mono z (fun w s' e => ?_) fun _ _ e => e
  obtain ⟨v', H', I', rv, ev, q'⟩ := e
  subst ev
  cases rv
  exact ⟨.bl b, H', I', rfl, q'⟩
end
end Den

set_option maxRecDepth 100000
set_option maxHeartbeats 4000000
/-! Den: over nested data: a < b; count, index, in, not in. -/
namespace Den
open PySem PySem.Spec PyProof.Rows L2
def noneP : PyData → Bool
  | .none => true
  | _ => false
/-! a < b -/
def fLtA (x y : D) : Option D := match toPy x, toPy y with
  | some p, some q => if PySem.W.alike p q = true ∧ noneP p = false ∧ p.depth ≤ 60 then some (.bl (PySem.W.dataLt p q)) else none
  | _, _ => none
def rLtA (K : PySem.W.Frag) : R2 := fun x y H Q => ∃ p q, Dp K H x p ∧ Dp K H y q ∧ PySem.W.alike p q = true ∧ noneP p = false ∧ p.depth ≤ 60 ∧ Q (.bl (PySem.W.dataLt p q)) H
theorem op_ltA {X : Cx} (hu : X.A.units + 64 < cLine) : OpR X (compareOp .Lt) (rLtA X.K) := by
  intro pins s σ H x y v u Q I rx ry h
  obtain ⟨p, q, hp, hq, ha, hn, hd, k⟩ := h
  obtain ⟨as, ra⟩ := Dp.reads I p x v hp rx
  obtain ⟨bs, rb⟩ := Dp.reads I q y u hq ry
  refine PySem.W.lt_data ra rb ha (fun e => by rw [e] at hn; cases hn) ?_ ⟨.bl _, H, I, rfl, k⟩
  have := Nat.min_le_left p.depth q.depth
  omega
section
variable {C : Ctx}
theorem od_ltA : OpD C (rLtA C.X.K) fLtA := fun ι st H x y dx dy dz Q rl rx ry e k => by
  unfold fLtA at e
  split at e
  · rename_i p q hp hq
    split at e
    · rename_i hc
      cases e
      exact ⟨p, q, by rw [C.hK]; exact dp_of (hide_le _ _ _) rx hp, by rw [C.hK]; exact dp_of (hide_le _ _ _) ry hq, hc.1, hc.2.1, hc.2.2, k _ ι H (Step.refl _ _ _) rl (.bl _)⟩
    · cases e
  · cases e
theorem cmp_ltA (hu : C.X.A.units + 64 < cLine) : CmpD C .Lt fLtA := ⟨_, op_ltA hu, od_ltA⟩
end
/-! among data -/
/-- a told list and a thing, both data -/
structure RowD (K : PySem.W.Frag) (H : Hp) (l x : V) (ps : List PyData) (p : PyData) : Prop where
  ex : ∃ a zs, l = .ref a ∧ SqL K H a zs ∧ DpAll K H zs ps
  rx : Dp K H x p
  pl : PyData.plainAll ps = true
  px : p.plain = true
  dp : p.depth ≤ 60
def dataRow (d x : D) (st : Store) : Option (List PyData × PyData) := match litemsOf d st with
  | some ds => match toPyL ds, toPy x with
    | some ps, some p => if PyData.plainAll ps = true ∧ p.plain = true ∧ p.depth ≤ 60 ∧ ps.length ≤ 100000 then some (ps, p) else none
    | _, _ => none
  | none => none
theorem dataRow_rep {C : Ctx} {ι : Io} {st : Store} {H : Hp} {l x : V} {dl dx : D} {ps : List PyData} {p : PyData} (rl : RelSt C.T C.xp ι st H) (r : Rep C.T C.xp (hide ι st H) ι l dl) (rx : Rep C.T C.xp (hide ι st H) ι x dx) (h : dataRow dl dx st = some (ps, p)) : RowD C.X.K H l x ps p ∧ ps.length ≤ 100000 := by
  unfold dataRow at h
  split at h
  · rename_i ds hd
    split at h
    · rename_i ps' p' h1 h2
      split at h
      · rename_i hc
        cases h
        obtain ⟨a, zs, rfl, hs, rs⟩ := litems_rep rl r hd
        rw [C.hK]
        exact ⟨⟨⟨a, zs, rfl, hs, dp_ofL (hide_le _ _ _) rs h1⟩, dp_of (hide_le _ _ _) rx h2, hc.1, hc.2.1, hc.2.2.1⟩, hc.2.2.2⟩
      · cases h
    · cases h
  · cases h
section
variable {X : Cx} {pins : List (Addr × Obj)} {σ : L2.St} {H : Hp} {s : Shared} {l x : V} {u v : Value} {ps : List PyData} {p : PyData}
theorem RowD.look (w : RowD X.K H l x ps p) (I : Inv X pins σ H s) (ru : RelV l u) (rv : RelV x v) : ∃ a its as bs, l = .ref a ∧ u = .ref a ∧ s.heap.IsList a its ∧ ReadsAll s.heap its.toList ps as ∧ Reads s.heap v p bs := by
  obtain ⟨⟨a, zs, rfl, hs, hd⟩, hx, _, _, _⟩ := w
  obtain ⟨its, r, pl, _⟩ := I.list hs
  obtain ⟨as, ra⟩ := Dp.readsAll I _ _ _ hd r
  obtain ⟨bs, rb⟩ := Dp.reads I p x v hx rv
  exact ⟨a, its.toArray, as, bs, rfl, ru, pl.isList, by simpa using ra, rb⟩
theorem room_d {A : Around} (w : RowD X.K H l x ps p) (hu : A.units + 64 < cLine) : A.units + 1 + min (PyData.depthAll ps) p.depth < cLine := by
  have := Nat.min_le_right (PyData.depthAll ps) p.depth
  have := w.dp
  omega
theorem any_count {α : Type} {f : α → Bool} {xs : List α} : xs.any f = decide (0 < xs.countP f) := by
  rw [Bool.eq_iff_iff, decide_eq_true_eq, List.countP_pos_iff, List.any_eq_true]
/-- how it is among them -/
theorem any_at {its : Array Value} {as : List Addr} (rs : ReadsAll s.heap its.toList ps as) (hp : PyData.plainAll ps = true) : (its.any fun y => PyData.eqv (PySem.SeqAt.readOf s.heap y) p) = ps.any fun y => PyData.eqv y p := by
  have e := PySem.SeqAt.count_at (d := p) rs hp
  rw [← Array.any_toList, any_count, any_count, e]
def rInA (K : PySem.W.Frag) (g : Bool → Bool) : R2 := fun x y H Q => ∃ ps p, RowD K H y x ps p ∧ Q (.bl (g (ps.any fun z => PyData.eqv z p))) H
theorem op_inA (hu : X.A.units + 64 < cLine) : OpR X (compareOp .In) (rInA X.K id) := by
  intro pins s σ H x y v u Q I rx ry h
  obtain ⟨ps, p, w, q⟩ := h
  obtain ⟨a, its, as, bs, _, rfl, hl, rs, rb⟩ := w.look I ry rx
  refine SeqAt.in_listAt _ hl (PySem.SeqAt.items_plain rs rb w.pl w.px (room_d w hu)) ⟨.bl _, H, I, rfl, ?_⟩
  rw [any_at rs w.pl]
  exact q
theorem op_notInA (hu : X.A.units + 64 < cLine) : OpR X (compareOp .NotIn) (rInA X.K not) := by
  intro pins s σ H x y v u Q I rx ry h
  obtain ⟨ps, p, w, q⟩ := h
  obtain ⟨a, its, as, bs, _, rfl, hl, rs, rb⟩ := w.look I ry rx
  refine SeqAt.notIn_listAt _ hl (PySem.SeqAt.items_plain rs rb w.pl w.px (room_d w hu)) ⟨.bl _, H, I, rfl, ?_⟩
  rw [any_at rs w.pl]
  exact q
def rCntA (K : PySem.W.Frag) : V → List V → Hp → VK → Prop := fun l xs H Q => ∃ x ps p, xs = [x] ∧ RowD K H l x ps p ∧ Q (.int ((ps.countP fun z => PyData.eqv z p) : Nat)) H
theorem mt_cntA (hu : X.A.units + 64 < cLine) : MtR X "list.count" (rCntA X.K) := by
  intro pins s σ H l xs u us Q I ru rxs h
  obtain ⟨x, ps, p, rfl, w, q⟩ := h
  obtain ⟨v, rfl, rv⟩ := rxs.one
  obtain ⟨a, its, as, bs, _, rfl, hl, rs, rb⟩ := w.look I ru rv
  exact PySem.SeqAt.count_list_data hl rs rb w.pl w.px (room_d w hu) ⟨.int _, H, I.tok _, ⟨_, rfl⟩, q⟩
def rIdxA (K : PySem.W.Frag) : V → List V → Hp → VK → Prop := fun l xs H Q => ∃ x ps p j, xs = [x] ∧ RowD K H l x ps p ∧ ps.length ≤ 100000 ∧ PySem.SeqAt.dataPlace ps p = some j ∧ Q (.int (j : Nat)) H
theorem mt_idxA (hu : X.A.units + 64 < cLine) : MtR X "list.index" (rIdxA X.K) := by
  intro pins s σ H l xs u us Q I ru rxs h
  obtain ⟨x, ps, p, j, rfl, w, few, hj, q⟩ := h
  obtain ⟨v, rfl, rv⟩ := rxs.one
  obtain ⟨a, its, as, bs, _, rfl, hl, rs, rb⟩ := w.look I ru rv
  obtain ⟨lj, h1, h2⟩ := PySem.SeqAt.hit_at rs w.pl hj
  have ln := PySem.SeqAt.len_at rs
  obtain ⟨⟨cls, dd, data, sl⟩, ho, hc, n, hd⟩ := id hl
  simp only at hc hd
  subst hc hd
  exact call_meets PySem.F.slot_list_index ⟨_, ho, rfl⟩ PySem.F.entry_list_index (PySem.F.args_list_index_2 _ _) (SeqAt.list_indexAt a its n dd sl v (fun y => PyData.eqv (PySem.SeqAt.readOf s.heap y) p) j lj (by omega) h1 fun m hm hl => h2 m hm hl) ⟨ho, PySem.SeqAt.items_plain rs rb w.pl w.px (room_d w hu), ⟨.int _, H, I.tok _, ⟨_, rfl⟩, q⟩⟩
end
/-! as rules -/
def fInS (g : Bool → Bool) : F2 := fun x y st => (dataRow y x st).map fun r => (.bl (g (r.1.any fun z => PyData.eqv z r.2)), st)
def mCountA : FM := fun d ds st => match ds with
  | [x] => (dataRow d x st).map fun r => (.int ((r.1.countP fun z => PyData.eqv z r.2) : Nat), st)
  | _ => none
def mIndexA : FM := fun d ds st => match ds with
  | [x] => (dataRow d x st).bind fun r => (PySem.SeqAt.dataPlace r.1 r.2).map fun j => (.int (j : Nat), st)
  | _ => none
section
variable {C : Ctx}
theorem osd_inA {g : Bool → Bool} : OpSD C (rInA C.X.K g) (fInS g) := fun ι st H x y dx dy dz st1 Q rl rx ry e k => by
  obtain ⟨⟨ps, p⟩, h1, h2⟩ := Option.map_eq_some_iff.mp e
  cases h2
  exact ⟨ps, p, (dataRow_rep rl ry rx h1).1, k _ ι H (Step.refl _ _ _) rl (.bl _)⟩
theorem mt_countA (hu : C.X.A.units + 64 < cLine) : MtD C "list" "count" mCountA := ⟨_, _, PySem.F.plainAttrs_list, PySem.F.slot_list_count, PySem.F.type_list_count, mt_cntA hu, fun ι st H l xs dl ds d st' Q rl r rs e k => by
  unfold mCountA at e
  split at e
  · obtain ⟨⟨ps, p⟩, h1, h2⟩ := Option.map_eq_some_iff.mp e
    cases h2
    obtain ⟨x, rfl, rx⟩ := repL_one rs
    exact ⟨x, ps, p, rfl, (dataRow_rep rl r rx h1).1, k _ ι H (Step.refl _ _ _) rl (.int _)⟩
  · cases e⟩
theorem mt_indexA (hu : C.X.A.units + 64 < cLine) : MtD C "list" "index" mIndexA := ⟨_, _, PySem.F.plainAttrs_list, PySem.F.slot_list_index, PySem.F.type_list_index, mt_idxA hu, fun ι st H l xs dl ds d st' Q rl r rs e k => by
  unfold mIndexA at e
  split at e
  · obtain ⟨⟨ps, p⟩, h1, h2⟩ := Option.bind_eq_some_iff.mp e
    obtain ⟨j, h3, h4⟩ := Option.map_eq_some_iff.mp h2
    cases h4
    obtain ⟨x, rfl, rx⟩ := repL_one rs
    obtain ⟨w, few⟩ := dataRow_rep rl r rx h1
    exact ⟨x, ps, p, j, rfl, w, few, h3, k _ ι H (Step.refl _ _ _) rl (.int _)⟩
  · cases e⟩
end
end Den

set_option maxRecDepth 100000
set_option maxHeartbeats 4000000
/-! Den: walks that make a new pair at each turn: zip of two lists. -/
namespace Den
open PySem PySem.Spec PyProof.Rows L2
/-- a new pair at each turn -/
def SrcN (T : Txt) (xp : XT) (G0 : Hp) (ι0 : Io) (J : It) (ds : List D) : Prop := ∃ Gd : Hp → Prop, Walk J ds.length Gd (fun i H x H' => ∃ p v w dv dw, x = .ref p ∧ H p = none ∧ H' = upd H p (.tup [v, w]) ∧ ds[i]? = some (.tup [dv, dw]) ∧ Rep T xp G0 ι0 v dv ∧ Rep T xp G0 ι0 w dw) ∧ ∀ H', Le G0 H' → Gd H'
def tDIN (T : Txt) (xp : XT) (W : WX) (m : DIt) : TI := fun σ H R => ∃ ρ st ι, EnvR T xp (hide ι st H) ι ρ σ ∧ RelSt T xp ι st H ∧ Post T xp (fun c d H => W c d σ H) ι st H (fun G ι J ds => SrcN T xp G ι J ds) R (m ρ st)
abbrev PDIN (C : Ctx) (tg e : Expr) (m : DIt) : Prop := PI C.X tg e (tDIN C.T C.xp C.W m)
def iZipD (m : DA) : DIt := fun ρ st => (m ρ st).bind fun ds s1 => match ds with
  | [.lst xs, .lst ys] => .ok (List.zipWith (fun a b => D.tup [a, b]) xs ys) s1
  | _ => .bad
section
variable {C : Ctx} {tg iter e e2 : Expr} {mi : DIt} {ma : DA} {pos p tpos : Pos} {elts : List Expr} {kk : Nat} {g : TG} {gd : GD} {is : List Nat} {mb : DS} {bd : List Stmt}
theorem src_zip {T : Txt} {xp : XT} {G : Hp} {ι : Io} {K : PySem.W.Frag} {a b : Addr} {xs ys : List V} {dx dy : List D} (hx : SqL K G a xs) (hy : SqL K G b ys) (rx : RepL T xp G ι xs dx) (ry : RepL T xp G ι ys dy) : SrcN T xp G ι (Itz K a b) (List.zipWith (fun a b => D.tup [a, b]) dx dy) := by
  refine ⟨fun H => SqL K H a xs ∧ SqL K H b ys, ?_, fun H' e => ⟨le_l e hx, le_l e hy⟩⟩
  refine (walk_zip (n := (List.zipWith (fun a b => D.tup [a, b]) dx dy).length) (by rw [List.length_zipWith, ← rx.length, ← ry.length])).mono (fun _ q => q) fun i H x H' hi _ y => ?_
  obtain ⟨t, v, w, e1, e2, e3, e4, e5⟩ := y
  obtain ⟨dv, f1, f2⟩ := rx.getV e4
  obtain ⟨dw, f3, f4⟩ := ry.getV e5
  refine ⟨t, v, w, dv, dw, e1, e2, e3, ?_, f2, f4⟩
  rw [List.getElem?_zipWith, f1, f3]
theorem pdi_zip (hg : Gl C.X "zip") (hm : C.X.mg "zip" = none) (ha : PDA C [e, e2] ma) (hs : starEach [e, e2] C.X.env = (false, eval e C.X.env) :: starEach [e2] C.X.env := by rfl) (hpl : (backTo pos (starEach [e2] C.X.env)).any (·.1) = false := by rfl) :
    PDIN C (.Tuple elts kk tpos) (.Call (.Name "zip" p) [e, e2] [] pos) (iZipD ma) := PI.imp (pi_zip hg hm ha hs hpl) fun σ H R ⟨ρ, st, ι, er, rl, q⟩ => by
  refine ⟨ρ, st, ι, er, rl, post_bind q fun ds s1 vs ι1 H1 st1 rl1 rv p1 => ?_⟩
  split at p1
  · rename_i dx dy
    cases rv with
    | cons r1 rs =>
      cases rs with
      | cons r2 rs =>
        cases rs
        cases r1 with
        | lst g1 q1 =>
          cases r2 with
          | lst g2 q2 => exact ⟨_, _, _, _, rfl, SqL.of (hide_sub g1), SqL.of (hide_sub g2), p1 _ ι1 H1 (Step.refl _ _ _) rl1 (by rw [C.hK]; exact src_zip (SqL.of g1) (SqL.of g2) q1 q2)⟩
  · exact p1.elim
def sForN (mi : DIt) (g : GD) (b : DS) : DS := fun ρ st => (mi ρ st).into ρ fun ds s1 => forL g b ds ρ s1
theorem pds_forN (hp : PassesOwn (model C.X.prog C.X.w) C.X.A C.X.env C.X.xe) (hc : C.X.calm = true) (hi : PDIN C tg iter mi) (hg : PG C.X tg g) (hd : TgD C.T C.T.K g gd is) (hb : PDSs C bd mb) (hs : ∀ x, foldedSetIterable iter C.X.env x = pure x := by intro _; rfl) :
    PDS C (.For tg iter bd [] pos) (sForN mi gd mb) :=
  PS.imp (ps_for hp hc hi hg hb hs) fun D σ H ⟨ρ, st, ι, er, rl, p⟩ => by
    refine ⟨ρ, st, ι, er, rl, post_into p er fun ds s1 J ι1 H1 st1 rl1 er1 ⟨Gd, wk, hG⟩ p1 => ?_⟩
    exact for_it wk (Left C.T C.xp C.W D gd mb ds (hide ι1 s1 H1) ι1) ⟨ρ, s1, ι1, Le.refl _, Pre.refl _, rl1, er1, p1⟩
      (fun i σ' H' _ ⟨_, st', ι', hl, _, _⟩ => hG _ (hl.trans (hide_le _ _ _)))
      (fun i x σ' H' H'' hi hL ⟨t, v, w, dv, dw, ex, hn, eH, hd', rv, rw'⟩ => by
        subst ex eH
        obtain ⟨ρ', st', ι', hl, hp', rl', er', q⟩ := hL
        rw [drop_at hd'] at q
        obtain ⟨r2, s2, e2⟩ := rl'.new (o := .tup [v, w]) hn
        exact turn_of (ι0 := ι') (s0 := st') (H0 := upd H' t (.tup [v, w])) hd (er'.step s2) r2 (.tup (.inl (.inl e2)) (.cons (rv.mono (hl.trans s2.ex) (hp'.trans s2.pre)) (.cons (rw'.mono (hl.trans s2.ex) (hp'.trans s2.pre)) .nil))) (q.step s2)
          fun ρ2 s' σ2 ι2 H2 s r e p' => ⟨ρ2, s', ι2, (hl.trans s2.ex).trans s.ex, (hp'.trans s2.pre).trans s.pre, r, e, p'⟩)
      (fun σ' H' hL => left_end (Nat.le_refl _) hL)
end
end Den

set_option maxRecDepth 100000
set_option maxHeartbeats 4000000
/-! Den: from here on a list is told for good. -/
namespace Den
open PySem PySem.Spec PyProof.Rows L2
def sFrzV (i : Nat) (m : DS) : DS := fun ρ st => match ρ[i]? with
  | some (some (.box k)) => (match st[k]? with
    | some (.lst xs) => m (ρ.set i (some (.lst xs))) (st.set k .dead)
    | _ => .bad)
  | some (some (.lst _)) => m ρ st
  | _ => .bad
theorem pds_frzV {C : Ctx} {ss : List Stmt} {m : DS} (i : Nat) (h : PDSs C ss m) : PDSs C ss (sFrzV i m) := PSs.imp h fun D σ H ⟨ρ, st, ι, er, rl, p⟩ => by
  unfold sFrzV at p
  split at p
  · rename_i k hk
    split at p
    · rename_i xs hs
      obtain ⟨v, hv, rv⟩ := er.at_ i _ hk
      cases rv with
      | @box _ a ha =>
        obtain ⟨ys, h1, h3⟩ := rl.ok k a _ ha hs
        obtain ⟨r, s, e⟩ := rl.freeze ha hs
        have er2 := (er.step s).set i (v := .ref a) (d := .lst xs) (.lst (e.trans h1) (h3.mono s.ex s.pre))
        have es : σ.set i (some (V.ref a)) = σ := by
          obtain ⟨li, e2⟩ := List.getElem?_eq_some_iff.mp hv
          rw [← e2, List.set_getElem_self]
        rw [es] at er2
        exact ⟨_, _, ι, er2, r, p.step s⟩
    · exact p.elim
  · exact ⟨ρ, st, ι, er, rl, p⟩
  · exact p.elim
end Den

set_option maxRecDepth 100000
set_option maxHeartbeats 4000000
/-! Den: a class's own defs in one bundle; the rules over it. -/
namespace Den
open PySem PySem.Spec PyProof.Rows L2
/-- the def that class c has under the name nm: the i-th -/
structure DefO (P : Program) (w : World) (T : Txt) (mg : Str → Option Value) (base : Heap) (k c i : Nat) (nm : Str) (n : Nat) (m : DF) : Prop where
  ex : ∃ fd ps, FnG P w T.K mg base k (T.fa i) fd ps (spM T ps.length m) ∧ Binds T.K fd ps [] ∧ ps.length = n
  me : Meth T.K (T.ca c) nm (T.fa i)
theorem DefO.mono {P : Program} {w : World} {T : Txt} {mg : Str → Option Value} {base : Heap} {j k c i n : Nat} {nm : Str} {m : DF} (d : DefO P w T mg base j c i nm n m) (h : j ≤ k) : DefO P w T mg base k c i nm n m :=
  ⟨let ⟨fd, ps, a, b, e⟩ := d.ex; ⟨fd, ps, a.mono h, b, e⟩, d.me⟩
theorem defO_of {P : Program} {w : World} {mg : Str → Option Value} {base : Heap} {T : Txt} {x qual : Str} {st : Stmt} {N ps : List Str} {k c i : Nat} {nm : Str} {m : DS} (l : Lk T i x qual st) (me : Meth T.K (T.ca c) nm (T.fa i)) (S : FnScope N ps (defScope st))
    (hb : ∀ (kV doc pm : Value) (an : Option Addr) (cdv ct : Value) (us : List Value), us.length = ps.length → bindArgs (PySem.W.fnOf x qual (defArgs st) (defBody st) (defScope st) .none kV doc pm an cdv ct) ⟨us, []⟩ = pure (ps.zip us))
    (h : ∀ (cdv : Value) (A : Around) (outer : List Env) (s : Shared) (H : Hp) (E : XK) (xp : XT), Fit ⟨cxOf (L2N.CX P w) P w T.K mg base N qual (defScope st) (T.fa i) cdv A outer s H E, T, xp, fun c d _ H' => E c d H', rfl⟩ k →
      PassesOwn (model P w) (cxOf (L2N.CX P w) P w T.K mg base N qual (defScope st) (T.fa i) cdv A outer s H E).A (cxOf (L2N.CX P w) P w T.K mg base N qual (defScope st) (T.fa i) cdv A outer s H E).env (cxOf (L2N.CX P w) P w T.K mg base N qual (defScope st) (T.fa i) cdv A outer s H E).xe →
      PDSs ⟨cxOf (L2N.CX P w) P w T.K mg base N qual (defScope st) (T.fa i) cdv A outer s H E, T, xp, fun c d _ H' => E c d H', rfl⟩ (defBody st) m) :
    DefO P w T mg base (k + 1) c i nm ps.length (body N.length ps.length m) := by
  obtain ⟨fd, F⟩ := l.ex
  exact ⟨⟨fd, ps, fnD_of F S fun cdv A outer s H E xp hr => h cdv A outer s H E xp ⟨rfl, hr, takes_def⟩ passes_def, F.binds hb, rfl⟩, me⟩
section
variable {C : Ctx} {k c i n : Nat} {nm : Str} {m : DF} {own : List Nat} {nf : Tag → Bool} {a b e o : Expr} {es : List Expr} {ma mb mo : DE} {mr : DA} {pos apos p : Pos}
abbrev DefC (C : Ctx) (k c i : Nat) (nm : Str) (n : Nat) (m : DF) : Prop := DefO C.X.prog C.X.w C.T C.X.mg C.X.base k c i nm n m
theorem DefC.to (d : DefC C k c i nm n m) : ∃ fd ps, FnD C k (C.T.fa i) fd ps m ∧ Binds C.T.K fd ps [] ∧ ps.length = n := by
  obtain ⟨fd, ps, F, b, e⟩ := d.ex
  exact ⟨fd, ps, by rw [FnD, C.hK]; exact F, b, e⟩
/-- own instance == anything whose type is told -/
theorem opE_own (ho : ∀ c ∈ own, ClsI C.T c) (hn : ∀ t, nf t = true → PySem.W.notFirst C.T.K (C.T.ca c) (tagV C.T t) = true) (d : DefC C k c i "__eq__" 2 m) (ft : Fit C k) : OpR C.X (compareOp .Eq) (rOwnE C c own nf m) := by
  obtain ⟨fd, ps, F, hb, hp⟩ := d.to
  exact op_ownE ho ⟨d.me.at_, d.me.fn, hn⟩ F hb ft.room ft.tk hp
theorem opNe_own (ho : ∀ c ∈ own, ClsI C.T c) (hn : ∀ t, nf t = true → PySem.W.notFirst C.T.K (C.T.ca c) (tagV C.T t) = true) (hne : PySem.W.findIn C.T.K (.ref (C.T.ca c)) "__ne__" = some (some (.builtin "object.__ne__"))) (hob : PySem.W.mroIn C.T.K (C.T.ca c) (.type "object") = some true) (d : DefC C k c i "__eq__" 2 m) (ft : Fit C (k + 1)) : OpR C.X (compareOp .NotEq) (rOwnNe C c own nf m) := by
  obtain ⟨fd, ps, F, hb, hp⟩ := d.to
  exact op_ownNe ho ⟨⟨d.me.at_, d.me.fn, hn⟩, hne, hob⟩ F hb ft.room ft.tk hp
theorem opB_own (hs : ∀ t ∈ ["NoneType", "bool", "int", "str", "tuple", "list", "dict"], PySem.W.subIn C.T.K (.ref (C.T.ca c)) (.type t) = some false) (d : DefC C k c i "__eq__" 2 m) (ft : Fit C k) : OpR C.X (compareOp .Eq) (rBackE C c m) := by
  obtain ⟨fd, ps, F, hb, hp⟩ := d.to
  exact op_backE ⟨d.me.at_, d.me.fn, hs⟩ F hb ft.room ft.tk hp
theorem bltR_own (d : DefC C k c i "__repr__" 1 m) (ft : Fit C (k + 1)) : BltD C "repr" (gOwnT c m) := by
  obtain ⟨fd, ps, F, hb, hp⟩ := d.to
  exact blt_ownR ⟨d.me.at_, d.me.fn⟩ F hb ft.room ft.tk hp
theorem tyS_own (d : DefC C k c i "__str__" 1 m) (ft : Fit C (k + 2)) : TyD C "str" (gOwnT c m) := by
  obtain ⟨fd, ps, F, hb, hp⟩ := d.to
  exact ty_ownS ⟨d.me.at_, d.me.fn⟩ F hb ft.room ft.tk hp
theorem bltL_own (d : DefC C k c i "__len__" 1 m) (ft : Fit C (k + 1)) : BltD C "len" (gOwnL c m) := by
  obtain ⟨fd, ps, F, hb, hp⟩ := d.to
  exact blt_ownL ⟨d.me.at_, d.me.fn⟩ F hb ft.room ft.tk hp
/-- whose == its fields tell -/
theorem ownQ_of {okF : List D → Bool} {f : List D → List D → Bool} (d : DefC C k c i "__eq__" 2 m) (ft : Fit C (k + 1)) (hm : ∀ xs ys st, okF xs = true → okF ys = true → m [.ins c xs, .ins c ys] st = .ok (.bl (f xs ys)) st)
    (det : ∀ (xp : XT) (G : Hp) (ι : Io) (vs : List V) (xs ys : List D), RepL C.T xp G ι vs xs → RepL C.T xp G ι vs ys → okF xs = true → okF ys = true → f xs ys = true) : OwnQ C c k (C.T.fa i) okF f m :=
  ⟨d.to, d.me.at_, d.me.fn, ft.room, ft.tk, hm, det⟩
theorem pdt_cmpS {op : CmpOp} {r : R2} {g : F2} (h1 : OpR C.X (compareOp op) r) (h2 : OpSD C r g) (ha : PD C a ma) (hb : PD C b mb) (hm : behindInMarks op b = false) : PDT C (.Compare a [op] [b] pos) (asB (dOpS g ma mb)) :=
  PT.imp (pt_cmpR h1 ha hb hm) (asB_of (tOpS_of h2))
/-- a method, called by places -/
def dMethA (c n : Nat) (m : DF) (o : DE) (a : DA) : DE := dMeth c n 0 (fun us _ => us) m o a dNil
theorem pd_methA {pl : Sem Bool} (hc : ClsD C.T c) (hn : nm ∉ C.T.fl c) (d : DefC C k c i nm (n + 1) m) (ft : Fit C k) (ho : PD C o mo) (ha : PDA C (e :: es) mr)
    (he : starEach (e :: es) C.X.env = (false, eval e C.X.env) :: starEach es C.X.env := by rfl) (hpl : ((backTo pos (starEach (e :: es) C.X.env)).any (·.1) || (backToKw pos (keywordEach [] C.X.env)).any (·.1.isNone)) = false := by rfl)
    (ht : eval (.Call (.Attribute o nm apos) (e :: es) [] pos) C.X.env = (do
      let ov ← eval o C.X.env
      standAt apos.atName
      let (f, first) ← holding [ov] (getMethod ov nm pl)
      callWith pos f first (backTo pos (starEach (e :: es) C.X.env)) (backToKw pos (keywordEach [] C.X.env))) := by rfl) :
    PD C (.Call (.Attribute o nm apos) (e :: es) [] pos) (dMethA c n m mo mr) := by
  obtain ⟨fd, ps, F, hb, hp⟩ := d.to
  exact pd_meth (ks := []) (n := n) hc (by rw [C.hK]; exact d.me) hn F ft.room ft.tk (bd_all hb hp.symm) ho ha pdk_nil rfl rfl he hpl ht
end
end Den

set_option maxRecDepth 100000
set_option maxHeartbeats 4000000
/-! Den: x = [.. for ..], list(x), that are changed later. -/
namespace Den
open PySem PySem.Spec PyProof.Rows L2
def lcEndN (m : Res (List D)) : Res D := m.bind fun ys s1 => if ys.length ≤ 100000 then .ok (.box s1.length) (s1 ++ [.lst ys]) else .bad
/-- what is left of a comprehension -/
def LeftN (T : Txt) (xp : XT) (W : Value → Option Addr → Hp → Prop) (Q : VK) (g : GD) (t : DT) (e : DE) (ρ : Rho) (ds : List D) (ι1 : Io) (s1 : Store) (H1 : Hp) (p : Addr) (i : Nat) (H : Hp) : Prop :=
  ∃ st ι acc ys, Step (ι1.under p) s1 (upd H1 p (.lst [])) ι st (upd H p (.lst [])) ∧ RelSt T xp ι st H ∧ H p = some (.lst acc) ∧ RepL T xp (hide ι st H) ι acc ys ∧ ys.length ≤ i ∧
    Post T xp W ι1 s1 H1 (Rep T xp) Q (lcEndN ((lcL g t e ρ (ds.drop i) st).bind fun zs s2 => .ok (ys ++ zs) s2))
/-- the hidden list stands in the store from now on -/
theorem adopt {T : Txt} {xp : XT} {ι1 ι : Io} {s1 st : Store} {H1 H : Hp} {p : Addr} {acc : List V} {ys : List D} (r1 : RelSt T xp ι1 s1 H1) (hp : H1 p = none) (s : Step (ι1.under p) s1 (upd H1 p (.lst [])) ι st (upd H p (.lst []))) (r : RelSt T xp ι st H) (hH : H p = some (.lst acc))
    (ra : RepL T xp (hide ι st H) ι acc ys) : RelSt T xp ⟨ι.ad ++ [p], ι1.hd⟩ (st ++ [.lst ys]) H ∧ Step ι1 s1 H1 ⟨ι.ad ++ [p], ι1.hd⟩ (st ++ [.lst ys]) H := by
  have hm := Io.under_hd s.pre
  have hhd : ι.hd = p :: ι1.hd := s.pre.hd
  have nad := (r.hdn p hm).2
  have n1 : p ∉ ι1.hd := r1.neh hp
  have eh : hide ⟨ι.ad ++ [p], ι1.hd⟩ (st ++ [.lst ys]) H = hide ι st H := by
    have z : ∀ a, hidden ⟨ι.ad ++ [p], ι1.hd⟩ (st ++ [.lst ys]) a = hidden ι st a := fun a => by
      have la := live_app (p := p) (a := a) (c := .lst ys) r.len
      unfold Io.add at la
      unfold hidden
      have lb : liveB ⟨ι.ad ++ [p], ι1.hd⟩ (st ++ [.lst ys]) a = liveB ⟨ι.ad ++ [p], ι.hd⟩ (st ++ [.lst ys]) a := rfl
      rw [lb, la, hhd]
      by_cases e : p = a
      · subst e
        simp [Cell.live]
      · have e' : ¬ a = p := fun z => e z.symm
        simp [e, e']
    funext a
    unfold hide
    rw [z a]
  have pad : ∀ (k : Nat) (a : Addr), ι.ad[k]? = some a → (ι.ad ++ [p])[k]? = some a := fun k a e => by
    rw [List.getElem?_append_left (List.getElem?_eq_some_iff.mp e).1]
    exact e
  have hx := s.ex
  rw [hide_under hp, hide_hd hm] at hx
  refine ⟨⟨by simp [r.len], List.nodup_append.mpr ⟨r.nd, by simp, fun a ha b hb e => ?_⟩, fun a ha => ?_, fun a ha => ?_, fun k a c hk hc => ?_⟩, ⟨⟨fun k a e => pad k a (s.pre.ad k a e), rfl⟩, by rw [eh]; exact hx, fun a ha => ?_⟩⟩
  · have eb : b = p := by simpa using hb
    exact nad (by rw [← eb, ← e]; exact ha)
  · rcases List.mem_append.mp ha with h | h
    · exact r.there a h
    · have ea : a = p := by simpa using h
      exact ⟨_, by rw [ea]; exact hH⟩
  · obtain ⟨h1, h2⟩ := r.hdn a (by rw [hhd]; exact List.mem_cons_of_mem _ ha)
    refine ⟨h1, fun z => ?_⟩
    rcases List.mem_append.mp z with h | h
    · exact h2 h
    · have ea : a = p := by simpa using h
      exact n1 (ea ▸ ha)
  · rw [eh]
    rcases Nat.lt_or_ge k st.length with lt | ge
    · rw [List.getElem?_append_left lt] at hc
      rw [List.getElem?_append_left (by rw [r.len]; exact lt)] at hk
      have q := r.ok k a c hk hc
      cases c with
      | lst ds =>
        obtain ⟨xs, h1, h2⟩ := q
        exact ⟨xs, h1, RepL.monoA (Le.refl _) pad h2⟩
      | ins c ds =>
        obtain ⟨dx, xs, h1, h2, h3⟩ := q
        exact ⟨dx, xs, h1, h2, RepL.monoA (Le.refl _) pad h3⟩
      | dic ks ds =>
        obtain ⟨xs, h1, h2, h3⟩ := q
        exact ⟨xs, h1, h2, RepL.monoA (Le.refl _) pad h3⟩
      | dead => trivial
    · rw [List.getElem?_append_right ge] at hc
      have hk0 : k - st.length = 0 := by
        have := (List.getElem?_eq_some_iff.mp hc).1
        simpa using this
      rw [hk0] at hc
      cases hc
      rw [List.getElem?_append_right (by rw [r.len]; exact ge), r.len, hk0] at hk
      cases hk
      exact ⟨acc, hH, RepL.monoA (Le.refl _) pad ra⟩
  · have ne : a ≠ p := fun e => n1 (e ▸ ha)
    have q := s.hd a (List.mem_cons_of_mem _ ha)
    rw [upd_ne ne, upd_ne ne] at q
    exact q
section
variable {C : Ctx} {g : TG} {gd : GD} {is : List Nat} {t : DT} {e : DE} {vs : List Nat}
/-- one turn of a comprehension -/
theorem leftN_turn {W : Value → Option Addr → Hp → Prop} {Q : VK} {ds : List D} {ι1 : Io} {s1 : Store} {H1 : Hp} {p : Addr} {i : Nat} {H : Hp} {x : V} {d : D} {ρ : Rho} {σ : L2.St} (hd : TgD C.T C.T.K g gd is) (hv : ∀ j ∈ is, j ∈ vs) (hz : i < 100000) (er : EnvR C.T C.xp (hide ι1 s1 H1) ι1 ρ σ) (hp : H1 p = none)
    (hx : ds[i]? = some d) (hr : Rep C.T C.xp (hide ι1 s1 H1) ι1 x d) (h : LeftN C.T C.xp W Q gd t e (wipeD ρ vs) ds ι1 s1 H1 p i H) :
    g x (wipe σ vs) H fun σ2 H2 => wipe σ2 vs = wipe σ vs ∧ tDT C.T C.xp (fun _ _ _ _ => False) t σ2 H2 fun b H3 => if b = true then tD C.T C.xp (fun _ _ _ _ => False) e σ2 H3 fun y H4 => ∃ acc, H4 p = some (.lst acc) ∧ acc.length < sizeLine ∧
      LeftN C.T C.xp W Q gd t e (wipeD ρ vs) ds ι1 s1 H1 p (i + 1) (upd H4 p (.lst (acc ++ [y]))) else LeftN C.T C.xp W Q gd t e (wipeD ρ vs) ds ι1 s1 H1 p (i + 1) H3 := by
  obtain ⟨st, ι, acc, ys, s, rl, hH, ra, hly, q⟩ := h
  rw [drop_at hx] at q
  unfold lcL at q
  have hm := Io.under_hd s.pre
  have hx1 := s.ex
  rw [hide_under hp, hide_hd hm] at hx1
  have padA : ∀ (k : Nat) (a : Addr), ι1.ad[k]? = some a → ι.ad[k]? = some a := s.pre.ad
  have er' : EnvR C.T C.xp (hide ι st H) ι (wipeD ρ vs) (wipe σ vs) := by
    have w := er.wipe vs
    exact ⟨w.len, fun j y hy => let ⟨v, a, b⟩ := w.at_ j y hy; ⟨v, a, b.monoA hx1 padA⟩⟩
  cases hg : gd d (wipeD ρ vs) with
  | none =>
    rw [hg] at q
    exact q.elim
  | some ρ' =>
    rw [hg] at q
    refine hd.ok _ _ _ _ _ _ _ _ _ _ er' (hr.monoA hx1 padA) hg fun σ' er2 hw => ⟨?_, ρ', st, ι, er2, rl, ?_⟩
    · rw [hw vs hv]
      have idem : ∀ (ws : List Nat) (τ : L2.St), (∀ w ∈ ws, w ∈ vs) → wipe (wipe τ ws) vs = wipe τ vs := by
        intro ws
        induction ws with
        | nil => intro τ _; rfl
        | cons w ws ih =>
          intro τ hws
          show wipe ((wipe τ ws).set w none) vs = wipe τ vs
          rw [wipe_set (hws w List.mem_cons_self), ih τ fun z hz => hws z (List.mem_cons_of_mem _ hz)]
      exact idem vs σ fun _ z => z
    · cases ht : t ρ' st with
      | bad => simp only [ht, noX] at q; exact q.elim
      | exc c es s2 => simp only [ht, noX] at q; exact q.elim
      | ok b s2 =>
        simp only [ht, noX, bind_ok] at q
        intro b' ι2 H2 st2 rl2 eb
        have eb' : b' = b := eb
        subst eb'
        have hm2 : p ∈ ι2.hd := by rw [st2.pre.hd]; exact hm
        have hp2 : H2 p = some (.lst acc) := (st2.hd p hm).trans hH
        have ra2 := ra.mono st2.ex st2.pre
        have sU : ∀ {ιa ιb : Io} {sa sb : Store} {Ha Hb : Hp}, p ∈ ιa.hd → Step ιa sa Ha ιb sb Hb → Step ιa sa (upd Ha p (.lst [])) ιb sb (upd Hb p (.lst [])) := by
          intro ιa ιb sa sb Ha Hb ha z
          have hb : p ∈ ιb.hd := by rw [z.pre.hd]; exact ha
          refine ⟨z.pre, by rw [hide_hd ha, hide_hd hb]; exact z.ex, fun a h => ?_⟩
          by_cases ea : a = p
          · rw [ea, upd_same, upd_same]
          · rw [upd_ne ea, upd_ne ea]
            exact z.hd a h
        cases b' with
        | false => exact iteF ⟨s2, ι2, acc, ys, s.trans (sU hm st2), rl2, hp2, ra2, Nat.le_succ_of_le hly, q⟩
        | true =>
          refine iteT ⟨ρ', s2, ι2, er2.step st2, rl2, ?_⟩
          cases he : e ρ' s2 with
          | bad => simp only [he, noX] at q; exact q.elim
          | exc c es s3 => simp only [he, noX] at q; exact q.elim
          | ok y s3 =>
            simp only [he, noX, bind_ok] at q
            intro v ι3 H3 st3 rl3 rv
            have hm3 : p ∈ ι3.hd := by rw [st3.pre.hd]; exact hm2
            have hp3 : H3 p = some (.lst acc) := (st3.hd p hm2).trans hp2
            have ra3 := ra2.mono st3.ex st3.pre
            refine ⟨acc, hp3, line_lt (by rw [ra3.length]; omega), s3, ι3, acc ++ [v], ys ++ [y], ?_, rl3.hdw hm3 _, upd_same, ?_, by rw [List.length_append]; exact Nat.succ_le_succ hly, ?_⟩
            · rw [upd_upd]
              exact (s.trans (sU hm st2)).trans (sU hm2 st3)
            · rw [hide_hd hm3]
              exact ra3.append (.cons rv .nil)
            · cases hL : lcL gd t e (wipeD ρ vs) (ds.drop (i + 1)) s3 with
              | ok zs s4 =>
                simp only [hL, bind_ok] at q ⊢
                rw [List.append_assoc]
                exact q
              | exc c es s4 => simp only [hL, bind_exc] at q ⊢; exact q
              | bad => simp only [hL, bind_bad] at q ⊢; exact q
theorem leftN_start {W : Value → Option Addr → Hp → Prop} {Q : VK} {ds : List D} {ι1 : Io} {s1 : Store} {H1 : Hp} {p : Addr} {ρ : Rho} (rl : RelSt C.T C.xp ι1 s1 H1) (hp : H1 p = none) (q : Post C.T C.xp W ι1 s1 H1 (Rep C.T C.xp) Q (lcEndN (lcL gd t e ρ ds s1))) :
    LeftN C.T C.xp W Q gd t e ρ ds ι1 s1 H1 p 0 (upd H1 p (.lst [])) := by
  refine ⟨s1, ι1.under p, [], [], ?_, rl.under hp, upd_same, .nil, Nat.le_refl _, ?_⟩
  · rw [upd_upd]
    exact Step.refl _ _ _
  · show Post _ _ _ _ _ _ _ _ (lcEndN ((lcL gd t e ρ ds s1).bind fun zs s2 => .ok zs s2))
    cases hL : lcL gd t e ρ ds s1 with
    | ok zs s4 => rw [hL] at q; exact q
    | exc c es s4 => rw [hL] at q; exact q
    | bad => rw [hL] at q; exact q
theorem leftN_end {W : Value → Option Addr → Hp → Prop} {Q : VK} {ds : List D} {ι1 : Io} {s1 : Store} {H1 : Hp} {p : Addr} {ρ : Rho} {i : Nat} {H : Hp} (rl : RelSt C.T C.xp ι1 s1 H1) (hp : H1 p = none) (hi : ds.length ≤ i) (h : LeftN C.T C.xp W Q gd t e ρ ds ι1 s1 H1 p i H) : Q (.ref p) H := by
  obtain ⟨st, ι, acc, ys, s, r, hH, ra, hly, q⟩ := h
  rw [List.drop_eq_nil_of_le hi] at q
  unfold lcL at q
  simp only [bind_ok, List.append_nil] at q
  unfold lcEndN at q
  simp only [bind_ok] at q
  split at q
  · obtain ⟨r', s'⟩ := adopt rl hp s r hH ra
    refine q _ _ _ s' r' (.box ?_)
    show (ι.ad ++ [p])[st.length]? = some p
    rw [← r.len]
    simp
  · exact q.elim
theorem leftN_sq {W : Value → Option Addr → Hp → Prop} {Q : VK} {ds : List D} {ι1 : Io} {s1 : Store} {H1 : Hp} {p : Addr} {i : Nat} {H : Hp} {ρ : Rho} (hp : H1 p = none) (h : LeftN C.T C.xp W Q gd t e ρ ds ι1 s1 H1 p i H) : Le (hide ι1 s1 H1) H := by
  obtain ⟨st, ι, acc, ys, s, rl, hH, ra, hly, q⟩ := h
  have hm := Io.under_hd s.pre
  have hx1 := s.ex
  rw [hide_under hp, hide_hd hm] at hx1
  exact hx1.trans (hide_le _ _ _)
end
def dLcN (mi : DIt) (g : GD) (t : DT) (e : DE) (vs : List Nat) : DE := fun ρ st => (mi ρ st).bind fun ds s1 => if ds.length ≤ 100000 then lcEndN (lcL g t e (wipeD ρ vs) ds s1) else .bad
section
variable {C : Ctx} {tg iter tg1 iter1 elt : Expr} {ifs ifs1 : List Expr} {scope : Scope} {own : List (Str × Nat)} {pos spos py : Pos} {mi mi1 : DIt} {g g1 : TG} {gd gd1 : GD} {is is1 vs1 : List Nat} {t t1 : DT} {e de : DE} {i : Nat} {y : Str}
theorem lcN_imp {vs : List Nat} {σ : L2.St} {H : Hp} {Q : VK} (hd : TgD C.T C.T.K g gd is) (hv : ∀ j ∈ is, j ∈ vs) (h : tD C.T C.xp C.W (dLcN mi gd t de vs) σ H Q) :
    tLc (tDI C.T C.xp C.W mi) g (tDT C.T C.xp (fun _ _ _ _ => False) t) (tD C.T C.xp (fun _ _ _ _ => False) de) vs σ H Q := by
    obtain ⟨ρ, st, ι, er, rl, p⟩ := h
    refine ⟨ρ, st, ι, er, rl, post_bind p fun ds s1 J ι1 H1 st1 rl1 ⟨Gd, wk, hG⟩ p1 => ?_⟩
    have er1 := er.step st1
    intro D hD
    split at p1
    · rename_i hl
      exact lc_it wk (LeftN C.T C.xp (fun c d H => C.W c d σ H) Q gd t de (wipeD ρ vs) ds ι1 s1 H1 D) (leftN_start rl1 hD p1) (fun i H' _ hL => hG _ (leftN_sq hD hL))
        (fun i x H' H'' hi hL ⟨eH, d, hd', rd⟩ => by
          subst eH
          exact leftN_turn hd hv (by omega) er1 hD hd' rd hL)
        (fun H' hL => leftN_end rl1 hD (Nat.le_refl _) hL)
    · exact p1.elim

theorem pds_setLcN (hc : C.X.calm = true) (hN : C.X.N.Nodup) (hy : C.X.N[i]? = some y) (hyl : C.X.env.scope.names.lookup y = some .local) (hi : PDI C tg iter mi) (ok : BlkOk C.X.N C.X.env.scope scope own) (hg : ∀ s H c cl fp, PG (C.blk s H scope c cl fp).X tg g) (hd : TgD C.T C.T.K g gd is) (hv : ∀ j ∈ is, j ∈ own.map (·.2))
    (ht : ∀ s H c cl fp, PDTs (C.blk s H scope c cl fp) ifs t) (he : ∀ s H c cl fp, PD (C.blk s H scope c cl fp) elt de) (hs : ∀ x, foldedSetIterable iter C.X.env x = pure x := by intro _; rfl)
    (hsw : swapsWith (.ListComp elt [⟨tg, iter, ifs, 0⟩] scope pos) (some (.Name y py)) spos.line C.X.env = pure true := by first | rfl | exact sw_true rfl rfl rfl rfl) :
    PDS C (.Assign [.Name y py] (.ListComp elt [⟨tg, iter, ifs, 0⟩] scope pos) spos) (sSet i (dLcN mi gd t de (own.map (·.2)))) :=
  PS.imp (ps_setLc hc hN hy hyl hsw hi ok hg ht he hs) fun D σ H ⟨ρ, st, ι, er, rl, q⟩ =>
    lcN_imp hd hv ⟨ρ, st, ι, er, rl, post_into q er fun d s1 v ι1 H1 st1 rl1 er1 rv p1 => p1 _ ι1 H1 (Step.refl _ _ _) rl1 (er1.set i rv)⟩
end
/-- list(x), a list of its own that is changed later -/
def gListN : FB := fun ds st => match ds with
  | [x] => (itemsOf x st).map fun xs => (.box st.length, st ++ [.lst xs])
  | _ => none
end Den

set_option maxRecDepth 100000
set_option maxHeartbeats 4000000
/-! Den: raise X(e, ..) of an error with fields; isinstance and fields of such an error while it is held. -/
namespace Den
open PySem PySem.Spec PyProof.Rows L2

/-! ### raise -/
def sRaiseE (c n m : Nat) (dds : List D) (g : (α : Type) → List α → List α → List α → List α) (a k : DA) : DS := fun ρ st => (a ρ st).into ρ fun ds s1 => (k ρ s1).into ρ fun es s2 =>
  if ds.length = n ∧ es.length = m then .exc c (g D ds dds es) ρ s2 else .bad
theorem lookup_turned {f : Str} {ns : List Str} {xs : List V} (nd : ns.Nodup) (hl : ns.length = xs.length) : (ns.zip xs).reverse.lookup f = (ns.zip xs).lookup f := by
  by_cases h : f ∈ ns
  · obtain ⟨i, hi⟩ := List.getElem?_of_mem h
    rw [lookup_rev nd hl hi, lookup_zip nd hi]
  · rw [lookup_rev_no h, lookup_zip_no h]
theorem exd_same {d : Addr} {fs fs' : List (Str × V)} (h : ∀ f : Str, fs.lookup f = fs'.lookup f) : exd d fs = exd d fs' := by
  have e : (fun f : Str => fs.lookup f) = fun f : Str => fs'.lookup f := funext h
  have q : ∀ (g g' : Str → Option V), g = g' → (HO.ext fun hh => ∃ mA, hh.Ns1 d mA ∧ ∀ f, RelO (g f) (mA f)) = HO.ext fun hh => ∃ mA, hh.Ns1 d mA ∧ ∀ f, RelO (g' f) (mA f) := fun g g' e => by rw [e]
  exact q _ _ e
section
variable {C : Ctx} {c n : Nat} {ps ks : List Str} {dds : List D} {g : (α : Type) → List α → List α → List α → List α} {x : Str} {p pos pos' : Pos} {e : Expr} {es : List Expr} {kws : List Keyword} {ma mk : DA} {ways : List (Nat × List Str × List D × ((α : Type) → List α → List α → List α → List α))}
theorem err_fly {pins : List (Addr × Obj)} {s : Shared} {σ : L2.St} {H : Hp} {us ws : List Value} {vs zs : List V} {ds ess : List D} {st : Store} {ι : Io} {Q : XK} (M : MkE C.X.prog C.X.w C.T C.X.mg C.X.base c x ps ways) (hw : (n, ks, dds, g) ∈ ways) (hr : RoomG 2 C.X.A) (tk : L2N.Takes C.X C.W)
    (I : Inv C.X pins σ H s) (r : Vals vs us) (rz : Vals zs ws) (l1 : vs.length = n) (l2 : zs.length = ks.length) (rd : RepL C.T C.xp (hide ι st H) ι vs ds) (re : RepL C.T C.xp (hide ι st H) ι zs ess) (rl : RelSt C.T C.xp ι st H) (few : us.length ≤ sizeLine) (hne : C.T.fl c ≠ []) (r1 : PySem.W.subIn C.T.K (.ref (C.T.ca c)) (.type "BaseException") = some true) (r2 : PySem.W.typeIn C.T.K (.ref (C.T.ca c)) = some (.type "type"))
    (h : ∀ H' dx, Step ι st H ι st H' → RelSt C.T C.xp ι st H' → XdR C.T C.xp ι st H' dx c (g D ds dds ess) → Q (.ref (C.T.ca c)) dx H') : wpAny (model C.X.prog C.X.w) C.X.A (call (.ref (C.T.ca c)) us (ks.zip ws)) (L2N.MkP C.X pins σ Q) C.X.xe s := by
  obtain ⟨f, fd, B, nid, iid, bmB, FB, K0, fi, tf, F, hb⟩ := M.ex
  obtain ⟨⟨dvs, its, rdv, rdd, hlen, hbind⟩, hrel, hrep⟩ := hb _ hw
  dsimp only at hlen hbind hrel hrep
  have kin0 : C.T.K.In s.heap := by rw [← C.hK]; exact I.kIn
  obtain ⟨nm, N, qn, bs, bm, hdct, sn, sub, ab, col, dd, k0, k1, k2, k3, k5, hc, hT⟩ := PySem.W.excInit_of kin0 K0.q
  obtain ⟨hp, gs, dr, t0, os⟩ := s
  have sz : hp.objs.size ≤ hp.objs.size + 1 := Nat.le_succ _
  have na : H (hp.objs.size + 1) = none := I.hok.fresh sz
  have kp : ∀ (b : Addr) (o : Obj), hp.get? b = some o → ((hp.push (PySem.W.kdv_tup us)).push (HandSPX.excO (C.T.ca c) hp.objs.size)).get? b = some o := fun b o z => Heap.get?_push_of_some _ (Heap.get?_push_of_some _ z)
  have hg : ((hp.push (PySem.W.kdv_tup us)).push (HandSPX.excO (C.T.ca c) hp.objs.size)).get? (hp.objs.size + 1) = some (HandSPX.excO (C.T.ca c) hp.objs.size) := by heap_get
  have I2 : Inv C.X pins σ (upd H (hp.objs.size + 1) (exo (hp.objs.size + 1) (C.T.ca c) none)) ⟨(hp.push (PySem.W.kdv_tup us)).push (HandSPX.excO (C.T.ca c) hp.objs.size), gs, dr, t0, os⟩ :=
    I.laid (t' := t0) (a := hp.objs.size + 1) (o := exo (hp.objs.size + 1) (C.T.ca c) none) (h' := (hp.push (PySem.W.kdv_tup us)).push (HandSPX.excO (C.T.ca c) hp.objs.size)) kp sz (exo_ok hg)
  have lw : (g V vs dvs zs).length = (C.T.fl c).length := by
    have := hlen vs zs l1 l2
    rw [M.len] at this
    omega
  have z := F.run _ C.X.stack _ _ ⟨Value.ref (hp.objs.size + 1) :: us, ks.zip ws⟩ (Value.ref (hp.objs.size + 1) :: g Value us its ws) (V.ref (hp.objs.size + 1) :: g V vs dvs zs)
    (fun v H2 => v = V.non ∧ ∃ d : Addr, H d = none ∧ d ≠ hp.objs.size + 1 ∧ H2 = upd (upd (upd H (hp.objs.size + 1) (exo (hp.objs.size + 1) (C.T.ca c) none)) (hp.objs.size + 1) (exo (hp.objs.size + 1) (C.T.ca c) (some d))) d (exd d ((C.T.fl c).zip (g V vs dvs zs)).reverse)) (fun c d H' => C.W c d σ H')
    (RoomG.make (k := 1) hr (C.T.ca c) us (ks.zip ws)) (C.hK ▸ I2.env0.make (C.T.ca c) us (ks.zip ws)) (hbind _ _ us ws (by rw [← C.hK]; exact I2.kIn) (r.length.symm.trans l1) (rz.length.symm.trans l2)) (.cons rfl (hrel r rdv rz))
    ⟨_, _, rfl, lw, upd_same, fun d hd nd => ⟨rfl, d, by rw [upd_ne nd] at hd; exact hd, nd, rfl⟩⟩
  refine wpAny_call (class_called (kw := ks.zip ws) FB hT hc (PySem.W.looks_findIn kin0 fi) (fun self => PySem.W.bind_fn kin0 self tf) few (codeAny_mono z fun res s' q => ?_))
  match res, q with
  | .error e', q' => exact ends_of I2 tk (fun _ _ _ h => h) q'
  | .ok (.ret u), q' =>
    obtain ⟨v, H2, os2, bare2, un2, hok2, rv, ev, d, hd, nd, eH⟩ := q'
    subst ev
    rw [upd_upd, exd_same (fun f => lookup_turned M.nd lw.symm)] at eH
    subst eH
    obtain ⟨h2, g2, d2, t2, os'⟩ := s'
    obtain ⟨tz, G, J, kG, ge, hoe, na2⟩ := mk_end0 (d2 := d2) (t2 := t2) I sz kp un2 hok2 os2 bare2 (by rw [upd_ne (Ne.symm nd), upd_same]) (upd_same) hd
    have eH : upd (del (upd (upd H (hp.objs.size + 1) (exo (hp.objs.size + 1) (C.T.ca c) (some d))) d (exd d ((C.T.fl c).zip (g V vs dvs zs)))) (hp.objs.size + 1)) d (.xd ((C.T.fl c).zip (g V vs dvs zs))) = upd H d (.xd ((C.T.fl c).zip (g V vs dvs zs))) := by
      funext b
      by_cases e1 : b = d
      · rw [e1, upd_same, upd_same]
      · rw [upd_ne e1, upd_ne e1]
        by_cases e2 : b = hp.objs.size + 1
        · rw [e2, del_same, na]
        · rw [del_ne e2, upd_ne e1, upd_ne e2]
    rw [eH] at J na2
    obtain ⟨rb, sb, eb⟩ := rl.new (p := d) (o := .xd ((C.T.fl c).zip (g V vs dvs zs))) hd
    refine ⟨rv, ⟨_, _, _, ⟨G, g2, d2, t2, os'⟩, _, .ref (C.T.ca c), some d, rfl, J, kG, ge, hoe, ⟨rfl, rfl, fun vs e => by cases e; rfl⟩, rfl, rfl, na2, rfl, bare2, raises_own (by rw [C.hK]; exact r1) (by rw [C.hK]; exact r2), ?_⟩⟩
    refine h _ _ sb rb (.inr ⟨d, g V vs dvs zs, rfl, upd_same, eb.trans upd_same.symm, by rw [lw]; exact Nat.le_refl _, (hrep _ _ _ rd (rdd _ _ _) re).mono sb.ex sb.pre, fun z => ?_⟩)
    have lz := (hrep C.xp (hide ι st H) ι rd (rdd _ _ _) re).length
    rw [z, lw] at lz
    exact hne (List.eq_nil_of_length_eq_zero lz)
  | .ok .next, q' => exact False.elim q'
  | .ok .brk, q' => exact False.elim q'
  | .ok .cont, q' => exact False.elim q'
theorem pds_raiseE (M : MkE C.X.prog C.X.w C.T C.X.mg C.X.base c x ps ways) (hw : (n, ks, dds, g) ∈ ways) (ft : Fit C 2) (hc : C.X.calm = true) (hne : C.T.fl c ≠ []) (r1 : PySem.W.subIn C.T.K (.ref (C.T.ca c)) (.type "BaseException") = some true) (r2 : PySem.W.typeIn C.T.K (.ref (C.T.ca c)) = some (.type "type")) (hg : Gl C.X x) (ha : PDA C (e :: es) ma) (hkw : PDK C kws mk) (hn : n ≤ 1000)
    (hall : (backToKw pos (keywordEach kws C.X.env)).all (·.1.isSome) = true := by rfl) (hks : (backToKw pos (keywordEach kws C.X.env)).filterMap (·.1) = ks := by rfl) (hdb : (x == ("__debug__" : Str)) = false := by decide)
    (he : starEach (e :: es) C.X.env = (false, eval e C.X.env) :: starEach es C.X.env := by rfl) (hpl : ((backTo pos (starEach (e :: es) C.X.env)).any (·.1) || (backToKw pos (keywordEach kws C.X.env)).any (·.1.isNone)) = false := by rfl) :
    PDS C (.Raise (some (.Call (.Name x p) (e :: es) kws pos)) none pos') (sRaiseE c n ks.length dds g ma mk) := by
  have kc : PySem.W.keepIn C.X.K (.ref (C.T.ca c)) = true := by
    obtain ⟨f, fd, B, nid, iid, bmB, FB, K0, _⟩ := M.ex
    rw [C.hK]
    exact K0.kp
  have pm : L2N.PMk C.X (.Call (.Name x p) (e :: es) kws pos) (fun σ H Q => (∀ cls d H', C.W cls d σ H' → C.W cls d σ H') ∧ tDA C.T C.xp C.W ma σ H fun vs H1 => tDA C.T C.xp C.W mk σ H1 fun zs H2 => ∃ ds ess st ι, vs.length = n ∧ zs.length = ks.length ∧
      RepL C.T C.xp (hide ι st H2) ι vs ds ∧ RepL C.T C.xp (hide ι st H2) ι zs ess ∧ RelSt C.T C.xp ι st H2 ∧ ∀ H' dx, Step ι st H2 ι st H' → RelSt C.T C.xp ι st H' → XdR C.T C.xp ι st H' dx c (g D ds dds ess) → Q (.ref (C.T.ca c)) dx H') := by
    intro pins s σ H Q I ⟨_, h⟩
    refine wpAny_Call_Name_kw (ld_glob I hg M.g ?_ hdb)
    refine args_call (first := []) (Q := L2N.MkP C.X pins σ Q) (ks := ks) ha hkw I kc (h.imp (fun ρ h => h.imp fun st h => h.imp fun ι h => ?_)) hall hks he hpl
    obtain ⟨er, rl, hp⟩ := h
    refine ⟨er, rl, ?_⟩
    cases hm : ma ρ st with
    | bad => rw [hm] at hp; exact hp.elim
    | exc c2 xs s1 => rw [hm] at hp; exact hp
    | ok d s1 =>
      rw [hm] at hp
      intro v ι1 H1 st1 rl1 rv
      obtain ⟨ρ2, s2, ι2, er2, rl2, h2⟩ := hp v ι1 H1 st1 rl1 rv
      refine ⟨ρ2, s2, ι2, er2, rl2, ?_⟩
      cases hk : mk ρ2 s2 with
      | bad => rw [hk] at h2; exact h2.elim
      | exc c2 xs s1 => rw [hk] at h2; exact h2
      | ok d2 s3 =>
        rw [hk] at h2
        intro v2 ι3 H3 st3 rl3 rv3
        obtain ⟨ds, ess, st, ι, l1, l2, ra, rb, rc, q⟩ := h2 v2 ι3 H3 st3 rl3 rv3
        intro us ws s4 I4 rr rz
        exact err_fly M hw ft.room ft.tk I4 rr rz l1 l2 ra rb rc (by
          show us.length ≤ sizeLine
          rw [← rr.length, l1]
          exact Nat.le_trans hn (by decide)) hne r1 r2 q
  refine PS.imp (L2N.ps_raise hc ft.tk pm) fun D σ H ⟨ρ, st, ι, er, rl, pp⟩ => ⟨fun _ _ _ h => h, ρ, st, ι, er, rl, post_into pp er fun ds s1 vs ι1 H1 st1 rl1 er1 rv p1 => ⟨ρ, s1, ι1, er1, rl1, post_into p1 er1 fun ess s2 zs ι2 H2 st2 rl2 er2 rz p2 => ?_⟩⟩
  split at p2
  · rename_i hl
    exact ⟨ds, ess, s2, ι2, rv.length.trans hl.1, rz.length.trans hl.2, rv.mono st2.ex st2.pre, rz, rl2, fun H' dx s' r' xd => p2 σ ι2 H' dx s' r' (er2.step s') xd⟩
  · exact p2.elim
end

/-! ### the error that is held -/
/-- isinstance(e, c) where e is held, with fields or without -/
def rIsHA (C : Ctx) : List V → Hp → VK → Prop := fun xs H Q => ∃ (a : Addr) (c : Nat) (d : Option Addr) (k : V) (cv : Value) (b : Bool), (a, c, d) ∈ C.xp ∧ (∀ dd, d = some dd → ∃ fs, H dd = some (.xd fs)) ∧ ExcC C.T.K (C.T.ca c) ∧ xs = [.ref a, k] ∧ ClsV k cv ∧ PySem.W.kitOne C.T.K (.ref (C.T.ca c)) cv = some b ∧ Q (.bl b) H
theorem inst_heldA {C : Ctx} (hh : Held C) {pins : List (Addr × Obj)} {σ : L2.St} {H : Hp} {s : Shared} (I : Inv C.X pins σ H s) {a : Addr} {c : Nat} {d : Option Addr} (h : (a, c, d) ∈ C.xp) (hd : ∀ dd, d = some dd → ∃ fs, H dd = some (.xd fs)) : ∃ oe od, PySem.W.InstAt s.heap a oe (C.T.ca c) od := by
  obtain ⟨oe, hp, hz, vs, hv⟩ := hh _ h
  obtain ⟨hget, _⟩ := I.pin (a, oe) (List.mem_append.mpr (.inl hp))
  obtain ⟨oc, od, oda, osl⟩ := oe
  obtain ⟨h1, h2⟩ := hz
  dsimp only at h1 h2 hv
  subst h1 h2 hv
  cases od with
  | none => exact ⟨_, none, hget, rfl, rfl, trivial⟩
  | some dd =>
    obtain ⟨fs, hx⟩ := hd dd rfl
    have hk : ObjOk C.X.prog C.X.w H s.heap dd (.xd fs) := I.hok dd _ hx
    obtain ⟨mA, hns, _⟩ := hk
    obtain ⟨od, ho, _⟩ := lookIn_ns hns
    exact ⟨_, some od, hget, rfl, rfl, ho⟩
theorem call_isHA {C : Ctx} (hh : Held C) : CallR C.X (.builtin "isinstance") (rIsHA C) := by
  intro pins s σ H xs us Q I r h
  obtain ⟨a, c, d, k, cv, b, hx, hd, cc, rfl, hk, e, q⟩ := h
  obtain ⟨u1, u2, rfl, r1, r2⟩ := vals2 r
  cases r1
  have ec := hk.eq r2
  subst ec
  obtain ⟨oe, od, J⟩ := inst_heldA hh I hx hd
  have kin : C.T.K.In s.heap := by rw [← C.hK]; exact I.kIn
  exact PySem.W.kia_one (PySem.W.kitx_exc (exc_cls cc) cc.hg cc.hk cc.hs cc.ha cc.hn cc.ht cc.hm) kin J e (fun z => nomatch z) fun tk => ⟨.bl b, H, I.kept (t' := tk) fun _ _ z => z, rfl, q⟩
def bIsHA (es : List Nat) (isT : Tag → Tag → Option Bool) : FB := fun ds st => match ds with
  | [.exc c _, k] => if c ∈ es then (match clsA k with
    | some u => (isT (.ow c) u).map fun b => (.bl b, st)
    | none => none) else none
  | _ => none
section
variable {C : Ctx} {isT : Tag → Tag → Option Bool}
theorem held_ofA {H : Hp} {st : Store} {ι : Io} {v : V} {c : Nat} {ds : List D} (r : Rep C.T C.xp (hide ι st H) ι v (.exc c ds)) : ∃ a d, v = .ref a ∧ (a, c, d) ∈ C.xp ∧ ∀ dd, d = some dd → ∃ fs, H dd = some (.xd fs) := by
  cases r with
  | exc h _ => exact ⟨_, none, rfl, h, fun _ z => by cases z⟩
  | excd h g _ _ _ => exact ⟨_, _, rfl, h, fun dd z => by cases z; exact ⟨_, hide_sub g⟩⟩
theorem blt_isHA {es : List Nat} (hh : Held C) (hc : ∀ c ∈ es, ExcC C.T.K (C.T.ca c)) (hi : IsT C.T isT) : BltD C "isinstance" (bIsHA es isT) := ⟨_, call_isHA hh, fun ι st H xs ds d st' Q rl rx e k => by
  unfold bIsHA at e
  split at e
  · rename_i c zs kk
    split at e
    · rename_i hm
      split at e
      · rename_i u h2
        obtain ⟨b, hb, e'⟩ := Option.map_eq_some_iff.mp e
        cases e'
        obtain ⟨v, w, rfl, rv, rw'⟩ := repL_two rx
        obtain ⟨a, dd, rfl, hx, hd⟩ := held_ofA rv
        exact ⟨a, c, dd, w, _, b, hx, hd, hc c hm, rfl, clsA_rep rw' h2, hi _ _ _ hb, k _ ι H (Step.refl _ _ _) rl (.bl b)⟩
      · cases e
    · cases e
  · cases e⟩
end
/-- e.f where e is held -/
def dFldX (c i : Nat) (o : DE) : DE := fun ρ st => (o ρ st).bind fun d s1 => match d with
  | .exc c' xs => if c' = c then (match xs[i]? with
    | some x => .ok x s1
    | none => .bad) else .bad
  | _ => .bad
section
variable {C : Ctx} {c i : Nat} {o : Expr} {mo : DE} {pos : Pos}
theorem pd_fldX {fn : Str} (hh : Held C) (hc : ErrF C.T c) (nd : (C.T.fl c).Nodup) (hi : (C.T.fl c)[i]? = some fn) (ho : PD C o mo) (hb : attributeBase o fn C.X.env (eval o C.X.env) = eval o C.X.env := by rfl) : PD C (.Attribute o fn pos) (dFldX c i mo) := by
  refine ⟨fun pins s σ H Q I ⟨ρ, st, ι, er, rl, h⟩ => ?_⟩
  refine attr_of hb (thn (ho.run pins s σ H _ I ⟨ρ, st, ι, er, rl, post_bind (Q := fun v H1 => ∃ (a d : Addr) (fs : List (Str × V)) (y : V), v = .ref a ∧ (a, c, some d) ∈ C.xp ∧ H1 d = some (.xd fs) ∧ fs.lookup fn = some y ∧ Q y H1) h fun d s1 v ι1 H1 st1 rl1 rv p1 => ?_⟩) fun u s1 hu => ?_)
  · cases rv with
    | exc h1 e =>
      subst e
      simp at p1
      exact p1.elim
    | excd h1 h2 h3 h4 h5 =>
      rename_i a d c' xs ds
      dsimp only at p1
      split at p1
      · rename_i ec
        subst ec
        cases hx : ds[i]? with
        | none =>
          rw [hx] at p1
          exact p1.elim
        | some y =>
          rw [hx] at p1
          obtain ⟨u, hu, ru⟩ := h4.get hx
          exact ⟨_, _, _, u, rfl, h1, hide_sub h2, (lookup_zip nd hi).trans hu, p1 u ι1 H1 (Step.refl _ _ _) rl1 ru⟩
      · exact p1.elim
    | _ => exact p1.elim
  · obtain ⟨v, H1, I1, rv, a, d, fs, y, rfl, ha, hd, hl, q⟩ := hu
    obtain rfl : u = Value.ref a := rv
    obtain ⟨oe, hp, hz, vs, hv⟩ := hh _ ha
    obtain ⟨hget, _⟩ := I1.pin (a, oe) (List.mem_append.mpr (.inl hp))
    obtain ⟨oc, od0, oda, osl⟩ := oe
    obtain ⟨z1, z2⟩ := hz
    dsimp only at z1 z2 hv
    subst z1 z2 hv
    have hk : ObjOk C.X.prog C.X.w H1 s1.heap d (.xd fs) := I1.hok d _ hd
    obtain ⟨mA, hns, rel⟩ := hk
    obtain ⟨od, hod, hlk⟩ := lookIn_ns hns
    obtain ⟨z, hz, rz⟩ := RelO.some_of (v := y) (o := mA fn) (by rw [← hl]; exact rel fn)
    have kin : C.T.K.In s1.heap := by rw [← C.hK]; exact I1.kIn
    have J : PySem.W.InstAt s1.heap a _ (C.T.ca c) (some od) := ⟨hget, rfl, rfl, hod⟩
    exact HandSPX.exc_get kin J hc.xf.ga hc.xf.gg hc.xf.exC (PySem.W.findObj_own hc.xf.hdC (hc.no fn (List.mem_of_getElem? hi)) rfl (by rw [hlk, hz])) (handed_of rz) ⟨y, H1, I1.tok _, rz, q⟩
end
end Den

set_option maxRecDepth 100000
set_option maxHeartbeats 4000000
/-! Den: list(x) as a box, int(text), strip(signs), pop(i), insert, xs[::-1]. -/
namespace Den
open PySem PySem.Spec PyProof.Rows L2
section
variable {C : Ctx}
theorem ty_listN : TyD C "list" gListN := ⟨_, call_list_of, fun ι st H xs ds d st' Q rl rx e k => by
  unfold gListN at e
  split at e
  · rename_i x
    obtain ⟨ys, hy, e'⟩ := Option.map_eq_some_iff.mp e
    cases e'
    obtain ⟨v, rfl, rv⟩ := repL_one rx
    obtain ⟨a, zs, rfl, hs, rs⟩ := items_rep rl rv hy
    refine ⟨a, zs, rfl, by rw [C.hK]; exact hs, fun l hl => ?_⟩
    obtain ⟨ra, sa⟩ := rl.newMut (o := .lst zs) (c := .lst ys) hl rfl fun ι' q => ⟨zs, upd_same, rs.mono (Le.refl _) q⟩
    exact k _ _ _ sa ra (.box (by rw [← rl.len]; exact ι.add_at l))
  · cases e⟩
/-- int(text) -/
def gIntS (x : D) (_ : Store) : Option D := match x with
  | .str z => if z.length ≤ 640 then (PySem.intText? z).map D.int else none
  | _ => none
theorem ty_intS : TyD C "int" (one gIntS) := ⟨_, call_int_str, fun ι st H xs ds d st' Q rl rx e k => by
  obtain ⟨x, rfl, hg, rfl⟩ := one_some e
  obtain ⟨v, rfl, rv⟩ := repL_one rx
  unfold gIntS at hg
  split at hg
  · rename_i z
    split at hg
    · rename_i hl
      obtain ⟨n, hn, rfl⟩ := Option.map_eq_some_iff.mp hg
      cases rv
      exact ⟨z, n, rfl, hn, hl, k _ ι H (Step.refl _ _ _) rl (.int n)⟩
    · cases hg
  · cases hg⟩
/-- text.strip(signs) -/
def mStrip : FM := fun d ds st => match d, ds with
  | .str a, [.str b] => if a.length ≤ 1000000 then some (.str (Txt.stripChars a b), st) else none
  | _, _ => none
theorem mt_stripD : MtD C "str" "strip" mStrip := ⟨_, _, PySem.F.plainAttrs_str, PySem.F.slot_str_strip, PySem.F.type_str_strip, mt_stripChars, fun ι st H x xs dx ds d st' Q rl rx rs e k => by
  unfold mStrip at e
  split at e
  · rename_i a b
    split at e
    · rename_i hl
      cases e
      obtain ⟨v, rfl, rv⟩ := repL_one rs
      cases rx
      cases rv
      exact ⟨a, b, rfl, rfl, Nat.le_trans hl (by decide), k _ ι H (Step.refl _ _ _) rl (.str _)⟩
    · cases e
  · cases e⟩
theorem RepL.erase {T : Txt} {xp : XT} {G : Hp} {ι : Io} : ∀ {v : List V} {d : List D} (n : Nat), RepL T xp G ι v d → RepL T xp G ι (v.eraseIdx n) (d.eraseIdx n)
  | _, _, _, .nil => .nil
  | _, _, 0, .cons _ r => r
  | _, _, n + 1, .cons h r => .cons h (r.erase n)
/-- xs.pop(i) -/
def mPopAt : FM := fun d ds st => match d, ds with
  | .box k, [.int i] => match st[k]? with
    | some (.lst xs) => if -(2 ^ 63) ≤ i ∧ i < 2 ^ 63 then (match (seqIndex? i xs.length).bind fun j => xs[j]?.map fun y => (j, y) with
      | some (j, y) => some (y, st.set k (.lst (xs.eraseIdx j)))
      | none => none) else none
    | _ => none
  | _, _ => none
theorem mt_popAtD : MtD C "list" "pop" mPopAt := ⟨_, _, PySem.F.plainAttrs_list, PySem.F.slot_list_pop, PySem.F.type_list_pop, mt_popAt, fun ι st H x xs dx ds d st' Q rl rx rs e k => by
  unfold mPopAt at e
  split at e
  · rename_i bk i
    split at e
    · rename_i zs hz
      split at e
      · rename_i hi
        split at e
        · rename_i j y hj
          cases e
          obtain ⟨j', hj1, hj2⟩ := Option.bind_eq_some_iff.mp hj
          obtain ⟨y', hy, hj3⟩ := Option.map_eq_some_iff.mp hj2
          cases hj3
          obtain ⟨v, rfl, rv⟩ := repL_one rs
          cases rv
          cases rx with
          | box hk =>
            obtain ⟨ws, hw, rw'⟩ := rl.ok _ _ _ hk hz
            obtain ⟨u, hu, ru⟩ := rw'.get hy
            refine ⟨_, ws, i, j, u, rfl, rfl, hw, hi.1, hi.2, by rw [rw'.length]; exact hj1, hu, ?_⟩
            obtain ⟨r2, s2⟩ := rl.write (o := .lst (ws.eraseIdx j)) (c' := .lst (zs.eraseIdx j)) hk hz rfl rfl ⟨_, upd_same, rw'.erase j⟩
            exact k _ ι _ s2 r2 (ru.mono s2.ex s2.pre)
        · cases e
      · cases e
    · cases e
  · cases e⟩
/-- xs.insert(i, x), i from 0 on -/
def mInsert : FM := fun d ds st => match d, ds with
  | .box k, [.int i, y] => match st[k]? with
    | some (.lst xs) => if xs.length < 100000 ∧ 0 ≤ i ∧ i < 2 ^ 63 then some (.non, st.set k (.lst (xs.take i.toNat ++ [y] ++ xs.drop i.toNat))) else none
    | _ => none
  | _, _ => none
theorem mt_insertD : MtD C "list" "insert" mInsert := ⟨_, _, PySem.F.plainAttrs_list, PySem.F.slot_list_insert, PySem.F.type_list_insert, mt_insert, fun ι st H x xs dx ds d st' Q rl rx rs e k => by
  unfold mInsert at e
  split at e
  · rename_i bk i y
    split at e
    · rename_i zs hz
      split at e
      · rename_i hi
        cases e
        obtain ⟨v, w, rfl, rv, rw2⟩ := repL_two rs
        cases rv
        cases rx with
        | box hk =>
          obtain ⟨ws, hw, rw'⟩ := rl.ok _ _ _ hk hz
          refine ⟨_, ws, i, w, rfl, rfl, hw, line_lt (by rw [rw'.length]; exact hi.1), hi.2.1, hi.2.2, ?_⟩
          obtain ⟨r2, s2⟩ := rl.write (o := .lst (ws.take i.toNat ++ [w] ++ ws.drop i.toNat)) (c' := .lst (zs.take i.toNat ++ [y] ++ zs.drop i.toNat)) hk hz rfl rfl ⟨_, upd_same, ((rw'.take _).append (.cons rw2 .nil)).append (rw'.drop _)⟩
          exact k _ ι _ s2 r2 .non
      · cases e
    · cases e
  · cases e⟩
/-- xs[::-1] of a list -/
def dRevL (a : DE) : DE := fun ρ st => (a ρ st).bind fun d s1 => match litemsOf d s1 with
  | some xs => .ok (.lst xs.reverse) s1
  | none => .bad
theorem pd_revL {e : Expr} {ma : DE} {kk : Nat} {p1 p2 p3 pos : Pos} (ha : PD C e ma) : PD C (.Subscript e (.Slice none none (some (.UnaryOp .USub (.Constant (.int 1) kk p1) p2)) p3) pos) (dRevL ma) :=
  PE.imp (pe_revL ha) fun σ H Q ⟨ρ, st, ι, er, rl, p⟩ => by
    refine ⟨ρ, st, ι, er, rl, post_bind p fun d s1 v ι1 H1 st1 rl1 rv p1 => ?_⟩
    split at p1
    · rename_i xs hx
      obtain ⟨a, ys, rfl, hs, rs⟩ := litems_rep rl1 rv hx
      refine ⟨a, ys, rfl, by rw [C.hK]; exact hs, fun q hq => ?_⟩
      obtain ⟨ra, sa, ea⟩ := rl1.new (o := .lst ys.reverse) hq
      exact p1 _ ι1 _ sa ra (.lst ea (rs.reverse.mono sa.ex sa.pre))
    · exact p1.elim
end
end Den

set_option maxRecDepth 100000
set_option maxHeartbeats 4000000
/-! Den: enumerate of a list, from a number on; a, *b = a list. -/
namespace Den
open PySem PySem.Spec PyProof.Rows L2

/-! ### enumerate -/
/-- the list at a, each item in a new pair with its number from n on -/
def ItC (K : PySem.W.Frag) (n : Int) (a : Addr) : It :=
  ⟨fun i H => ∃ (xs : List V) (x : V), SqL K H a xs ∧ xs[i]? = some x, fun i H v H' => ∃ t x, v = .ref t ∧ H t = none ∧ H' = upd H t (.tup [.int (n + (i : Nat)), x]) ∧ ∀ xs, SqL K H a xs → xs[i]? = some x, fun i H => ∃ xs : List V, SqL K H a xs ∧ xs.length = i⟩
theorem turn_from {P : Program} {w : World} {K : PySem.W.Frag} {elts : List Expr} {kk : Nat} {tpos : Pos} {n : Int} {a e it : Addr} (hea : e ≠ a) (hia : it ≠ a) :
    Turn P w K (.Tuple elts kk tpos) (ItC K n a) [e, it] e (fun i h => (∃ old, IsEnum h e it (n + ((i : Nat) : Int)) old) ∧ h.IsListIter it a i ∧ e ≠ it) where
  mem := List.mem_cons_self
  obj := fun i h ⟨⟨old, he⟩, ⟨o, ho, hc, hd⟩, _⟩ b hb => by
    rcases List.mem_cons.mp hb with rfl | hb
    · exact ⟨_, he, fun v q => nomatch q⟩
    · rw [List.mem_singleton.mp hb]
      exact ⟨o, ho, fun v q => by rw [hd] at q; cases q⟩
  keep := fun i h h' ⟨⟨old, he⟩, hi, hne⟩ k => ⟨⟨old, k e List.mem_cons_self _ he⟩, hi.at fun o q => k it (List.mem_cons_of_mem _ List.mem_cons_self) o q, hne⟩
  item := by
    intro X hP hw hK hc i pins s σ H E I hf st hg
    subst hP hw hK
    obtain ⟨⟨old, he⟩, hit, hne⟩ := st
    obtain ⟨xs, x, hq, hx⟩ := hg
    obtain ⟨its, rv, p, hz⟩ := I.list hq
    obtain ⟨u, hu, ru⟩ := rv.get hx
    have le : e < s.heap.objs.size := Heap.lt_size he
    have li : it < s.heap.objs.size := by obtain ⟨_, q, _⟩ := hit; exact Heap.lt_size q
    have hlt : i < its.toArray.size := by simpa using (List.getElem?_eq_some_iff.mp hu).1
    refine wpAny_pyNext_enum_itemC (Draws.list (A := X.A.in1) (by exact I.ok.hd hc) it a (Ne.symm hia) its.toArray) he ⟨hit, p.isList⟩ hlt hne (by simp [hne, hea]) fun x' h' tk px ho st' hT hsz hk => ?_
    have ex : x' = u := by
      have z : its.toArray[i]? = some u := by simpa using hu
      rw [z] at px
      exact (Option.some.inj px).symm
    subst ex
    refine ⟨_, rfl, wpAny_letOwnedTupleGo_enum (s := { s with heap := h', toks := tk + 1 }) ho fun h'' he' sb => ?_⟩
    have hT2 : h''.get? s.heap.objs.size = some { cls := .type "tuple", data := .seq #[.int (n + (i : Nat)) tk, x'] } := (sb.2 _ (Nat.ne_of_gt le)).trans hT
    have new : ObjOk X.prog X.w (upd H s.heap.objs.size (.tup [.int (n + (i : Nat)), x])) h'' s.heap.objs.size (.tup [.int (n + (i : Nat)), x]) :=
      ⟨by show 2 ≤ sizeLine; decide, [.int (n + (i : Nat)) tk, x'], .cons ⟨_, rfl⟩ (.cons ru .nil), ⟨_, hT2, rfl, _, rfl⟩⟩
    have mem : ∀ b, b ∉ [e, it] → b ≠ e ∧ b ≠ it := fun b hb => ⟨fun z => hb (by rw [z]; exact List.mem_cons_self), fun z => hb (by rw [z]; exact List.mem_cons_of_mem _ List.mem_cons_self)⟩
    have I1 : Inv X pins σ (upd H s.heap.objs.size (.tup [.int (n + (i : Nat)), x])) { s with heap := h'', toks := tk + 1 } :=
      I.turnedNew (ch := [e, it]) (fun b ob hb q => (sb.2 b (mem b hb).1).trans (hk b ob (mem b hb).1 (mem b hb).2 q)) hf (Nat.le_refl _) new
    refine ⟨.ref s.heap.objs.size, _, I1, rfl, ⟨_, x, rfl, I.hok.fresh (Nat.le_refl _), rfl, fun ys hy => by rw [I.list_inj hy hq]; exact hx⟩, ⟨⟨x', ?_⟩, st'.1.at fun o q => (sb.2 it (Ne.symm hne)).trans q, hne⟩, fun b hb => ?_⟩
    · rw [show n + ((i + 1 : Nat) : Int) = n + (i : Int) + 1 by omega]
      exact he'
    · have hb' : b < s.heap.objs.size := by
        rcases List.mem_cons.mp hb with rfl | hb
        · exact le
        · rw [List.mem_singleton.mp hb]; exact li
      rw [upd_ne (Nat.ne_of_lt hb')]
      exact (hf b hb).1
  done := by
    intro X hP hw hK hc i pins s σ H E I hf st hg
    subst hP hw hK
    obtain ⟨⟨old, he⟩, hit, hne⟩ := st
    obtain ⟨xs, hq, hx⟩ := hg
    obtain ⟨its, rv, p, hz⟩ := I.list hq
    obtain ⟨f0, f1, f2, f3, f4, f5⟩ := hf it (List.mem_cons_of_mem _ List.mem_cons_self)
    have hl : its.toArray.size = i := by rw [List.size_toArray, ← rv.length]; exact hx
    subst hl
    exact wpAny_pyNext_enum_endD (Draws.list (A := X.A.in1) (by exact I.ok.hd hc) it a (Ne.symm hia) its.toArray) he ⟨hit, p.isList⟩ fun h' eb => ⟨rfl, I.turned (t' := s.toks) (fun b o hb q => eb b o hb q) f0 f1 f3 f4 f5⟩
  self := fun A i s Q E ⟨⟨_, he⟩, _⟩ h => wpAny_pyIter_enum he h
theorem call_ty_kw {M : Model} {A : Around} {E : Value → Shared → Prop} {s : Shared} {pos : Pos} {T : String} {first : List Value} {args : List (Bool × Sem Value)} {kws : List (Option Str × Sem Value)} {Q : Value → Shared → Prop} (hpl : (args.any (·.1) || kws.any (·.1.isNone)) = false)
    (h : wpAny M A (evalArgs (.type T) true args kws) (fun a s1 => wpAny M A (call (.type T) (first ++ a.pos) a.kw) Q E s1) E s) : wpAny M A (callWith pos (.type T) first args kws) Q E s :=
  PySem.W.callWith_of (P := fun _ => True) hpl (fun _ _ => ⟨.machine, .inr (.inl rfl), .of_pure rfl⟩) (thn h fun _ _ q => ⟨trivial, q⟩)
/-- the numbered items of a list -/
def numbered (n : Int) : List D → List D
  | [] => []
  | x :: xs => .tup [.int n, x] :: numbered (n + 1) xs
theorem numbered_at : ∀ {xs : List D} {n : Int} {i : Nat} {x : D}, xs[i]? = some x → (numbered n xs)[i]? = some (.tup [.int (n + (i : Nat)), x])
  | [], _, _, _, h => by simp at h
  | y :: ys, n, 0, x, h => by
    have e : y = x := by simpa using h
    subst e
    simp [numbered]
  | y :: ys, n, i + 1, x, h => by
    have q := numbered_at (n := n + 1) (i := i) (show ys[i]? = some x by simpa using h)
    unfold numbered
    rw [List.getElem?_cons_succ, q, show n + 1 + ((i : Nat) : Int) = n + ((i + 1 : Nat) : Int) by omega]
theorem numbered_len : ∀ (xs : List D) (n : Int), (numbered n xs).length = xs.length
  | [], _ => rfl
  | _ :: xs, n => congrArg Nat.succ (numbered_len xs (n + 1))
def iEnumD (n : Int) (a : DE) : DIt := fun ρ st => (a ρ st).bind fun d s1 => match d with
  | .lst xs => .ok (numbered n xs) s1
  | .ro xs => .ok (numbered n xs) s1
  | _ => .bad
section
variable {C : Ctx} {tg e : Expr} {ma : DE} {pos p tpos cp kp : Pos} {elts : List Expr} {kk j : Nat} {n : Int}
theorem src_from {T : Txt} {xp : XT} {G : Hp} {ι : Io} {K : PySem.W.Frag} {a : Addr} {xs : List V} {dx : List D} (hx : SqL K G a xs) (rx : RepL T xp G ι xs dx) : SrcN T xp G ι (ItC K n a) (numbered n dx) := by
  have hn : (numbered n dx).length = xs.length := (numbered_len dx n).trans rx.length.symm
  refine ⟨fun H => SqL K H a xs, ⟨fun i H hi q => ?_, fun H q => ⟨xs, q, hn.symm⟩, fun i H x H' hi q y => ?_⟩, fun H' e => le_l e hx⟩
  · have lt : i < xs.length := by rw [← hn]; exact hi
    exact ⟨xs, xs[i], q, by simp [lt]⟩
  · obtain ⟨t, z, e1, e2, e3, e4⟩ := y
    obtain ⟨dz, f1, f2⟩ := rx.getV (e4 xs q)
    exact ⟨t, _, z, _, dz, e1, e2, e3, numbered_at f1, .int _, f2⟩
theorem seq_of {T : Txt} {xp : XT} {ι : Io} {st : Store} {H : Hp} {v : V} {d : D} {xs : List D} (rv : Rep T xp (hide ι st H) ι v d) (hd : d = .lst xs ∨ d = .ro xs) : ∃ a ys, v = .ref a ∧ SqL T.K (hide ι st H) a ys ∧ RepL T xp (hide ι st H) ι ys xs := by
  rcases hd with rfl | rfl
  · cases rv with
    | lst h1 r1 => exact ⟨_, _, rfl, SqL.of h1, r1⟩
  · cases rv with
    | ro h1 r1 => exact ⟨_, _, rfl, h1, r1⟩
/-- what an enumeration of a list comes to -/
theorem enum_seq {pins : List (Addr × Obj)} {s : Shared} {σ : L2.St} {H : Hp} {R : It → Hp → Prop} {a : Addr} {ys : List V} {t : Tok} (I : Inv C.X pins σ H s) (hq : SqL C.X.K H a ys) (h0 : -(2 ^ 63) ≤ n) (h1 : n < 2 ^ 63) (q : R (ItC C.X.K n a) H) :
    (wpAny (model C.X.prog C.X.w) C.X.A (call (.type "enumerate") [.ref a, .int n t] []) (fun v s1 => wpAny (model C.X.prog C.X.w) C.X.A (pyIter v) (PIE C.X pins σ (.Tuple elts kk tpos) R) C.X.xe s1) C.X.xe s) ∧
    wpAny (model C.X.prog C.X.w) C.X.A (call (.type "enumerate") [.ref a] [(Str.ofString "start", .int n t)]) (fun v s1 => wpAny (model C.X.prog C.X.w) C.X.A (pyIter v) (PIE C.X pins σ (.Tuple elts kk tpos) R) C.X.xe s1) C.X.xe s := by
  obtain ⟨its, rv, p', hz⟩ := I.list hq
  have al : a < s.heap.objs.size := by obtain ⟨o, ho, _⟩ := p'.isList; exact Heap.lt_size ho
  have key : ∀ h', IsEnum h' (s.heap.objs.size + 1) s.heap.objs.size n .none → h'.get? s.heap.objs.size = some { cls := .type "list_iterator", data := .fields #[.ref a, .int 0 0] } → h'.objs.size = s.heap.objs.size + 2 →
      (∀ b o, s.heap.get? b = some o → h'.get? b = some o) → wpAny (model C.X.prog C.X.w) C.X.A (pyIter (.ref (s.heap.objs.size + 1))) (PIE C.X pins σ (.Tuple elts kk tpos) R) C.X.xe { s with heap := h' } := by
    intro h' he hi hsz hk
    refine wpAny_pyIter_enum he ?_
    have I2 : Inv C.X pins σ H { s with heap := h' } := I.kept (t' := s.toks) hk
    refine ⟨s.heap.objs.size + 1, [s.heap.objs.size + 1, s.heap.objs.size], _, _, H, rfl, I2, turn_from (n := n) (a := a) (Nat.ne_of_gt (Nat.lt_succ_of_lt al)) (Nat.ne_of_gt al), ⟨⟨.none, by simpa using he⟩, ⟨_, hi, rfl, rfl⟩, Nat.succ_ne_self _⟩, fun b hb => ?_, q⟩
    have hle : s.heap.objs.size ≤ b := by
      rcases List.mem_cons.mp hb with rfl | hb
      · exact Nat.le_succ _
      · rw [List.mem_singleton.mp hb]; exact Nat.le_refl _
    exact I.fpOk hle (I.hok.fresh hle)
  exact ⟨enum_begins (begins_list a its.toArray) p'.isList h0 h1 key, enum_begins_start (begins_list a its.toArray) p'.isList h0 h1 key⟩
theorem pdi_enumFrom (hg : Gl C.X "enumerate") (hm : C.X.mg "enumerate" = none) (h0 : -(2 ^ 63) ≤ n) (h1 : n < 2 ^ 63) (ha : PD C e ma) (hs : starEach [e] C.X.env = (false, eval e C.X.env) :: starEach [] C.X.env := by rfl)
    (hall : (backToKw pos (keywordEach [⟨some "start", .Constant (.int n) j cp, kp⟩] C.X.env)).all (·.1.isSome) = true := by rfl) (hks : (backToKw pos (keywordEach [⟨some "start", .Constant (.int n) j cp, kp⟩] C.X.env)).filterMap (·.1) = [("start" : Str)] := by rfl)
    (hpl : ((backTo pos (starEach [e] C.X.env)).any (·.1) || (backToKw pos (keywordEach [⟨some "start", .Constant (.int n) j cp, kp⟩] C.X.env)).any (·.1.isNone)) = false := by rfl) :
    PDIN C (.Tuple elts kk tpos) (.Call (.Name "enumerate" p) [e] [⟨some "start", .Constant (.int n) j cp, kp⟩] pos) (iEnumD n ma) := by
  refine ⟨fun pins s σ H R I ⟨ρ, st, ι, er, rl, h⟩ => ?_⟩
  have pa : PDA C [e] (dCons ma dNil) := pda_cons ha pda_nil hs
  refine wpAny_Call_Name_kw (ld_blt I hg hm boot_enumerate ?_)
  refine call_ty_kw hpl (PyProof.Rows.evalArgs_kw2 hall (thn (pa.run pos pins s σ H (fun vs H1 => ∃ a ys, vs = [.ref a] ∧ SqL C.X.K H1 a ys ∧ R (ItC C.X.K n a) H1) I ⟨ρ, st, ι, er, rl, ?_⟩) fun us s1 ⟨vs, H1, I1, r, a, ys, ev, hq, q⟩ => ?_) hs)
  · unfold dCons dNil
    have h' := h
    unfold iEnumD at h'
    cases hm : ma ρ st with
    | bad => rw [hm] at h'; exact h'.elim
    | exc c xs s1 => rw [hm] at h'; exact h'
    | ok d s1 =>
      rw [hm] at h'
      simp only [bind_ok] at h' ⊢
      intro vs ι1 H1 st1 rl1 rv
      obtain ⟨v, rfl, r1⟩ := repL_one rv
      split at h'
      · rename_i xs
        obtain ⟨a, ys, rfl, hs, rs⟩ := seq_of r1 (.inl rfl)
        exact ⟨a, ys, rfl, by rw [C.hK]; exact le_l (hide_le _ _ _) hs, h' _ ι1 H1 st1 rl1 (by rw [C.hK]; exact src_from hs rs)⟩
      · rename_i xs
        obtain ⟨a, ys, rfl, hs, rs⟩ := seq_of r1 (.inr rfl)
        exact ⟨a, ys, rfl, by rw [C.hK]; exact le_l (hide_le _ _ _) hs, h' _ ι1 H1 st1 rl1 (by rw [C.hK]; exact src_from hs rs)⟩
      · exact h'.elim
  · subst ev
    obtain ⟨u, rfl, ru⟩ := r.one
    cases ru
    have z := (pe_int (X := C.X) (i := n) (j := j) (pos := cp)).run pins s1 σ H1 (fun v H2 => v = .int n ∧ H2 = H1) I1 ⟨rfl, rfl⟩
    have z2 : wpAny (model C.X.prog C.X.w) C.X.A (evalAll ((backToKw pos (keywordEach [⟨some "start", .Constant (.int n) j cp, kp⟩] C.X.env)).map (·.2))) (fun ks s3 => ∃ t, ks = [.int n t] ∧ L2.Inv C.X pins σ H1 s3 ∧ R (ItC C.X.K n a) H1) C.X.xe s1 := by
      refine PyProof.Rows.kwAll_cons (thn z fun v s2 hv => PyProof.Rows.kwAll_nil ?_)
      obtain ⟨v', H2, I2, rv, e1, e2⟩ := hv
      subst e1 e2
      obtain ⟨t, rfl⟩ := rv
      exact ⟨t, rfl, I2, q⟩
    refine thn z2 fun ws s2 hw => ?_
    obtain ⟨t, rfl, I2, q'⟩ := hw
    rw [hks]
    exact (enum_seq I2 hq h0 h1 q').2
theorem pdi_enum (hg : Gl C.X "enumerate") (hm : C.X.mg "enumerate" = none) (ha : PD C e ma) (hs : starEach [e] C.X.env = [(false, eval e C.X.env)] := by rfl) :
    PDIN C (.Tuple elts kk tpos) (.Call (.Name "enumerate" p) [e] [] pos) (iEnumD 0 ma) := by
  have pa : PDA C [e] (dCons ma dNil) := pda_cons ha pda_nil (hs.trans rfl)
  refine PI.imp (pi_enum hg hm pa hs) fun σ H R ⟨ρ, st, ι, er, rl, h'⟩ => ⟨ρ, st, ι, er, rl, ?_⟩
  unfold dCons dNil
  unfold iEnumD at h'
  cases hm : ma ρ st with
  | bad => rw [hm] at h'; exact h'.elim
  | exc c xs s1 => rw [hm] at h'; exact h'
  | ok d s1 =>
    rw [hm] at h'
    simp only [bind_ok] at h' ⊢
    intro vs ι1 H1 st1 rl1 rv
    obtain ⟨v, rfl, r1⟩ := repL_one rv
    have key : ∀ (a : Addr) (ys : List V) (xs : List D), SqL C.T.K (hide ι1 s1 H1) a ys → RepL C.T C.xp (hide ι1 s1 H1) ι1 ys xs → SrcN C.T C.xp (hide ι1 s1 H1) ι1 (Ite C.T.K a) (numbered 0 xs) := fun a ys xs hx rx => by
      refine ⟨fun H => SqL C.T.K H a ys, ?_, fun H' e => le_l e hx⟩
      have hn : (numbered 0 xs).length = ys.length := (numbered_len xs 0).trans rx.length.symm
      rw [hn]
      refine walk_enum.mono (fun _ q => q) fun i H x H' hi _ y => ?_
      obtain ⟨t, v, w, e1, e2, e3, e4, e5⟩ := y
      cases e4
      obtain ⟨dw, f3, f4⟩ := rx.getV e5
      refine ⟨t, _, w, .int (i : Nat), dw, e1, e2, e3, ?_, .int _, f4⟩
      rw [numbered_at f3]
      simp
    split at h'
    · rename_i xs
      obtain ⟨a, ys, rfl, hs, rs⟩ := seq_of r1 (.inl rfl)
      exact ⟨a, ys, rfl, by rw [C.hK]; exact le_l (hide_le _ _ _) hs, h' _ ι1 H1 st1 rl1 (by rw [C.hK]; exact key _ _ _ hs rs)⟩
    · rename_i xs
      obtain ⟨a, ys, rfl, hs, rs⟩ := seq_of r1 (.inr rfl)
      exact ⟨a, ys, rfl, by rw [C.hK]; exact le_l (hide_le _ _ _) hs, h' _ ι1 H1 st1 rl1 (by rw [C.hK]; exact key _ _ _ hs rs)⟩
    · exact h'.elim
end
end Den

set_option maxRecDepth 100000
set_option maxHeartbeats 4000000
/-! Den: a, *b = a list. -/
namespace Den
open PySem PySem.Spec PyProof.Rows L2
theorem star_parts {prog : Program} {w : World} {A : Around} {E : Value → Shared → Prop} {s : Shared} {l : Addr} {y : Value} {ys : List Value} {Q : List Value → Shared → Prop} (hl : s.heap.IsList l (y :: ys).toArray) (hh : A.handled = none) (hz : ys.length ≤ 16000)
    (q : ∀ D h' tk, s.heap.get? D = none → (∀ b o, s.heap.get? b = some o → h'.get? b = some o) → h'.get? D = some { cls := .type "list", data := .seq ys.toArray } → Q [y, .ref D] { s with heap := h', toks := tk }) :
    wpAny (model prog w) A (unpackItems (.ref l) 2 (some 1)) Q E s := by
  have hlt : l < s.heap.objs.size := by obtain ⟨o, e, _⟩ := hl; exact Heap.lt_size e
  have ne : l ≠ s.heap.objs.size := Nat.ne_of_lt hlt
  unfold unpackItems notIterableAtAll
  refine wpAny_bind (wpAny_bind (wpAny_specialOf hl.typeIs PySem.F.slot_list_iter.lookup (wpAny_pure ?_)))
  rw [if_neg Bool.false_ne_true]
  refine wpAny_bind (wpAny_holding (wpAny_pyIter_list hl ?_))
  refine wpAny_bind (wpAny_holding (PySem.W.kun_draw ne 1 0 _ _ ⟨_, Heap.get?_push_size _ rfl, rfl, rfl⟩ (hl.push _) (by simp) fun ha ita sba => ?_))
  have la : ha.IsList l (y :: ys).toArray := (hl.push _).extBut sba.extBut ne
  have za : s.heap.objs.size < ha.objs.size := by obtain ⟨o, e, _⟩ := ita; exact Heap.lt_size e
  have zl : l < ha.objs.size := Nat.lt_trans hlt za
  rw [List.drop_zero]
  rw [if_neg (show ¬ ((List.take 1 (y :: ys).toArray.toList).length < 1) by simp)]
  refine wpAny_bind (wpAny_holding (PySem.W.kun_collect (s := { s with heap := ha }) (T := "list_iterator") (k := 1) (.inr (.inr (.inl rfl))) (Walks.list (A := A.in1) hh s.heap.objs.size l ne (y :: ys).toArray) (fun j u st => st.1.typeIs) (by simp) ⟨ita, la⟩ za zl (fun hb tk kb => ?_) (by rw [sizeLine_eq]; simp; omega)))
  have ed : ((y :: ys).toArray.toList.drop 1) = ys := by simp
  rw [ed]
  show wpAny _ _ (if ys.length < 2 - 1 - 1 then _ else _) _ _ _
  rw [if_neg (show ¬ (ys.length < 2 - 1 - 1) by omega)]
  show wpAny _ _ (newList (ys.take (ys.length - 0)) >>= fun d => pure (([y] ++ [d]) ++ ys.drop (ys.length - 0))) _ _ _
  rw [Nat.sub_zero, List.take_length, List.drop_length]
  have kc : ∀ b o, s.heap.get? b = some o → hb.get? b = some o := fun b o e => kb b o (Nat.ne_of_lt (Heap.lt_size e)) (sba.extBut b o (Nat.ne_of_lt (Heap.lt_size e)) (Heap.get?_push_of_some _ e))
  have zb : s.heap.get? hb.objs.size = none := by
    cases e : s.heap.get? hb.objs.size with
    | none => rfl
    | some o => exact absurd (Heap.lt_size (kc _ _ e)) (Nat.lt_irrefl _)
  refine wpAny_bind (wpAny_newList (s := { s with heap := hb, toks := tk }) (wpAny_pure ?_) (by rw [sizeLine_eq]; omega))
  exact q _ _ _ zb (fun b o e => Heap.get?_push_of_some _ (kc b o e)) (Heap.get?_push_size _ rfl)
/-- a, *b = a list of at least one -/
def gStar (K : PySem.W.Frag) (i j : Nat) : TG := fun v σ H Q => ∃ a x xs, v = .ref a ∧ SqL K H a (x :: xs) ∧ xs.length ≤ 16000 ∧ ∀ p, H p = none → Q ((σ.set i (some x)).set j (some (.ref p))) (upd H p (.lst xs))
theorem pg_star {X : Cx} {i j : Nat} {x y : Str} {px py ps pos : Pos} {k : Nat} (hc : X.calm = true) (hN : X.N.Nodup) (hi : X.N[i]? = some x) (hj : X.N[j]? = some y) (hx : Loc X.env.scope x) (hy : Loc X.env.scope y)
    (fx : X.fn x = true ∨ X.env.scope.names.lookup x = some .local := by first | exact .inl rfl | exact .inr rfl | assumption) (fy : X.fn y = true ∨ X.env.scope.names.lookup y = some .local := by first | exact .inl rfl | exact .inr rfl | assumption) :
    PG X (.Tuple [.Name x px, .Starred (.Name y py) ps] k pos) (gStar X.K i j) := by
  refine ⟨fun pins s σ H v u Q I r ⟨a, z, zs, e1, hq, few, h⟩ => ?_⟩
  subst e1
  cases r
  obtain ⟨its, rv, p, hz⟩ := I.list hq
  cases rv with
  | @cons _ uz _ us rz rzs =>
    have lz : us.length ≤ 16000 := by rw [← rzs.length]; exact few
    rw [show assign (.Tuple [.Name x px, .Starred (.Name y py) ps] k pos) X.env (.ref a) = (do standAt pos; unpack (.ref a) (assignEach [.Name x px, .Starred (.Name y py) ps] X.env)) from rfl]
    refine wpAny_bind (wpAny_standAt ?_)
    show wpAny _ _ (do assignInOrder [assign (.Name x px) X.env, assign (.Name y py) X.env] (← holding [.ref a] (unpackItems (.ref a) 2 (some 1)))) _ _ _
    refine wpAny_bind (wpAny_holding (star_parts p.isList (I.ok.hd hc) lz fun D h' tk hD k1 hg => ?_))
    have hn : H D = none := I.hok.gone hD
    have I2 : Inv X pins σ (upd H D (.lst zs)) { s with heap := h', toks := tk } := I.laidN k1 hD hn ⟨by rw [rzs.length, sizeLine_eq]; omega, us, 0, rzs, hg⟩
    have run := (pgs_cons (X := X) (pg_name (pos := px) hN hi hx fx) (pgs_cons (pg_name (pos := py) hN hj hy fy) pgs_nil)).run pins _ σ _ [z, .ref D] [uz, .ref D] Q I2 (.cons rz (.cons rfl .nil)) ⟨_, _, rfl, _, _, rfl, rfl, h D hn⟩
    exact run
def gS (i j : Nat) : GD := fun d ρ => match d with
  | .lst (x :: xs) => if xs.length ≤ 16000 then some ((ρ.set i (some x)).set j (some (.lst xs))) else none
  | _ => none
def sStar (i j : Nat) (a : DE) : DS := fun ρ st => (a ρ st).into ρ fun d s1 => match gS i j d ρ with
  | some ρ' => .nx ρ' s1
  | none => .bad
theorem pds_star {C : Ctx} {e : Expr} {me : DE} {i j : Nat} {x y : Str} {px py ps tpos pos : Pos} {k : Nat} (hc : C.X.calm = true) (hN : C.X.N.Nodup) (hi : C.X.N[i]? = some x) (hj : C.X.N[j]? = some y) (hx : Loc C.X.env.scope x) (hy : Loc C.X.env.scope y) (he : PD C e me)
    (fx : C.X.fn x = true ∨ C.X.env.scope.names.lookup x = some .local := by first | exact .inl rfl | exact .inr rfl | assumption) (fy : C.X.fn y = true ∨ C.X.env.scope.names.lookup y = some .local := by first | exact .inl rfl | exact .inr rfl | assumption)
    (hs : swapsWithSole [.Tuple [.Name x px, .Starred (.Name y py) ps] k tpos] e pos.line C.X.env = pure false := by rfl) (hw : swappedStores [.Tuple [.Name x px, .Starred (.Name y py) ps] k tpos] e C.X.env = pure none := by rfl)
    (h1 : (assignEach [.Tuple [.Name x px, .Starred (.Name y py) ps] k tpos] C.X.env).map (·.2) = [assign (.Tuple [.Name x px, .Starred (.Name y py) ps] k tpos) C.X.env] := by rfl) :
    PDS C (.Assign [.Tuple [.Name x px, .Starred (.Name y py) ps] k tpos] e pos) (sStar i j me) :=
  PS.imp (ps_asg he (pg_star hc hN hi hj hx hy fx fy) hs hw h1) fun D σ H ⟨ρ, st, ι, er, rl, p⟩ => by
    refine ⟨ρ, st, ι, er, rl, post_into p er fun d s1 v ι1 H1 st1 rl1 er1 rv p1 => ?_⟩
    split at p1
    · rename_i ρ' hr
      unfold gS at hr
      split at hr
      · rename_i z zs
        split at hr
        · rename_i few
          cases hr
          obtain ⟨a, ys, rfl, hq, rs⟩ := seq_of rv (.inl rfl)
          cases rs with
          | cons r1 r2 =>
            refine ⟨a, _, _, rfl, by rw [C.hK]; exact le_l (hide_le _ _ _) hq, by rw [r2.length]; exact few, fun q hq2 => ?_⟩
            rename_i vz vzs
            obtain ⟨ra, sa, ea⟩ := rl1.new (o := .lst vzs) hq2
            exact p1 _ ι1 _ sa ra (((er1.step sa).set i (r1.mono sa.ex sa.pre)).set j (.lst ea (r2.mono sa.ex sa.pre)))
        · cases hr
      · cases hr
    · exact p1.elim
end Den

set_option maxRecDepth 100000
set_option maxHeartbeats 4000000
/-! Den: == and != of lists of own instances, where == runs a def. -/
namespace PySem
open StrLaws SeqAt MeetsSeq MeetsSeq2 MeetsSeq3 SeqRoads2
section
variable {prog : Program} {w : World} {A : Around} {R : Result → Shared → Prop}
/-- two lists read anew at each turn: N things each; the i-th two are compared, and e i comes out -/
def Twos (prog : Program) (w : World) (A : Around) (E : Value → Shared → Prop) (l b : Addr) (N : Nat) (e : Nat → Bool) (I : Shared → Prop) : Prop :=
  ∀ s, I s → ∃ (xs ys : Array Value) (n m : Nat) (dx dy : Option Addr) (sx sy : Array (Option Value)), s.heap.get? l = some { cls := .type "list", dict := dx, data := .seq xs n, slots := sx } ∧ s.heap.get? b = some { cls := .type "list", dict := dy, data := .seq ys m, slots := sy } ∧ xs.size = N ∧ ys.size = N ∧
    ∀ (i : Nat) (h : i < xs.size) (g : i < ys.size), wpAny (model prog w) A.in1 (eqBool xs[i] ys[i]) (fun r s' => r = e i ∧ I s') E s
/-- do the first ones all come out? -/
def allE (e : Nat → Bool) : Nat → Bool
  | 0 => true
  | i + 1 => allE e i && e i
theorem allE_true {e : Nat → Bool} : ∀ {n : Nat}, (∀ i, i < n → e i = true) → allE e n = true
  | 0, _ => rfl
  | n + 1, h => by
    unfold allE
    rw [allE_true (n := n) fun i hi => h i (by omega), h n (by omega)]
    rfl
theorem allE_false {e : Nat → Bool} {i : Nat} (hi : e i = false) : ∀ {n : Nat}, i < n → allE e n = false
  | 0, h => absurd h (Nat.not_lt_zero i)
  | n + 1, h => by
    unfold allE
    rcases Nat.lt_succ_iff_lt_or_eq.mp h with h | rfl
    · rw [allE_false hi h]; rfl
    · rw [hi, Bool.and_false]
theorem two_eq_loop {l b : Addr} {N : Nat} {e : Nat → Bool} {I : Shared → Prop} (q : Twos prog w A (fun v s' => R (.error v) s') l b N e I)
    (yes : ∀ s, allE e N = true → I s → R (.ok (.ret (.bool true))) s) (no : ∀ s, allE e N = false → I s → R (.ok (.ret (.bool false))) s) : ∀ (k i : Nat), N - i = k → i ≤ N → (∀ j, j < i → e j = true) → ∀ s, I s →
      wpAny (model prog w) A.in1 (Builtin.«list.__eq__.loop» ⟨[.ref l, .ref b, rawInt i, rawInt 2], []⟩) (GQ.FinOf prog w A R) (fun v s' => R (.error v) s') s := by
  intro k
  induction k with
  | zero =>
    intro i hk hi fr s h
    have ei : i = N := by omega
    subst ei
    have fin := yes s (allE_true fr) h
    obtain ⟨xs, ys, n, m, dx, dy, sx, sy, hX, hY, sX, sY, ask⟩ := q _ h
    obtain ⟨hp, g, d, tk, os⟩ := s
    wp_walk using AutoSeq1.wpAny_loadPart' hX, AutoSeq1.wpAny_loadPart' hY
    rw [show xs[((i : Nat) : Int).toNat]? = none by simp; omega, show ys[((i : Nat) : Int).toNat]? = none by simp; omega]
    wp_walk using AutoSeq1.wpAny_loadPart' hX, AutoSeq1.wpAny_loadPart' hY
    show R (.ok (.ret (.bool (xs.size == ys.size)))) _
    rw [sX, sY]
    simpa using fin
  | succ k ih =>
    intro i hk hi fr s h
    have lt : i < N := by omega
    obtain ⟨xs, ys, n, m, dx, dy, sx, sy, hX, hY, sX, sY, ask⟩ := q _ h
    have lx : i < xs.size := by omega
    have ly : i < ys.size := by omega
    have turn := ask i lx ly
    obtain ⟨hp, g, d, tk, os⟩ := s
    wp_walk using AutoSeq1.wpAny_loadPart' hX, AutoSeq1.wpAny_loadPart' hY
    rw [show xs[((i : Nat) : Int).toNat]? = some xs[i] by simp [lx], show ys[((i : Nat) : Int).toNat]? = some ys[i] by simp [ly]]
    refine wpAny_bind (m := eqBool _ _) (wpAny_mono turn (fun r s2 z => ?_) fun _ _ v => v)
    obtain ⟨er, h2⟩ := z
    subst er
    cases hb : e i with
    | true =>
      have more := ih (i + 1) (by omega) (by omega) (fun j hj => by
        rcases Nat.lt_succ_iff_lt_or_eq.mp hj with hj | rfl
        · exact fr j hj
        · exact hb) s2 h2
      obtain ⟨hp2, g2, d2, tk2, os2⟩ := s2
      wp_walk
      rw [show ((i : Int) + 1) = ((i + 1 : Nat) : Int) by omega]
      refine ⟨plainId_quiet plain_eq_loop _, codeAny_builtin entry_eq_loop ?_⟩; rw [Around.under_plainId plain_eq_loop _]
      exact more
    | false =>
      have fin := no s2 (allE_false hb lt) h2
      obtain ⟨xs2, ys2, n2, m2, dx2, dy2, sx2, sy2, hX2, hY2, sX2, sY2, _⟩ := q _ h2
      obtain ⟨hp2, g2, d2, tk2, os2⟩ := s2
      wp_walk using AutoSeq1.wpAny_loadPart' hX2, AutoSeq1.wpAny_loadPart' hY2
      rw [show xs2[((i : Nat) : Int).toNat]? = some xs2[i] by simp [show i < xs2.size by omega], show ys2[((i : Nat) : Int).toNat]? = some ys2[i] by simp [show i < ys2.size by omega]]
      wp_walk
      exact fin
theorem two_eq {l b : Addr} {N : Nat} {e : Nat → Bool} {I : Shared → Prop} (q : Twos prog w A (fun v s' => R (.error v) s') l b N e I) {s : Shared} (h : I s)
    (yes : ∀ s, allE e N = true → I s → R (.ok (.ret (.bool true))) s) (no : ∀ s, allE e N = false → I s → R (.ok (.ret (.bool false))) s) :
    wpAny (model prog w) A.in1 (Builtin.«list.__eq__» ⟨[.ref l, .ref b], []⟩) (GQ.FinOf prog w A R) (fun v s' => R (.error v) s') s := by
  have go := two_eq_loop q yes no _ 0 rfl (Nat.zero_le _) (fun j hj => absurd hj (Nat.not_lt_zero j)) s h
  obtain ⟨xs, ys, n, m, dx, dy, sx, sy, hX, hY, sX, sY, ask⟩ := q _ h
  obtain ⟨hp, g, d, tk, os⟩ := s
  have lists := AutoSeq1.sub_list_list
  have alike : ¬ (xs.size != ys.size) = true := by simp [sX, sY]
  wp_walk using AutoSeq1.wpAny_loadPart' hX, AutoSeq1.wpAny_loadPart' hY
  refine ⟨plainId_quiet plain_eq_loop _, codeAny_builtin entry_eq_loop ?_⟩; rw [Around.under_plainId plain_eq_loop _]
  exact go
theorem far_eq {l b : Addr} {xs ys : Array Value} {n m : Nat} {dx dy : Option Addr} {sx sy : Array (Option Value)} {s : Shared} (hX : s.heap.get? l = some { cls := .type "list", dict := dx, data := .seq xs n, slots := sx }) (hY : s.heap.get? b = some { cls := .type "list", dict := dy, data := .seq ys m, slots := sy })
    (un : (xs.size != ys.size) = true) (fin : R (.ok (.ret (.bool false))) s) : wpAny (model prog w) A.in1 (Builtin.«list.__eq__» ⟨[.ref l, .ref b], []⟩) (GQ.FinOf prog w A R) (fun v s' => R (.error v) s') s := by
  obtain ⟨hp, g, d, tk, os⟩ := s
  have lists := AutoSeq1.sub_list_list
  wp_walk using AutoSeq1.wpAny_loadPart' hX, AutoSeq1.wpAny_loadPart' hY
  exact fin
theorem two_ne_loop {l b : Addr} {N : Nat} {e : Nat → Bool} {I : Shared → Prop} (q : Twos prog w A (fun v s' => R (.error v) s') l b N e I)
    (yes : ∀ s, allE e N = true → I s → R (.ok (.ret (.bool false))) s) (no : ∀ s, allE e N = false → I s → R (.ok (.ret (.bool true))) s) : ∀ (k i : Nat), N - i = k → i ≤ N → (∀ j, j < i → e j = true) → ∀ s, I s →
      wpAny (model prog w) A.in1 (Builtin.«list.__eq__.loop» ⟨[.ref l, .ref b, rawInt i, rawInt 3], []⟩) (GQ.FinOf prog w A R) (fun v s' => R (.error v) s') s := by
  intro k
  induction k with
  | zero =>
    intro i hk hi fr s h
    have ei : i = N := by omega
    subst ei
    have fin := yes s (allE_true fr) h
    obtain ⟨xs, ys, n, m, dx, dy, sx, sy, hX, hY, sX, sY, ask⟩ := q _ h
    obtain ⟨hp, g, d, tk, os⟩ := s
    wp_walk using AutoSeq1.wpAny_loadPart' hX, AutoSeq1.wpAny_loadPart' hY
    rw [show xs[((i : Nat) : Int).toNat]? = none by simp; omega, show ys[((i : Nat) : Int).toNat]? = none by simp; omega]
    wp_walk using AutoSeq1.wpAny_loadPart' hX, AutoSeq1.wpAny_loadPart' hY
    show R (.ok (.ret (.bool (xs.size != ys.size)))) _
    rw [sX, sY]
    simpa using fin
  | succ k ih =>
    intro i hk hi fr s h
    have lt : i < N := by omega
    obtain ⟨xs, ys, n, m, dx, dy, sx, sy, hX, hY, sX, sY, ask⟩ := q _ h
    have lx : i < xs.size := by omega
    have ly : i < ys.size := by omega
    have turn := ask i lx ly
    obtain ⟨hp, g, d, tk, os⟩ := s
    wp_walk using AutoSeq1.wpAny_loadPart' hX, AutoSeq1.wpAny_loadPart' hY
    rw [show xs[((i : Nat) : Int).toNat]? = some xs[i] by simp [lx], show ys[((i : Nat) : Int).toNat]? = some ys[i] by simp [ly]]
    refine wpAny_bind (m := eqBool _ _) (wpAny_mono turn (fun r s2 z => ?_) fun _ _ v => v)
    obtain ⟨er, h2⟩ := z
    subst er
    cases hb : e i with
    | true =>
      have more := ih (i + 1) (by omega) (by omega) (fun j hj => by
        rcases Nat.lt_succ_iff_lt_or_eq.mp hj with hj | rfl
        · exact fr j hj
        · exact hb) s2 h2
      obtain ⟨hp2, g2, d2, tk2, os2⟩ := s2
      wp_walk
      rw [show ((i : Int) + 1) = ((i + 1 : Nat) : Int) by omega]
      refine ⟨plainId_quiet plain_eq_loop _, codeAny_builtin entry_eq_loop ?_⟩; rw [Around.under_plainId plain_eq_loop _]
      exact more
    | false =>
      have fin := no s2 (allE_false hb lt) h2
      obtain ⟨xs2, ys2, n2, m2, dx2, dy2, sx2, sy2, hX2, hY2, sX2, sY2, _⟩ := q _ h2
      obtain ⟨hp2, g2, d2, tk2, os2⟩ := s2
      wp_walk using AutoSeq1.wpAny_loadPart' hX2, AutoSeq1.wpAny_loadPart' hY2
      rw [show xs2[((i : Nat) : Int).toNat]? = some xs2[i] by simp [show i < xs2.size by omega], show ys2[((i : Nat) : Int).toNat]? = some ys2[i] by simp [show i < ys2.size by omega]]
      wp_walk
      exact fin
theorem two_ne {l b : Addr} {N : Nat} {e : Nat → Bool} {I : Shared → Prop} (q : Twos prog w A (fun v s' => R (.error v) s') l b N e I) {s : Shared} (h : I s)
    (yes : ∀ s, allE e N = true → I s → R (.ok (.ret (.bool false))) s) (no : ∀ s, allE e N = false → I s → R (.ok (.ret (.bool true))) s) :
    wpAny (model prog w) A.in1 (Builtin.«list.__ne__» ⟨[.ref l, .ref b], []⟩) (GQ.FinOf prog w A R) (fun v s' => R (.error v) s') s := by
  have go := two_ne_loop q yes no _ 0 rfl (Nat.zero_le _) (fun j hj => absurd hj (Nat.not_lt_zero j)) s h
  obtain ⟨xs, ys, n, m, dx, dy, sx, sy, hX, hY, sX, sY, ask⟩ := q _ h
  obtain ⟨hp, g, d, tk, os⟩ := s
  have lists := AutoSeq1.sub_list_list
  have alike : ¬ (xs.size != ys.size) = true := by simp [sX, sY]
  wp_walk using AutoSeq1.wpAny_loadPart' hX, AutoSeq1.wpAny_loadPart' hY
  refine ⟨plainId_quiet plain_eq_loop _, codeAny_builtin entry_eq_loop ?_⟩; rw [Around.under_plainId plain_eq_loop _]
  exact go
theorem far_ne {l b : Addr} {xs ys : Array Value} {n m : Nat} {dx dy : Option Addr} {sx sy : Array (Option Value)} {s : Shared} (hX : s.heap.get? l = some { cls := .type "list", dict := dx, data := .seq xs n, slots := sx }) (hY : s.heap.get? b = some { cls := .type "list", dict := dy, data := .seq ys m, slots := sy })
    (un : (xs.size != ys.size) = true) (fin : R (.ok (.ret (.bool true))) s) : wpAny (model prog w) A.in1 (Builtin.«list.__ne__» ⟨[.ref l, .ref b], []⟩) (GQ.FinOf prog w A R) (fun v s' => R (.error v) s') s := by
  obtain ⟨hp, g, d, tk, os⟩ := s
  have lists := AutoSeq1.sub_list_list
  wp_walk using AutoSeq1.wpAny_loadPart' hX, AutoSeq1.wpAny_loadPart' hY
  exact fin
end
end PySem

set_option maxRecDepth 100000
set_option maxHeartbeats 4000000
/-! Den: == and != of lists of own instances, as rules. -/
namespace Den
open PySem PySem.Spec PyProof.Rows L2
section
variable {C : Ctx} {c k : Nat} {fa : Addr} {okF : List D → Bool} {f : List D → List D → Bool} {m : DF}
def pairE (f : List D → List D → Bool) (xs ys : List D) (i : Nat) : Bool := match xs[i]?, ys[i]? with
  | some x, some y => f (fieldsI x) (fieldsI y)
  | _, _ => false
def likeD (f : List D → List D → Bool) (xs ys : List D) : Bool := xs.length == ys.length && allE (pairE f xs ys) xs.length
def gEqL (c : Nat) (okF : List D → Bool) (f : List D → List D → Bool) (g : Bool → Bool) : F2 := fun x y st => match litemsOf x st, litemsOf y st with
  | some xs, some ys => if xs.all (isOk c okF) = true ∧ ys.all (isOk c okF) = true then some (.bl (g (likeD f xs ys)), st) else none
  | _, _ => none
/-- two lists of own instances -/
structure TwoL (C : Ctx) (c : Nat) (okF : List D → Bool) (ι : Io) (st : Store) (H : Hp) (x y : V) (dx dy : D) (xs ys : List D) : Prop where
  rl : RelSt C.T C.xp ι st H
  rx : Rep C.T C.xp (hide ι st H) ι x dx
  ry : Rep C.T C.xp (hide ι st H) ι y dy
  ex : litemsOf dx st = some xs
  ey : litemsOf dy st = some ys
  hx : xs.all (isOk c okF) = true
  hy : ys.all (isOk c okF) = true
def rEqL (C : Ctx) (c : Nat) (okF : List D → Bool) (f : List D → List D → Bool) (g : Bool → Bool) : R2 := fun x y H Q => ∃ ι st dx dy xs ys, TwoL C c okF ι st H x y dx dy xs ys ∧ ∀ H' ι', Step ι st H ι' st H' → RelSt C.T C.xp ι' st H' → Q (.bl (g (likeD f xs ys))) H'
/-- the list as it lies there -/
theorem told_at {pins : List (Addr × Obj)} {σ : L2.St} {ι ι' : Io} {st : Store} {H H' : Hp} {x : V} {u : Value} {dx : D} {xs : List D} {s' : Shared} (I' : Inv C.X pins σ H' s') (rl' : RelSt C.T C.xp ι' st H') (sp : Step ι st H ι' st H') (rx : Rep C.T C.xp (hide ι st H) ι x dx) (ru : RelV x u) (ex : litemsOf dx st = some xs) :
    ∃ (a : Addr) (its : List Value) (vs : List V) (n : Nat) (dd : Option Addr) (sl : Array (Option Value)), u = .ref a ∧ s'.heap.get? a = some { cls := .type "list", dict := dd, data := .seq its.toArray n, slots := sl } ∧ Vals vs its ∧ RepL C.T C.xp (hide ι' st H') ι' vs xs := by
  obtain ⟨a, vs, rfl, hs, rs⟩ := litems_rep rl' (rx.mono sp.ex sp.pre) ex
  obtain rfl : u = Value.ref a := ru
  obtain ⟨its, r, ⟨⟨cls, dd, data, sl⟩, n, ho, hc, hdn, hd⟩, hl⟩ := I'.list (show SqL C.X.K H' a vs by rw [C.hK]; exact hs)
  simp only at hc hd
  subst hc hd
  exact ⟨a, its, vs, n, dd, sl, rfl, ho, r, rs⟩
theorem item_at {ι : Io} {G : Hp} {vs : List V} {its : List Value} {xs : List D} (r : Vals vs its) (rs : RepL C.T C.xp G ι vs xs) (hx : xs.all (isOk c okF) = true) {i : Nat} (h : i < its.toArray.size) :
    ∃ v zs, RelV v its.toArray[i] ∧ xs[i]? = some (.ins c zs) ∧ okF zs = true ∧ Rep C.T C.xp G ι v (.ins c zs) := by
  have li : i < its.length := by simpa using h
  have lv : i < vs.length := by rw [r.length]; exact li
  have lz : i < xs.length := by rw [← rs.length]; exact lv
  obtain ⟨u, hu, ru⟩ := r.get (List.getElem?_eq_getElem lv)
  have eu : its.toArray[i] = u := by
    rw [List.getElem?_eq_getElem li] at hu
    have := Option.some.inj hu
    simpa using this
  obtain ⟨w, hw, rw'⟩ := rs.get (List.getElem?_eq_getElem lz)
  rw [List.getElem?_eq_getElem lv] at hw
  have ok := List.all_eq_true.mp hx _ (List.getElem_mem lz)
  have g0 : xs[i]? = some xs[i] := List.getElem?_eq_getElem lz
  rw [← Option.some.inj hw] at rw'
  generalize xs[i] = z at rw' ok g0
  cases z <;> first | (cases ok; done) | skip
  rename_i c' zs
  obtain ⟨ec, okx⟩ := (Bool.and_eq_true _ _).mp ok
  obtain rfl : c' = c := eq_of_beq ec
  exact ⟨vs[i], zs, by rw [eu]; exact ru, g0, okx, rw'⟩
theorem TwoL.twos {pins : List (Addr × Obj)} {σ : L2.St} {ι : Io} {st : Store} {H : Hp} {x y : V} {dx dy : D} {xs ys : List D} (w : TwoL C c okF ι st H x y dx dy xs ys) (o : OwnQ C c k fa okF f m) {l b : Addr} (rx : RelV x (.ref l)) (ry : RelV y (.ref b)) (hl : xs.length = ys.length) :
    Twos C.X.prog C.X.w C.X.A C.X.xe l b xs.length (pairE f xs ys) (fun s' => Going C pins σ ι st H s') := fun s' ⟨H', ι', I', rl', sp⟩ => by
  obtain ⟨a, its, vs, n, dd, sl, ea, ho, r, rs⟩ := told_at I' rl' sp w.rx rx w.ex
  obtain ⟨a2, its2, vs2, n2, dd2, sl2, ea2, ho2, r2, rs2⟩ := told_at I' rl' sp w.ry ry w.ey
  injection ea with ea
  injection ea2 with ea2
  subst ea ea2
  refine ⟨its.toArray, its2.toArray, n, n2, dd, dd2, sl, sl2, ho, ho2, by rw [List.size_toArray, ← r.length, rs.length], by rw [List.size_toArray, ← r2.length, rs2.length, hl], fun i h g => ?_⟩
  obtain ⟨v, zs, rv, gx, okx, rpx⟩ := item_at r rs w.hx h
  obtain ⟨v2, zs2, rv2, gy, oky, rpy⟩ := item_at r2 rs2 w.hy g
  have e0 : pairE f xs ys i = f zs zs2 := by
    unfold pairE
    rw [gx, gy]
    rfl
  rw [e0]
  refine wpAny_mono (own_ask o I' rl' rpx rpy rv rv2 okx oky) (fun q s2 e => ?_) fun _ _ e => e
  obtain ⟨eq, H2, ι2, I2, rl2, sp2⟩ := e
  exact ⟨eq, H2, ι2, I2, rl2, sp.trans sp2⟩
theorem op_eqL (o : OwnQ C c k fa okF f m) : OpR C.X (compareOp .Eq) (rEqL C c okF f id) := by
  intro pins s σ H x y v u Q I rx ry h
  obtain ⟨ι, st, dx, dy, xs, ys, w, q⟩ := h
  show wpAny (model C.X.prog C.X.w) C.X.A (richCompare .Eq v u) (EP C.X pins σ Q) C.X.xe s
  have g0 : Going C pins σ ι st H s := ⟨H, ι, I, w.rl, Step.refl _ _ _⟩
  obtain ⟨a, its, vs, n, dd, sl, rfl, ho, r, rs⟩ := told_at I w.rl (Step.refl _ _ _) w.rx rx w.ex
  obtain ⟨b, its2, vs2, n2, dd2, sl2, rfl, ho2, r2, rs2⟩ := told_at I w.rl (Step.refl _ _ _) w.ry ry w.ey
  have fin : ∀ (t : Bool) s', likeD f xs ys = t → Going C pins σ ι st H s' → wants (fun v s' => v ≠ .notImplemented ∧ EP C.X pins σ Q v s') C.X.xe (.ok (.ret (.bool t))) s' := fun t s' et ⟨H', ι', I', rl', sp⟩ => by
    refine ⟨(fun z => nomatch z), .bl t, H', I', rfl, ?_⟩
    have := q H' ι' sp rl'
    rw [et] at this
    exact this
  by_cases hl : xs.length = ys.length
  · refine wpAny_richCompare_same_room (op := .Eq) ⟨_, ho, rfl⟩ ⟨_, ho2, rfl⟩ F.slot_list_eq (GQ.call_here F.slot_list_eq ⟨_, ho, rfl⟩ F.entry_list_eq (F.args_list_eq_2 _ _) ?_) o.hr.room.units0
    refine two_eq (R := wants (fun v s' => v ≠ .notImplemented ∧ EP C.X pins σ Q v s') C.X.xe) (w.twos (pins := pins) (σ := σ) o rx ry hl) g0 (fun s' e g => fin true s' ?_ g) (fun s' e g => fin false s' ?_ g)
    · unfold likeD; rw [e, hl]; simp
    · unfold likeD; rw [e]; simp
  · refine wpAny_richCompare_same_room (op := .Eq) ⟨_, ho, rfl⟩ ⟨_, ho2, rfl⟩ F.slot_list_eq (GQ.call_here F.slot_list_eq ⟨_, ho, rfl⟩ F.entry_list_eq (F.args_list_eq_2 _ _) ?_) o.hr.room.units0
    refine far_eq (R := wants (fun v s' => v ≠ .notImplemented ∧ EP C.X pins σ Q v s') C.X.xe) ho ho2 ?_ (fin false s ?_ g0)
    · rw [List.size_toArray, List.size_toArray, ← r.length, ← r2.length, rs.length, rs2.length]
      simp [hl]
    · unfold likeD; simp [hl]
theorem op_neL (o : OwnQ C c k fa okF f m) : OpR C.X (compareOp .NotEq) (rEqL C c okF f not) := by
  intro pins s σ H x y v u Q I rx ry h
  obtain ⟨ι, st, dx, dy, xs, ys, w, q⟩ := h
  show wpAny (model C.X.prog C.X.w) C.X.A (richCompare .NotEq v u) (EP C.X pins σ Q) C.X.xe s
  have g0 : Going C pins σ ι st H s := ⟨H, ι, I, w.rl, Step.refl _ _ _⟩
  obtain ⟨a, its, vs, n, dd, sl, rfl, ho, r, rs⟩ := told_at I w.rl (Step.refl _ _ _) w.rx rx w.ex
  obtain ⟨b, its2, vs2, n2, dd2, sl2, rfl, ho2, r2, rs2⟩ := told_at I w.rl (Step.refl _ _ _) w.ry ry w.ey
  have fin : ∀ (t : Bool) s', likeD f xs ys = !t → Going C pins σ ι st H s' → wants (fun v s' => v ≠ .notImplemented ∧ EP C.X pins σ Q v s') C.X.xe (.ok (.ret (.bool t))) s' := fun t s' et ⟨H', ι', I', rl', sp⟩ => by
    refine ⟨(fun z => nomatch z), .bl t, H', I', rfl, ?_⟩
    have := q H' ι' sp rl'
    rw [et, Bool.not_not] at this
    exact this
  by_cases hl : xs.length = ys.length
  · refine wpAny_richCompare_same_room (op := .NotEq) ⟨_, ho, rfl⟩ ⟨_, ho2, rfl⟩ F.slot_list_ne (GQ.call_here F.slot_list_ne ⟨_, ho, rfl⟩ F.entry_list_ne (F.args_list_ne_2 _ _) ?_) o.hr.room.units0
    refine two_ne (R := wants (fun v s' => v ≠ .notImplemented ∧ EP C.X pins σ Q v s') C.X.xe) (w.twos (pins := pins) (σ := σ) o rx ry hl) g0 (fun s' e g => fin false s' ?_ g) (fun s' e g => fin true s' ?_ g)
    · unfold likeD; rw [e, hl]; simp
    · unfold likeD; rw [e]; simp
  · refine wpAny_richCompare_same_room (op := .NotEq) ⟨_, ho, rfl⟩ ⟨_, ho2, rfl⟩ F.slot_list_ne (GQ.call_here F.slot_list_ne ⟨_, ho, rfl⟩ F.entry_list_ne (F.args_list_ne_2 _ _) ?_) o.hr.room.units0
    refine far_ne (R := wants (fun v s' => v ≠ .notImplemented ∧ EP C.X pins σ Q v s') C.X.xe) ho ho2 ?_ (fin true s ?_ g0)
    · rw [List.size_toArray, List.size_toArray, ← r.length, ← r2.length, rs.length, rs2.length]
      simp [hl]
    · unfold likeD; simp [hl]
theorem osd_eqL {g : Bool → Bool} : OpSD C (rEqL C c okF f g) (gEqL c okF f g) := fun ι st H x y dx dy dz st1 Q rl rx ry e q => by
  unfold gEqL at e
  split at e
  · rename_i xs ys ex ey
    split at e
    · rename_i hc
      cases e
      exact ⟨ι, st, dx, dy, xs, ys, ⟨rl, rx, ry, ex, ey, hc.1, hc.2⟩, fun H' ι' s r => q _ ι' H' s r (.bl _)⟩
    · cases e
  · cases e
end
end Den

set_option maxRecDepth 100000
set_option maxHeartbeats 4000000
/-! Den: split of a text as a list that is changed later. -/
namespace Den
open PySem PySem.Spec PyProof.Rows L2
section
variable {C : Ctx}
def mSplitN : FM := fun d ds st => match d, ds with
  | .str a, [.str b] => if b.length ≠ 0 ∧ a.length ≤ 1000000 then some (.box st.length, st ++ [.lst ((PySem.Txt.split a b).map D.str)]) else none
  | _, _ => none
theorem mt_splitN : MtD C "str" "split" mSplitN := ⟨_, _, PySem.F.plainAttrs_str, PySem.F.slot_str_split, PySem.F.type_str_split, mt_split, fun ι st H x xs dx ds d st' Q rl rx rs e k => by
  unfold mSplitN at e
  split at e
  · rename_i a b
    split at e
    · rename_i hl
      cases e
      obtain ⟨v, rfl, rv⟩ := repL_one rs
      cases rx
      cases rv
      refine ⟨a, b, rfl, rfl, by simp [hl.1], Nat.le_trans (Nat.add_le_add_right hl.2 2) (by decide), fun p hp => ?_⟩
      obtain ⟨ra, sa⟩ := rl.newMut (o := .lst ((PySem.Txt.split a b).map V.str)) (c := .lst ((PySem.Txt.split a b).map D.str)) hp rfl fun ι' q => ⟨(PySem.Txt.split a b).map V.str, upd_same, rep_strs _⟩
      exact k _ _ _ sa ra (.box (by rw [← rl.len]; exact ι.add_at p))
    · cases e
  · cases e⟩
end
end Den

set_option maxRecDepth 100000
set_option maxHeartbeats 4000000
/-! Den: an own repr whatever else is being shown. -/
namespace Den
open PySem PySem.Spec PyProof.Rows L2
/-- a def's promise, whatever guards stand -/
abbrev FnX (P : Program) (w : World) (K : PySem.W.Frag) (mg : Str → Option Value) (base : Heap) (k : Nat) (f : Addr) (fd : FuncData) (ps : List Str) (sp : Sp) : Prop := FnOk P w K mg base (L2N.CX P w) k f fd ps sp
section
variable {P : Program} {w : World} {K : PySem.W.Frag} {mg : Str → Option Value} {base : Heap}
theorem fnX_of {x qual : Str} {st : Stmt} {f : Addr} {fd : FuncData} {N ps : List Str} {k : Nat} {sp : Sp} (F : Fun K x qual st f fd) (S : FnScope N ps (defScope st)) (len : ∀ vs H Q E, sp vs H Q E → vs.length = ps.length)
    (hbody : ∀ (cdv : Value) (A : Around) (outer : List Env) (s : Shared) (H : Hp) (vs : List V) (Q : VK) (E : XK), sp vs H Q E →
      ∃ t, PSs (cxOf (L2N.CX P w) P w K mg base N qual (defScope st) f cdv A outer s H E) (defBody st) t ∧ t { nx := fun _ H' => Q .non H', rt := Q } (start N vs) H) :
    FnX P w K mg base (k + 1) f fd ps sp := by
  obtain ⟨oc, od, kV, doc, pm, an, cdv, ct, osl, efd, lk, hcd⟩ := F.ex
  subst efd
  refine ⟨len, fun A outer s H args us vs Q E hr e0 hb r hsp => ?_⟩
  have hl := len _ _ _ _ hsp
  have kin : K.In s.heap := e0.mod.kin.keeps fun b o q => (e0.bs b o q).1
  have nol : s.heap.NoLimit := e0.mod.nolimit.keeps fun b o q => (e0.bs b o q).1
  refine codeAny_call_function hr.depth (kin _ _ lk) rfl S.co S.gen rfl (PySem.W.codeRec_of kin hcd) (hb _ _ _ _ ?_)
  refine wpAny_newFunctionEnv_cells S.kind (fun y hy => ?_) fun env he s1 x => ?_
  · obtain ⟨n, v⟩ := y
    refine (S.par n (List.of_mem_zip hy).1).elim .inl fun q => .inr ⟨q, ?_⟩
    exact PySem.W.cellsFrom_some _ _ _ (.inl q)
  · subst he
    refine ⟨nol.keeps x.toInCall.keep, codeAny_func ?_⟩
    obtain ⟨t, ht, hq⟩ := hbody cdv A outer s H vs Q E hsp
    have I := inv_start (CX := L2N.CX P w) (E := E) S hr.hd e0 hl r x
    refine wpAny_mono (ht.run [] s1 (start N vs) H _ I hq) (fun fl s' hs => ?_) fun e s' hs => hs
    match fl, hs with
    | .ret u, ⟨v, σ', H', J, rv, q⟩ => exact ⟨v, H', J.os, J.bare, J.base, J.hok, rv, q⟩
    | .next, ⟨σ', H', J, q⟩ => exact ⟨V.non, H', J.os, J.bare, J.base, J.hok, rfl, q⟩
    | .brk, ⟨_, _, _, q⟩ => exact q.elim
    | .cont, ⟨_, _, _, q⟩ => exact q.elim
end
theorem fnDX_of {P : Program} {w : World} {mg : Str → Option Value} {base : Heap} {T : Txt} {x qual : Str} {st : Stmt} {f : Addr} {fd : FuncData} {N ps : List Str} {k : Nat} {m : DS} (F : Fun T.K x qual st f fd) (S : FnScope N ps (defScope st))
    (h : ∀ (cdv : Value) (A : Around) (outer : List Env) (s : Shared) (H : Hp) (E : XK) (xp : XT), PDSs ⟨cxOf (L2N.CX P w) P w T.K mg base N qual (defScope st) f cdv A outer s H E, T, xp, fun c d _ H' => E c d H', rfl⟩ (defBody st) m) :
    FnX P w T.K mg base (k + 1) f fd ps (spM T ps.length (body N.length ps.length m)) := by
  refine fnX_of F S (fun vs H Q E h => h.1) fun cdv A outer s H vs Q E hsp => ?_
  obtain ⟨hl, xp, ds, st0, ι, rd, rl, hp⟩ := hsp
  refine ⟨_, h cdv A outer s H E xp, _, st0, ι, start_env rd, rl, ?_⟩
  have hl' : ds.length = ps.length := rd.length.symm.trans hl
  unfold body at hp
  rw [if_pos hl'] at hp
  rw [hl']
  cases hm : m (ds.map some ++ List.replicate (N.length - ps.length) none) st0 with
  | nx ρ s1 =>
    rw [hm] at hp
    exact fun σ ι1 H1 s r _ => hp .non ι1 H1 s r .non
  | ret d s1 =>
    rw [hm] at hp
    exact hp
  | exc c xs ρ s1 =>
    rw [hm] at hp
    exact fun σ ι1 H1 dx s r _ xd => hp ι1 H1 dx s r xd
  | _ =>
    rw [hm] at hp
    exact hp.elim
/-- an own repr's promise, whatever guards stand -/
structure DefR (P : Program) (w : World) (T : Txt) (mg : Str → Option Value) (base : Heap) (k c i : Nat) (m : DF) : Prop where
  ex : ∃ fd ps, FnX P w T.K mg base k (T.fa i) fd ps (spM T ps.length m) ∧ Binds T.K fd ps [] ∧ ps.length = 1
  at_ : PySem.W.findIn T.K (.ref (T.ca c)) "__repr__" = some (some (.ref (T.fa i)))
  fn : PySem.W.isFn T.K (.ref (T.fa i)) = true
theorem defR_of {P : Program} {w : World} {mg : Str → Option Value} {base : Heap} {T : Txt} {x qual : Str} {st : Stmt} {N ps : List Str} {k c i : Nat} {m : DS} (l : Lk T i x qual st) (me : Meth T.K (T.ca c) "__repr__" (T.fa i)) (S : FnScope N ps (defScope st)) (hp : ps.length = 1)
    (hb : ∀ (kV doc pm : Value) (an : Option Addr) (cdv ct : Value) (us : List Value), us.length = ps.length → bindArgs (PySem.W.fnOf x qual (defArgs st) (defBody st) (defScope st) .none kV doc pm an cdv ct) ⟨us, []⟩ = pure (ps.zip us))
    (h : ∀ (cdv : Value) (A : Around) (outer : List Env) (s : Shared) (H : Hp) (E : XK) (xp : XT), PDSs ⟨cxOf (L2N.CX P w) P w T.K mg base N qual (defScope st) (T.fa i) cdv A outer s H E, T, xp, fun c d _ H' => E c d H', rfl⟩ (defBody st) m) :
    DefR P w T mg base (k + 1) c i (body N.length ps.length m) := by
  obtain ⟨fd, F⟩ := l.ex
  exact ⟨⟨fd, ps, fnDX_of F S h, F.binds hb, hp⟩, me.at_, me.fn⟩
section
variable {prog : Program} {w : World} {A : Around} {E : Value → Shared → Prop} {s : Shared} {K : PySem.W.Frag} {x C f : Addr} {ox : Obj} {od : Option Obj}
/-- repr of an instance inside of another repr -/
theorem own_under {b : Nat} {Q : Str → Shared → Prop} (hb : b ≤ sizeLine) (hu : A.units < cLine) (X : K.In s.heap) (I : PySem.W.InstAt s.heap x ox C od) (hs : PySem.W.findIn K (.ref C) "__repr__" = some (some (.ref f))) (hf : PySem.W.isFn K (.ref f) = true)
    (h : wpAny (model prog w) A (call (.ref f) [.ref x]) (fun v s' => ∃ z t, v = .str z t ∧ Q z s') E s) : wpAny (model prog w) A (pyReprUnder b (.ref x)) Q E s := by
  refine wpAny_pyReprUnder_ref hb ?_
  unfold pyReprObjUnder pyReprObjBy
  refine wpAny_bind (wpAny_cRoomFor hu (wpAny_bind (wpAny_bind (I.type.here ((PySem.W.looks_findIn X hs).here ?_)))))
  show wpAny _ _ (if (some (Value.ref f)).isNone = true then _ else _) _ _ _
  rw [if_neg (by simp)]
  have last : wpAny (model prog w) A (callSpecialIfBoundBy? (fun g first => match reprUnder? g, first with
    | some twin, [self] => call twin [self, rawInt b]
    | _, _ => call g (first ++ [])) (.ref x) (Str.ofString "__repr__")) (fun r s' => ∃ z t, r = some (.str z t) ∧ Q z s') E s := by
    simp only [callSpecialIfBoundBy?, bindSpecialIfBound?]
    refine wpAny_holding (wpAny_bind (wpAny_bind (wpAny_bind (I.type.here ((PySem.W.looks_findIn X hs).here ?_)))))
    refine wpAny_bind (wpAny_askSetting (wpAny_ite ?_))
    have done : wpAny (model prog w) A (call (.ref f) ([.ref x] ++ []) >>= fun v => pure (some v)) (fun r s' => ∃ z t, r = some (.str z t) ∧ Q z s') E s := wpAny_bind (wpAny_mono h (fun v s' ⟨z, t, e, q⟩ => wpAny_pure ⟨z, t, by rw [e], q⟩) fun _ _ q => q)
    split
    · exact wpAny_bind ((PySem.W.bind_fn X _ (beq_iff_eq.mp hf)).here (wpAny_pure (by exact done)))
    · exact wpAny_tryCatch (wpAny_bind ((PySem.W.bind_fn X _ (beq_iff_eq.mp hf)).here (wpAny_pure (by exact done))))
  refine wpAny_bind (wpAny_mono last (fun r s' ⟨z, t, e, q⟩ => ?_) fun _ _ q => q)
  subst e
  exact wpAny_bind (wpAny_isInstance (T := "str") (b := true) rfl isSubtype_str_str (wpAny_pure ⟨z, t, rfl, q⟩))
end
section
variable {C : Ctx} {c k i : Nat} {m : DF}
theorem env_at {X : Cx} {pins : List (Addr × Obj)} {σ : L2.St} {H : Hp} {s : Shared} {A : Around} (I : Inv X pins σ H s) (fr : A.frames = X.A.frames) : Env0 X.prog X.w X.K X.mg X.base A X.stack s H := by
  have e := I.env0
  exact ⟨by rw [fr]; exact e.frames, e.mod, e.bs, e.bsz, e.funs, e.frf, e.hok, e.bare⟩
/-- an own instance shown inside of another repr -/
theorem shown_ins (d : DefR C.X.prog C.X.w C.T C.X.mg C.X.base k c i m) (tk : L2N.Takes C.X C.W) {b : Nat} {A : Around} {pins : List (Addr × Obj)} {σ : L2.St} {H : Hp} {s : Shared} {st : Store} {ι : Io} {v : V} {u : Value} {xs : List D} {z : Str} (hb : b ≤ sizeLine) (sb : Sub C.X k A)
    (I : Inv C.X pins σ H s) (rl : RelSt C.T C.xp ι st H) (rd : Rep C.T C.xp (hide ι st H) ι v (.ins c xs)) (ru : RelV v u) (hm : m [.ins c xs] st = .ok (.str z) st) :
    wpAny (model C.X.prog C.X.w) A (pyReprUnder b u) (fun t s' => t = z ∧ Going C pins σ ι st H s') C.X.xe s := by
  have rd0 := rd
  cases rd with
  | @ins a dx _ vs _ g1 l1 r1 =>
    obtain rfl : u = Value.ref a := ru
    obtain ⟨mA, J, _⟩ := ins_get I.hok (hide_sub g1)
    obtain ⟨od, J, _⟩ := J.look
    obtain ⟨fd, ps, F, hbi, hp⟩ := d.ex
    have sp : spM C.T ps.length m [.ref a] H (fun w H' => w = .str z ∧ ∃ ι', RelSt C.T C.xp ι' st H' ∧ Step ι st H ι' st H') (fun c d H' => C.W c d σ H') := by
      refine ⟨hp.symm, C.xp, [.ins c xs], st, ι, .cons rd0 .nil, rl, ?_⟩
      rw [hm]
      intro w ι' H' s' r' e'
      cases e'
      exact ⟨rfl, ι', r', s'⟩
    have bb := hbi s [Value.ref a] (by rw [← C.hK]; exact I.kIn) hp.symm
    rw [List.append_nil] at bb
    refine own_under (C := C.T.ca c) (f := C.T.fa i) hb sb.room.units0 I.kIn J (by rw [C.hK]; exact d.at_) (by rw [C.hK]; exact d.fn) ?_
    have F' : FnX C.X.prog C.X.w C.X.K C.X.mg C.X.base k (C.T.fa i) fd ps (spM C.T ps.length m) := by rw [C.hK]; exact F
    have run := F'.run A C.X.stack s H ⟨[.ref a], []⟩ [.ref a] [.ref a] _ _ sb.room (env_at I sb.fr) bb (.cons rfl .nil) sp
    refine wpAny_call (codeAny_mono run fun r s' q => ?_)
    match r, ends_of I tk (fun _ _ _ h => h) q with
    | .error e, q' => exact q'
    | .ok (.ret w), ⟨v', H', I', rv', ⟨ev, ι', r', st'⟩⟩ =>
      subst ev
      obtain ⟨t, rfl⟩ := rv'
      exact ⟨z, t, rfl, rfl, H', ι', I', r', st'⟩
    | .ok .next, q' => exact False.elim q'
    | .ok .brk, q' => exact False.elim q'
    | .ok .cont, q' => exact False.elim q'
end
end Den

set_option maxRecDepth 100000
set_option maxHeartbeats 4000000
/-! Den: repr of a list whose items' reprs run defs: the loop. -/
namespace PySem
open PySem.Builtin PySem.Builtin.List StrLaws
section
variable {prog : Program} {w : World} {A : Around} {R : Result → Shared → Prop}
/-- what the loop finds at its i-th turn -/
def Turn (prog : Program) (w : World) (A : Around) (R : Result → Shared → Prop) (a P : Addr) (N off : Nat) (ts : List Str) (I M : Nat → Shared → Prop) : Prop :=
  ∀ i s, I i s → ∃ (its : Array Value) (n : Nat) (dd : Option Addr) (sl : Array (Option Value)) (done : List (Str × Tok)) (m : Nat), s.heap.get? a = some { cls := .type "list", dict := dd, data := .seq its n, slots := sl } ∧ its.size = N ∧
    s.heap.get? P = some { cls := .type "list", data := .seq (strValues done).toArray m } ∧ done.map (·.1) = ts.take i ∧
    ∀ (h : i < its.size) (h' : i < ts.length) (args : List Value), wpAny (model prog w) (A.under (.builtin "list.__repr__.loop" ⟨.ref a :: args, []⟩)) (pyReprUnder (off + piled (ts.take i) + 1) its[i]) (fun t s' => t = ts[i] ∧ M i s') (fun e s' => R (.error e) s') s
/-- the text is set behind those that are there -/
def Puts (P : Addr) (ts : List Str) (I M : Nat → Shared → Prop) : Prop :=
  ∀ i s, M i s → ∀ h : i < ts.length, ∃ (xs : Array Value) (m : Nat), s.heap.get? P = some { cls := .type "list", data := .seq xs m } ∧ xs.size ≤ sizeLine ∧ ∀ tk t' : Tok, I (i + 1) { s with heap := s.heap.update P (Obj.mapSeq (·.push (.str ts[i] tk))), toks := t' }
theorem show_loop {a P : Addr} {N off : Nat} {ts : List Str} {I M : Nat → Shared → Prop} (lt : ts.length = N) (room : off + (listText ts).length ≤ sizeLine) (turn : Turn prog w A R a P N off ts I M) (puts : Puts P ts I M)
    (fin : ∀ s (u t' : Tok), I N s → R (.ok (.ret (.str (listText ts) u))) { s with toks := t' }) : ∀ (k i : Nat), N - i = k → i ≤ N → ∀ s, I i s →
      codeAny (model prog w) A (.builtin "list.__repr__.loop" ⟨[.ref a, rawInt i, .ref P, rawInt ((off + piled (ts.take i) : Nat) : Int)], []⟩) R s := by
  have whole : (listText ts).length = (textFrom 0 "[" ts).length + 1 := by
    show (textFrom 0 "[" ts ++ "]").length = _
    rw [strLen_append]; rfl
  have lens := textFrom_len ts 0 "["
  have each : ∀ t ∈ ts, t.length ≤ sizeLine := fun t ht => by
    have := lens.2.1 t ht
    omega
  have pile := piled_le_listText ts
  intro k
  induction k with
  | zero =>
    intro i hk hi s h
    obtain ⟨its, n, dd, sl, done, m, ha, hn, hP, hd, _⟩ := turn i s h
    have ei : i = N := by omega
    refine codeAny_builtin F.entry_list_repr_loop ?_
    show wpAny _ _ («list.__repr__.loop» ⟨[.ref a, .int i 0, .ref P, .int ((off + piled (ts.take i) : Nat) : Int) 0], []⟩) _ _ s
    rw [repr_loop_tree]
    refine wpAny_bind (wpAny_listItems ha rfl ?_)
    rw [show its[((i : Nat) : Int).toNat]? = none by simp; omega]
    dsimp only
    unfold reprEnd
    refine wpAny_bind (wpAny_listItems hP rfl ?_)
    rw [show (strValues done).toArray.toList = strValues done by simp, repr_fold]
    have all : done.map (·.1) = ts := by rw [hd, ei, ← lt, List.take_length]
    rw [all]
    exact wpAny_bind (wpAny_pure (wpAny_bind (wpAny_mkStr (wpAny_pure (fin s _ _ (ei ▸ h))) (by show (listText ts).length ≤ sizeLine; omega))))
  | succ k ih =>
    intro i hk hi s h
    obtain ⟨its, n, dd, sl, done, m, ha, hn, hP, hd, ask⟩ := turn i s h
    have li : i < its.size := by omega
    have lj : i < ts.length := by omega
    refine codeAny_builtin F.entry_list_repr_loop ?_
    show wpAny _ _ («list.__repr__.loop» ⟨[.ref a, .int i 0, .ref P, .int ((off + piled (ts.take i) : Nat) : Int) 0], []⟩) _ _ s
    rw [repr_loop_tree]
    refine wpAny_bind (wpAny_listItems ha rfl ?_)
    rw [show its[((i : Nat) : Int).toNat]? = some its[i] by simp [li]]
    dsimp only
    rw [Int.toNat_natCast]
    refine wpAny_bind (wpAny_holding (wpAny_mono (ask li lj _) (fun t s1 q => ?_) fun _ _ e => e))
    obtain ⟨et, q⟩ := q
    subst et
    obtain ⟨xs, m1, hP1, lx, next⟩ := puts i s1 q lj
    have tk := piled_take_succ (show ts[i]? = some ts[i] from List.getElem?_eq_getElem lj)
    refine wpAny_bind (wpAny_mkStr ?_ (each _ (List.getElem_mem lj)))
    refine wpAny_bind (m := listUpdate (.ref P) _) ?_
    show wpAny _ _ (updateSeq P _) _ _ _
    refine wpAny_updateSeq (o := { cls := .type "list", data := .seq xs m1 }) hP1 rfl (wpAny_pure ⟨F.quiet_list_repr_loop _, ?_⟩) lx
    have e1 : ((i : Int) + 1) = ((i + 1 : Nat) : Int) := by omega
    have e2 : off + piled (ts.take i) + (ts[i].length + 2) = off + piled (ts.take (i + 1)) := by omega
    rw [e1, e2]
    exact ih (i + 1) (by omega) (by omega) _ (next _ _)
end
end PySem

set_option maxRecDepth 100000
set_option maxHeartbeats 4000000
/-! Den: repr of a list with own instances among its items. -/
namespace Den
open PySem PySem.Spec PyProof.Rows L2
theorem loop_depth {A : Around} {args : Args} : (A.under (.builtin "list.__repr__.loop" args)).depth ≤ A.depth + 1 := by
  first | exact Nat.le_refl _ | exact Nat.le_succ _ | simp [Around.under, Code.weight, Code.isCreation, Code.isGuard, Code.isCaller, Code.frames, Code.isFrame, guardIds]
theorem loop_hd {A : Around} {args : Args} : (A.under (.builtin "list.__repr__.loop" args)).handled = A.handled := by
  first | rfl | simp [Around.under]
theorem loop_frames {A : Around} {args : Args} : (A.under (.builtin "list.__repr__.loop" args)).frames = A.frames := by
  first | rfl | simp [Around.under, Code.frames, Code.isFrame]
theorem Sub.loop {X : Cx} {n : Nat} {A : Around} (s : Sub X (n + 1) A) (args : Args) : Sub X n (A.under (.builtin "list.__repr__.loop" args)) := by
  have h1 := loop_depth (A := A) (args := args)
  have h2 := units_under_list_loop A args
  have r := s.room
  exact ⟨⟨loop_hd.trans r.hd, by have := r.dp; omega, by have := r.un; omega⟩, loop_frames.trans s.fr⟩
/-! ### items -/
def Readable (h : Heap) (b : Addr) : Prop := ∃ q as, Reads h (.ref b) q as
/-- an item's text: an own instance by its own def, else a datum -/
def leafT (c : Nat) (r : List D → Option Str) : D → Option Str
  | .ins c' xs => if c' = c then r xs else none
  | x => match toPyR x with
    | some p => if p.showable = true ∧ p.depth ≤ 50 then some p.shown else none
    | none => none
theorem leafT_cases {c : Nat} {r : List D → Option Str} {d : D} {t : Str} (h : leafT c r d = some t) : (∃ xs, d = .ins c xs ∧ r xs = some t) ∨ ∃ p, toPyR d = some p ∧ p.showable = true ∧ p.depth ≤ 50 ∧ p.shown = t := by
  have gen : ∀ x : D, (match toPyR x with | some p => if p.showable = true ∧ p.depth ≤ 50 then some p.shown else none | none => none) = some t → ∃ p, toPyR x = some p ∧ p.showable = true ∧ p.depth ≤ 50 ∧ p.shown = t := fun x e => by
    cases hp : toPyR x with
    | none => rw [hp] at e; cases e
    | some p =>
      rw [hp] at e
      dsimp only at e
      by_cases hc : p.showable = true ∧ p.depth ≤ 50
      · rw [if_pos hc] at e
        exact ⟨p, rfl, hc.1, hc.2, Option.some.inj e⟩
      · rw [if_neg hc] at e; cases e
  cases d with
  | ins c' xs =>
    have h' : (if c' = c then r xs else none) = some t := h
    by_cases e : c' = c
    · rw [if_pos e] at h'
      exact .inl ⟨xs, by rw [e], h'⟩
    · rw [if_neg e] at h'; cases h'
  | _ => exact .inr (gen _ h)
def leafs (c : Nat) (r : List D → Option Str) : List D → Option (List Str)
  | [] => some []
  | x :: xs => match leafT c r x, leafs c r xs with
    | some t, some ts => some (t :: ts)
    | _, _ => none
theorem leafs_len {c : Nat} {r : List D → Option Str} : ∀ {xs : List D} {ts : List Str}, leafs c r xs = some ts → ts.length = xs.length
  | [], _, h => by cases h; rfl
  | x :: xs, ts, h => by
    unfold leafs at h
    split at h
    · rename_i h1 h2
      cases h
      rw [List.length_cons, List.length_cons, leafs_len h2]
    · cases h
theorem leafs_at {c : Nat} {r : List D → Option Str} : ∀ {xs : List D} {ts : List Str} {i : Nat} {x : D}, leafs c r xs = some ts → xs[i]? = some x → ∃ t, ts[i]? = some t ∧ leafT c r x = some t
  | [], _, _, _, _, e => by simp at e
  | y :: ys, ts, i, x, h, e => by
    unfold leafs at h
    split at h
    · rename_i h1 h2
      cases h
      cases i with
      | zero =>
        simp only [List.getElem?_cons_zero, Option.some.injEq] at e
        subst e
        exact ⟨_, by simp, h1⟩
      | succ i =>
        obtain ⟨t, e1, e2⟩ := leafs_at h2 (by simpa using e)
        exact ⟨t, by simpa using e1, e2⟩
    · cases h
/-- what shows own instances of class c -/
structure OwnR (C : Ctx) (c k : Nat) (r : List D → Option Str) : Prop where
  ex : ∃ (i : Nat) (m : DF), DefR C.X.prog C.X.w C.T C.X.mg C.X.base k c i m ∧ ∀ xs z st, r xs = some z → m [.ins c xs] st = .ok (.str z) st
  tk : L2N.Takes C.X C.W
section
variable {C : Ctx} {c k : Nat} {r : List D → Option Str} {pins : List (Addr × Obj)} {σ : L2.St}
theorem leaf_run (o : OwnR C c k r) {b : Nat} {A : Around} {g : List Code} {H : Hp} {s : Shared} {st : Store} {ι : Io} {v : V} {u : Value} {d : D} {t : Str} (room : b + t.length ≤ sizeLine) (sb : Sub C.X (k + 4) A) (hg : A.guards = some g) (clr : ∀ a, Readable s.heap a → Clear g a)
    (I : Inv C.X pins σ H s) (rl : RelSt C.T C.xp ι st H) (rd : Rep C.T C.xp (hide ι st H) ι v d) (ru : RelV v u) (ht : leafT c r d = some t) :
    wpAny (model C.X.prog C.X.w) A (pyReprUnder b u) (fun t' s' => t' = t ∧ Going C pins σ ι st H s') C.X.xe s := by
  have data : ∀ p, toPyR d = some p → p.showable = true → p.depth ≤ 50 → p.shown = t → wpAny (model C.X.prog C.X.w) A (pyReprUnder b u) (fun t' s' => t' = t ∧ Going C pins σ ι st H s') C.X.xe s := fun p hp h1 h2 et => by
    subst et
    obtain ⟨_, bs, most, kr⟩ := kn_of I (hide_le _ _ _) rd hp ru ⟨h1, by omega⟩
    refine kr b room A g C.X.xe s _ hg (fun a ha => clr a ?_) ?_ (fun _ _ e => e) fun h' tk hk => ⟨rfl, H, ι, I.kept hk, rl, Step.refl _ _ _⟩
    · obtain ⟨q, as, rq, _⟩ := most a ha
      exact ⟨q, as, rq⟩
    · have := sb.room.un
      omega
  rcases leafT_cases ht with ⟨xs, rfl, h⟩ | ⟨p, hp, h1, h2, h3⟩
  · obtain ⟨i, m, d, hm⟩ := o.ex
    exact shown_ins d o.tk (by omega) (sb.mono (by omega)) I rl rd ru (hm xs t st h)
  · exact data p hp h1 h2 h3
theorem unread_ins {H : Hp} {s : Shared} {e dx cl : Addr} {fs : List (Str × V)} (I : Inv C.X pins σ H s) (hi : H e = some (.ins cl dx fs)) : ¬ Readable s.heap e := by
  obtain ⟨mA, J, _⟩ := ins_get I.hok hi
  obtain ⟨od, J, _⟩ := J.look
  rintro ⟨q, as, rq⟩
  have h1 := J.at_
  have h2 := J.cls
  cases rq with
  | list g1 g2 _ _ => rw [h1] at g1; cases g1; rw [h2] at g2; cases g2
  | tuple g1 g2 _ _ => rw [h1] at g1; cases g1; rw [h2] at g2; cases g2
  | dict g1 g2 _ _ _ => rw [h1] at g1; cases g1; rw [h2] at g2; cases g2
theorem reads_item {h : Heap} {e : Addr} : ∀ {vs : List Value} {xs : List PyData} {as : List Addr}, ReadsAll h vs xs as → Value.ref e ∈ vs → Readable h e
  | _, _, _, .nil, m => absurd m List.not_mem_nil
  | _, _, _, .cons r1 r2, m => by
    rcases List.mem_cons.mp m with rfl | m
    · exact ⟨_, _, r1⟩
    · exact reads_item r2 m
theorem unread_list {h : Heap} {a e : Addr} {o : Obj} {its : List Value} {n : Nat} (ho : h.get? a = some o) (hc : o.cls = .type "list") (hd : o.data = .seq its.toArray n) (hm : Value.ref e ∈ its) (no : ¬ Readable h e) : ¬ Readable h a := by
  rintro ⟨q, as, rq⟩
  cases rq with
  | list g1 g2 g3 g4 =>
    rw [ho] at g1
    cases g1
    rw [hd] at g3
    cases g3
    exact no (reads_item (by simpa using g4) hm)
  | tuple g1 g2 g3 g4 =>
    rw [ho] at g1
    cases g1
    rw [hc] at g2
    simp at g2
  | dict g1 g2 g3 g4 g5 =>
    rw [ho] at g1
    cases g1
    rw [hc] at g2
    simp at g2
/-- never a datum from here on -/
def Bad (C : Ctx) (ι : Io) (st : Store) (H : Hp) (a : Addr) : Prop := ∀ (pins : List (Addr × Obj)) (σ : L2.St) (s' : Shared) (ι' : Io) (st' : Store) (H' : Hp), Inv C.X pins σ H' s' → Le (hide ι st H) (hide ι' st' H') → ¬ Readable s'.heap a
theorem Bad.le {ι ι' : Io} {st st' : Store} {H H' : Hp} {a : Addr} (b : Bad C ι st H a) (s : Le (hide ι st H) (hide ι' st' H')) : Bad C ι' st' H' a := fun pins σ s' ι2 st2 H2 I q => b pins σ s' ι2 st2 H2 I (s.trans q)
theorem bad_ins {ι : Io} {st : Store} {H : Hp} {v : V} {c' : Nat} {xs : List D} (rd : Rep C.T C.xp (hide ι st H) ι v (.ins c' xs)) : ∃ e, v = .ref e ∧ Bad C ι st H e := by
  cases rd with
  | @ins e dx _ vs _ g1 _ _ => exact ⟨e, rfl, fun pins σ s' ι' st' H' I q => unread_ins I (hide_sub (q _ _ g1))⟩
theorem bad_list {ι : Io} {st : Store} {H : Hp} {a : Addr} {ds : List D} {d : D} (rd : Rep C.T C.xp (hide ι st H) ι (.ref a) (.lst ds)) (hd : d ∈ ds) (bad : ∀ v, Rep C.T C.xp (hide ι st H) ι v d → ∃ e, v = .ref e ∧ Bad C ι st H e) : Bad C ι st H a := by
  cases rd with
  | @lst _ vs _ g1 rr =>
    obtain ⟨i, hi⟩ := List.mem_iff_getElem?.mp hd
    obtain ⟨v, hv, rv⟩ := rr.get hi
    obtain ⟨e, rfl, be⟩ := bad v rv
    intro pins σ s' ι' st' H' I q
    obtain ⟨its, r, ⟨o, n, ho, hc, _, hdd⟩, _⟩ := I.list (SqL.of (K := C.X.K) (hide_sub (q _ _ g1)))
    obtain ⟨u, hu, ru⟩ := r.get hv
    obtain rfl : u = Value.ref e := ru
    exact unread_list ho hc hdd (List.mem_of_getElem? hu) (be pins σ s' ι' st' H' I q)
end
end Den

set_option maxRecDepth 100000
set_option maxHeartbeats 4000000
/-! Den: repr of a list with own instances among its items, called and under another repr. -/
namespace Den
open PySem PySem.Spec PyProof.Rows L2
theorem vals_strs : ∀ {l : List Str} {its : List Value}, Vals (l.map V.str) its → ∃ done : List (Str × Tok), its = strValues done ∧ done.map (·.1) = l
  | [], _, h => by cases h; exact ⟨[], rfl, rfl⟩
  | z :: l, _, h => by
    rw [List.map_cons] at h
    cases h with
    | cons r rs =>
      obtain ⟨t, rfl⟩ := r
      obtain ⟨done, rfl, e⟩ := vals_strs rs
      exact ⟨(z, t) :: done, rfl, by simp [e]⟩
theorem step_hd {ιa ιb : Io} {sa sb : Store} {Ha Hb : Hp} {p : Addr} (ha : p ∈ ιa.hd) (z : Step ιa sa Ha ιb sb Hb) : Step ιa sa (upd Ha p (.lst [])) ιb sb (upd Hb p (.lst [])) := by
  have hb : p ∈ ιb.hd := by rw [z.pre.hd]; exact ha
  refine ⟨z.pre, by rw [hide_hd ha, hide_hd hb]; exact z.ex, fun a h => ?_⟩
  by_cases ea : a = p
  · rw [ea, upd_same, upd_same]
  · rw [upd_ne ea, upd_ne ea]
    exact z.hd a h
theorem rep_texts {T : Txt} {xp : XT} {G : Hp} {ι : Io} : ∀ ys : List Str, RepL T xp G ι (ys.map V.str) (ys.map D.str)
  | [] => .nil
  | y :: ys => .cons (.str y) (rep_texts ys)
section
variable {C : Ctx} {c k : Nat} {r : List D → Option Str} {pins : List (Addr × Obj)} {σ : L2.St}
/-- between the turns: the list of texts is on its way at P -/
def OnWay (C : Ctx) (pins : List (Addr × Obj)) (σ : L2.St) (ι : Io) (st : Store) (H : Hp) (P : Addr) (ts : List Str) (s' : Shared) : Prop :=
  ∃ ι2 H2, Inv C.X pins σ H2 s' ∧ RelSt C.T C.xp ι2 st H2 ∧ Step (ι.under P) st (upd H P (.lst [])) ι2 st (upd H2 P (.lst [])) ∧ H2 P = some (.lst (ts.map V.str))
theorem way_le {ι : Io} {st : Store} {H : Hp} {P : Addr} (hP : H P = none) {ι2 : Io} {H2 : Hp} (s : Step (ι.under P) st (upd H P (.lst [])) ι2 st (upd H2 P (.lst []))) : Le (hide ι st H) (hide ι2 st H2) := by
  have hm := Io.under_hd s.pre
  have hx := s.ex
  rw [hide_under hP, hide_hd hm] at hx
  exact hx
theorem way_rep {ι ι2 : Io} {P : Addr} {G G2 : Hp} {v : V} {d : D} (p : Pre (ι.under P) ι2) (l : Le G G2) (h : Rep C.T C.xp G ι v d) : Rep C.T C.xp G2 ι2 v d := Rep.monoA (ι := ι) l (fun k a e => p.ad k a e) h
theorem upd2 {H : Hp} {P : Addr} {o o' : HO} : upd (upd H P o) P o' = upd H P o' := by
  funext x
  by_cases e : x = P
  · rw [e, upd_same, upd_same]
  · rw [upd_ne e, upd_ne e, upd_ne e]
/-- a list that is no datum -/
def deepL (d : D) : Bool := match d with
  | .lst _ => (toPyR d).isNone
  | _ => false
/-- how a thing is shown inside of another repr -/
def Shows (C : Ctx) (n : Nat) (st : Store) (d : D) (t : Str) : Prop := ∀ (A : Around) (g : List Code) (G : List Addr) (b : Nat) (pins : List (Addr × Obj)) (σ : L2.St) (s : Shared) (H : Hp) (ι : Io) (v : V) (u : Value), b + t.length ≤ sizeLine → Sub C.X n A → A.guards = some g → (∀ x, x ∉ G → Clear g x) → (∀ x ∈ G, Bad C ι st H x) →
  (deepL d = true → ∀ x ∈ G, v ≠ .ref x) → Inv C.X pins σ H s → RelSt C.T C.xp ι st H → Rep C.T C.xp (hide ι st H) ι v d → RelV v u → wpAny (model C.X.prog C.X.w) A (pyReprUnder b u) (fun t' s' => t' = t ∧ Going C pins σ ι st H s') C.X.xe s
theorem Shows.mono {n m : Nat} {st : Store} {d : D} {t : Str} (h : Shows C n st d t) (l : n ≤ m) : Shows C m st d t := fun A g G b pins σ s H ι v u q1 q2 => h A g G b pins σ s H ι v u q1 (q2.mono l)
theorem shows_leaf (o : OwnR C c k r) {st : Store} {d : D} {t : Str} (ht : leafT c r d = some t) : Shows C (k + 4) st d t := fun A g G b pins σ s H ι v u room sb hg hG bad _ I rl rd ru =>
  leaf_run o room sb hg (fun x hx => hG x fun m => bad x m pins σ s ι st H I (Le.refl _) hx) I rl rd ru ht
theorem show_lst {n : Nat} {A : Around} {g : List Code} {G : List Addr} {R : Result → Shared → Prop} {H : Hp} {s : Shared} {st : Store} {ι : Io} {a : Addr} {ds : List D} {ts : List Str} {b : Nat} (sb : Sub C.X (n + 1) A) (hg : A.guards = some g) (hG : ∀ x, x ∉ G → Clear g x) (bad : ∀ x ∈ G, Bad C ι st H x)
    (I : Inv C.X pins σ H s) (rl : RelSt C.T C.xp ι st H) (rd : Rep C.T C.xp (hide ι st H) ι (.ref a) (.lst ds)) (ha : a ∉ G) (ba : Bad C ι st H a) (lt : ts.length = ds.length) (ht : ∀ (i : Nat) (d : D), ds[i]? = some d → ∃ t, ts[i]? = some t ∧ Shows C n st d t) (self : ∀ d ∈ ds, deepL d = true → ∀ v, Rep C.T C.xp (hide ι st H) ι v d → ∀ x ∈ a :: G, v ≠ .ref x) (ne : ds ≠ []) (room : b + (listText ts).length ≤ sizeLine)
    (fin : ∀ s' u, Going C pins σ ι st H s' → R (.ok (.ret (.str (listText ts) u))) s') (err : ∀ e s', C.X.xe e s' → R (.error e) s') :
    wpAny (model C.X.prog C.X.w) A.in1 (Builtin.listReprAt b ⟨[.ref a], []⟩) (GQ.FinOf C.X.prog C.X.w A R) (fun e s' => R (.error e) s') s := by
  have rd0 := rd
  cases rd with
  | @lst _ vs _ g1 rr =>
    obtain ⟨its, rv, ⟨oa, n, ho, hc, _, hd⟩, _⟩ := I.list (SqL.of (K := C.X.K) (hide_sub g1))
    have li : its.length = ds.length := by rw [← rv.length, rr.length]
    have hca : Clear g a := hG a ha
    cases hit : its with
    | nil =>
      rw [hit] at li
      exact absurd (List.length_eq_zero_iff.mp li.symm) ne
    | cons x l =>
      rw [hit] at hd
      refine wpAny_list_repr_head (A := A.in1) hg (fun v rest kw hm => listSameRef_of_ne (hca _ _ _ _ hm)) ho hd ?_
      have hP : H s.heap.objs.size = none := I.hok.fresh (Nat.le_refl _)
      refine wpAny_bind (m := newList []) (wpAny_newObj_type (wpAny_pure ⟨F.quiet_list_repr_loop _, ?_⟩))
      generalize hPe : s.heap.objs.size = P at hP
      have lp := piled_le_listText ts
      have I1 : Inv C.X pins σ (upd H P (.lst [])) { s with heap := s.heap.push { cls := .type "list", data := .seq ([] : List Value).toArray } } := by
        rw [← hPe]
        exact I.laid (t' := s.toks) (fun x u e => Heap.get?_push_of_some _ e) (Nat.le_refl _) ⟨Nat.zero_le _, [], 0, .nil, Heap.get?_push_size _ rfl⟩
      have start : OnWay C pins σ ι st H P (ts.take 0) { s with heap := s.heap.push { cls := .type "list", data := .seq ([] : List Value).toArray } } :=
        ⟨ι.under P, upd H P (.lst []), I1, rl.under hP, by rw [upd2]; exact Step.refl _ _ _, upd_same⟩
      have turn : PySem.Turn C.X.prog C.X.w A R a P ds.length b ts (fun i s' => OnWay C pins σ ι st H P (ts.take i) s') (fun i s' => OnWay C pins σ ι st H P (ts.take i) s') := fun i s' ⟨ι2, H2, I2, rl2, s2, hP2⟩ => by
        have le := way_le hP s2
        have hm := Io.under_hd s2.pre
        obtain ⟨its', rv', ⟨⟨cls, dd, data, sl⟩, n', ho', hc', _, hd'⟩, _⟩ := I2.list (SqL.of (K := C.X.K) (hide_sub (le _ _ g1)))
        simp only at hc' hd'
        subst hc' hd'
        obtain ⟨_, its2, m2, r2, _, e2⟩ := I2.lstM hP2
        obtain ⟨done, rfl, hdone⟩ := vals_strs r2
        refine ⟨its'.toArray, n', dd, sl, done, m2, ho', by rw [List.size_toArray, ← rv'.length, rr.length], e2, hdone, fun h h' args => ?_⟩
        have lv : i < its'.length := by simpa using h
        have lvs : i < vs.length := by rw [rv'.length]; exact lv
        have lds : i < ds.length := by rw [← rr.length]; exact lvs
        obtain ⟨u, hu, ru⟩ := rv'.get (List.getElem?_eq_getElem lvs)
        have eu : its'.toArray[i] = u := by
          rw [List.getElem?_eq_getElem lv] at hu
          have := Option.some.inj hu
          simpa using this
        obtain ⟨v, hv, rvd⟩ := rr.get (List.getElem?_eq_getElem lds)
        rw [List.getElem?_eq_getElem lvs] at hv
        rw [← Option.some.inj hv] at rvd
        obtain ⟨t, h1, h2⟩ := ht i _ (List.getElem?_eq_getElem lds)
        have et : ts[i] = t := by
          rw [List.getElem?_eq_getElem h'] at h1
          exact Option.some.inj h1
        have p1 := piled_take_succ h1
        have p2 := piled_take_le ts (i + 1)
        rw [eu, et]
        refine wpAny_mono (h2 (A.under (.builtin "list.__repr__.loop" ⟨.ref a :: args, []⟩)) _ (a :: G) _ pins σ s' H2 ι2 _ u (by omega) (Sub.loop sb _) (guards_under_guard (isGuard_list_loop _) hg) (fun x hx => ?_) (fun x hx => ?_) (fun hd => self _ (List.getElem_mem lds) hd _ rvd) I2 rl2 (way_rep s2.pre le rvd) ru) (fun t' s'' q => ?_) fun e s'' q => err e s'' q
        · exact Clear.cons (hG x fun m => hx (List.mem_cons_of_mem _ m)) fun e => hx (e ▸ List.mem_cons_self)
        · rcases List.mem_cons.mp hx with rfl | hx
          · exact ba.le le
          · exact (bad x hx).le le
        · obtain ⟨e, H3, ι3, I3, rl3, s3⟩ := q
          exact ⟨e, ι3, H3, I3, rl3, s2.trans (step_hd hm s3), (s3.hd P hm).trans hP2⟩
      have puts : PySem.Puts P ts (fun i s' => OnWay C pins σ ι st H P (ts.take i) s') (fun i s' => OnWay C pins σ ι st H P (ts.take i) s') := fun i s' ⟨ι2, H2, I2, rl2, s2, hP2⟩ h => by
        have hm := Io.under_hd s2.pre
        obtain ⟨z, its2, m2, r2, hl, e2⟩ := I2.lstM hP2
        refine ⟨its2.toArray, m2, e2, by rw [List.size_toArray]; omega, fun tk t' => ?_⟩
        have el : (ts.take (i + 1)).map V.str = (ts.take i).map V.str ++ [V.str ts[i]] := by
          rw [List.take_succ, List.getElem?_eq_getElem h, List.map_append]
          rfl
        have lz : ((ts.take i).map V.str ++ [V.str ts[i]]).length ≤ sizeLine := by
          have hz : ds.length ≤ sizeLine := by
            rw [← rr.length]
            exact (I.lstM (hide_sub g1)).1
          rw [List.length_append, List.length_map, List.length_take, List.length_singleton]
          omega
        have I3 := I2.lset (t' := t') (its' := its2 ++ [.str ts[i] tk]) (f := (·.push (.str ts[i] tk))) hP2 e2 (by simp) (r2.append (.cons (show RelV (V.str ts[i]) (.str ts[i] tk) from ⟨tk, rfl⟩) .nil)) lz
        refine ⟨ι2, upd H2 P (.lst ((ts.take i).map V.str ++ [V.str ts[i]])), I3, rl2.hdw hm _, by rw [upd2]; exact s2, by rw [upd_same, el]⟩
      have run := PySem.show_loop (a := a) (P := P) (off := b) lt room turn puts (fun s' u t' ⟨ι2, H2, I2, rl2, s2, hP2⟩ => by
        rw [← lt, List.take_length] at hP2
        obtain ⟨r3, s3, _⟩ := undone rl hP s2 rl2 hP2 (rep_texts ts)
        exact fin _ u ⟨H2, _, I2.tok t', r3, s3⟩) ds.length 0 (Nat.sub_zero _) (Nat.zero_le _) _ start
      have e0 : ((b + piled (ts.take 0) : Nat) : Int) = (b : Int) := by simp [piled]
      rw [e0] at run
      exact run
/-- called -/
theorem call_lst {n : Nat} {A : Around} {g : List Code} {G : List Addr} {Q : Value → Shared → Prop} {H : Hp} {s : Shared} {st : Store} {ι : Io} {a : Addr} {ds : List D} {ts : List Str} (sb : Sub C.X (n + 1) A) (hg : A.guards = some g) (hG : ∀ x, x ∉ G → Clear g x) (bad : ∀ x ∈ G, Bad C ι st H x)
    (I : Inv C.X pins σ H s) (rl : RelSt C.T C.xp ι st H) (rd : Rep C.T C.xp (hide ι st H) ι (.ref a) (.lst ds)) (ha : a ∉ G) (ba : Bad C ι st H a) (lt : ts.length = ds.length) (ht : ∀ (i : Nat) (d : D), ds[i]? = some d → ∃ t, ts[i]? = some t ∧ Shows C n st d t)
    (self : ∀ d ∈ ds, deepL d = true → ∀ v, Rep C.T C.xp (hide ι st H) ι v d → ∀ x ∈ a :: G, v ≠ .ref x) (ne : ds ≠ []) (room : (listText ts).length ≤ sizeLine) (hQ : ∀ s' u, Going C pins σ ι st H s' → Q (.str (listText ts) u) s') :
    wpAny (model C.X.prog C.X.w) A (call (.builtin "list.__repr__") [.ref a]) Q C.X.xe s := by
  have hT : s.TypeIs (.ref a) "list" := by
    cases rd with
    | @lst _ vs _ g1 rr =>
      obtain ⟨its, rv, ⟨oa, m, ho, hc, _, hd⟩, _⟩ := I.list (SqL.of (K := C.X.K) (hide_sub g1))
      exact ⟨oa, ho, hc⟩
  exact GQ.call_here F.slot_list_repr hT F.entry_list_repr (F.args_list_repr_1 _) (show_lst (b := 0) (R := wants Q C.X.xe) sb hg hG bad I rl rd ha ba lt ht self ne (by omega) (fun s' u h => hQ s' u h) fun e s' h => h)
/-- under another repr -/
theorem under_lst {n : Nat} {st : Store} {ds : List D} {ts : List Str} (lt : ts.length = ds.length) (ht : ∀ (i : Nat) (d : D), ds[i]? = some d → ∃ t, ts[i]? = some t ∧ Shows C n st d t) (no : ∀ d ∈ ds, deepL d = false) (hi : ∃ c xs, D.ins c xs ∈ ds) (deep : deepL (.lst ds) = true) : Shows C (n + 1) st (.lst ds) (listText ts) := fun A g G b pins σ s H ι v u room sb hg hG bad nv I rl rd ru => by
  have rd0 := rd
  cases rd with
  | @lst a vs _ g1 rr =>
    obtain rfl : u = Value.ref a := ru
    obtain ⟨its, rv, ⟨oa, m, ho, hc, _, hd⟩, _⟩ := I.list (SqL.of (K := C.X.K) (hide_sub g1))
    have hT : s.TypeIs (.ref a) "list" := ⟨oa, ho, hc⟩
    obtain ⟨c', xs, hi⟩ := hi
    have ba : Bad C ι st H a := bad_list rd0 hi fun v hv => bad_ins hv
    have ha : a ∉ G := fun m => nv deep a m rfl
    refine wpAny_pyReprUnder_ref (by omega) (wpAny_pyReprObjUnder_twin (twin := "list.__repr__.under") hT F.slot_list_repr.toG rfl sb.room.units0 (call_twin_plain F.plain_list_repr_under F.entry_list_repr_under F.check_list_repr_under hT F.slot_list_repr.toG (F.args_list_repr_1 _) ?_))
    exact show_lst (R := callEnd (fun v s' => (∃ x u, v = .str x u) ∧ ∃ x u, v = .str x u ∧ x = listText ts ∧ Going C pins σ ι st H s') C.X.xe) sb hg hG bad I rl rd0 ha ba lt ht (fun d hd h => by rw [no d hd] at h; cases h) (fun e => by rw [e] at hi; cases hi) room (fun s' u h => ⟨⟨_, _, rfl⟩, _, _, rfl, rfl, h⟩) fun e s' h => h
end
end Den

set_option maxRecDepth 100000
set_option maxHeartbeats 4000000
/-! Den: repr of a tuple with own instances among its items. -/
namespace Den
open PySem PySem.Spec PyProof.Rows L2
section
variable {C : Ctx} {c k : Nat} {r : List D → Option Str} {pins : List (Addr × Obj)} {σ : L2.St}
theorem unread_tup {h : Heap} {a e : Addr} {o : Obj} {its : List Value} {n : Nat} (ho : h.get? a = some o) (hc : o.cls = .type "tuple") (hd : o.data = .seq its.toArray n) (hm : Value.ref e ∈ its) (no : ¬ Readable h e) : ¬ Readable h a := by
  rintro ⟨q, as, rq⟩
  cases rq with
  | tuple g1 g2 g3 g4 =>
    rw [ho] at g1
    cases g1
    rw [hd] at g3
    cases g3
    exact no (reads_item (by simpa using g4) hm)
  | list g1 g2 g3 g4 =>
    rw [ho] at g1
    cases g1
    rw [hc] at g2
    simp at g2
  | dict g1 g2 g3 g4 g5 =>
    rw [ho] at g1
    cases g1
    rw [hc] at g2
    simp at g2
theorem le_tK {G G' : Hp} {K : PySem.W.Frag} {a : Addr} {xs : List V} (l : Le G G') (h : SqT K G a xs) : SqT K G' a xs := le_t l h
theorem bad_tup {ι : Io} {st : Store} {H : Hp} {a : Addr} {ds : List D} {d : D} (rd : Rep C.T C.xp (hide ι st H) ι (.ref a) (.tup ds)) (hd : d ∈ ds) (bad : ∀ v, Rep C.T C.xp (hide ι st H) ι v d → ∃ e, v = .ref e ∧ Bad C ι st H e) : Bad C ι st H a := by
  cases rd with
  | @tup _ vs _ g1 rr =>
    obtain ⟨i, hi⟩ := List.mem_iff_getElem?.mp hd
    obtain ⟨v, hv, rv⟩ := rr.get hi
    obtain ⟨e, rfl, be⟩ := bad v rv
    intro pins σ s' ι' st' H' I q
    obtain ⟨its, r, ⟨o, ho, hc, n, hdd⟩, _⟩ := I.tuple (show SqT C.X.K H' a vs by rw [C.hK]; exact le_t ((Le.trans q (hide_le _ _ _))) g1)
    obtain ⟨u, hu, ru⟩ := r.get hv
    obtain rfl : u = Value.ref e := ru
    exact unread_tup ho hc hdd (List.mem_of_getElem? hu) (be pins σ s' ι' st' H' I q)
/-- the items of a tuple, one by one -/
theorem fold_tup {n : Nat} {A : Around} {g : List Code} {G : List Addr} {st : Store} {H : Hp} {ι : Io} {Q : (Array Str × Nat) → Shared → Prop} (sb : Sub C.X n A) (hg : A.guards = some g) (hG : ∀ x, x ∉ G → Clear g x) (bad : ∀ x ∈ G, Bad C ι st H x) : ∀ (l : List Value) (vs : List V) (ds : List D) (ts : List Str) (acc : Array Str) (p : Nat) (s : Shared),
    Vals vs l → RepL C.T C.xp (hide ι st H) ι vs ds → (∀ (i : Nat) (d : D), ds[i]? = some d → ∃ t, ts[i]? = some t ∧ Shows C n st d t) → ts.length = ds.length → (∀ d ∈ ds, deepL d = false) → p + piled ts ≤ sizeLine → Going C pins σ ι st H s →
    (∀ s', Going C pins σ ι st H s' → Q ⟨acc ++ ts.toArray, p + piled ts⟩ s') → wpAny (model C.X.prog C.X.w) A (forIn l (⟨acc, p⟩ : (Array Str × Nat)) tupBody) Q C.X.xe s
  | [], _, _, ts, acc, p, s, hv, hr, _, hl, _, _, go, fin => by
    cases hv
    cases hr
    have e : ts = [] := List.length_eq_zero_iff.mp hl
    subst e
    simp only [List.forIn_nil]
    have := fin s go
    exact wpAny_pure (by simpa [piled] using this)
  | x :: l, _, _, ts, acc, p, s, hv, hr, ht, hl, nd, room, go, fin => by
    cases hv with
    | cons r1 r2 =>
      cases hr with
      | cons q1 q2 =>
        cases ts with
        | nil => simp at hl
        | cons t ts =>
          obtain ⟨t', e1, h1⟩ := ht 0 _ rfl
          have et : t = t' := by simpa using e1
          subst et
          rw [piled_cons] at room
          obtain ⟨H1, ι1, I1, rl1, s1⟩ := go
          rw [List.forIn_cons]
          refine wpAny_bind (wpAny_bind (wpAny_mono (h1 A g G (p + 1) pins σ s H1 ι1 _ x (by omega) sb hg hG (fun a ha => (bad a ha).le s1.ex) (fun z => by rw [nd _ List.mem_cons_self] at z; cases z) I1 rl1 (q1.mono s1.ex s1.pre) r1) (fun t'' s'' z => ?_) fun _ _ z => z))
          obtain ⟨et, H2, ι2, I2, rl2, s2⟩ := z
          subst et
          refine wpAny_pure ?_
          refine fold_tup sb hg hG bad l _ _ ts (acc.push t'') (p + (t''.length + 2)) s'' r2 q2 (fun i d hd => ?_) (by simpa using hl) (fun d hd => nd d (List.mem_cons_of_mem _ hd)) (by omega) ⟨H2, ι2, I2, rl2, s1.trans s2⟩ fun s3 g3 => ?_
          · obtain ⟨t3, e3, h3⟩ := ht (i + 1) d (by simpa using hd)
            exact ⟨t3, by simpa using e3, h3⟩
          · have z := fin s3 g3
            have e : p + piled (t'' :: ts) = p + (t''.length + 2) + piled ts := by rw [piled_cons]; omega
            rw [e] at z
            simpa using z
theorem tup_depth {A : Around} {args : Args} : (A.under (.builtin "tuple.__repr__" args)).depth ≤ A.depth + 1 := by
  first | exact Nat.le_refl _ | exact Nat.le_succ _ | simp [Around.under, Code.weight, Code.isCreation, Code.isGuard, Code.isCaller, Code.frames, Code.isFrame, guardIds]
theorem tup_hd {A : Around} {args : Args} : (A.under (.builtin "tuple.__repr__" args)).handled = A.handled := by
  first | rfl | simp [Around.under]
theorem tup_frames {A : Around} {args : Args} : (A.under (.builtin "tuple.__repr__" args)).frames = A.frames := by
  first | rfl | simp [Around.under, Code.frames, Code.isFrame]
theorem Sub.tup {X : Cx} {n : Nat} {A : Around} (s : Sub X (n + 1) A) (args : Args) : Sub X n (A.under (.builtin "tuple.__repr__" args)) := by
  have h1 := tup_depth (A := A) (args := args)
  have h2 := units_under_tuple_repr A args
  have r := s.room
  exact ⟨⟨tup_hd.trans r.hd, by have := r.dp; omega, by have := r.un; omega⟩, tup_frames.trans s.fr⟩
/-- called -/
theorem call_tup {n : Nat} {A : Around} {g : List Code} {G : List Addr} {Q : Value → Shared → Prop} {H : Hp} {s : Shared} {st : Store} {ι : Io} {a : Addr} {ds : List D} {ts : List Str} (sb : Sub C.X (n + 1) A) (hg : A.guards = some g) (hG : ∀ x, x ∉ G → Clear g x) (bad : ∀ x ∈ G, Bad C ι st H x)
    (I : Inv C.X pins σ H s) (rl : RelSt C.T C.xp ι st H) (rd : Rep C.T C.xp (hide ι st H) ι (.ref a) (.tup ds)) (ha : a ∉ G) (ba : Bad C ι st H a) (lt : ts.length = ds.length) (ht : ∀ (i : Nat) (d : D), ds[i]? = some d → ∃ t, ts[i]? = some t ∧ Shows C n st d t)
    (nd : ∀ d ∈ ds, deepL d = false) (room : (tupleText ts).length ≤ sizeLine) (hQ : ∀ s' u, Going C pins σ ι st H s' → Q (.str (tupleText ts) u) s') :
    wpAny (model C.X.prog C.X.w) A (call (.builtin "tuple.__repr__") [.ref a]) Q C.X.xe s := by
  cases rd with
  | @tup _ vs _ g1 rr =>
    obtain ⟨its, rv, ⟨oa, ho, hc, m, hd⟩, _⟩ := I.tuple (show SqT C.X.K H a vs by rw [C.hK]; exact le_t (hide_le _ _ _) g1)
    have lp := piled_le_tupleText ts
    have li : ts.length = its.length := by rw [lt, ← rr.length, rv.length]
    refine wpAny_call (codeAny_call_builtin_own (Code.quiet_builtin _ (by decide +kernel)) F.entry_tuple_repr (F.slot_tuple_repr.check _ _ _ _ _ _ _ _ ⟨oa, ho, hc⟩ (F.args_tuple_repr_1 _) ?_))
    show wpOwn _ _ _ (Builtin.tupleReprAt 0 ⟨[.ref a], []⟩) _ _ s
    rw [tuple_repr_tree, tupleReprUnderWay_eq]
    refine wpOwn_bind (wpOwn_stackTailAny hg (tupGuardF_off _) (tupGuardF_pos _) ?_)
    rw [show (g.any fun c => tupGuardF (.ref a) (c, default)) = false by
      rw [List.any_eq_false]
      intro c hcm
      rw [tupGuardF_of_clear (hG a ha) c hcm]
      exact Bool.false_ne_true]
    refine wpOwn_of_wpAny ?_
    show wpAny _ _ (tupleReprRest 0 (.ref a)) _ _ s
    unfold tupleReprRest Builtin.Tuple.tupleItemsOf
    refine wpAny_bind (wpAny_bind (wpAny_seqItems ho hd (wpAny_pure ?_)))
    rw [← Array.forIn_toList]
    refine wpAny_bind (fold_tup (pins := pins) (σ := σ) (G := a :: G) (ι := ι) (H := H) (Sub.tup sb _) (guards_under_guard (isGuard_tuple_repr _) hg) (fun x hx => Clear.cons (hG x fun m => hx (List.mem_cons_of_mem _ m)) fun e => hx (e ▸ List.mem_cons_self)) (fun x hx => by
      rcases List.mem_cons.mp hx with rfl | hx
      · exact ba
      · exact bad x hx) _ vs ds ts #[] 0 s (by simpa using rv) rr ht lt nd (by omega) ⟨H, ι, I, rl, Step.refl _ _ _⟩ fun s' go => ?_)
    have e : (("(" : Str) ++ Str.join ", " (#[] ++ ts.toArray).toList ++ (if its.toArray.size == 1 then ",)" else ")" : String)) = tupleText ts := by
      unfold tupleText
      rw [List.size_toArray, ← li]
      simp
    dsimp only
    rw [e]
    refine wpAny_bind (wpAny_mkStr (wpAny_pure ?_) room)
    obtain ⟨H', ι', I', rl', sp⟩ := go
    exact hQ _ _ ⟨H', ι', I'.tok _, rl', sp⟩
end
end Den

set_option maxRecDepth 100000
set_option maxHeartbeats 4000000
/-! Den: repr of a dict whose values' reprs run defs. -/
namespace Den
open PySem PySem.Spec PyProof.Rows L2
section
variable {C : Ctx} {c k : Nat} {r : List D → Option Str} {pins : List (Addr × Obj)} {σ : L2.St}
theorem unread_dic {h : Heap} {a e : Addr} {o : Obj} {es : Array DictEntry} {n : Nat} (ho : h.get? a = some o) (hc : o.cls = .type "dict") (hd : o.data = .dict es n) (hm : Value.ref e ∈ es.toList.map (·.val)) (no : ¬ Readable h e) : ¬ Readable h a := by
  rintro ⟨q, as, rq⟩
  cases rq with
  | dict g1 g2 g3 g4 g5 =>
    rw [ho] at g1
    cases g1
    rw [hd] at g3
    cases g3
    exact no (reads_item g5 hm)
  | list g1 g2 g3 g4 =>
    rw [ho] at g1
    cases g1
    rw [hc] at g2
    simp at g2
  | tuple g1 g2 g3 g4 =>
    rw [ho] at g1
    cases g1
    rw [hc] at g2
    simp at g2
theorem dic_depth {A : Around} {args : Args} : (A.under (.builtin "dict.__repr__" args)).depth ≤ A.depth + 1 := by
  first | exact Nat.le_refl _ | exact Nat.le_succ _ | simp [Around.under, Code.weight, Code.isCreation, Code.isGuard, Code.isCaller, Code.frames, Code.isFrame, guardIds]
theorem dic_hd {A : Around} {args : Args} : (A.under (.builtin "dict.__repr__" args)).handled = A.handled := by
  first | rfl | simp [Around.under]
theorem dic_frames {A : Around} {args : Args} : (A.under (.builtin "dict.__repr__" args)).frames = A.frames := by
  first | rfl | simp [Around.under, Code.frames, Code.isFrame]
theorem Sub.dic {X : Cx} {n : Nat} {A : Around} (s : Sub X (n + 1) A) (args : Args) : Sub X n (A.under (.builtin "dict.__repr__" args)) := by
  have h1 := dic_depth (A := A) (args := args)
  have h2 := units_under_dict_repr A args
  have r := s.room
  exact ⟨⟨dic_hd.trans r.hd, by have := r.dp; omega, by have := r.un; omega⟩, dic_frames.trans s.fr⟩
/-- a key's text -/
def keyT (q : Key) : Str := (keyD q).shown
theorem key_run {A : Around} {g : List Code} {b : Nat} {s : Shared} {H : Hp} {st : Store} {ι : Io} {q : Key} {u : Value} (hk : keyIs q u = true) (sh : (keyD q).showable = true) (room : b + (keyT q).length ≤ sizeLine) (hg : A.guards = some g) (hu : A.units + 64 < cLine) (go : Going C pins σ ι st H s) :
    wpAny (model C.X.prog C.X.w) A (pyReprUnder b u) (fun t' s' => t' = keyT q ∧ Going C pins σ ι st H s') C.X.xe s := by
  obtain ⟨H1, ι1, I, rl, sp⟩ := go
  have rk : Reads s.heap u (keyD q) [] := reads_key hk
  have dz : (keyD q).depth = 0 := by cases q <;> simp [keyD, PyData.depth]
  have nd : (keyD q).hasDict = false := by cases q <;> simp [keyD, PyData.hasDict]
  have lz : (keyD q).shown.length ≤ sizeLine := by unfold keyT at room; omega
  have is : ReprK C.X.prog C.X.w [] s.heap 0 u (keyD q).shown := by
    obtain ⟨bs, most, kr⟩ := ReprK.of_reads (prog := C.X.prog) (w := C.X.w) rk sh (fun e => by rw [nd] at e; cases e) lz
    rw [dz] at kr
    cases q with
    | _ =>
      first
        | (rcases keyIs_shape hk with ⟨i, t, e1, e2⟩ | ⟨x, t, e1, e2⟩ <;> cases e1 <;> subst e2 <;> simp only [keyD, PyData.shown] <;> first
            | exact .of_is (ReprIs.int t (by simpa [PyData.showable, keyD] using sh)) _ _ _
            | exact .of_is (ReprIs.str _ t (by simpa only [PyData.shown, keyD] using lz)) _ _ _)
  exact is b room A g C.X.xe s _ hg (fun _ z => (nomatch z)) (by omega) (fun _ _ e => e) fun h' tk hk' => ⟨rfl, H1, ι1, I.kept hk', rl, sp⟩
/-- called, where no other repr is under way -/
theorem call_dic {n : Nat} {A : Around} {Q : Value → Shared → Prop} {H : Hp} {s : Shared} {st : Store} {ι : Io} {a : Addr} {q : Key} {d : D} {t : Str} (sb : Sub C.X (n + 1) A) (hg : A.guards = some [])
    (I : Inv C.X pins σ H s) (rl : RelSt C.T C.xp ι st H) (rd : Rep C.T C.xp (hide ι st H) ι (.ref a) (.dic [q] [d])) (sh : (keyD q).showable = true) (bv : ∀ v, Rep C.T C.xp (hide ι st H) ι v d → ∃ e, v = .ref e ∧ e ≠ a ∧ Bad C ι st H e) (ht : Shows C n st d t)
    (room : (dictText [keyT q ++ ": " ++ t]).length ≤ sizeLine) (hQ : ∀ s' u, Going C pins σ ι st H s' → Q (.str (dictText [keyT q ++ ": " ++ t]) u) s') :
    wpAny (model C.X.prog C.X.w) A (call (.builtin "dict.__repr__") [.ref a]) Q C.X.xe s := by
  cases rd with
  | @dic _ o _ xs _ g1 hl rr =>
    have at_ : ∀ {pins' : List (Addr × Obj)} {σ' : L2.St} {s' : Shared} {st' : Store} {H' : Hp} {ι' : Io}, Inv C.X pins' σ' H' s' → Le (hide ι st H) (hide ι' st' H') → s'.heap.get? a = some o := fun I' l => (I'.hok _ _ (hide_sub (l _ _ g1))).1
    obtain ⟨_, _, hns, vs, kv, o', es, ep, ho, ex, hd, hk, hp2, _⟩ := I.hok _ _ (hide_sub g1)
    have h0 := at_ I (Le.refl _)
    rw [h0] at ho
    cases ho
    obtain ⟨hv, _⟩ := dict_parts (h := s.heap) hl kv hp2
    cases rr with
    | @cons v _ _ _ r1 r2 =>
      cases r2
      have es1 : ∃ e, es.toList = [e] ∧ keyIs q e.key = true ∧ RelV v e.val := by
        have kv' : Paired (fun (p : Key × V) (q : Key × Value) => p.1 = q.1 ∧ RelV p.2 q.2) [(q, v)] vs := kv
        cases kv' with
        | cons r rs =>
          cases rs
          generalize hes : es.toList = el at hp2
          cases hp2 with
          | cons z1 z2 z3 =>
            cases z3
            obtain ⟨w1, w2⟩ := r
            exact ⟨_, rfl, by rw [show q = _ from w1]; exact z1, by rw [z2]; exact w2⟩
      obtain ⟨e, he, ke, re⟩ := es1
      obtain ⟨w, rfl, wa, bw⟩ := bv v r1
      have hsz : es.size = 1 := by
        have := congrArg List.length he
        simpa using this
      have ba : Bad C ι st H a := fun pins' σ' s' ι' st' H' I' l => unread_dic (at_ I' l) ex.1 hd (by rw [he]; exact List.mem_singleton.mpr (show Value.ref w = e.val from (show e.val = Value.ref w from re).symm)) (bw pins' σ' s' ι' st' H' I' l)
      have lp := piled_le_dictText [keyT q ++ ": " ++ t]
      have lt : (keyT q ++ ": " ++ t).length = (keyT q).length + 2 + t.length := by
        rw [strLen_append, strLen_append]
        rfl
      rw [piled_cons, piled_nil, lt] at lp
      have hT : s.TypeIs (.ref a) "dict" := ⟨o, h0, ex.1⟩
      refine wpAny_call (codeAny_call_builtin_own (Code.quiet_builtin _ (by decide +kernel)) F.entry_dict_repr (F.slot_dict_repr.check _ _ _ _ _ _ _ _ hT (F.args_dict_repr_1 _) ?_))
      show wpOwn _ _ _ (Builtin.dictReprAt 0 ⟨[.ref a], []⟩) _ _ s
      unfold Builtin.dictReprAt
      refine wpOwn_bind (wpOwn_of_wpAny ?_)
      unfold Builtin.Dict.dictSlotNone
      refine wpAny_bind (wpAny_notOrdered_dict hT ?_)
      show wpAny _ _ (pure (Value.ref a)) _ _ s
      refine wpAny_pure ?_
      rw [dictReprRunning_eq]
      refine wpOwn_bind (wpOwn_stackTailAny hg (dictGuardF_off _) (dictGuardF_pos _) (wpOwn_of_wpAny ?_))
      rw [List.any_nil]
      have hg' := guards_under_guard (isGuard_dict_repr ⟨[.ref a], []⟩) hg
      have sb' := Sub.dic sb ⟨[.ref a], []⟩
      show wpAny _ _ (Builtin.Dict.addrOf (.ref a) >>= _) _ _ s
      refine wpAny_bind (wpAny_pure ?_)
      show wpAny _ _ (Builtin.Dict.showsAll a >>= _) _ _ s
      unfold Builtin.Dict.showsAll
      rw [if_neg (by rw [hns]; exact Bool.false_ne_true)]
      refine wpAny_bind (wpAny_pure (wpAny_bind (wpAny_dictEpoch h0 hd (wpAny_bind (wpAny_dictEntries h0 hd (wpAny_bind ?_))))))
      rw [Std.Legacy.Range.forIn_eq_forIn_range']
      simp only [Std.Legacy.Range.size, Nat.sub_zero, Nat.add_sub_cancel, Nat.div_one]
      rw [hsz, show List.range' 0 1 = [0] from rfl, List.forIn_cons]
      have e0 : es[0]? = some e := by
        rw [← Array.getElem?_toList, he]
        rfl
      refine wpAny_bind (wpAny_bind (wpAny_dictEntries h0 hd ?_))
      rw [e0]
      refine wpAny_bind (wpAny_holding (wpAny_bind (wpAny_mono (key_run ke sh (by omega) hg' sb'.room.units ⟨H, ι, I, rl, Step.refl _ _ _⟩) (fun t1 s1 z => ?_) fun _ _ z => z)))
      obtain ⟨e1, H1, ι1, I1, rl1, sp1⟩ := z
      subst e1
      have r1' := r1.mono sp1.ex sp1.pre
      refine wpAny_bind (wpAny_mono (ht _ _ [a] _ pins σ s1 H1 ι1 (.ref w) e.val (by omega) sb' hg' (fun x hx => Clear.cons (Clear.nil x) fun y => hx (y ▸ List.mem_cons_self)) (fun x hx => by rw [List.mem_singleton.mp hx]; exact ba.le sp1.ex) (fun _ x hx y => wa (by rw [List.mem_singleton.mp hx] at y; cases y; rfl)) I1 rl1 r1' re) (fun t2 s2 z => wpAny_pure ?_) fun _ _ z => z)
      obtain ⟨e2, H2, ι2, I2, rl2, sp2⟩ := z
      subst e2
      have sp := sp1.trans sp2
      have h2 := at_ I2 sp.ex
      refine wpAny_bind (wpAny_dictEpoch h2 hd ?_)
      rw [if_neg (by simp)]
      refine wpAny_pure ?_
      show wpAny _ _ (forIn ([] : List Nat) _ _) _ _ _
      rw [List.forIn_nil]
      refine wpAny_pure (wpAny_bind (wpAny_mkStr (wpAny_pure ?_) (by simpa [dictText] using Nat.le_trans room (Nat.le_refl _))))
      have z := hQ { s2 with toks := s2.toks + 1 } s2.toks ⟨H2, ι2, I2.tok _, rl2, sp⟩
      simpa [dictText] using z
end
end Den

set_option maxRecDepth 100000
set_option maxHeartbeats 4000000
/-! Den: repr(x) of things that hold own instances, as a rule. -/
namespace Den
open PySem PySem.Spec PyProof.Rows L2
def isIns (c : Nat) : D → Bool
  | .ins c' _ => c' == c
  | _ => false
/-- the text of a thing that is no datum -/
def topT (c : Nat) (r : List D → Option Str) : D → Option Str
  | .ins c' xs => if c' = c then r xs else none
  | .tup ds => if ds.any (isIns c) = true then (leafs c r ds).map tupleText else none
  | .dic [q] [.lst es] => if es.any (isIns c) = true ∧ (keyD q).showable = true then (leafs c r es).map fun ts => dictText [keyT q ++ ": " ++ listText ts] else none
  | .lst ds => if ds.any (isIns c) = true then (leafs c r ds).map listText else (match ds with
    | [.lst es] => if es.any (isIns c) = true then (leafs c r es).map fun ts => listText [listText ts] else none
    | _ => none)
  | _ => none
def gReprI (c : Nat) (r : List D → Option Str) (x : D) (_ : Store) : Option D := match topT c r x with
  | some t => if t.length ≤ 1000000 then some (.str t) else none
  | none => none
theorem leaf_flat {c : Nat} {r : List D → Option Str} {d : D} {t : Str} (h : leafT c r d = some t) : deepL d = false := by
  rcases leafT_cases h with ⟨xs, rfl, _⟩ | ⟨p, hp, _⟩
  · rfl
  · unfold deepL
    split
    · rw [hp]; rfl
    · rfl
theorem leafs_flat {c : Nat} {r : List D → Option Str} {ds : List D} {ts : List Str} (h : leafs c r ds = some ts) : ∀ d ∈ ds, deepL d = false := fun d hd => by
  obtain ⟨i, hi⟩ := List.mem_iff_getElem?.mp hd
  obtain ⟨t, _, e⟩ := leafs_at h hi
  exact leaf_flat e
theorem any_ins {c : Nat} {ds : List D} (h : ds.any (isIns c) = true) : ∃ xs, D.ins c xs ∈ ds := by
  obtain ⟨d, hd, e⟩ := List.any_eq_true.mp h
  cases d <;> first | (cases e; done) | skip
  rename_i c' xs
  have : c' = c := eq_of_beq e
  subst this
  exact ⟨xs, hd⟩
theorem deep_of {c : Nat} {xs : List D} : ∀ {ds : List D}, D.ins c xs ∈ ds → toPyRL ds = none
  | [], h => absurd h List.not_mem_nil
  | d :: ds, h => by
    rcases List.mem_cons.mp h with rfl | h
    · simp [toPyRL, toPyR]
    · have := deep_of h
      unfold toPyRL
      rw [this]
      cases toPyR d <;> rfl
theorem deep_list {c : Nat} {ds : List D} (h : ds.any (isIns c) = true) : deepL (.lst ds) = true := by
  obtain ⟨xs, hx⟩ := any_ins h
  unfold deepL
  simp only [toPyR, deep_of hx, Option.map_none, Option.isNone_none]
section
variable {C : Ctx} {c k : Nat} {r : List D → Option Str}
def rReprI (C : Ctx) (c : Nat) (r : List D → Option Str) : List V → Hp → VK → Prop := fun xs H Q => ∃ ι st v x t, xs = [v] ∧ RelSt C.T C.xp ι st H ∧ Rep C.T C.xp (hide ι st H) ι v x ∧ topT c r x = some t ∧ t.length ≤ 1000000 ∧ ∀ H' ι', Step ι st H ι' st H' → RelSt C.T C.xp ι' st H' → Q (.str t) H'
theorem items_leaf (o : OwnR C c k r) {st : Store} {ds : List D} {ts : List Str} (h : leafs c r ds = some ts) : ∀ (i : Nat) (d : D), ds[i]? = some d → ∃ t, ts[i]? = some t ∧ Shows C (k + 4) st d t := fun i d hd => by
  obtain ⟨t, e1, e2⟩ := leafs_at h hd
  exact ⟨t, e1, shows_leaf o e2⟩
theorem call_reprI (o : OwnR C c k r) (hr : RoomG (k + 8) C.X.A) : CallR C.X (.builtin "repr") (rReprI C c r) := by
  intro pins s σ H xs us Q I rv h
  obtain ⟨ι, st, v, x, t, rfl, rl, rd, ht, hl, q⟩ := h
  obtain ⟨u, rfl, ru⟩ := vals1 rv
  have lz : t.length ≤ sizeLine := Nat.le_trans hl (by decide)
  have fin : ∀ {t' : Str}, t = t' → ∀ s' u', Going C pins σ ι st H s' → EP C.X pins σ Q (.str t' u') s' := fun e s' u' ⟨H', ι', I', rl', sp⟩ => by
    subst e
    exact ⟨.str _, H', I', ⟨_, rfl⟩, q H' ι' sp rl'⟩
  have sb : Sub C.X (k + 7) C.X.A.in1 := ⟨hr.room.in1, rfl⟩
  have hg : C.X.A.in1.guards = some [] := hr.gd
  have un := hr.room.un
  unfold topT at ht
  split at ht
  · rename_i c' xs
    split at ht
    · rename_i e
      subst e
      obtain ⟨i, m, d, hm⟩ := o.ex
      have hm := hm xs t st ht
      cases rd with
      | @ins a dx _ vs _ g1 l1 r1 =>
        obtain rfl : u = Value.ref a := ru
        obtain ⟨mA, J, _⟩ := ins_get I.hok (hide_sub g1)
        obtain ⟨od, J, _⟩ := J.look
        obtain ⟨m', hF⟩ := I.fr
        obtain ⟨fd, ps, F, hbi, hp⟩ := d.ex
        have sp : spM C.T ps.length m [.ref a] H (fun w H' => w = .str t ∧ ∃ ι', RelSt C.T C.xp ι' st H' ∧ Step ι st H ι' st H') (fun c d H' => C.W c d σ H') := by
          refine ⟨hp.symm, C.xp, [.ins c' xs], st, ι, .cons (.ins g1 l1 r1) .nil, rl, ?_⟩
          rw [hm]
          intro w ι' H' s' r' e'
          cases e'
          exact ⟨rfl, ι', r', s'⟩
        have bb := hbi s [Value.ref a] (by rw [← C.hK]; exact I.kIn) hp.symm
        rw [List.append_nil] at bb
        refine PySem.W.repr_K (f := C.T.fa i) hr.room.in1.units0 hF I.ok.mod.kin J (by rw [C.hK]; exact d.at_) (by rw [C.hK]; exact d.fn) ?_
        have F' : FnX C.X.prog C.X.w C.X.K C.X.mg C.X.base k (C.T.fa i) fd ps (spM C.T ps.length m) := by rw [C.hK]; exact F
        have run := F'.run C.X.A.in1 C.X.stack s H ⟨[.ref a], []⟩ [.ref a] [.ref a] _ _ (sb.room.mono (by omega)) (env_at I rfl) bb (.cons rfl .nil) sp
        refine wpAny_call (codeAny_mono run fun rs s' z => ?_)
        match rs, ends_of I o.tk (fun _ _ _ h => h) z with
        | .error e, z' => exact z'
        | .ok (.ret w), ⟨v', H', I', rv', ⟨ev, ι', r', st'⟩⟩ =>
          subst ev
          obtain ⟨tk, rfl⟩ := rv'
          exact fin rfl s' tk ⟨H', ι', I', r', st'⟩
        | .ok .next, z' => exact False.elim z'
        | .ok .brk, z' => exact False.elim z'
        | .ok .cont, z' => exact False.elim z'
    · cases ht
  · rename_i ds
    split at ht
    · rename_i hi
      obtain ⟨ts, h1, h2⟩ := Option.map_eq_some_iff.mp ht
      obtain ⟨ys, hy⟩ := any_ins hi
      have rd0 := rd
      cases rd with
      | @tup a vs _ g1 rr =>
        obtain rfl : u = Value.ref a := ru
        obtain ⟨its, _, ⟨oa, ho, hc, n, hd⟩, _⟩ := I.tuple (show SqT C.X.K H a vs by rw [C.hK]; exact le_t (hide_le _ _ _) g1)
        refine call_repr_slot (by show C.X.A.units + 1 < cLine; omega) ⟨oa, ho, hc⟩ F.slot_tuple_repr ?_
        exact call_tup (G := []) (n := k + 4) (sb.mono (by omega)) hg (fun x _ => Clear.nil x) (fun x hx => absurd hx List.not_mem_nil) I rl rd0 List.not_mem_nil (bad_tup rd0 hy fun v hv => bad_ins hv) (leafs_len h1) (items_leaf o h1) (leafs_flat h1) (by rw [h2]; exact lz) fun s' u' go => ⟨_, _, rfl, fin h2.symm s' u' go⟩
    · cases ht
  · rename_i kq es
    split at ht
    · rename_i hi
      obtain ⟨ts, h1, h2⟩ := Option.map_eq_some_iff.mp ht
      obtain ⟨ys, hy⟩ := any_ins hi.1
      have rd0 := rd
      cases rd with
      | @dic a od _ xs _ g1 hl' rr =>
        obtain rfl : u = Value.ref a := ru
        obtain ⟨hob, _, hns, vs, kv, o', es', ep, ho, ex, hd, hk, hp2, _⟩ := I.hok _ _ (hide_sub g1)
        refine call_repr_slot (by show C.X.A.units + 1 < cLine; omega) ⟨o', ho, ex.1⟩ F.slot_dict_repr ?_
        have hb : ∀ v, Rep C.T C.xp (hide ι st H) ι v (.lst es) → ∃ e, v = .ref e ∧ e ≠ a ∧ Bad C ι st H e := fun v hv => by
          have hv0 := hv
          cases hv with
          | @lst e ws _ g2 rr2 =>
            refine ⟨e, rfl, fun z => ?_, bad_list hv0 hy fun v hv => bad_ins hv⟩
            subst z
            rw [g1] at g2
            cases g2
        exact call_dic (n := k + 5) (sb.mono (by omega)) hg I rl rd0 hi.2 hb (under_lst (leafs_len h1) (items_leaf o h1) (leafs_flat h1) ⟨c, ys, hy⟩ (deep_list hi.1)) (by rw [h2]; exact lz) fun s' u' go => ⟨_, _, rfl, fin h2.symm s' u' go⟩
    · cases ht
  · rename_i ds
    split at ht
    · rename_i hi
      obtain ⟨ts, h1, h2⟩ := Option.map_eq_some_iff.mp ht
      obtain ⟨ys, hy⟩ := any_ins hi
      have rd0 := rd
      cases rd with
      | @lst a vs _ g1 rr =>
        obtain rfl : u = Value.ref a := ru
        obtain ⟨its, _, ⟨oa, n, ho, hc, _, hd⟩, _⟩ := I.list (SqL.of (K := C.X.K) (hide_sub g1))
        refine call_repr_slot (by show C.X.A.units + 1 < cLine; omega) ⟨oa, ho, hc⟩ F.slot_list_repr.toG ?_
        exact call_lst (G := []) (n := k + 4) (sb.mono (by omega)) hg (fun x _ => Clear.nil x) (fun x hx => absurd hx List.not_mem_nil) I rl rd0 List.not_mem_nil (bad_list rd0 hy fun v hv => bad_ins hv) (leafs_len h1) (items_leaf o h1) (fun d hd h => by rw [leafs_flat h1 d hd] at h; cases h) (fun e => by rw [e] at hy; cases hy) (by rw [h2]; exact lz) fun s' u' go => ⟨_, _, rfl, fin h2.symm s' u' go⟩
    · split at ht
      · rename_i es _
        split at ht
        · rename_i hi
          obtain ⟨ts, h1, h2⟩ := Option.map_eq_some_iff.mp ht
          obtain ⟨ys, hy⟩ := any_ins hi
          have rd0 := rd
          cases rd with
          | @lst a vs _ g1 rr =>
            obtain rfl : u = Value.ref a := ru
            obtain ⟨its, _, ⟨oa, n, ho, hc, _, hd⟩, _⟩ := I.list (SqL.of (K := C.X.K) (hide_sub g1))
            have inner : ∀ v, Rep C.T C.xp (hide ι st H) ι v (.lst es) → ∃ e, v = .ref e ∧ Bad C ι st H e := fun v hv => by
              have hv0 := hv
              cases hv with
              | @lst e ws _ g2 rr2 => exact ⟨e, rfl, bad_list hv0 hy fun v hv => bad_ins hv⟩
            refine call_repr_slot (by show C.X.A.units + 1 < cLine; omega) ⟨oa, ho, hc⟩ F.slot_list_repr.toG ?_
            refine call_lst (G := []) (n := k + 5) (ts := [listText ts]) (sb.mono (by omega)) hg (fun x _ => Clear.nil x) (fun x hx => absurd hx List.not_mem_nil) I rl rd0 List.not_mem_nil (bad_list rd0 (List.mem_singleton.mpr rfl) inner) rfl (fun i d hd => ?_) (fun d hd h v hv x hx => ?_) (by simp) (by rw [h2]; exact lz) fun s' u' go => ⟨_, _, rfl, fin h2.symm s' u' go⟩
            · cases i with
              | zero =>
                simp only [List.getElem?_cons_zero, Option.some.injEq] at hd
                subst hd
                exact ⟨_, rfl, under_lst (leafs_len h1) (items_leaf o h1) (leafs_flat h1) ⟨c, ys, hy⟩ (deep_list hi)⟩
              | succ i => simp at hd
            · rw [List.mem_singleton.mp hd] at hv
              rw [List.mem_singleton.mp hx]
              intro ev
              subst ev
              cases hv with
              | @lst _ ws _ g2 rr2 =>
                rw [g1] at g2
                cases g2
                cases rr with
                | @cons v0 _ _ _ p1 p2 =>
                  cases p2
                  cases rr2 with
                  | cons p3 p4 =>
                    cases p4
                    rw [List.mem_singleton] at hy
                    subst hy
                    cases p1 with
                    | lst g3 _ =>
                      cases p3 with
                      | ins g4 _ _ => rw [g3] at g4; cases g4
        · cases ht
      · cases ht
  · cases ht
theorem blt_reprI (o : OwnR C c k r) (hr : RoomG (k + 8) C.X.A) : BltD C "repr" (one (gReprI c r)) := ⟨_, call_reprI o hr, fun ι st H xs ds d st' Q rl rx e q => by
  obtain ⟨x, rfl, hg, rfl⟩ := one_some e
  obtain ⟨v, rfl, rv⟩ := repL_one rx
  unfold gReprI at hg
  split at hg
  · rename_i t ht
    split at hg
    · rename_i hl
      cases hg
      exact ⟨ι, _, v, x, t, rfl, rl, rv, ht, hl, fun H' ι' sp rl' => q _ ι' H' sp rl' (.str _)⟩
    · cases hg
  · cases hg⟩
end
end Den

set_option maxRecDepth 100000
set_option maxHeartbeats 4000000
/-! Den: a dict of one name, != of lists of unlike lengths. -/
namespace Den
open PySem PySem.Spec PyProof.Rows L2
section
variable {C : Ctx}
/-- {i: x} with a name as its value -/
def dDicV (i : Int) (j : Nat) : DE := fun ρ st => (dVar j ρ st).bind fun d s => .ok (.dic [.inl i] [d]) s
theorem pd_dicV {j : Nat} {x : Str} {i : Int} {ke : Expr} {pos pos2 : Pos} (hk : PE C.X ke (tC (.int i))) (hN : C.X.N[j]? = some x) (hv : Vis C.X.env.scope x) (hd : (x == ("__debug__" : Str)) = false := by decide) (hcd : (x == ("__classdict__" : Str)) = false := by decide) : PD C (.Dict [some ke] [.Name x pos2] pos) (dDicV i j) :=
  PE.imp (pe_lock (pe_disp (pps_cons hk (pe_var hN hv hd hcd) pps_nil) rfl rfl (by simp) (by simp))) fun σ H Q ⟨ρ, st, ι, er, rl, p⟩ q hq => by
    unfold dDicV dVar at p
    split at p
    · rename_i d hd
      obtain ⟨v, hv, rv⟩ := er.at_ j d hd
      refine ⟨v, hv, upd_same, [(.inl i, v)], rfl, by simp, ?_⟩
      refine ⟨q, .dK [(.inl i, v)], rfl, upd_same, trivial, fun od => ?_⟩
      rw [upd_two, upd_two]
      obtain ⟨r1, s1, h1⟩ := rl.new (o := .frz od (.dK [(.inl i, v)])) hq
      exact p _ ι _ s1 r1 (.dic (xs := [v]) h1 rfl (.cons (rv.mono s1.ex s1.pre) .nil))
    · exact p.elim
/-! ### != of lists of unlike lengths -/
def gNeFar : F2 := fun x y st => match litemsOf x st, litemsOf y st with
  | some xs, some ys => if xs.length = ys.length then none else some (.bl true, st)
  | _, _ => none
structure FarL (C : Ctx) (ι : Io) (st : Store) (H : Hp) (x y : V) (dx dy : D) (xs ys : List D) : Prop where
  rl : RelSt C.T C.xp ι st H
  rx : Rep C.T C.xp (hide ι st H) ι x dx
  ry : Rep C.T C.xp (hide ι st H) ι y dy
  ex : litemsOf dx st = some xs
  ey : litemsOf dy st = some ys
  ne : xs.length ≠ ys.length
def rNeFar (C : Ctx) : R2 := fun x y H Q => ∃ ι st dx dy xs ys, FarL C ι st H x y dx dy xs ys ∧ ∀ H' ι', Step ι st H ι' st H' → RelSt C.T C.xp ι' st H' → Q (.bl true) H'
theorem op_neFar (hu : C.X.A.units + 64 < cLine) : OpR C.X (compareOp .NotEq) (rNeFar C) := by
  intro pins s σ H x y v u Q I rx ry h
  obtain ⟨ι, st, dx, dy, xs, ys, w, q⟩ := h
  show wpAny (model C.X.prog C.X.w) C.X.A (richCompare .NotEq v u) (EP C.X pins σ Q) C.X.xe s
  obtain ⟨a, its, vs, n, dd, sl, rfl, ho, r, rs⟩ := told_at I w.rl (Step.refl _ _ _) w.rx rx w.ex
  obtain ⟨b, its2, vs2, n2, dd2, sl2, rfl, ho2, r2, rs2⟩ := told_at I w.rl (Step.refl _ _ _) w.ry ry w.ey
  refine wpAny_richCompare_same_room (op := .NotEq) ⟨_, ho, rfl⟩ ⟨_, ho2, rfl⟩ F.slot_list_ne (GQ.call_here F.slot_list_ne ⟨_, ho, rfl⟩ F.entry_list_ne (F.args_list_ne_2 _ _) ?_) (by omega)
  refine far_ne (R := wants (fun v s' => v ≠ .notImplemented ∧ EP C.X pins σ Q v s') C.X.xe) ho ho2 ?_ ⟨(fun z => nomatch z), .bl true, H, I, rfl, q H ι (Step.refl _ _ _) w.rl⟩
  rw [List.size_toArray, List.size_toArray, ← r.length, ← r2.length, rs.length, rs2.length]
  simp [w.ne]
theorem osd_neFar : OpSD C (rNeFar C) gNeFar := fun ι st H x y dx dy dz st1 Q rl rx ry e q => by
  unfold gNeFar at e
  split at e
  · rename_i xs ys ex ey
    split at e
    · cases e
    · rename_i hc
      cases e
      exact ⟨ι, st, dx, dy, xs, ys, ⟨rl, rx, ry, ex, ey, hc⟩, fun H' ι' s r => q _ ι' H' s r (.bl _)⟩
  · cases e
/-- what any rule asks for -/
def rAny (C : Ctx) (op : CmpOp) : R2 := fun x y H Q => ∃ r, OpR C.X (compareOp op) r ∧ r x y H Q
theorem op_any {op : CmpOp} : OpR C.X (compareOp op) (rAny C op) := fun pins s σ H x y v u Q I rx ry ⟨r, h, q⟩ => h pins s σ H x y v u Q I rx ry q
theorem CmpD.any {op : CmpOp} {f : D → D → Option D} (h : CmpD C op f) : OpSD C (rAny C op) (still f) := by
  obtain ⟨r, h1, h2⟩ := h.ex
  exact fun ι st H x y dx dy dz st1 Q rl rx ry e k => ⟨r, h1, OpSD.of h2 ι st H x y dx dy dz st1 Q rl rx ry e k⟩
def gNeF : F2 := orS gNeFar (still fNe)
def rNeF (C : Ctx) : R2 := fun x y H Q => rNeFar C x y H Q ∨ rAny C .NotEq x y H Q
theorem op_neF (hu : C.X.A.units + 64 < cLine) : OpR C.X (compareOp .NotEq) (rNeF C) := OpR.or (op_neFar hu) op_any
theorem osd_neF (hu : C.X.A.units + 64 < cLine) : OpSD C (rNeF C) gNeF := OpSD.or osd_neFar (cmp_ne hu).any
end
end Den
/-! ### raise of an error with fields, made without arguments -/
namespace Den
open PySem PySem.Spec PyProof.Rows L2
section
variable {C : Ctx} {c : Nat} {ps ks : List Str} {dds : List D} {g : (α : Type) → List α → List α → List α → List α} {x : Str} {p pos pos' : Pos} {kws : List Keyword} {mk : DA} {ways : List (Nat × List Str × List D × ((α : Type) → List α → List α → List α → List α))}
theorem pds_raiseE0 (M : MkE C.X.prog C.X.w C.T C.X.mg C.X.base c x ps ways) (hw : (0, ks, dds, g) ∈ ways) (ft : Fit C 2) (hc : C.X.calm = true) (hne : C.T.fl c ≠ []) (r1 : PySem.W.subIn C.T.K (.ref (C.T.ca c)) (.type "BaseException") = some true) (r2 : PySem.W.typeIn C.T.K (.ref (C.T.ca c)) = some (.type "type")) (hg : Gl C.X x) (hkw : PDK C kws mk)
    (hall : (backToKw pos (keywordEach kws C.X.env)).all (·.1.isSome) = true := by rfl) (hks : (backToKw pos (keywordEach kws C.X.env)).filterMap (·.1) = ks := by rfl) (hdb : (x == ("__debug__" : Str)) = false := by decide)
    (hpl : ((backTo pos (starEach [] C.X.env)).any (·.1) || (backToKw pos (keywordEach kws C.X.env)).any (·.1.isNone)) = false := by rfl) :
    PDS C (.Raise (some (.Call (.Name x p) [] kws pos)) none pos') (sRaiseE c 0 ks.length dds g dNil mk) := by
  have kc : PySem.W.keepIn C.X.K (.ref (C.T.ca c)) = true := by
    obtain ⟨f, fd, B, nid, iid, bmB, FB, K0, _⟩ := M.ex
    rw [C.hK]
    exact K0.kp
  have pm : L2N.PMk C.X (.Call (.Name x p) [] kws pos) (fun σ H Q => (∀ cls d H', C.W cls d σ H' → C.W cls d σ H') ∧ tDA C.T C.xp C.W mk σ H fun zs H2 => ∃ ess st ι, zs.length = ks.length ∧
      RepL C.T C.xp (hide ι st H2) ι zs ess ∧ RelSt C.T C.xp ι st H2 ∧ ∀ H' dx, Step ι st H2 ι st H' → RelSt C.T C.xp ι st H' → XdR C.T C.xp ι st H' dx c (g D [] dds ess) → Q (.ref (C.T.ca c)) dx H') := by
    intro pins s σ H Q I ⟨_, h⟩
    refine wpAny_Call_Name_kw (ld_glob I hg M.g ?_ hdb)
    refine args_call0 (ks := ks) hkw I kc (h.imp (fun ρ h => h.imp fun st h => h.imp fun ι h => ?_)) hall hks hpl
    obtain ⟨er, rl, hp⟩ := h
    refine ⟨er, rl, ?_⟩
    cases hm : mk ρ st with
    | bad => rw [hm] at hp; exact hp.elim
    | exc c2 xs s1 => rw [hm] at hp; exact hp
    | ok d s1 =>
      rw [hm] at hp
      intro v ι1 H1 st1 rl1 rv
      obtain ⟨ess, st, ι, l2, rb, rc, q⟩ := hp v ι1 H1 st1 rl1 rv
      intro ws s4 I4 rz
      exact err_fly (vs := []) M hw ft.room ft.tk I4 .nil rz rfl l2 .nil rb rc (Nat.zero_le _) hne r1 r2 q
  refine PS.imp (L2N.ps_raise hc ft.tk pm) fun D σ H ⟨ρ, st, ι, er, rl, pp⟩ => ⟨fun _ _ _ h => h, ρ, st, ι, er, rl, ?_⟩
  refine post_into (m := mk ρ st) pp er fun ess s2 zs ι2 H2 st2 rl2 er2 rz p2 => ?_
  have p3 := p2
  split at p3
  · rename_i hl
    exact ⟨ess, s2, ι2, rz.length.trans hl.2, rz, rl2, fun H' dx s' r' xd => p3 σ ι2 H' dx s' r' (er2.step s') xd⟩
  · exact p3.elim
end
end Den

set_option maxRecDepth 100000
set_option maxHeartbeats 1000000
/-! Mir: what the worth of a piece comes to, for the mirrors of laws. -/
namespace Den
open PySem PySem.Spec PyProof.Rows L2
/-! ### a def's end -/
def outB : SRes → Res D
  | .nx _ st' => .ok .non st'
  | .ret d st' => .ok d st'
  | .exc c xs _ st' => .exc c xs st'
  | _ => .bad
@[simp] theorem outB_nx {ρ : Rho} {st : Store} : outB (.nx ρ st) = .ok .non st := rfl
@[simp] theorem outB_ret {d : D} {st : Store} : outB (.ret d st) = .ok d st := rfl
@[simp] theorem outB_exc {c : Nat} {xs : List D} {ρ : Rho} {st : Store} : outB (.exc c xs ρ st) = .exc c xs st := rfl
theorem body_eq {N n : Nat} {m : DS} {ds : List D} {st : Store} (h : ds.length = n) : body N n m ds st = outB (m (ds.map some ++ List.replicate (N - n) none) st) := by
  unfold body
  rw [if_pos h]
  rfl
theorem run {N n : Nat} {m : DS} {ds : List D} {st : Store} {r : SRes} {w : Res D} (hl : ds.length = n) (h : m (ds.map some ++ List.replicate (N - n) none) st = r) (ho : outB r = w) : body N n m ds st = w := by
  rw [body_eq hl, h, ho]
theorem bodyE_eq {N n : Nat} {m : DS} {ds : List D} {st : Store} (h : ds.length = n) (he : noEL ds = true) (hs : noES st = true) : bodyE N n m ds st = outB (m (ds.map some ++ List.replicate (N - n) none) st) := by
  unfold bodyE
  rw [if_pos ⟨he, hs⟩, body_eq h]
theorem runE {N n : Nat} {m : DS} {ds : List D} {st : Store} {r : SRes} {w : Res D} (hl : ds.length = n) (he : noEL ds = true) (hs : noES st = true) (h : m (ds.map some ++ List.replicate (N - n) none) st = r) (ho : outB r = w) : bodyE N n m ds st = w := by
  rw [bodyE_eq hl he hs, h, ho]
/-! ### pieces whose parts are known -/
section
variable {a b c : DE} {t u : DT} {ρ : Rho} {st s1 s2 s3 : Store} {x y z : D} {bb cc : Bool}
theorem ev_cons {r : DA} {xs : List D} (h : a ρ st = .ok x s1) (g : r ρ s1 = .ok xs s2) : dCons a r ρ st = .ok (x :: xs) s2 := by
  unfold dCons; rw [h, bind_ok, g, bind_ok]
theorem ev_call {n : Nat} {f : DF} {r : DA} {xs : List D} {w : Res D} (h : r ρ st = .ok xs s1) (hl : xs.length = n) (hf : f xs s1 = w) : dCallA n f r ρ st = w := by
  unfold dCallA; rw [h, bind_ok, if_pos hl, hf]
theorem ev_not (h : t ρ st = .ok bb s1) : tNotD t ρ st = .ok (!bb) s1 := by unfold tNotD; rw [h]; rfl
theorem ev_truth {w : Bool} (h : a ρ st = .ok x s1) (hx : truth x = some w) : dTruth a ρ st = .ok w s1 := by
  unfold dTruth; rw [h, bind_ok, hx]
theorem ev_op {f : D → D → Option D} (h : a ρ st = .ok x s1) (g : b ρ s1 = .ok y s2) (hf : f x y = some z) : dOp2 f a b ρ st = .ok z s2 := by
  unfold dOp2; rw [h, bind_ok, g, bind_ok, hf]
theorem ev_asB (h : a ρ st = .ok (.bl bb) s1) : asB a ρ st = .ok bb s1 := by unfold asB; rw [h]; rfl
theorem ev_orT (h : t ρ st = .ok true s1) : tOrD t u ρ st = .ok true s1 := by unfold tOrD; rw [h]; rfl
theorem ev_orF {w : Res Bool} (h : t ρ st = .ok false s1) (g : u ρ s1 = w) : tOrD t u ρ st = w := by unfold tOrD; rw [h]; exact g
theorem ev_andF (h : t ρ st = .ok false s1) : tAndD t u ρ st = .ok false s1 := by unfold tAndD; rw [h]; rfl
theorem ev_andT {w : Res Bool} (h : t ρ st = .ok true s1) (g : u ρ s1 = w) : tAndD t u ρ st = w := by unfold tAndD; rw [h]; exact g
/-- both sides leave the store -/
theorem ev_or (h : t ρ st = .ok bb st) (g : bb = false → u ρ st = .ok cc st) : tOrD t u ρ st = .ok (bb || cc) st := by
  cases bb with
  | true => rw [ev_orT h]; rfl
  | false => rw [ev_orF h (g rfl)]; simp
theorem ev_and (h : t ρ st = .ok bb st) (g : bb = true → u ρ st = .ok cc st) : tAndD t u ρ st = .ok (bb && cc) st := by
  cases bb with
  | false => rw [ev_andF h]; rfl
  | true => rw [ev_andT h (g rfl)]; simp
theorem ev_tup {r : DA} {xs : List D} (h : r ρ st = .ok xs s1) (hl : xs.length ≤ 100000) : dTup r ρ st = .ok (.tup xs) s1 := by
  unfold dTup; rw [h, bind_ok, if_pos hl]
theorem ev_lst {r : DA} {xs : List D} (h : r ρ st = .ok xs s1) (hl : xs.length ≤ 100000) : dLst r ρ st = .ok (.lst xs) s1 := by
  unfold dLst; rw [h, bind_ok, if_pos hl]
theorem ev_new {r : DA} {xs : List D} (h : r ρ st = .ok xs s1) (hl : xs.length ≤ 100000) : dNew r ρ st = .ok (.box s1.length) (s1 ++ [.lst xs]) := by
  unfold dNew; rw [h, bind_ok, if_pos hl]
theorem ev_ix (h : a ρ st = .ok x s1) (g : b ρ s1 = .ok y s2) (hz : ixD x y s2 = some z) : dIx a b ρ st = .ok z s2 := by
  unfold dIx; rw [h, bind_ok, g, bind_ok, hz]
theorem ev_cb1 {g : D → Store → Option D} {r : DA} (h : r ρ st = .ok [x] s1) (hg : g x s1 = some y) : dCB (one g) r ρ st = .ok y s1 := by
  unfold dCB one; rw [h, bind_ok]; dsimp only; rw [hg]; rfl
theorem ev_ite {w : Res D} (h : t ρ st = .ok bb s1) (g : (if bb = true then a else b) ρ s1 = w) : dIte t a b ρ st = w := by
  unfold dIte; rw [h, bind_ok]; cases bb <;> exact g
/-! ### statements -/
theorem ex_if {p q : DS} (h : t ρ st = .ok bb s1) : sIf t p q ρ st = (if bb = true then p ρ s1 else q ρ s1) := by
  unfold sIf; rw [h, into_ok]; cases bb <;> rfl
theorem ex_ret (h : a ρ st = .ok x s1) : sRet a ρ st = .ret x s1 := by unfold sRet; rw [h]; rfl
theorem ex_set {i : Nat} (h : a ρ st = .ok x s1) : sSet i a ρ st = .nx (ρ.set i (some x)) s1 := by unfold sSet; rw [h]; rfl
theorem ex_drop (h : a ρ st = .ok x s1) : sDrop a ρ st = .nx ρ s1 := by unfold sDrop; rw [h]; rfl
theorem ex_seq {p q : DS} {ρ1 : Rho} {w : SRes} (h : p ρ st = .nx ρ1 s1) (g : q ρ1 s1 = w) : sSeq p q ρ st = w := by unfold sSeq; rw [h, then_nx]; exact g
theorem ex_seqR {p q : DS} (h : p ρ st = .ret x s1) : sSeq p q ρ st = .ret x s1 := by unfold sSeq; rw [h, then_ret]
theorem ex_seqE {p q : DS} {c : Nat} {xs : List D} {ρ1 : Rho} (h : p ρ st = .exc c xs ρ1 s1) : sSeq p q ρ st = .exc c xs ρ1 s1 := by unfold sSeq; rw [h, then_exc]
theorem ex_par {i j : Nat} {r : DA} (h : r ρ st = .ok [x, y] s1) : sPar i j r ρ st = .nx ((ρ.set i (some x)).set j (some y)) s1 := by unfold sPar; rw [h]; rfl
theorem ex_asg {g : GD} {ρ1 : Rho} (h : a ρ st = .ok x s1) (hg : g x ρ = some ρ1) : sAsg g a ρ st = .nx ρ1 s1 := by unfold sAsg; rw [h, into_ok, hg]
end
/-! ### loops -/
theorem forL_inv {g : GD} {b : DS} {I : Rho → Store → Prop} : ∀ {ds : List D} {ρ : Rho} {st : Store}, (∀ d ∈ ds, ∀ ρ st, I ρ st → ∃ ρ1, g d ρ = some ρ1 ∧ ∃ ρ2 s2, b ρ1 st = .nx ρ2 s2 ∧ I ρ2 s2) → I ρ st → ∃ ρ' st', forL g b ds ρ st = .nx ρ' st' ∧ I ρ' st'
  | [], ρ, st, _, h => ⟨ρ, st, rfl, h⟩
  | d :: ds, ρ, st, hb, h => by
    obtain ⟨ρ1, e1, ρ2, s2, e2, h2⟩ := hb d List.mem_cons_self ρ st h
    obtain ⟨ρ3, s3, e3, h3⟩ := forL_inv (ds := ds) (fun d hd => hb d (List.mem_cons_of_mem _ hd)) h2
    refine ⟨ρ3, s3, ?_, h3⟩
    unfold forL
    rw [e1]
    dsimp only
    rw [e2]
    exact e3
/-- an invariant that tells of what is done and what is left -/
theorem forL_upto {g : GD} {b : DS} {I : List D → List D → Rho → Store → Prop} : ∀ {ds pre : List D} {ρ : Rho} {st : Store}, (∀ pre d r ρ st, I pre (d :: r) ρ st → ∃ ρ1, g d ρ = some ρ1 ∧ ∃ ρ2 s2, b ρ1 st = .nx ρ2 s2 ∧ I (pre ++ [d]) r ρ2 s2) → I pre ds ρ st → ∃ ρ' st', forL g b ds ρ st = .nx ρ' st' ∧ I (pre ++ ds) [] ρ' st'
  | [], pre, ρ, st, _, h => ⟨ρ, st, rfl, by rw [List.append_nil]; exact h⟩
  | d :: ds, pre, ρ, st, hb, h => by
    obtain ⟨ρ1, e1, ρ2, s2, e2, h2⟩ := hb pre d ds ρ st h
    obtain ⟨ρ3, s3, e3, h3⟩ := forL_upto (ds := ds) (pre := pre ++ [d]) hb h2
    refine ⟨ρ3, s3, ?_, by rw [List.append_assoc] at h3; exact h3⟩
    unfold forL
    rw [e1]
    dsimp only
    rw [e2]
    exact e3
theorem ex_forL {it : DE} {g : GD} {b : DS} {ρ : Rho} {st s1 : Store} {xs : List D} {w : SRes} (h : it ρ st = .ok (.lst xs) s1) (hw : forL g b xs ρ s1 = w) : sForL it g b ρ st = w := by unfold sForL; rw [h]; exact hw
theorem ex_forRo {it : DE} {g : GD} {b : DS} {ρ : Rho} {st s1 : Store} {xs : List D} {w : SRes} (h : it ρ st = .ok (.ro xs) s1) (hw : forL g b xs ρ s1 = w) : sForL it g b ρ st = w := by unfold sForL; rw [h]; exact hw
theorem ex_forT {it : DE} {g : GD} {b : DS} {ρ : Rho} {st s1 : Store} {xs : List D} {w : SRes} (h : it ρ st = .ok (.tup xs) s1) (hw : forL g b xs ρ s1 = w) : sForT it g b ρ st = w := by unfold sForT; rw [h]; exact hw
theorem ex_forR1 {r : DA} {g : GD} {b : DS} {ρ : Rho} {st s1 : Store} {j : Int} {w : SRes} (h : r ρ st = .ok [.int j] s1) (hj : big62 j) (hw : forL g b (rangeD 0 j.toNat) ρ s1 = w) : sForR1 r g b ρ st = w := by unfold sForR1; rw [h, into_ok]; dsimp only; rw [if_pos hj]; exact hw
theorem mem_range {lo : Int} {n : Nat} {d : D} (h : d ∈ rangeD lo n) : ∃ i : Nat, i < n ∧ d = .int (lo + i) := by
  unfold rangeD at h
  obtain ⟨i, hi, rfl⟩ := List.mem_map.mp h
  exact ⟨i, List.mem_range.mp hi, rfl⟩
/-! ### comprehensions that leave the store -/
theorem lcL_filter {g : GD} {t : DT} {e : DE} {ρ : Rho} {st : Store} {p : D → Bool} {f : D → D} : ∀ {ds : List D}, (∀ d ∈ ds, ∃ ρ', g d ρ = some ρ' ∧ t ρ' st = .ok (p d) st ∧ e ρ' st = .ok (f d) st) → lcL g t e ρ ds st = .ok ((ds.filter p).map f) st
  | [], _ => rfl
  | d :: ds, h => by
    obtain ⟨ρ', h1, h2, h3⟩ := h d List.mem_cons_self
    have ih := lcL_filter (g := g) (t := t) (e := e) (ρ := ρ) (st := st) (p := p) (f := f) (ds := ds) fun x hx => h x (List.mem_cons_of_mem _ hx)
    unfold lcL
    rw [h1]
    dsimp only
    rw [h2]
    cases hp : p d with
    | true => simp [noX, h3, ih, hp]
    | false => simp [noX, ih, hp]
theorem lcL_map {g : GD} {e : DE} {ρ : Rho} {st : Store} {f : D → D} {ds : List D} (h : ∀ d ∈ ds, ∃ ρ', g d ρ = some ρ' ∧ e ρ' st = .ok (f d) st) : lcL g tYesD e ρ ds st = .ok (ds.map f) st := by
  have z := lcL_filter (g := g) (t := tYesD) (e := e) (ρ := ρ) (st := st) (p := fun _ => true) (f := f) (ds := ds) fun d hd => by
    obtain ⟨ρ', a, b⟩ := h d hd
    exact ⟨ρ', a, rfl, b⟩
  rw [z]
  congr 2
  exact List.filter_eq_self.mpr fun _ _ => rfl
/-- a comprehension whose turns draw: all it makes is of a kind -/
theorem lcL_all {g : GD} {e : DE} {ρ : Rho} {I : Store → Prop} {K : D → Prop} : ∀ {ds : List D} {st : Store}, (∀ d ∈ ds, ∃ ρ', g d ρ = some ρ' ∧ ∀ st, I st → ∃ y s1, e ρ' st = .ok y s1 ∧ K y ∧ I s1) → I st → ∃ ys s1, lcL g tYesD e ρ ds st = .ok ys s1 ∧ ys.length = ds.length ∧ (∀ y ∈ ys, K y) ∧ I s1
  | [], st, _, h => ⟨[], st, rfl, rfl, fun _ z => (nomatch z), h⟩
  | d :: ds, st, hb, h => by
    obtain ⟨ρ', h1, h2⟩ := hb d List.mem_cons_self
    obtain ⟨y, s1, h3, h4, h5⟩ := h2 st h
    obtain ⟨ys, s2, k1, k2, k3, k4⟩ := lcL_all (ds := ds) (fun d hd => hb d (List.mem_cons_of_mem _ hd)) h5
    refine ⟨y :: ys, s2, ?_, by simp [k2], fun z hz => ?_, k4⟩
    · unfold lcL
      rw [h1]
      dsimp only [tYesD, noX, bind_ok]
      rw [h3]
      dsimp only [noX, bind_ok]
      rw [k1]
      rfl
    · rcases List.mem_cons.mp hz with rfl | hz
      · exact h4
      · exact k3 z hz
section
variable {it : DE} {r a : DA} {g : GD} {t : DT} {e o : DE} {vs : List Nat} {ρ : Rho} {st s1 s2 st' : Store} {xs ys ds : List D} {j : Int} {z : Str} {x y : D}
theorem ev_lcR1 (h : r ρ st = .ok [.int j] s1) (hj : big62 j ∧ j ≤ 100000) (hl : lcL g t e (wipeD ρ vs) (rangeD 0 j.toNat) s1 = .ok ys s2) (hy : ys.length ≤ 100000) : dLcR1 r g t e vs ρ st = .ok (.lst ys) s2 := by
  unfold dLcR1; rw [h, bind_ok]; dsimp only; rw [if_pos hj, hl]; unfold lcEnd; rw [bind_ok, if_pos hy]
theorem ev_lcL (h : it ρ st = .ok (.lst xs) s1) (hx : xs.length ≤ 100000) (hl : lcL g t e (wipeD ρ vs) xs s1 = .ok ys s2) (hy : ys.length ≤ 100000) : dLcL it g t e vs ρ st = .ok (.lst ys) s2 := by
  unfold dLcL; rw [h, bind_ok]; dsimp only; rw [if_pos hx, hl]; unfold lcEnd; rw [bind_ok, if_pos hy]
theorem ev_lcRo (h : it ρ st = .ok (.ro xs) s1) (hx : xs.length ≤ 100000) (hl : lcL g t e (wipeD ρ vs) xs s1 = .ok ys s2) (hy : ys.length ≤ 100000) : dLcL it g t e vs ρ st = .ok (.lst ys) s2 := by
  unfold dLcL; rw [h, bind_ok]; dsimp only; rw [if_pos hx, hl]; unfold lcEnd; rw [bind_ok, if_pos hy]
theorem ev_lcT (h : it ρ st = .ok (.tup xs) s1) (hx : xs.length ≤ 100000) (hl : lcL g t e (wipeD ρ vs) xs s1 = .ok ys s2) (hy : ys.length ≤ 100000) : dLcT it g t e vs ρ st = .ok (.lst ys) s2 := by
  unfold dLcT; rw [h, bind_ok]; dsimp only; rw [if_pos hx, hl]; unfold lcEnd; rw [bind_ok, if_pos hy]
theorem ev_lcS (h : it ρ st = .ok (.str z) s1) (hx : z.cps.size ≤ 100000) (hl : lcL g t e (wipeD ρ vs) (signsD z) s1 = .ok ys s2) (hy : ys.length ≤ 100000) : dLcS it g t e vs ρ st = .ok (.lst ys) s2 := by
  unfold dLcS; rw [h, bind_ok]; dsimp only; rw [if_pos hx, hl]; unfold lcEnd; rw [bind_ok, if_pos hy]
theorem ev_bm {ty : String} {f : FM} (h : o ρ st = .ok x s1) (ht : tyD ty x s1 = true) (ha : a ρ s1 = .ok ds s2) (hf : f x ds s2 = some (y, st')) : dBm ty f o a ρ st = .ok y st' := by
  unfold dBm; rw [h, bind_ok, if_pos ht, ha, bind_ok, hf]; rfl
end
/-! ### stores -/
/-- a pot of one number -/
def Pot (k : Nat) (st : Store) : Prop := ∃ p, st[k]? = some (.lst [.int p])
/-- only the pot has changed -/
structure Chg (k : Nat) (st st' : Store) : Prop where
  lt : k < st.length
  ex : ∃ p, st' = st.set k (.lst [.int p])
theorem Pot.lt {k : Nat} {st : Store} (h : Pot k st) : k < st.length := by
  obtain ⟨p, e⟩ := h
  exact (List.getElem?_eq_some_iff.mp e).1
theorem Pot.chg {k : Nat} {st : Store} (h : Pot k st) : Chg k st st := by
  refine ⟨h.lt, ?_⟩
  obtain ⟨p, e⟩ := h
  obtain ⟨lt, v⟩ := List.getElem?_eq_some_iff.mp e
  exact ⟨p, by rw [← v, List.set_getElem_self]⟩
theorem Chg.pot {k : Nat} {st st' : Store} (h : Chg k st st') : Pot k st' := by
  obtain ⟨lt, p, rfl⟩ := h
  exact ⟨p, by rw [List.getElem?_set_self lt]⟩
theorem Chg.len {k : Nat} {st st' : Store} (h : Chg k st st') : st'.length = st.length := by
  obtain ⟨lt, p, rfl⟩ := h
  rw [List.length_set]
theorem Chg.trans {k : Nat} {a b c : Store} (h : Chg k a b) (g : Chg k b c) : Chg k a c := by
  obtain ⟨lt, p, rfl⟩ := h
  obtain ⟨lt2, q, rfl⟩ := g
  exact ⟨lt, q, by rw [List.set_set]⟩
theorem Chg.other {k j : Nat} {st st' : Store} (h : Chg k st st') (n : j ≠ k) : st'[j]? = st[j]? := by
  obtain ⟨lt, p, rfl⟩ := h
  rw [List.getElem?_set_ne (Ne.symm n)]
theorem noES_set {st : Store} {k : Nat} {c : Cell} (h : noES st = true) (hc : noEC c = true) : noES (st.set k c) = true := by
  unfold noES at h ⊢
  rw [List.all_eq_true] at h ⊢
  intro x hx
  rcases List.mem_or_eq_of_mem_set hx with hx | rfl
  · exact h x hx
  · exact hc
theorem noES_app {st : Store} {c : Cell} (h : noES st = true) (hc : noEC c = true) : noES (st ++ [c]) = true := by
  unfold noES at h ⊢
  rw [List.all_append, h]
  simp [hc]
theorem Chg.noE {k : Nat} {st st' : Store} (h : Chg k st st') (n : noES st = true) : noES st' = true := by
  obtain ⟨lt, p, rfl⟩ := h
  exact noES_set n rfl
/-! ### indices -/
theorem atI_mem {α : Type} {xs : List α} {i : Int} (h0 : 0 ≤ i) (h1 : i < xs.length) : ∃ x ∈ xs, atI xs i = some x := by
  have hn : i.toNat < xs.length := by omega
  refine ⟨xs[i.toNat], List.getElem_mem _, ?_⟩
  unfold atI ixN
  rw [if_pos h0, if_pos h1]
  simp [List.getElem?_eq_getElem hn]
theorem ix_mem {xs : List D} {i : Int} {st : Store} (h0 : 0 ≤ i) (h1 : i < xs.length) : ∃ x ∈ xs, ixD (.lst xs) (.int i) st = some x := by
  obtain ⟨x, hx, e⟩ := atI_mem h0 h1
  exact ⟨x, hx, e⟩
theorem ix_memB {xs : List D} {i : Int} {st : Store} {k : Nat} (hk : st[k]? = some (.lst xs)) (h0 : 0 ≤ i) (h1 : i < xs.length) : ∃ x ∈ xs, ixD (.box k) (.int i) st = some x := by
  obtain ⟨x, hx, e⟩ := atI_mem h0 h1
  refine ⟨x, hx, ?_⟩
  unfold ixD itemsOf
  dsimp only
  rw [hk]
  exact e
theorem ix_sign {z : Str} {i : Int} {st : Store} (hz : z.length ≤ 1000000) (h0 : 0 ≤ i) (h1 : i < z.length) : ∃ c ∈ z.cps.toList, ixD (.str z) (.int i) st = some (.str ⟨#[c]⟩) := by
  have hl : z.cps.toList.length = z.length := by simp [Str.length]
  obtain ⟨x, hx, e⟩ := atI_mem (xs := z.cps.toList) h0 (by rw [hl]; exact h1)
  refine ⟨x, hx, ?_⟩
  unfold ixD
  dsimp only
  rw [if_pos hz, e]
  rfl
end Den

set_option maxRecDepth 100000
set_option maxHeartbeats 1000000
namespace K73
open PySem PySem.Spec PyProof.Rows L2 Den
abbrev P : Program := PySem.Challenge.pw_dimcellar_k73_lists_refused
def top (i : Nat) : Stmt := P.main.body.getD i (.Pass ⟨0, 0, 0, 0⟩)
def clsAt (s : Stmt) (j : Nat) : Stmt := match s with
  | .ClassDef _ _ _ b .. => b.getD j (.Pass ⟨0, 0, 0, 0⟩)
  | _ => .Pass ⟨0, 0, 0, 0⟩
def veB : List Value := [.type "ValueError", .type "Exception", .type "BaseException", .type "object"]
def leB : List Value := [.type "LookupError", .type "Exception", .type "BaseException", .type "object"]

def heldC : List Nat := [3, 5, 17]
def tyTab : List (Tag × Tag × Bool) := (["NoneType", "bool", "int", "str", "list", "tuple", "dict"].flatMap fun a => (["int", "bool", "str", "list"].map fun b => (Tag.ty a, Tag.ty b, a == b || (a == "bool" && b == "int"))) ++ [(Tag.ty a, Tag.ow 0, false)]) ++ [(Tag.ow 0, Tag.ty "int", false), (Tag.ow 0, Tag.ty "str", false), (Tag.ow 0, Tag.ty "list", false), (Tag.ow 0, Tag.ow 0, true)]
def errTab : List (Tag × Tag × Bool) := heldC.flatMap fun c => ((List.range 17).map fun d => (Tag.ow c, Tag.ow (d + 1), decide (c = d + 1))) ++ ([20, 21, 22, 18].map fun d => (Tag.ow c, Tag.ow d, false)) ++ [(Tag.ow c, Tag.ow 19, true), (Tag.ow c, Tag.ty "ValueError", true), (Tag.ow c, Tag.ty "LookupError", false)]
def isT : Tag → Tag → Option Bool := isTab (tyTab ++ errTab)
def cth_CellarError (c : Nat) : Option Bool := if c ∈ heldC then some true else none
structure Facts (T : Txt) (mg : Str → Option Value) : Prop where
  isT : IsT T isT
  own : ∀ c ∈ ([0] : List Nat), ClsI T c
  held : ∀ c ∈ heldC, ExcC T.K (T.ca c)
  i_Bottle : ClsD T 0
  f_Bottle : T.fl 0 = [("maker" : Str), "year", "size"]
  g_SIZES : ∃ (v : V) (u : Value), GlD T v (.tup [.int 37, .int 75, .int 150]) ∧ RelV v u ∧ mg "SIZES" = some u
  g_USUAL_SIZE : ∃ (v : V) (u : Value), GlD T v (.int 75) ∧ RelV v u ∧ mg "USUAL_SIZE" = some u
  g_MOST_FIGURES : ∃ (v : V) (u : Value), GlD T v (.int 40) ∧ RelV v u ∧ mg "MOST_FIGURES" = some u
  e_NoMaker : ExcK T 1
  e_NoYear : ExcK T 2
  e_NoSize : ExcK T 3
  e_NoBottles : ExcK T 5
  f_NoText : T.fl 17 = [("line" : Str)]
  r_NoText : ErrF T 17
  i_NoText : ErrK T.K (T.ca 17) veB "ValueError.__new__"
  n_NoText : ∀ f ∈ ([("line" : Str)]), PySem.W.findIn T.K (.ref (T.ca 17)) f = some none
  b1_NoText : PySem.W.subIn T.K (.ref (T.ca 17)) (.type "BaseException") = some true
  b2_NoText : PySem.W.typeIn T.K (.ref (T.ca 17)) = some (.type "type")
  k_CellarError : ∀ c b, cth_CellarError c = some b → PySem.W.exmOne T.K (.ref (T.ca c)) (.ref (T.ca 19)) = some b
  b_int : mg "int" = none
  b_bool : mg "bool" = none
  b_str : mg "str" = none
  b_list : mg "list" = none
  b_tuple : mg "tuple" = none
  b_ValueError : mg "ValueError" = none
  b_LookupError : mg "LookupError" = none
  b_isinstance : mg "isinstance" = none
  b_len : mg "len" = none
  b_all : mg "all" = none
  b_max : mg "max" = none
  b_min : mg "min" = none
  b_range : mg "range" = none
  b_repr : mg "repr" = none
  b_enumerate : mg "enumerate" = none
  c_Bottle : mg "Bottle" = some (.ref (T.ca 0))
  c_NoMaker : mg "NoMaker" = some (.ref (T.ca 1))
  c_NoYear : mg "NoYear" = some (.ref (T.ca 2))
  c_NoSize : mg "NoSize" = some (.ref (T.ca 3))
  c_NoBottle : mg "NoBottle" = some (.ref (T.ca 4))
  c_NoBottles : mg "NoBottles" = some (.ref (T.ca 5))
  c_NoRooms : mg "NoRooms" = some (.ref (T.ca 6))
  c_NoHold : mg "NoHold" = some (.ref (T.ca 7))
  c_NoMonth : mg "NoMonth" = some (.ref (T.ca 8))
  c_NoWho : mg "NoWho" = some (.ref (T.ca 9))
  c_NoSet : mg "NoSet" = some (.ref (T.ca 10))
  c_NoDeed : mg "NoDeed" = some (.ref (T.ca 11))
  c_NoWishes : mg "NoWishes" = some (.ref (T.ca 12))
  c_NoLine : mg "NoLine" = some (.ref (T.ca 13))
  c_NoNumber : mg "NoNumber" = some (.ref (T.ca 14))
  c_NoPlace : mg "NoPlace" = some (.ref (T.ca 15))
  c_TooMany : mg "TooMany" = some (.ref (T.ca 16))
  c_NoText : mg "NoText" = some (.ref (T.ca 17))
  c_HereError : mg "HereError" = some (.ref (T.ca 18))
  c_CellarError : mg "CellarError" = some (.ref (T.ca 19))
  c_Full : mg "Full" = some (.ref (T.ca 20))
  c_Gone : mg "Gone" = some (.ref (T.ca 21))
  c_Kept : mg "Kept" = some (.ref (T.ca 22))
def shownB (m : Str) (y s : Int) : Str := (((((("Bottle(" ++ reprText m) ++ ", ") ++ Str.ofString (toString y)) ++ ", ") ++ Str.ofString (toString s)) ++ ")")
def rB : List D → Option Str
  | [.str m, .int y, .int s] => if (m.length ≤ 8 ∧ (reprText m).length ≤ 1000) ∧ (0 ≤ y ∧ y ≤ 3000) ∧ 0 ≤ s ∧ s ≤ 1000 then some (shownB m y s) else none
  | _ => none

abbrev st_NoText : Stmt := clsAt (top 27) 0
theorem sc_NoText : FnScope ["self", "line"] ["self", "line"] (defScope st_NoText) := ⟨rfl, rfl, rfl, by decide +kernel, rfl, by decide +kernel, by decide +kernel⟩
def ge_NoText_1 (α : Type) (us ds ws : List α) : List α := us
def ge_NoText_0 (α : Type) (us ds ws : List α) : List α := us ++ (ds.drop 0).take 1
abbrev ways_NoText : List (Nat × List Str × List D × ((α : Type) → List α → List α → List α → List α)) := [(1, [], [.int 0], ge_NoText_1), (0, [], [.int 0], ge_NoText_0)]
theorem ok_NoText {w : World} {T : Txt} {mg : Str → Option Value} {base : Heap} (Z : Facts T mg) (lk : ∃ fd, FunD T.K "__init__" "NoText.__init__" (defArgs st_NoText) (defBody st_NoText) (defScope st_NoText) [.int 0] [] (T.fa 26) fd)
    (hi : PySem.W.findIn T.K (.ref (T.ca 17)) "__init__" = some (some (.ref (T.fa 26)))) (hf : PySem.W.typeIn T.K (.ref (T.fa 26)) = some (.type "function")) : MkE P w T mg base 17 "NoText" ["self", "line"] ways_NoText := by
  obtain ⟨fd, F⟩ := lk
  refine ⟨⟨T.fa 26, fd, _, _, _, _, PySem.F.excBase_ValueError, Z.i_NoText, hi, hf, ?_, ?_⟩, by rw [Z.f_NoText]; decide, by rw [Z.f_NoText]; decide +kernel, by rw [Z.f_NoText]; rfl, Z.c_NoText⟩
  · refine init_fill (c := 17) (N := ["self", "line"]) F sc_NoText (by rw [Z.f_NoText]; rfl) (by rw [Z.f_NoText]; simp) (by rw [Z.f_NoText]; decide) fun cdv A outer s H E a ws hl => ?_
    rw [Z.f_NoText] at hl ⊢
    match ws, hl with
    | [y0], _ => exact (pss_fill (i := 1) ⟨_, _, _, PySem.F.store_ValueError, Z.i_NoText, Z.n_NoText _ (by simp)⟩ rfl (by first | exact Or.inl rfl | exact Or.inr (Or.inl rfl) | exact Or.inr (Or.inr rfl)) rfl (by first | exact Or.inl rfl | exact Or.inr (Or.inl rfl) | exact Or.inr (Or.inr rfl)) rfl rfl pss_fill0)
  · intro z hz
    rcases List.mem_cons.mp hz with hz | hz
    · subst hz
      refine bdE_dfl (dvs := [.int 0]) ge_NoText_1 F (by simp) (fun _ _ _ => .cons (.int 0) .nil) (fun r d q => r) (fun _ _ _ {_ _ _ _ _ _} r d q => r) (fun vs zs h1 h2 => by unfold ge_NoText_1; simp [h1, h2]) ?_
      intro Dv kV doc pm an cdv ct self us its ws h1 h2 h3
      match us, its, ws, h1, h2, h3 with
      | [_], [_], [], _, _, _ => exact ⟨_, rfl, rfl⟩
    rcases List.mem_cons.mp hz with hz | hz
    · subst hz
      refine bdE_dfl (dvs := [.int 0]) ge_NoText_0 F (by simp) (fun _ _ _ => .cons (.int 0) .nil) (fun r d q => r.append ((d.drop 0).take 1)) (fun _ _ _ {_ _ _ _ _ _} r d q => r.append ((d.drop 0).take 1)) (fun vs zs h1 h2 => by unfold ge_NoText_0; simp [h1, h2]) ?_
      intro Dv kV doc pm an cdv ct self us its ws h1 h2 h3
      match us, its, ws, h1, h2, h3 with
      | [], [_], [], _, _, _ => exact ⟨_, rfl, rfl⟩
    exact absurd hz List.not_mem_nil
abbrev st_is_whole : Stmt := top 3
theorem sc_is_whole : FnScope ["thing"] ["thing"] (defScope st_is_whole) := ⟨rfl, rfl, rfl, by decide +kernel, rfl, by decide +kernel, by decide +kernel⟩
def m_is_whole : DS :=
    (sRet (dAnd (dCB (bIsi [0] isT) (dCons (dVar 0) (dCons (dC (.ty "int")) dNil))) (dNot (dCB (bIsi [0] isT) (dCons (dVar 0) (dCons (dC (.ty "bool")) dNil))))))
def f_is_whole : DF := body 1 1 m_is_whole
theorem ok_is_whole {w : World} {T : Txt} {mg : Str → Option Value} {base : Heap} (Z : Facts T mg) (l : Lk T 0 "is_whole" "is_whole" st_is_whole) (hg : mg "is_whole" = some (.ref (T.fa 0))) : Def P w T mg base 1 0 "is_whole" ["thing"] f_is_whole := by
  refine defD_of (m := m_is_whole) (k := 0) (N := ["thing"]) (ps := ["thing"]) (st := st_is_whole) l hg sc_is_whole (fun _ _ _ _ _ _ us hl => match us, hl with | [_], _ => rfl) fun cdv A outer s H E xp ft po => ?_
  exact (pds_one (pds_ret (pd_and (pd_blt (blt_isi Z.own Z.isT) (by rfl) Z.b_isinstance rfl (pda_cons (pd_var (i := 0) rfl (by first | exact Or.inl rfl | exact Or.inr (Or.inl rfl) | exact Or.inr (Or.inr rfl))) (pda_cons (pd_bt (n := "int") rfl Z.b_int (by rfl)) pda_nil))) (pd_last (pd_not (pd_blt (blt_isi Z.own Z.isT) (by rfl) Z.b_isinstance rfl (pda_cons (pd_var (i := 0) rfl (by first | exact Or.inl rfl | exact Or.inr (Or.inl rfl) | exact Or.inr (Or.inr rfl))) (pda_cons (pd_bt (n := "bool") rfl Z.b_bool (by rfl)) pda_nil))))))))
abbrev st_is_within : Stmt := top 4
theorem sc_is_within : FnScope ["thing", "least", "most"] ["thing", "least", "most"] (defScope st_is_within) := ⟨rfl, rfl, rfl, by decide +kernel, rfl, by decide +kernel, by decide +kernel⟩
def m_is_within : DS :=
    (sRet (dAnd (dCallA 1 f_is_whole (dCons (dVar 0) dNil)) (dChain fLe fLe (dVar 1) (dVar 0) (dVar 2))))
def f_is_within : DF := body 3 3 m_is_within
theorem ok_is_within {w : World} {T : Txt} {mg : Str → Option Value} {base : Heap} (Z : Facts T mg) (D_is_whole : Def P w T mg base 1 0 "is_whole" ["thing"] f_is_whole) (l : Lk T 1 "is_within" "is_within" st_is_within) (hg : mg "is_within" = some (.ref (T.fa 1))) : Def P w T mg base 2 1 "is_within" ["thing", "least", "most"] f_is_within := by
  refine defD_of (m := m_is_within) (k := 1) (N := ["thing", "least", "most"]) (ps := ["thing", "least", "most"]) (st := st_is_within) l hg sc_is_within (fun _ _ _ _ _ _ us hl => match us, hl with | [_, _, _], _ => rfl) fun cdv A outer s H E xp ft po => ?_
  exact (pds_one (pds_ret (pd_and (pd_callA D_is_whole (ft.mono (by decide)) (by rfl) (pda_cons (pd_var (i := 0) rfl (by first | exact Or.inl rfl | exact Or.inr (Or.inl rfl) | exact Or.inr (Or.inr rfl))) pda_nil)) (pd_last (pd_chain cmp_le cmp_le (pd_var (i := 1) rfl (by first | exact Or.inl rfl | exact Or.inr (Or.inl rfl) | exact Or.inr (Or.inr rfl))) (pd_var (i := 0) rfl (by first | exact Or.inl rfl | exact Or.inr (Or.inl rfl) | exact Or.inr (Or.inr rfl))) (pd_var (i := 2) rfl (by first | exact Or.inl rfl | exact Or.inr (Or.inl rfl) | exact Or.inr (Or.inr rfl))))))))
abbrev st_is_year : Stmt := top 5
theorem sc_is_year : FnScope ["thing"] ["thing"] (defScope st_is_year) := ⟨rfl, rfl, rfl, by decide +kernel, rfl, by decide +kernel, by decide +kernel⟩
def m_is_year : DS :=
    (sRet (dCallA 3 f_is_within (dCons (dVar 0) (dCons (dC (.int 1900)) (dCons (dC (.int 2100)) dNil)))))
def f_is_year : DF := body 1 1 m_is_year
theorem ok_is_year {w : World} {T : Txt} {mg : Str → Option Value} {base : Heap} (Z : Facts T mg) (D_is_within : Def P w T mg base 2 1 "is_within" ["thing", "least", "most"] f_is_within) (l : Lk T 2 "is_year" "is_year" st_is_year) (hg : mg "is_year" = some (.ref (T.fa 2))) : Def P w T mg base 3 2 "is_year" ["thing"] f_is_year := by
  refine defD_of (m := m_is_year) (k := 2) (N := ["thing"]) (ps := ["thing"]) (st := st_is_year) l hg sc_is_year (fun _ _ _ _ _ _ us hl => match us, hl with | [_], _ => rfl) fun cdv A outer s H E xp ft po => ?_
  exact (pds_one (pds_ret (pd_callA D_is_within (ft.mono (by decide)) (by rfl) (pda_cons (pd_var (i := 0) rfl (by first | exact Or.inl rfl | exact Or.inr (Or.inl rfl) | exact Or.inr (Or.inr rfl))) (pda_cons pd_int (pda_cons pd_int pda_nil))))))
abbrev st_is_word : Stmt := top 6
theorem sc_is_word : FnScope ["thing", "least", "most", "sign"] ["thing", "least", "most"] (defScope st_is_word) := ⟨rfl, rfl, rfl, by decide +kernel, rfl, by decide +kernel, by decide +kernel⟩
def m_is_word : DS :=
    (sSeq (sIf (tOrD (tNotD (dTruth (dCB (bIsi [0] isT) (dCons (dVar 0) (dCons (dC (.ty "str")) dNil))))) (tNotD (asB (dChain fLe fLe (dVar 1) (dCB (one gLen) (dCons (dVar 0) dNil)) (dVar 2))))) (sRet (dC (.bl false))) sNext)
    (sRet (dCB (one gAll) (dCons (dLcS (dVar 0) (g1 3) tYesD (dChain fLe fLe (dC (.str "a")) (dVar 3) (dC (.str "z"))) [3]) dNil))))
def f_is_word : DF := body 4 3 m_is_word
theorem ok_is_word {w : World} {T : Txt} {mg : Str → Option Value} {base : Heap} (Z : Facts T mg) (l : Lk T 3 "is_word" "is_word" st_is_word) (hg : mg "is_word" = some (.ref (T.fa 3))) : Def P w T mg base 1 3 "is_word" ["thing", "least", "most"] f_is_word := by
  refine defD_of (m := m_is_word) (k := 0) (N := ["thing", "least", "most", "sign"]) (ps := ["thing", "least", "most"]) (st := st_is_word) l hg sc_is_word (fun _ _ _ _ _ _ us hl => match us, hl with | [_, _, _], _ => rfl) fun cdv A outer s H E xp ft po => ?_
  exact (pds_cons (pds_if (pdt_w (pdw_or (pdt_not (pdt_truth (pd_blt (blt_isi Z.own Z.isT) (by rfl) Z.b_isinstance rfl (pda_cons (pd_var (i := 0) rfl (by first | exact Or.inl rfl | exact Or.inr (Or.inl rfl) | exact Or.inr (Or.inr rfl))) (pda_cons (pd_bt (n := "str") rfl Z.b_str (by rfl)) pda_nil))))) (pdw_or1 (pdt_not (pdt_chain cmp_le cmp_le (pd_var (i := 1) rfl (by first | exact Or.inl rfl | exact Or.inr (Or.inl rfl) | exact Or.inr (Or.inr rfl))) (pd_blt blt_len (by rfl) Z.b_len rfl (pda_cons (pd_var (i := 0) rfl (by first | exact Or.inl rfl | exact Or.inr (Or.inl rfl) | exact Or.inr (Or.inr rfl))) pda_nil)) (pd_var (i := 2) rfl (by first | exact Or.inl rfl | exact Or.inr (Or.inl rfl) | exact Or.inr (Or.inr rfl)))))))) (pds_one (pds_ret pd_bl)) pds_nil)
    (pds_one (pds_ret (pd_blt (blt_all rfl) (by rfl) Z.b_all rfl (pda_cons (pd_lcS (own := [("sign", 3)]) rfl sc_is_word.nd (pd_var (i := 0) rfl (by first | exact Or.inl rfl | exact Or.inr (Or.inl rfl) | exact Or.inr (Or.inr rfl))) (blkOk_by rfl) (fun _ _ _ _ _ => pg_name (i := 3) sc_is_word.nd rfl (by first | exact Or.inl rfl | exact Or.inr rfl)) (tg_one 3) (by decide) (fun _ _ _ _ _ => pdts_nil) (fun _ _ _ _ _ => (pd_chain cmp_le cmp_le pd_str (pd_var (i := 3) rfl (by first | exact Or.inl rfl | exact Or.inr (Or.inl rfl) | exact Or.inr (Or.inr rfl))) pd_str))) pda_nil)))))
abbrev st_is_maker : Stmt := top 7
theorem sc_is_maker : FnScope ["thing"] ["thing"] (defScope st_is_maker) := ⟨rfl, rfl, rfl, by decide +kernel, rfl, by decide +kernel, by decide +kernel⟩
def m_is_maker : DS :=
    (sRet (dCallA 3 f_is_word (dCons (dVar 0) (dCons (dC (.int 1)) (dCons (dC (.int 8)) dNil)))))
def f_is_maker : DF := body 1 1 m_is_maker
theorem ok_is_maker {w : World} {T : Txt} {mg : Str → Option Value} {base : Heap} (Z : Facts T mg) (D_is_word : Def P w T mg base 1 3 "is_word" ["thing", "least", "most"] f_is_word) (l : Lk T 4 "is_maker" "is_maker" st_is_maker) (hg : mg "is_maker" = some (.ref (T.fa 4))) : Def P w T mg base 2 4 "is_maker" ["thing"] f_is_maker := by
  refine defD_of (m := m_is_maker) (k := 1) (N := ["thing"]) (ps := ["thing"]) (st := st_is_maker) l hg sc_is_maker (fun _ _ _ _ _ _ us hl => match us, hl with | [_], _ => rfl) fun cdv A outer s H E xp ft po => ?_
  exact (pds_one (pds_ret (pd_callA D_is_word (ft.mono (by decide)) (by rfl) (pda_cons (pd_var (i := 0) rfl (by first | exact Or.inl rfl | exact Or.inr (Or.inl rfl) | exact Or.inr (Or.inr rfl))) (pda_cons pd_int (pda_cons pd_int pda_nil))))))
abbrev st_whole_in : Stmt := top 8
theorem sc_whole_in : FnScope ["word", "sign"] ["word"] (defScope st_whole_in) := ⟨rfl, rfl, rfl, by decide +kernel, rfl, by decide +kernel, by decide +kernel⟩
def m_whole_in : DS :=
    (sSeq (sIf (tOrD (tNotD (asB (dChain fLe fLe (dC (.int 1)) (dCB (one gLen) (dCons (dVar 0) dNil)) (dC (.int 40))))) (tNotD (dTruth (dCB (one gAll) (dCons (dLcS (dVar 0) (g1 1) tYesD (dChain fLe fLe (dC (.str "0")) (dVar 1) (dC (.str "9"))) [1]) dNil))))) (sRet (dC .non)) sNext)
    (sSeq (sIf (tAndD (asB (dOp2 fEq (dIx (dVar 0) (dC (.int 0))) (dC (.str "0")))) (asB (dOp2 fNe (dVar 0) (dC (.str "0"))))) (sRet (dC .non)) sNext)
    (sRet (dCB (one gIntS) (dCons (dVar 0) dNil)))))
def f_whole_in : DF := body 2 1 m_whole_in
theorem ok_whole_in {w : World} {T : Txt} {mg : Str → Option Value} {base : Heap} (Z : Facts T mg) (l : Lk T 5 "whole_in" "whole_in" st_whole_in) (hg : mg "whole_in" = some (.ref (T.fa 5))) : Def P w T mg base 1 5 "whole_in" ["word"] f_whole_in := by
  refine defD_of (m := m_whole_in) (k := 0) (N := ["word", "sign"]) (ps := ["word"]) (st := st_whole_in) l hg sc_whole_in (fun _ _ _ _ _ _ us hl => match us, hl with | [_], _ => rfl) fun cdv A outer s H E xp ft po => ?_
  exact (pds_cons (pds_if (pdt_w (pdw_or (pdt_not (pdt_chain cmp_le cmp_le pd_int (pd_blt blt_len (by rfl) Z.b_len rfl (pda_cons (pd_var (i := 0) rfl (by first | exact Or.inl rfl | exact Or.inr (Or.inl rfl) | exact Or.inr (Or.inr rfl))) pda_nil)) (pd_glE Z.g_MOST_FIGURES (by rfl)))) (pdw_or1 (pdt_not (pdt_truth (pd_blt (blt_all rfl) (by rfl) Z.b_all rfl (pda_cons (pd_lcS (own := [("sign", 1)]) rfl sc_whole_in.nd (pd_var (i := 0) rfl (by first | exact Or.inl rfl | exact Or.inr (Or.inl rfl) | exact Or.inr (Or.inr rfl))) (blkOk_by rfl) (fun _ _ _ _ _ => pg_name (i := 1) sc_whole_in.nd rfl (by first | exact Or.inl rfl | exact Or.inr rfl)) (tg_one 1) (by decide) (fun _ _ _ _ _ => pdts_nil) (fun _ _ _ _ _ => (pd_chain cmp_le cmp_le pd_str (pd_var (i := 1) rfl (by first | exact Or.inl rfl | exact Or.inr (Or.inl rfl) | exact Or.inr (Or.inr rfl))) pd_str))) pda_nil))))))) (pds_one (pds_ret pd_non)) pds_nil)
    (pds_cons (pds_if (pdt_w (pdw_and (pdt_cmp (cmp_eq ft.u) (pd_ix (pd_var (i := 0) rfl (by first | exact Or.inl rfl | exact Or.inr (Or.inl rfl) | exact Or.inr (Or.inr rfl))) pd_int) pd_str (by rfl)) (pdw_and1 (pdt_cmp (cmp_ne ft.u) (pd_var (i := 0) rfl (by first | exact Or.inl rfl | exact Or.inr (Or.inl rfl) | exact Or.inr (Or.inr rfl))) pd_str (by rfl))))) (pds_one (pds_ret pd_non)) pds_nil)
    (pds_one (pds_ret (pd_ty ty_intS (by rfl) Z.b_int rfl (pda_cons (pd_var (i := 0) rfl (by first | exact Or.inl rfl | exact Or.inr (Or.inl rfl) | exact Or.inr (Or.inr rfl))) pda_nil))))))
abbrev st_is_size : Stmt := top 36
theorem sc_is_size : FnScope ["thing"] ["thing"] (defScope st_is_size) := ⟨rfl, rfl, rfl, by decide +kernel, rfl, by decide +kernel, by decide +kernel⟩
def m_is_size : DS :=
    (sRet (dAnd (dCallA 1 f_is_whole (dCons (dVar 0) dNil)) (dOp2 fIn (dVar 0) (dC (.tup [.int 37, .int 75, .int 150])))))
def f_is_size : DF := body 1 1 m_is_size
theorem ok_is_size {w : World} {T : Txt} {mg : Str → Option Value} {base : Heap} (Z : Facts T mg) (D_is_whole : Def P w T mg base 1 0 "is_whole" ["thing"] f_is_whole) (l : Lk T 6 "is_size" "is_size" st_is_size) (hg : mg "is_size" = some (.ref (T.fa 6))) : Def P w T mg base 2 6 "is_size" ["thing"] f_is_size := by
  refine defD_of (m := m_is_size) (k := 1) (N := ["thing"]) (ps := ["thing"]) (st := st_is_size) l hg sc_is_size (fun _ _ _ _ _ _ us hl => match us, hl with | [_], _ => rfl) fun cdv A outer s H E xp ft po => ?_
  exact (pds_one (pds_ret (pd_and (pd_callA D_is_whole (ft.mono (by decide)) (by rfl) (pda_cons (pd_var (i := 0) rfl (by first | exact Or.inl rfl | exact Or.inr (Or.inl rfl) | exact Or.inr (Or.inr rfl))) pda_nil)) (pd_last (pd_cmpD cmp_in (pd_var (i := 0) rfl (by first | exact Or.inl rfl | exact Or.inr (Or.inl rfl) | exact Or.inr (Or.inr rfl))) (pd_glE Z.g_SIZES (by rfl)) (by rfl))))))
abbrev st_Bottle : Stmt := clsAt (top 35) 0
theorem sc_Bottle : FnScope ["self", "maker", "year", "size"] ["self", "maker", "year", "size"] (defScope st_Bottle) := ⟨rfl, rfl, rfl, by decide +kernel, rfl, by decide +kernel, by decide +kernel⟩
def gB_Bottle_2 {α : Type} (us ds ws : List α) : List α := us ++ ds
def gd_Bottle_2 : List D → List D → List D := fun ds es => gB_Bottle_2 ds [.int 75] es
def gB_Bottle_3 {α : Type} (us ds ws : List α) : List α := us
def gd_Bottle_3 : List D → List D → List D := fun ds es => gB_Bottle_3 ds [.int 75] es
def m_Bottle : DS :=
    (sSeq (sIf (tNotD (dTruth (dCallA 1 f_is_maker (dCons (dVar 1) dNil)))) (sRaise 1) sNext)
    (sSeq (sIf (tNotD (dTruth (dCallA 1 f_is_year (dCons (dVar 2) dNil)))) (sRaise 2) sNext)
    (sSeq (sIf (tNotD (dTruth (dCallA 1 f_is_size (dCons (dVar 3) dNil)))) (sRaise 3) sNext)
    (sSeq (sSetF 0 0 (dVar 0) (dVar 1))
    (sSeq (sSetF 0 1 (dVar 0) (dVar 2))
    (sSetF 0 2 (dVar 0) (dVar 3)))))))
def f_Bottle : DF := body 4 4 m_Bottle
structure Mk_Bottle (P : Program) (w : World) (T : Txt) (mg : Str → Option Value) (base : Heap) : Prop where
  ex : ∃ fd, Mk T.K (T.ca 0) (T.fa 7) ∧ FnG P w T.K mg base 4 (T.fa 7) fd ["self", "maker", "year", "size"] (spM T 4 f_Bottle) ∧ Bd T fd ["self", "maker", "year", "size"] 3 [] gd_Bottle_2 ∧ Bd T fd ["self", "maker", "year", "size"] 4 [] gd_Bottle_3
theorem ok_Bottle {w : World} {T : Txt} {mg : Str → Option Value} {base : Heap} (Z : Facts T mg) (D_is_maker : Def P w T mg base 2 4 "is_maker" ["thing"] f_is_maker) (D_is_size : Def P w T mg base 2 6 "is_size" ["thing"] f_is_size) (D_is_year : Def P w T mg base 3 2 "is_year" ["thing"] f_is_year)
    (hm : Mk T.K (T.ca 0) (T.fa 7)) (l : ∃ fd, FunD T.K "__init__" "Bottle.__init__" (defArgs st_Bottle) (defBody st_Bottle) (defScope st_Bottle) [.int 75] [] (T.fa 7) fd) : Mk_Bottle P w T mg base := by
  obtain ⟨fd, F⟩ := l
  refine ⟨fd, hm, fnD_ofF (m := m_Bottle) (k := 3) (N := ["self", "maker", "year", "size"]) (ps := ["self", "maker", "year", "size"]) F sc_Bottle fun cdv A outer s H E xp ft => ?_, ?_, ?_⟩
  · exact (pds_cons (pds_if (pdt_not (pdt_truth (pd_callA D_is_maker (ft.mono (by decide)) (by rfl) (pda_cons (pd_var (i := 1) rfl (by first | exact Or.inl rfl | exact Or.inr (Or.inl rfl) | exact Or.inr (Or.inr rfl))) pda_nil)))) (pds_one (pds_raise rfl ft.tk Z.e_NoMaker Z.c_NoMaker (by rfl))) pds_nil)
    (pds_cons (pds_if (pdt_not (pdt_truth (pd_callA D_is_year (ft.mono (by decide)) (by rfl) (pda_cons (pd_var (i := 2) rfl (by first | exact Or.inl rfl | exact Or.inr (Or.inl rfl) | exact Or.inr (Or.inr rfl))) pda_nil)))) (pds_one (pds_raise rfl ft.tk Z.e_NoYear Z.c_NoYear (by rfl))) pds_nil)
    (pds_cons (pds_if (pdt_not (pdt_truth (pd_callA D_is_size (ft.mono (by decide)) (by rfl) (pda_cons (pd_var (i := 3) rfl (by first | exact Or.inl rfl | exact Or.inr (Or.inl rfl) | exact Or.inr (Or.inr rfl))) pda_nil)))) (pds_one (pds_raise rfl ft.tk Z.e_NoSize Z.c_NoSize (by rfl))) pds_nil)
    (pds_cons (pds_setF (i := 0) Z.i_Bottle (by rw [Z.f_Bottle]; rfl) (pd_var (i := 0) rfl (by first | exact Or.inl rfl | exact Or.inr (Or.inl rfl) | exact Or.inr (Or.inr rfl))) (pd_var (i := 1) rfl (by first | exact Or.inl rfl | exact Or.inr (Or.inl rfl) | exact Or.inr (Or.inr rfl))))
    (pds_cons (pds_setF (i := 1) Z.i_Bottle (by rw [Z.f_Bottle]; rfl) (pd_var (i := 0) rfl (by first | exact Or.inl rfl | exact Or.inr (Or.inl rfl) | exact Or.inr (Or.inr rfl))) (pd_var (i := 2) rfl (by first | exact Or.inl rfl | exact Or.inr (Or.inl rfl) | exact Or.inr (Or.inr rfl))))
    (pds_one (pds_setF (i := 2) Z.i_Bottle (by rw [Z.f_Bottle]; rfl) (pd_var (i := 0) rfl (by first | exact Or.inl rfl | exact Or.inr (Or.inl rfl) | exact Or.inr (Or.inr rfl))) (pd_var (i := 3) rfl (by first | exact Or.inl rfl | exact Or.inr (Or.inl rfl) | exact Or.inr (Or.inr rfl))))))))))
  · refine bd_dfl (dds := [.int 75]) gB_Bottle_2 F (by simp) (fun _ _ _ => .cons (.int 75) .nil) (fun r d q => r.append d) (fun _ _ _ _ _ _ _ _ _ r d q => r.append d) (fun vs zs h1 h2 => by unfold gB_Bottle_2; simp [h1, h2]) ?_
    intro D kV doc pm an cdv ct us its ws h1 h2 h3
    match us, its, ws, h1, h2, h3 with
    | [_, _, _], [_], [], _, _, _ => exact ⟨_, rfl, rfl⟩
  · refine bd_dfl (dds := [.int 75]) gB_Bottle_3 F (by simp) (fun _ _ _ => .cons (.int 75) .nil) (fun r d q => r) (fun _ _ _ _ _ _ _ _ _ r d q => r) (fun vs zs h1 h2 => by unfold gB_Bottle_3; simp [h1, h2]) ?_
    intro D kV doc pm an cdv ct us its ws h1 h2 h3
    match us, its, ws, h1, h2, h3 with
    | [_, _, _, _], [_], [], _, _, _ => exact ⟨_, rfl, rfl⟩
abbrev st_Bottle___str__ : Stmt := clsAt (top 35) 2
theorem sc_Bottle___str__ : FnScope ["self"] ["self"] (defScope st_Bottle___str__) := ⟨rfl, rfl, rfl, by decide +kernel, rfl, by decide +kernel, by decide +kernel⟩
def m_Bottle___str__ : DS :=
    (sSeq (sIf (asB (dOp2 fEq (dFld 0 2 (dVar 0)) (dC (.int 75)))) (sRet (dJs [(dFmt (dFld 0 0 (dVar 0))), (dC (.str " ")), (dFmt (dFld 0 1 (dVar 0)))] Str.empty)) sNext)
    (sRet (dJs [(dFmt (dFld 0 0 (dVar 0))), (dC (.str " ")), (dFmt (dFld 0 1 (dVar 0))), (dC (.str " ")), (dFmt (dFld 0 2 (dVar 0)))] Str.empty)))
def f_Bottle___str__ : DF := body 1 1 m_Bottle___str__
theorem ok_Bottle___str__ {w : World} {T : Txt} {mg : Str → Option Value} {base : Heap} (Z : Facts T mg) (l : Lk T 8 "__str__" "Bottle.__str__" st_Bottle___str__) (me : Meth T.K (T.ca 0) "__str__" (T.fa 8)) : DefO P w T mg base 1 0 8 "__str__" 1 f_Bottle___str__ := by
  refine defO_of (c := 0) (nm := "__str__") (m := m_Bottle___str__) (k := 0) (N := ["self"]) (ps := ["self"]) (st := st_Bottle___str__) l me sc_Bottle___str__ (fun _ _ _ _ _ _ us hl => match us, hl with | [_], _ => rfl) fun cdv A outer s H E xp ft po => ?_
  exact (pds_cons (pds_if (pdt_cmp (cmp_eq ft.u) (pd_fld (i := 2) Z.i_Bottle (by rw [Z.f_Bottle]; rfl) (pd_var (i := 0) rfl (by first | exact Or.inl rfl | exact Or.inr (Or.inl rfl) | exact Or.inr (Or.inr rfl)))) (pd_glE Z.g_USUAL_SIZE (by rfl)) (by rfl)) (pds_one (pds_ret (pd_joined (.cons (pd_fmt (pd_fld (i := 0) Z.i_Bottle (by rw [Z.f_Bottle]; rfl) (pd_var (i := 0) rfl (by first | exact Or.inl rfl | exact Or.inr (Or.inl rfl) | exact Or.inr (Or.inr rfl))))) (.cons pd_str (.cons (pd_fmt (pd_fld (i := 1) Z.i_Bottle (by rw [Z.f_Bottle]; rfl) (pd_var (i := 0) rfl (by first | exact Or.inl rfl | exact Or.inr (Or.inl rfl) | exact Or.inr (Or.inr rfl))))) .nil)))))) pds_nil)
    (pds_one (pds_ret (pd_joined (.cons (pd_fmt (pd_fld (i := 0) Z.i_Bottle (by rw [Z.f_Bottle]; rfl) (pd_var (i := 0) rfl (by first | exact Or.inl rfl | exact Or.inr (Or.inl rfl) | exact Or.inr (Or.inr rfl))))) (.cons pd_str (.cons (pd_fmt (pd_fld (i := 1) Z.i_Bottle (by rw [Z.f_Bottle]; rfl) (pd_var (i := 0) rfl (by first | exact Or.inl rfl | exact Or.inr (Or.inl rfl) | exact Or.inr (Or.inr rfl))))) (.cons pd_str (.cons (pd_fmt (pd_fld (i := 2) Z.i_Bottle (by rw [Z.f_Bottle]; rfl) (pd_var (i := 0) rfl (by first | exact Or.inl rfl | exact Or.inr (Or.inl rfl) | exact Or.inr (Or.inr rfl))))) .nil)))))))))
abbrev st_Bottle___repr__ : Stmt := clsAt (top 35) 3
theorem sc_Bottle___repr__ : FnScope ["self"] ["self"] (defScope st_Bottle___repr__) := ⟨rfl, rfl, rfl, by decide +kernel, rfl, by decide +kernel, by decide +kernel⟩
def m_Bottle___repr__ : DS :=
    (sRet (dJs [(dC (.str "Bottle(")), (dFmtR (dFld 0 0 (dVar 0))), (dC (.str ", ")), (dFmt (dFld 0 1 (dVar 0))), (dC (.str ", ")), (dFmt (dFld 0 2 (dVar 0))), (dC (.str ")"))] Str.empty))
def f_Bottle___repr__ : DF := body 1 1 m_Bottle___repr__
theorem ok_Bottle___repr__ {w : World} {T : Txt} {mg : Str → Option Value} {base : Heap} (Z : Facts T mg) (l : Lk T 9 "__repr__" "Bottle.__repr__" st_Bottle___repr__) (me : Meth T.K (T.ca 0) "__repr__" (T.fa 9)) : DefR P w T mg base 1 0 9 f_Bottle___repr__ := by
  refine defR_of (c := 0) (m := m_Bottle___repr__) (k := 0) (N := ["self"]) (ps := ["self"]) (st := st_Bottle___repr__) l me sc_Bottle___repr__ rfl (fun _ _ _ _ _ _ us hl => match us, hl with | [_], _ => rfl) fun cdv A outer s H E xp => ?_
  exact (pds_one (pds_ret (pd_joined (.cons pd_str (.cons (pd_fmtR (pd_fld (i := 0) Z.i_Bottle (by rw [Z.f_Bottle]; rfl) (pd_var (i := 0) rfl (by first | exact Or.inl rfl | exact Or.inr (Or.inl rfl) | exact Or.inr (Or.inr rfl))))) (.cons pd_str (.cons (pd_fmt (pd_fld (i := 1) Z.i_Bottle (by rw [Z.f_Bottle]; rfl) (pd_var (i := 0) rfl (by first | exact Or.inl rfl | exact Or.inr (Or.inl rfl) | exact Or.inr (Or.inr rfl))))) (.cons pd_str (.cons (pd_fmt (pd_fld (i := 2) Z.i_Bottle (by rw [Z.f_Bottle]; rfl) (pd_var (i := 0) rfl (by first | exact Or.inl rfl | exact Or.inr (Or.inl rfl) | exact Or.inr (Or.inr rfl))))) (.cons pd_str .nil))))))))))
abbrev st_are_bottles : Stmt := top 37
theorem sc_are_bottles : FnScope ["thing", "part"] ["thing"] (defScope st_are_bottles) := ⟨rfl, rfl, rfl, by decide +kernel, rfl, by decide +kernel, by decide +kernel⟩
def m_are_bottles : DS :=
    (sRet (dAnd (dCB (bIsi [0] isT) (dCons (dVar 0) (dCons (dC (.ty "list")) dNil))) (dCB (one gAll) (dCons (dLc (iSeq (dVar 0)) (g1 1) tYesD (dCB (bIsi [0] isT) (dCons (dVar 1) (dCons (dC (.cl 0)) dNil))) [1]) dNil))))
def f_are_bottles : DF := body 2 1 m_are_bottles
theorem ok_are_bottles {w : World} {T : Txt} {mg : Str → Option Value} {base : Heap} (Z : Facts T mg) (l : Lk T 10 "are_bottles" "are_bottles" st_are_bottles) (hg : mg "are_bottles" = some (.ref (T.fa 10))) : Def P w T mg base 1 10 "are_bottles" ["thing"] f_are_bottles := by
  refine defD_of (m := m_are_bottles) (k := 0) (N := ["thing", "part"]) (ps := ["thing"]) (st := st_are_bottles) l hg sc_are_bottles (fun _ _ _ _ _ _ us hl => match us, hl with | [_], _ => rfl) fun cdv A outer s H E xp ft po => ?_
  exact (pds_one (pds_ret (pd_and (pd_blt (blt_isi Z.own Z.isT) (by rfl) Z.b_isinstance rfl (pda_cons (pd_var (i := 0) rfl (by first | exact Or.inl rfl | exact Or.inr (Or.inl rfl) | exact Or.inr (Or.inr rfl))) (pda_cons (pd_bt (n := "list") rfl Z.b_list (by rfl)) pda_nil))) (pd_last (pd_blt (blt_all rfl) (by rfl) Z.b_all rfl (pda_cons (pd_lc (own := [("part", 1)]) rfl sc_are_bottles.nd (pdi_seq (pd_var (i := 0) rfl (by first | exact Or.inl rfl | exact Or.inr (Or.inl rfl) | exact Or.inr (Or.inr rfl)))) (blkOk_by rfl) (fun _ _ _ _ _ => pg_name (i := 1) sc_are_bottles.nd rfl (by first | exact Or.inl rfl | exact Or.inr rfl)) (tg_one 1) (by decide) (fun _ _ _ _ _ => pdts_nil) (fun _ _ _ _ _ => (pd_blt (blt_isi Z.own Z.isT) (by rfl) Z.b_isinstance rfl (pda_cons (pd_var (i := 1) rfl (by first | exact Or.inl rfl | exact Or.inr (Or.inl rfl) | exact Or.inr (Or.inr rfl))) (pda_cons (pd_cl (c := 0) Z.c_Bottle (by rfl)) pda_nil))))) pda_nil))))))
abbrev st_written : Stmt := top 39
theorem sc_written : FnScope ["bottles", "bottle"] ["bottles"] (defScope st_written) := ⟨rfl, rfl, rfl, by decide +kernel, rfl, by decide +kernel, by decide +kernel⟩
def m_written : DS :=
    (sSeq (sIf (tNotD (dTruth (dCallA 1 f_are_bottles (dCons (dVar 0) dNil)))) (sRaise 5) sNext)
    (sRet (dBm "str" mJoin (dC (.str "\n")) (dCons (dLc (iSeq (dVar 0)) (g1 1) tYesD (dCB (gOwnT 0 f_Bottle___str__) (dCons (dVar 1) dNil)) [1]) dNil))))
def f_written : DF := body 2 1 m_written
theorem ok_written {w : World} {T : Txt} {mg : Str → Option Value} {base : Heap} (Z : Facts T mg) (D_are_bottles : Def P w T mg base 1 10 "are_bottles" ["thing"] f_are_bottles) (O___str__ : DefO P w T mg base 1 0 8 "__str__" 1 f_Bottle___str__) (l : Lk T 11 "written" "written" st_written) (hg : mg "written" = some (.ref (T.fa 11))) : Def P w T mg base 4 11 "written" ["bottles"] f_written := by
  refine defD_of (m := m_written) (k := 3) (N := ["bottles", "bottle"]) (ps := ["bottles"]) (st := st_written) l hg sc_written (fun _ _ _ _ _ _ us hl => match us, hl with | [_], _ => rfl) fun cdv A outer s H E xp ft po => ?_
  exact (pds_cons (pds_if (pdt_not (pdt_truth (pd_callA D_are_bottles (ft.mono (by decide)) (by rfl) (pda_cons (pd_var (i := 0) rfl (by first | exact Or.inl rfl | exact Or.inr (Or.inl rfl) | exact Or.inr (Or.inr rfl))) pda_nil)))) (pds_one (pds_raise rfl ft.tk Z.e_NoBottles Z.c_NoBottles (by rfl))) pds_nil)
    (pds_one (pds_ret (pd_bm mt_joinD pd_str (pda_cons (pd_lc (own := [("bottle", 1)]) rfl sc_written.nd (pdi_seq (pd_var (i := 0) rfl (by first | exact Or.inl rfl | exact Or.inr (Or.inl rfl) | exact Or.inr (Or.inr rfl)))) (blkOk_by rfl) (fun _ _ _ _ _ => pg_name (i := 1) sc_written.nd rfl (by first | exact Or.inl rfl | exact Or.inr rfl)) (tg_one 1) (by decide) (fun _ _ _ _ _ => pdts_nil) (fun _ _ _ _ _ => (pd_ty (tyS_own O___str__ ((ft.blk _ _ _ _ _ _).mono (by decide))) (by rfl) Z.b_str rfl (pda_cons (pd_var (i := 1) rfl (by first | exact Or.inl rfl | exact Or.inr (Or.inl rfl) | exact Or.inr (Or.inr rfl))) pda_nil)))) pda_nil)))))
abbrev st__bottle_in : Stmt := top 41
theorem sc__bottle_in : FnScope ["line", "size", "maker", "words", "numbers", "word"] ["line", "size"] (defScope st__bottle_in) := ⟨rfl, rfl, rfl, by decide +kernel, rfl, by decide +kernel, by decide +kernel⟩
def m__bottle_in : DS :=
    (sSeq (sStar 2 3 (dBm "str" mSplit (dVar 0) (dCons (dC (.str " ")) dNil)))
    (sSeq (sSet 4 (dLcN (iSeq (dVar 3)) (g1 5) tYesD (dCallA 1 f_whole_in (dCons (dVar 5) dNil)) [5]))
    (sSeq (sIf (asB (dOp2 fEq (dCB (one gLen) (dCons (dVar 4) dNil)) (dC (.int 1)))) (sDrop (dBm "list" mApp (dVar 4) (dCons (dVar 1) dNil))) sNext)
    (sSeq (sIf (tOrD (asB (dOp2 fNe (dCB (one gLen) (dCons (dVar 4) dNil)) (dC (.int 2)))) (tNotD (tAndD (dTruth (dCallA 1 f_is_maker (dCons (dVar 2) dNil))) (tAndD (dTruth (dCallA 1 f_is_year (dCons (dIx (dVar 4) (dC (.int 0))) dNil))) (dTruth (dCallA 1 f_is_size (dCons (dIx (dVar 4) (dC (.int 1))) dNil))))))) (sRet (dC .non)) sNext)
    (sRet (dMake 0 3 0 gd_Bottle_3 f_Bottle (dCons (dVar 2) (dCons (dIx (dVar 4) (dC (.int 0))) (dCons (dIx (dVar 4) (dC (.int 1))) dNil))) dNil))))))
def f__bottle_in : DF := body 6 2 m__bottle_in
theorem ok__bottle_in {w : World} {T : Txt} {mg : Str → Option Value} {base : Heap} (Z : Facts T mg) (D_is_maker : Def P w T mg base 2 4 "is_maker" ["thing"] f_is_maker) (D_is_size : Def P w T mg base 2 6 "is_size" ["thing"] f_is_size) (D_is_year : Def P w T mg base 3 2 "is_year" ["thing"] f_is_year) (D_whole_in : Def P w T mg base 1 5 "whole_in" ["word"] f_whole_in) (MB_Bottle : Mk_Bottle P w T mg base) (l : Lk T 12 "_bottle_in" "_bottle_in" st__bottle_in) (hg : mg "_bottle_in" = some (.ref (T.fa 12))) : Def P w T mg base 6 12 "_bottle_in" ["line", "size"] f__bottle_in := by
  obtain ⟨fd_Bottle, K_Bottle, F_Bottle, B_Bottle_2, B_Bottle_3⟩ := MB_Bottle.ex
  refine defD_of (m := m__bottle_in) (k := 5) (N := ["line", "size", "maker", "words", "numbers", "word"]) (ps := ["line", "size"]) (st := st__bottle_in) l hg sc__bottle_in (fun _ _ _ _ _ _ us hl => match us, hl with | [_, _], _ => rfl) fun cdv A outer s H E xp ft po => ?_
  exact (pds_cons (pds_star (i := 2) (j := 3) rfl sc__bottle_in.nd rfl rfl (by first | exact Or.inl rfl | exact Or.inr rfl) (by first | exact Or.inl rfl | exact Or.inr rfl) (pd_bm mt_splitD (pd_var (i := 0) rfl (by first | exact Or.inl rfl | exact Or.inr (Or.inl rfl) | exact Or.inr (Or.inr rfl))) (pda_cons pd_str pda_nil)))
    (pds_cons (pds_setLcN (i := 4) (own := [("word", 5)]) rfl sc__bottle_in.nd rfl rfl (pdi_seq (pd_var (i := 3) rfl (by first | exact Or.inl rfl | exact Or.inr (Or.inl rfl) | exact Or.inr (Or.inr rfl)))) (blkOk_by rfl) (fun _ _ _ _ _ => pg_name (i := 5) sc__bottle_in.nd rfl (by first | exact Or.inl rfl | exact Or.inr rfl)) (tg_one 5) (by decide) (fun _ _ _ _ _ => pdts_nil) (fun _ _ _ _ _ => (pd_callA D_whole_in ((ft.blk _ _ _ _ _ _).mono (by decide)) (by rfl) (pda_cons (pd_var (i := 5) rfl (by first | exact Or.inl rfl | exact Or.inr (Or.inl rfl) | exact Or.inr (Or.inr rfl))) pda_nil))))
    (pds_cons (pds_if (pdt_cmp (cmp_eq ft.u) (pd_blt blt_len (by rfl) Z.b_len rfl (pda_cons (pd_var (i := 4) rfl (by first | exact Or.inl rfl | exact Or.inr (Or.inl rfl) | exact Or.inr (Or.inr rfl))) pda_nil)) pd_int (by rfl)) (pds_one (pds_drop (pd_bm mt_app (pd_var (i := 4) rfl (by first | exact Or.inl rfl | exact Or.inr (Or.inl rfl) | exact Or.inr (Or.inr rfl))) (pda_cons (pd_var (i := 1) rfl (by first | exact Or.inl rfl | exact Or.inr (Or.inl rfl) | exact Or.inr (Or.inr rfl))) pda_nil)))) pds_nil)
    (pds_cons (pds_if (pdt_w (pdw_or (pdt_cmp (cmp_ne ft.u) (pd_blt blt_len (by rfl) Z.b_len rfl (pda_cons (pd_var (i := 4) rfl (by first | exact Or.inl rfl | exact Or.inr (Or.inl rfl) | exact Or.inr (Or.inr rfl))) pda_nil)) pd_int (by rfl)) (pdw_or1 (pdt_not (pdt_w (pdw_and (pdt_truth (pd_callA D_is_maker (ft.mono (by decide)) (by rfl) (pda_cons (pd_var (i := 2) rfl (by first | exact Or.inl rfl | exact Or.inr (Or.inl rfl) | exact Or.inr (Or.inr rfl))) pda_nil))) (pdw_and (pdt_truth (pd_callA D_is_year (ft.mono (by decide)) (by rfl) (pda_cons (pd_ix (pd_var (i := 4) rfl (by first | exact Or.inl rfl | exact Or.inr (Or.inl rfl) | exact Or.inr (Or.inr rfl))) pd_int) pda_nil))) (pdw_and1 (pdt_truth (pd_callA D_is_size (ft.mono (by decide)) (by rfl) (pda_cons (pd_ix (pd_var (i := 4) rfl (by first | exact Or.inl rfl | exact Or.inr (Or.inl rfl) | exact Or.inr (Or.inr rfl))) pd_int) pda_nil))))))))))) (pds_one (pds_ret pd_non)) pds_nil)
    (pds_one (pds_ret (pd_frz (pd_makeM K_Bottle F_Bottle (ft.mono (by decide)).room ft.tk B_Bottle_3 (by rfl) Z.c_Bottle (pda_cons (pd_var (i := 2) rfl (by first | exact Or.inl rfl | exact Or.inr (Or.inl rfl) | exact Or.inr (Or.inr rfl))) (pda_cons (pd_ix (pd_var (i := 4) rfl (by first | exact Or.inl rfl | exact Or.inr (Or.inl rfl) | exact Or.inr (Or.inr rfl))) pd_int) (pda_cons (pd_ix (pd_var (i := 4) rfl (by first | exact Or.inl rfl | exact Or.inr (Or.inl rfl) | exact Or.inr (Or.inr rfl))) pd_int) pda_nil))) pdk_nil))))))))
abbrev st_read : Stmt := top 40
theorem sc_read : FnScope ["text", "size", "bottles", "at", "line", "bottle"] ["text", "size"] (defScope st_read) := ⟨rfl, rfl, rfl, by decide +kernel, rfl, by decide +kernel, by decide +kernel⟩
def gg_read_1 {α : Type} (us ds ws : List α) : List α := us ++ (ds.drop 0).take 1
def gd_read_1 : List D → List D → List D := fun ds es => gg_read_1 ds [.int 75] es
def gg_read_1_size {α : Type} (us ds ws : List α) : List α := us ++ (ws.drop 0).take 1
def gd_read_1_size : List D → List D → List D := fun ds es => gg_read_1_size ds [.int 75] es
abbrev ways_read : List (Nat × List Str × (List D → List D → List D)) := [(1, [], gd_read_1), (1, ["size"], gd_read_1_size)]
def m_read : DS :=
    (sSeq (sIf (tNotD (dTruth (dCallA 1 f_is_size (dCons (dVar 1) dNil)))) (sRaise 3) sNext)
    (sSeq (sIf (tNotD (dTruth (dCB (bIsi [0] isT) (dCons (dVar 0) (dCons (dC (.ty "str")) dNil))))) (sRaiseE 17 0 0 [.int 0] ge_NoText_0 dNil dNil) sNext)
    (sSeq (sSet 2 (dNew dNil))
    (sSeq (sForN (iEnumD 1 (dBm "str" mSplit (dVar 0) (dCons (dC (.str "\n")) dNil))) (gT [3, 4])
    (sIf (asB (dOp2 fNe (dBm "str" mStrip (dVar 4) (dCons (dC (.str " \t")) dNil)) (dC (.str "")))) (sSeq (sSet 5 (dCallA 2 f__bottle_in (dCons (dVar 4) (dCons (dVar 1) dNil))))
    (sSeq (sIf (asB (dOp2 fIsN (dVar 5) (dC .non))) (sRaiseE 17 1 0 [.int 0] ge_NoText_1 (dCons (dVar 3) dNil) dNil) sNext)
    (sDrop (dBm "list" mApp (dVar 2) (dCons (dVar 5) dNil))))) sNext))
    (sRet (dVar 2))))))
def f_read : DF := body 6 2 m_read
theorem ok_read {w : World} {T : Txt} {mg : Str → Option Value} {base : Heap} (Z : Facts T mg) (D__bottle_in : Def P w T mg base 6 12 "_bottle_in" ["line", "size"] f__bottle_in) (D_is_size : Def P w T mg base 2 6 "is_size" ["thing"] f_is_size) (M_NoText : MkE P w T mg base 17 "NoText" ["self", "line"] ways_NoText) (l : LkD T 13 "read" "read" st_read [.int 75]) (hg : mg "read" = some (.ref (T.fa 13))) : DefK P w T mg base 7 13 "read" ["text", "size"] f_read ways_read := by
  refine defK_of (m := m_read) (k := 6) (N := ["text", "size", "bottles", "at", "line", "bottle"]) (ps := ["text", "size"]) (st := st_read) l hg sc_read (fun fd F z hz => ?_) fun cdv A outer s H E xp ft po => ?_
  · skip
    rcases List.mem_cons.mp hz with hz | hz
    · subst hz
      refine bd_dfl (dds := [.int 75]) gg_read_1 F (by simp) (fun _ _ _ => .cons (.int 75) .nil) (fun r d q => r.append ((d.drop 0).take 1)) (fun _ _ _ _ _ _ _ _ _ r d q => r.append ((d.drop 0).take 1)) (fun vs zs h1 h2 => by unfold gg_read_1; simp [h1, h2]) ?_
      intro Dv kV doc pm an cdv ct us its ws h1 h2 h3
      match us, its, ws, h1, h2, h3 with
      | [_], [_], [], _, _, _ => exact ⟨_, rfl, rfl⟩
    rcases List.mem_cons.mp hz with hz | hz
    · subst hz
      refine bd_dfl (dds := [.int 75]) gg_read_1_size F (by simp) (fun _ _ _ => .cons (.int 75) .nil) (fun r d q => r.append ((q.drop 0).take 1)) (fun _ _ _ _ _ _ _ _ _ r d q => r.append ((q.drop 0).take 1)) (fun vs zs h1 h2 => by unfold gg_read_1_size; simp [h1, h2]) ?_
      intro Dv kV doc pm an cdv ct us its ws h1 h2 h3
      match us, its, ws, h1, h2, h3 with
      | [_], [_], [_], _, _, _ => exact ⟨_, rfl, rfl⟩
    exact absurd hz List.not_mem_nil
  · exact (pds_cons (pds_if (pdt_not (pdt_truth (pd_callA D_is_size (ft.mono (by decide)) (by rfl) (pda_cons (pd_var (i := 1) rfl (by first | exact Or.inl rfl | exact Or.inr (Or.inl rfl) | exact Or.inr (Or.inr rfl))) pda_nil)))) (pds_one (pds_raise rfl ft.tk Z.e_NoSize Z.c_NoSize (by rfl))) pds_nil)
    (pds_cons (pds_if (pdt_not (pdt_truth (pd_blt (blt_isi Z.own Z.isT) (by rfl) Z.b_isinstance rfl (pda_cons (pd_var (i := 0) rfl (by first | exact Or.inl rfl | exact Or.inr (Or.inl rfl) | exact Or.inr (Or.inr rfl))) (pda_cons (pd_bt (n := "str") rfl Z.b_str (by rfl)) pda_nil))))) (pds_one (pds_raiseE0 M_NoText (List.mem_cons_of_mem _ List.mem_cons_self) (ft.mono (by decide)) rfl (by rw [Z.f_NoText]; decide) Z.b1_NoText Z.b2_NoText (by rfl) pdk_nil)) pds_nil)
    (pds_cons (pds_set (i := 2) sc_read.nd rfl (by first | exact Or.inl rfl | exact Or.inr rfl) (pd_new pda_nil))
    (pds_cons (pds_forN po rfl (pdi_enumFrom (n := 1) (by rfl) Z.b_enumerate (by decide) (by decide) (pd_bm mt_splitD (pd_var (i := 0) rfl (by first | exact Or.inl rfl | exact Or.inr (Or.inl rfl) | exact Or.inr (Or.inr rfl))) (pda_cons pd_str pda_nil))) (pg_tup rfl (pgs_cons (pg_name (i := 3) sc_read.nd rfl (by first | exact Or.inl rfl | exact Or.inr rfl)) (pgs_cons (pg_name (i := 4) sc_read.nd rfl (by first | exact Or.inl rfl | exact Or.inr rfl)) pgs_nil))) (tg_tup rfl [3, 4] rfl)
    (pds_one (pds_if (pdt_cmp (cmp_ne ft.u) (pd_bm mt_stripD (pd_var (i := 4) rfl (by first | exact Or.inl rfl | exact Or.inr (Or.inl rfl) | exact Or.inr (Or.inr rfl))) (pda_cons pd_str pda_nil)) pd_str (by rfl)) (pds_cons (pds_set (i := 5) sc_read.nd rfl (by first | exact Or.inl rfl | exact Or.inr rfl) (pd_callA D__bottle_in (ft.mono (by decide)) (by rfl) (pda_cons (pd_var (i := 4) rfl (by first | exact Or.inl rfl | exact Or.inr (Or.inl rfl) | exact Or.inr (Or.inr rfl))) (pda_cons (pd_var (i := 1) rfl (by first | exact Or.inl rfl | exact Or.inr (Or.inl rfl) | exact Or.inr (Or.inr rfl))) pda_nil))))
    (pds_cons (pds_if (pdt_cmp cmp_is (pd_var (i := 5) rfl (by first | exact Or.inl rfl | exact Or.inr (Or.inl rfl) | exact Or.inr (Or.inr rfl))) pd_non (by rfl)) (pds_one (pds_raiseE M_NoText List.mem_cons_self (ft.mono (by decide)) rfl (by rw [Z.f_NoText]; decide) Z.b1_NoText Z.b2_NoText (by rfl) (pda_cons (pd_var (i := 3) rfl (by first | exact Or.inl rfl | exact Or.inr (Or.inl rfl) | exact Or.inr (Or.inr rfl))) pda_nil) pdk_nil (by decide))) pds_nil)
    (pds_one (pds_drop (pd_bm mt_app (pd_var (i := 2) rfl (by first | exact Or.inl rfl | exact Or.inr (Or.inl rfl) | exact Or.inr (Or.inr rfl))) (pda_cons (pd_var (i := 5) rfl (by first | exact Or.inl rfl | exact Or.inr (Or.inl rfl) | exact Or.inr (Or.inr rfl))) pda_nil)))))) pds_nil)))
    (pds_one (pds_ret (pd_var (i := 2) rfl (by first | exact Or.inl rfl | exact Or.inr (Or.inl rfl) | exact Or.inr (Or.inr rfl)))))))))
abbrev st__law_cell_at : Stmt := top 43
theorem sc__law_cell_at : FnScope ["_law_script", "_law_k"] ["_law_script", "_law_k"] (defScope st__law_cell_at) := ⟨rfl, rfl, rfl, by decide +kernel, rfl, by decide +kernel, by decide +kernel⟩
def m__law_cell_at : DS :=
    (sSeq (sIf (asB (dOp2 fLt (dVar 1) (dCB (one gLen) (dCons (dVar 0) dNil)))) (sRet (dIx (dVar 0) (dVar 1))) sNext)
    (sRet (dC (.int 0))))
def f__law_cell_at : DF := body 2 2 m__law_cell_at
theorem ok__law_cell_at {w : World} {T : Txt} {mg : Str → Option Value} {base : Heap} (Z : Facts T mg) (l : Lk T 14 "_law_cell_at" "_law_cell_at" st__law_cell_at) (hg : mg "_law_cell_at" = some (.ref (T.fa 14))) : Def P w T mg base 1 14 "_law_cell_at" ["_law_script", "_law_k"] f__law_cell_at := by
  refine defD_of (m := m__law_cell_at) (k := 0) (N := ["_law_script", "_law_k"]) (ps := ["_law_script", "_law_k"]) (st := st__law_cell_at) l hg sc__law_cell_at (fun _ _ _ _ _ _ us hl => match us, hl with | [_, _], _ => rfl) fun cdv A outer s H E xp ft po => ?_
  exact (pds_cons (pds_if (pdt_cmp cmp_lt (pd_var (i := 1) rfl (by first | exact Or.inl rfl | exact Or.inr (Or.inl rfl) | exact Or.inr (Or.inr rfl))) (pd_blt blt_len (by rfl) Z.b_len rfl (pda_cons (pd_var (i := 0) rfl (by first | exact Or.inl rfl | exact Or.inr (Or.inl rfl) | exact Or.inr (Or.inr rfl))) pda_nil)) (by rfl)) (pds_one (pds_ret (pd_ix (pd_var (i := 0) rfl (by first | exact Or.inl rfl | exact Or.inr (Or.inl rfl) | exact Or.inr (Or.inr rfl))) (pd_var (i := 1) rfl (by first | exact Or.inl rfl | exact Or.inr (Or.inl rfl) | exact Or.inr (Or.inr rfl)))))) pds_nil)
    (pds_one (pds_ret pd_int)))
abbrev st__law_pot : Stmt := top 44
theorem sc__law_pot : FnScope ["_law_cell", "_law_token", "_law_j", "_law_more"] ["_law_cell"] (defScope st__law_pot) := ⟨rfl, rfl, rfl, by decide +kernel, rfl, by decide +kernel, by decide +kernel⟩
def m__law_pot : DS :=
    (sSeq (sIf (asB (dOp2 fGe (dVar 0) (dPow (dC (.int 10)) (dC (.int 18))))) (sRet (dNew (dCons (dSub (dVar 0) (dPow (dC (.int 10)) (dC (.int 18)))) dNil))) sNext)
    (sSeq (sSet 1 (dC (.int 0)))
    (sSeq (sForR1 (dCons (dC (.int 64)) dNil) (g1 2)
    (sSeq (sSet 3 (dMod (dMulA (dAdd (dAdd (dMod (dVar 0) (dC (.int 2147483629))) (dMulA (dC (.int 7919)) (dVar 2))) (dC (.int 1))) (dC (.int 48271))) (dC (.int 2147483647))))
    (sSeq (sSet 3 (dMod (dAdd (dAdd (dMulA (dVar 3) (dVar 3)) (dMulA (dC (.int 69621)) (dVar 2))) (dC (.int 7))) (dC (.int 2147483587))))
    (sSet 1 (dAdd (dMulA (dVar 1) (dC (.int 2147483587))) (dVar 3))))))
    (sRet (dNew (dCons (dVar 1) dNil))))))
def f__law_pot : DF := body 4 1 m__law_pot
theorem ok__law_pot {w : World} {T : Txt} {mg : Str → Option Value} {base : Heap} (Z : Facts T mg) (l : Lk T 15 "_law_pot" "_law_pot" st__law_pot) (hg : mg "_law_pot" = some (.ref (T.fa 15))) : Def P w T mg base 1 15 "_law_pot" ["_law_cell"] f__law_pot := by
  refine defD_of (m := m__law_pot) (k := 0) (N := ["_law_cell", "_law_token", "_law_j", "_law_more"]) (ps := ["_law_cell"]) (st := st__law_pot) l hg sc__law_pot (fun _ _ _ _ _ _ us hl => match us, hl with | [_], _ => rfl) fun cdv A outer s H E xp ft po => ?_
  exact (pds_cons (pds_if (pdt_cmp cmp_ge (pd_var (i := 0) rfl (by first | exact Or.inl rfl | exact Or.inr (Or.inl rfl) | exact Or.inr (Or.inr rfl))) (pd_pow pd_int pd_int) (by rfl)) (pds_one (pds_ret (pd_new (pda_cons (pd_sub (pd_var (i := 0) rfl (by first | exact Or.inl rfl | exact Or.inr (Or.inl rfl) | exact Or.inr (Or.inr rfl))) (pd_pow pd_int pd_int)) pda_nil)))) pds_nil)
    (pds_cons (pds_set (i := 1) sc__law_pot.nd rfl (by first | exact Or.inl rfl | exact Or.inr rfl) pd_int)
    (pds_cons (pds_forR1 po rfl (by rfl) Z.b_range (pda_cons pd_int pda_nil) (pg_name (i := 2) sc__law_pot.nd rfl (by first | exact Or.inl rfl | exact Or.inr rfl)) (tg_one 2)
    (pds_cons (pds_set (i := 3) sc__law_pot.nd rfl (by first | exact Or.inl rfl | exact Or.inr rfl) (pd_mod (pd_mulA (pd_add (pd_add (pd_mod (pd_var (i := 0) rfl (by first | exact Or.inl rfl | exact Or.inr (Or.inl rfl) | exact Or.inr (Or.inr rfl))) pd_int) (pd_mulA pd_int (pd_var (i := 2) rfl (by first | exact Or.inl rfl | exact Or.inr (Or.inl rfl) | exact Or.inr (Or.inr rfl))))) pd_int) pd_int) pd_int))
    (pds_cons (pds_set (i := 3) sc__law_pot.nd rfl (by first | exact Or.inl rfl | exact Or.inr rfl) (pd_mod (pd_add (pd_add (pd_mulA (pd_var (i := 3) rfl (by first | exact Or.inl rfl | exact Or.inr (Or.inl rfl) | exact Or.inr (Or.inr rfl))) (pd_var (i := 3) rfl (by first | exact Or.inl rfl | exact Or.inr (Or.inl rfl) | exact Or.inr (Or.inr rfl)))) (pd_mulA pd_int (pd_var (i := 2) rfl (by first | exact Or.inl rfl | exact Or.inr (Or.inl rfl) | exact Or.inr (Or.inr rfl))))) pd_int) pd_int))
    (pds_one (pds_set (i := 1) sc__law_pot.nd rfl (by first | exact Or.inl rfl | exact Or.inr rfl) (pd_add (pd_mulA (pd_var (i := 1) rfl (by first | exact Or.inl rfl | exact Or.inr (Or.inl rfl) | exact Or.inr (Or.inr rfl))) pd_int) (pd_var (i := 3) rfl (by first | exact Or.inl rfl | exact Or.inr (Or.inl rfl) | exact Or.inr (Or.inr rfl)))))))))
    (pds_one (pds_ret (pd_new (pda_cons (pd_var (i := 1) rfl (by first | exact Or.inl rfl | exact Or.inr (Or.inl rfl) | exact Or.inr (Or.inr rfl))) pda_nil)))))))
abbrev st__law_take : Stmt := top 45
theorem sc__law_take : FnScope ["_law_pot_here", "_law_far", "_law_found"] ["_law_pot_here", "_law_far"] (defScope st__law_take) := ⟨rfl, rfl, rfl, by decide +kernel, rfl, by decide +kernel, by decide +kernel⟩
def m__law_take : DS :=
    (sSeq (sSet 2 (dMod (dIx (dVar 0) (dC (.int 0))) (dVar 1)))
    (sSeq (sSetIx (dVar 0) (dC (.int 0)) (dDiv (dIx (dVar 0) (dC (.int 0))) (dVar 1)))
    (sRet (dVar 2))))
def f__law_take : DF := body 3 2 m__law_take
theorem ok__law_take {w : World} {T : Txt} {mg : Str → Option Value} {base : Heap} (Z : Facts T mg) (l : Lk T 16 "_law_take" "_law_take" st__law_take) (hg : mg "_law_take" = some (.ref (T.fa 16))) : Def P w T mg base 1 16 "_law_take" ["_law_pot_here", "_law_far"] f__law_take := by
  refine defD_of (m := m__law_take) (k := 0) (N := ["_law_pot_here", "_law_far", "_law_found"]) (ps := ["_law_pot_here", "_law_far"]) (st := st__law_take) l hg sc__law_take (fun _ _ _ _ _ _ us hl => match us, hl with | [_, _], _ => rfl) fun cdv A outer s H E xp ft po => ?_
  exact (pds_cons (pds_set (i := 2) sc__law_take.nd rfl (by first | exact Or.inl rfl | exact Or.inr rfl) (pd_mod (pd_ix (pd_var (i := 0) rfl (by first | exact Or.inl rfl | exact Or.inr (Or.inl rfl) | exact Or.inr (Or.inr rfl))) pd_int) (pd_var (i := 1) rfl (by first | exact Or.inl rfl | exact Or.inr (Or.inl rfl) | exact Or.inr (Or.inr rfl)))))
    (pds_cons (pds_setIx (pd_div (pd_ix (pd_var (i := 0) rfl (by first | exact Or.inl rfl | exact Or.inr (Or.inl rfl) | exact Or.inr (Or.inr rfl))) pd_int) (pd_var (i := 1) rfl (by first | exact Or.inl rfl | exact Or.inr (Or.inl rfl) | exact Or.inr (Or.inr rfl)))) (pd_var (i := 0) rfl (by first | exact Or.inl rfl | exact Or.inr (Or.inl rfl) | exact Or.inr (Or.inr rfl))) pd_int (fun _ _ a b => pg_sub a b set_list))
    (pds_one (pds_ret (pd_var (i := 2) rfl (by first | exact Or.inl rfl | exact Or.inr (Or.inl rfl) | exact Or.inr (Or.inr rfl)))))))
abbrev st__law_mixed : Stmt := top 46
theorem sc__law_mixed : FnScope ["_law_pot_here", "_law_some", "_law_left", "_law_one"] ["_law_pot_here", "_law_some"] (defScope st__law_mixed) := ⟨rfl, rfl, rfl, by decide +kernel, rfl, by decide +kernel, by decide +kernel⟩
def m__law_mixed : DS :=
    (sSeq (sSet 2 (dCB gListN (dCons (dVar 1) dNil)))
    (sRet (dLcL (dVar 1) (g1 3) tYesD (dBm "list" mPopAt (dVar 2) (dCons (dCallA 2 f__law_take (dCons (dVar 0) (dCons (dCB (one gLen) (dCons (dVar 2) dNil)) dNil))) dNil)) [3])))
def f__law_mixed : DF := body 4 2 m__law_mixed
theorem ok__law_mixed {w : World} {T : Txt} {mg : Str → Option Value} {base : Heap} (Z : Facts T mg) (D__law_take : Def P w T mg base 1 16 "_law_take" ["_law_pot_here", "_law_far"] f__law_take) (l : Lk T 17 "_law_mixed" "_law_mixed" st__law_mixed) (hg : mg "_law_mixed" = some (.ref (T.fa 17))) : Def P w T mg base 2 17 "_law_mixed" ["_law_pot_here", "_law_some"] f__law_mixed := by
  refine defD_of (m := m__law_mixed) (k := 1) (N := ["_law_pot_here", "_law_some", "_law_left", "_law_one"]) (ps := ["_law_pot_here", "_law_some"]) (st := st__law_mixed) l hg sc__law_mixed (fun _ _ _ _ _ _ us hl => match us, hl with | [_, _], _ => rfl) fun cdv A outer s H E xp ft po => ?_
  exact (pds_cons (pds_set (i := 2) sc__law_mixed.nd rfl (by first | exact Or.inl rfl | exact Or.inr rfl) (pd_ty ty_listN (by rfl) Z.b_list rfl (pda_cons (pd_var (i := 1) rfl (by first | exact Or.inl rfl | exact Or.inr (Or.inl rfl) | exact Or.inr (Or.inr rfl))) pda_nil)))
    (pds_one (pds_ret (pd_lcL (own := [("_law_one", 3)]) rfl sc__law_mixed.nd (pd_var (i := 1) rfl (by first | exact Or.inl rfl | exact Or.inr (Or.inl rfl) | exact Or.inr (Or.inr rfl))) (blkOk_by rfl) (fun _ _ _ _ _ => pg_name (i := 3) sc__law_mixed.nd rfl (by first | exact Or.inl rfl | exact Or.inr rfl)) (tg_one 3) (by decide) (fun _ _ _ _ _ => pdts_nil) (fun _ _ _ _ _ => (pd_bm mt_popAtD (pd_var (i := 2) rfl (by first | exact Or.inl rfl | exact Or.inr (Or.inl rfl) | exact Or.inr (Or.inr rfl))) (pda_cons (pd_callA D__law_take ((ft.blk _ _ _ _ _ _).mono (by decide)) (by rfl) (pda_cons (pd_var (i := 0) rfl (by first | exact Or.inl rfl | exact Or.inr (Or.inl rfl) | exact Or.inr (Or.inr rfl))) (pda_cons (pd_blt blt_len (by rfl) Z.b_len rfl (pda_cons (pd_var (i := 2) rfl (by first | exact Or.inl rfl | exact Or.inr (Or.inl rfl) | exact Or.inr (Or.inr rfl))) pda_nil)) pda_nil))) pda_nil)))))))
abbrev st__law_odd : Stmt := top 47
theorem sc__law_odd : FnScope ["_law_pot_here", "_law_some"] ["_law_pot_here"] (defScope st__law_odd) := ⟨rfl, rfl, rfl, by decide +kernel, rfl, by decide +kernel, by decide +kernel⟩
def m__law_odd : DS :=
    (sSeq (sSet 1 (dLst (dCons (dC .non) (dCons (dC (.bl true)) (dCons (dC (.bl false)) (dCons (dNeg (dC (.int 1))) (dCons (dPow (dC (.int 10)) (dC (.int 30))) (dCons (dC (.str "")) (dCons (dC (.str "a")) (dCons (dC (.str "1")) (dCons (dTup dNil) (dCons (dLst dNil) (dCons (dC (.dic [] [])) (dCons (dLst (dCons (dTup dNil) dNil)) (dCons (dTup (dCons (dTup dNil) dNil)) (dCons (dTup (dCons (dC (.int 0)) dNil)) (dCons (dLst (dCons (dC (.int 0)) dNil)) (dCons (dC (.dic [.inl 0] [.int 1])) (dCons (dTup (dCons (dC (.bl true)) (dCons (dC (.bl true)) dNil))) dNil)))))))))))))))))))
    (sRet (dIx (dVar 1) (dCallA 2 f__law_take (dCons (dVar 0) (dCons (dCB (one gLen) (dCons (dVar 1) dNil)) dNil))))))
def f__law_odd : DF := body 2 1 m__law_odd
theorem ok__law_odd {w : World} {T : Txt} {mg : Str → Option Value} {base : Heap} (Z : Facts T mg) (D__law_take : Def P w T mg base 1 16 "_law_take" ["_law_pot_here", "_law_far"] f__law_take) (l : Lk T 18 "_law_odd" "_law_odd" st__law_odd) (hg : mg "_law_odd" = some (.ref (T.fa 18))) : Def P w T mg base 2 18 "_law_odd" ["_law_pot_here"] f__law_odd := by
  refine defD_of (m := m__law_odd) (k := 1) (N := ["_law_pot_here", "_law_some"]) (ps := ["_law_pot_here"]) (st := st__law_odd) l hg sc__law_odd (fun _ _ _ _ _ _ us hl => match us, hl with | [_], _ => rfl) fun cdv A outer s H E xp ft po => ?_
  exact (pds_cons (pds_set (i := 1) sc__law_odd.nd rfl (by first | exact Or.inl rfl | exact Or.inr rfl) (pd_lst (pda_cons pd_non (pda_cons pd_bl (pda_cons pd_bl (pda_cons (pd_neg pd_int) (pda_cons (pd_pow pd_int pd_int) (pda_cons pd_str (pda_cons pd_str (pda_cons pd_str (pda_cons (pd_tup pda_nil) (pda_cons (pd_lst pda_nil) (pda_cons pd_dic0 (pda_cons (pd_lst (pda_cons (pd_tup pda_nil) pda_nil)) (pda_cons (pd_tup (pda_cons (pd_tup pda_nil) pda_nil)) (pda_cons (pd_tup (pda_cons pd_int pda_nil)) (pda_cons (pd_lst (pda_cons pd_int pda_nil)) (pda_cons (pd_dic1 pe_int pe_int fun _ _ => .int _) (pda_cons (pd_tup (pda_cons pd_bl (pda_cons pd_bl pda_nil))) pda_nil)))))))))))))))))))
    (pds_one (pds_ret (pd_ix (pd_var (i := 1) rfl (by first | exact Or.inl rfl | exact Or.inr (Or.inl rfl) | exact Or.inr (Or.inr rfl))) (pd_callA D__law_take (ft.mono (by decide)) (by rfl) (pda_cons (pd_var (i := 0) rfl (by first | exact Or.inl rfl | exact Or.inr (Or.inl rfl) | exact Or.inr (Or.inr rfl))) (pda_cons (pd_blt blt_len (by rfl) Z.b_len rfl (pda_cons (pd_var (i := 1) rfl (by first | exact Or.inl rfl | exact Or.inr (Or.inl rfl) | exact Or.inr (Or.inr rfl))) pda_nil)) pda_nil)))))))
abbrev st__law_kinds : Stmt := top 48
theorem sc__law_kinds : FnScope ["_law_pot_here", "_law_makers", "_law_found", "_law_turn", "_law_year"] ["_law_pot_here"] (defScope st__law_kinds) := ⟨rfl, rfl, rfl, by decide +kernel, rfl, by decide +kernel, by decide +kernel⟩
def m__law_kinds : DS :=
    (sSeq (sSet 1 (dSl (dCallA 2 f__law_mixed (dCons (dVar 0) (dCons (dLst (dCons (dC (.str "a")) (dCons (dC (.str "bo")) (dCons (dC (.str "cy")) (dCons (dC (.str "zzzzzzzz")) (dCons (dC (.str "m")) dNil)))))) dNil))) oNone (oSome (dAdd (dC (.int 1)) (dCallA 2 f__law_take (dCons (dVar 0) (dCons (dC (.int 3)) dNil)))))))
    (sSeq (sSet 2 (dNew dNil))
    (sSeq (sForR1 (dCons (dAdd (dC (.int 1)) (dCallA 2 f__law_take (dCons (dVar 0) (dCons (dC (.int 6)) dNil)))) dNil) (g1 3)
    (sSeq (sSet 4 (dIx (dLst (dCons (dC (.int 1900)) (dCons (dC (.int 2100)) (dCons (dAdd (dC (.int 1950)) (dCallA 2 f__law_take (dCons (dVar 0) (dCons (dC (.int 4)) dNil)))) (dCons (dAdd (dC (.int 1900)) (dCallA 2 f__law_take (dCons (dVar 0) (dCons (dC (.int 201)) dNil)))) dNil))))) (dCallA 2 f__law_take (dCons (dVar 0) (dCons (dC (.int 4)) dNil)))))
    (sDrop (dBm "list" mApp (dVar 2) (dCons (dTup (dCons (dIx (dVar 1) (dCallA 2 f__law_take (dCons (dVar 0) (dCons (dCB (one gLen) (dCons (dVar 1) dNil)) dNil)))) (dCons (dVar 4) (dCons (dIx (dLst (dCons (dC (.int 75)) (dCons (dC (.int 37)) (dCons (dC (.int 150)) (dCons (dC (.int 75)) dNil))))) (dCallA 2 f__law_take (dCons (dVar 0) (dCons (dC (.int 4)) dNil)))) dNil)))) dNil)))))
    (sRet (dVar 2)))))
def f__law_kinds : DF := body 5 1 m__law_kinds
theorem ok__law_kinds {w : World} {T : Txt} {mg : Str → Option Value} {base : Heap} (Z : Facts T mg) (D__law_mixed : Def P w T mg base 2 17 "_law_mixed" ["_law_pot_here", "_law_some"] f__law_mixed) (D__law_take : Def P w T mg base 1 16 "_law_take" ["_law_pot_here", "_law_far"] f__law_take) (l : Lk T 19 "_law_kinds" "_law_kinds" st__law_kinds) (hg : mg "_law_kinds" = some (.ref (T.fa 19))) : Def P w T mg base 3 19 "_law_kinds" ["_law_pot_here"] f__law_kinds := by
  refine defD_of (m := m__law_kinds) (k := 2) (N := ["_law_pot_here", "_law_makers", "_law_found", "_law_turn", "_law_year"]) (ps := ["_law_pot_here"]) (st := st__law_kinds) l hg sc__law_kinds (fun _ _ _ _ _ _ us hl => match us, hl with | [_], _ => rfl) fun cdv A outer s H E xp ft po => ?_
  exact (pds_cons (pds_set (i := 1) sc__law_kinds.nd rfl (by first | exact Or.inl rfl | exact Or.inr rfl) (pd_slice (pd_callA D__law_mixed (ft.mono (by decide)) (by rfl) (pda_cons (pd_var (i := 0) rfl (by first | exact Or.inl rfl | exact Or.inr (Or.inl rfl) | exact Or.inr (Or.inr rfl))) (pda_cons (pd_lst (pda_cons pd_str (pda_cons pd_str (pda_cons pd_str (pda_cons pd_str (pda_cons pd_str pda_nil)))))) pda_nil))) pdo_none (pdo_some (pd_add pd_int (pd_callA D__law_take (ft.mono (by decide)) (by rfl) (pda_cons (pd_var (i := 0) rfl (by first | exact Or.inl rfl | exact Or.inr (Or.inl rfl) | exact Or.inr (Or.inr rfl))) (pda_cons pd_int pda_nil)))))))
    (pds_cons (pds_set (i := 2) sc__law_kinds.nd rfl (by first | exact Or.inl rfl | exact Or.inr rfl) (pd_new pda_nil))
    (pds_cons (pds_forR1 po rfl (by rfl) Z.b_range (pda_cons (pd_add pd_int (pd_callA D__law_take (ft.mono (by decide)) (by rfl) (pda_cons (pd_var (i := 0) rfl (by first | exact Or.inl rfl | exact Or.inr (Or.inl rfl) | exact Or.inr (Or.inr rfl))) (pda_cons pd_int pda_nil)))) pda_nil) (pg_name (i := 3) sc__law_kinds.nd rfl (by first | exact Or.inl rfl | exact Or.inr rfl)) (tg_one 3)
    (pds_cons (pds_set (i := 4) sc__law_kinds.nd rfl (by first | exact Or.inl rfl | exact Or.inr rfl) (pd_ix (pd_lst (pda_cons pd_int (pda_cons pd_int (pda_cons (pd_add pd_int (pd_callA D__law_take (ft.mono (by decide)) (by rfl) (pda_cons (pd_var (i := 0) rfl (by first | exact Or.inl rfl | exact Or.inr (Or.inl rfl) | exact Or.inr (Or.inr rfl))) (pda_cons pd_int pda_nil)))) (pda_cons (pd_add pd_int (pd_callA D__law_take (ft.mono (by decide)) (by rfl) (pda_cons (pd_var (i := 0) rfl (by first | exact Or.inl rfl | exact Or.inr (Or.inl rfl) | exact Or.inr (Or.inr rfl))) (pda_cons pd_int pda_nil)))) pda_nil))))) (pd_callA D__law_take (ft.mono (by decide)) (by rfl) (pda_cons (pd_var (i := 0) rfl (by first | exact Or.inl rfl | exact Or.inr (Or.inl rfl) | exact Or.inr (Or.inr rfl))) (pda_cons pd_int pda_nil)))))
    (pds_one (pds_drop (pd_bm mt_app (pd_var (i := 2) rfl (by first | exact Or.inl rfl | exact Or.inr (Or.inl rfl) | exact Or.inr (Or.inr rfl))) (pda_cons (pd_tup (pda_cons (pd_ix (pd_var (i := 1) rfl (by first | exact Or.inl rfl | exact Or.inr (Or.inl rfl) | exact Or.inr (Or.inr rfl))) (pd_callA D__law_take (ft.mono (by decide)) (by rfl) (pda_cons (pd_var (i := 0) rfl (by first | exact Or.inl rfl | exact Or.inr (Or.inl rfl) | exact Or.inr (Or.inr rfl))) (pda_cons (pd_blt blt_len (by rfl) Z.b_len rfl (pda_cons (pd_var (i := 1) rfl (by first | exact Or.inl rfl | exact Or.inr (Or.inl rfl) | exact Or.inr (Or.inr rfl))) pda_nil)) pda_nil)))) (pda_cons (pd_var (i := 4) rfl (by first | exact Or.inl rfl | exact Or.inr (Or.inl rfl) | exact Or.inr (Or.inr rfl))) (pda_cons (pd_ix (pd_lst (pda_cons pd_int (pda_cons pd_int (pda_cons pd_int (pda_cons pd_int pda_nil))))) (pd_callA D__law_take (ft.mono (by decide)) (by rfl) (pda_cons (pd_var (i := 0) rfl (by first | exact Or.inl rfl | exact Or.inr (Or.inl rfl) | exact Or.inr (Or.inr rfl))) (pda_cons pd_int pda_nil)))) pda_nil)))) pda_nil))))))
    (pds_one (pds_ret (pd_var (i := 2) rfl (by first | exact Or.inl rfl | exact Or.inr (Or.inl rfl) | exact Or.inr (Or.inr rfl))))))))
abbrev st__law_word : Stmt := top 49
theorem sc__law_word : FnScope ["_law_e", "_law_some", "_law_words"] ["_law_e"] (defScope st__law_word) := ⟨rfl, rfl, rfl, by decide +kernel, rfl, by decide +kernel, by decide +kernel⟩
def m__law_word : DS :=
    (sSeq (sSet 1 (dLst (dCons (dCB (bIsHA heldC isT) (dCons (dVar 0) (dCons (dC (.cl 1)) dNil))) (dCons (dCB (bIsHA heldC isT) (dCons (dVar 0) (dCons (dC (.cl 2)) dNil))) (dCons (dCB (bIsHA heldC isT) (dCons (dVar 0) (dCons (dC (.cl 3)) dNil))) (dCons (dCB (bIsHA heldC isT) (dCons (dVar 0) (dCons (dC (.cl 4)) dNil))) dNil))))))
    (sSeq (sSet 1 (dAdd (dVar 1) (dLst (dCons (dCB (bIsHA heldC isT) (dCons (dVar 0) (dCons (dC (.cl 5)) dNil))) (dCons (dCB (bIsHA heldC isT) (dCons (dVar 0) (dCons (dC (.cl 6)) dNil))) (dCons (dCB (bIsHA heldC isT) (dCons (dVar 0) (dCons (dC (.cl 7)) dNil))) (dCons (dCB (bIsHA heldC isT) (dCons (dVar 0) (dCons (dC (.cl 8)) dNil))) dNil)))))))
    (sSeq (sSet 1 (dAdd (dVar 1) (dLst (dCons (dCB (bIsHA heldC isT) (dCons (dVar 0) (dCons (dC (.cl 9)) dNil))) (dCons (dCB (bIsHA heldC isT) (dCons (dVar 0) (dCons (dC (.cl 10)) dNil))) (dCons (dCB (bIsHA heldC isT) (dCons (dVar 0) (dCons (dC (.cl 11)) dNil))) (dCons (dCB (bIsHA heldC isT) (dCons (dVar 0) (dCons (dC (.cl 12)) dNil))) dNil)))))))
    (sSeq (sSet 1 (dAdd (dVar 1) (dLst (dCons (dCB (bIsHA heldC isT) (dCons (dVar 0) (dCons (dC (.cl 13)) dNil))) (dCons (dCB (bIsHA heldC isT) (dCons (dVar 0) (dCons (dC (.cl 14)) dNil))) (dCons (dCB (bIsHA heldC isT) (dCons (dVar 0) (dCons (dC (.cl 15)) dNil))) (dCons (dCB (bIsHA heldC isT) (dCons (dVar 0) (dCons (dC (.cl 16)) dNil))) dNil)))))))
    (sSeq (sSet 1 (dAdd (dVar 1) (dLst (dCons (dCB (bIsHA heldC isT) (dCons (dVar 0) (dCons (dC (.cl 17)) dNil))) (dCons (dCB (bIsHA heldC isT) (dCons (dVar 0) (dCons (dC (.cl 20)) dNil))) (dCons (dCB (bIsHA heldC isT) (dCons (dVar 0) (dCons (dC (.cl 21)) dNil))) (dCons (dCB (bIsHA heldC isT) (dCons (dVar 0) (dCons (dC (.cl 22)) dNil))) dNil)))))))
    (sSeq (sIf (tOrD (asB (dOp2 fNe (dBm "list" mCount (dVar 1) (dCons (dC (.bl true)) dNil)) (dC (.int 1)))) (asB (dOp2 fEq (dCB (bIsHA heldC isT) (dCons (dVar 0) (dCons (dC (.cl 19)) dNil))) (dCB (bIsHA heldC isT) (dCons (dVar 0) (dCons (dC (.cl 18)) dNil)))))) (sRet (dTup (dCons (dC (.str "other")) dNil))) sNext)
    (sSeq (sIf (tAndD (dTruth (dCB (bIsHA heldC isT) (dCons (dVar 0) (dCons (dC (.cl 19)) dNil)))) (tNotD (dTruth (dCB (bIsHA heldC isT) (dCons (dVar 0) (dCons (dC (.ty "ValueError")) dNil)))))) (sRet (dTup (dCons (dC (.str "other")) dNil))) sNext)
    (sSeq (sIf (tAndD (dTruth (dCB (bIsHA heldC isT) (dCons (dVar 0) (dCons (dC (.cl 18)) dNil)))) (tNotD (dTruth (dCB (bIsHA heldC isT) (dCons (dVar 0) (dCons (dC (.ty "LookupError")) dNil)))))) (sRet (dTup (dCons (dC (.str "other")) dNil))) sNext)
    (sSeq (sIf (dTruth (dCB (bIsHA heldC isT) (dCons (dVar 0) (dCons (dC (.cl 16)) dNil)))) (sRet (dTup (dCons (dC (.str "many")) (dCons dBad (dCons dBad dNil))))) sNext)
    (sSeq (sIf (dTruth (dCB (bIsHA heldC isT) (dCons (dVar 0) (dCons (dC (.cl 17)) dNil)))) (sRet (dTup (dCons (dC (.str "text")) (dCons (dFldX 17 0 (dVar 0)) dNil)))) sNext)
    (sSeq (sIf (dTruth (dCB (bIsHA heldC isT) (dCons (dVar 0) (dCons (dC (.cl 20)) dNil)))) (sRet (dTup (dCons (dC (.str "full")) (dCons dBad (dCons dBad dNil))))) sNext)
    (sSeq (sIf (dTruth (dCB (bIsHA heldC isT) (dCons (dVar 0) (dCons (dC (.cl 21)) dNil)))) (sRet (dTup (dCons (dC (.str "gone")) (dCons dBad (dCons dBad dNil))))) sNext)
    (sSeq (sIf (dTruth (dCB (bIsHA heldC isT) (dCons (dVar 0) (dCons (dC (.cl 22)) dNil)))) (sRet (dTup (dCons (dC (.str "kept")) (dCons dBad (dCons dBad dNil))))) sNext)
    (sSeq (sSet 2 (dLst (dCons (dC (.str "maker")) (dCons (dC (.str "year")) (dCons (dC (.str "size")) (dCons (dC (.str "bottle")) (dCons (dC (.str "bottles")) (dCons (dC (.str "rooms")) (dCons (dC (.str "hold")) (dCons (dC (.str "month")) (dCons (dC (.str "who")) (dCons (dC (.str "set")) (dCons (dC (.str "deed")) (dCons (dC (.str "wishes")) dNil))))))))))))))
    (sRet (dTup (dCons (dIx (dAdd (dVar 2) (dLst (dCons (dC (.str "line")) (dCons (dC (.str "number")) (dCons (dC (.str "place")) dNil))))) (dBm "list" mIndex (dVar 1) (dCons (dC (.bl true)) dNil))) dNil)))))))))))))))))
def f__law_word : DF := body 3 1 m__law_word
theorem ok__law_word {w : World} {T : Txt} {mg : Str → Option Value} {base : Heap} (Z : Facts T mg) (l : Lk T 20 "_law_word" "_law_word" st__law_word) (hg : mg "_law_word" = some (.ref (T.fa 20))) : DefH P w T mg base 1 20 "_law_word" ["_law_e"] f__law_word := by
  refine defH_of (m := m__law_word) (k := 0) (N := ["_law_e", "_law_some", "_law_words"]) (ps := ["_law_e"]) (st := st__law_word) l hg sc__law_word (fun _ _ _ _ _ _ us hl => match us, hl with | [_], _ => rfl) fun cdv A outer s H E p c d hh hu => ?_
  exact (pds_cons (pds_set (i := 1) sc__law_word.nd rfl (by first | exact Or.inl rfl | exact Or.inr rfl) (pd_lst (pda_cons (pd_blt (blt_isHA hh Z.held Z.isT) (by rfl) Z.b_isinstance rfl (pda_cons (pd_var (i := 0) rfl (by first | exact Or.inl rfl | exact Or.inr (Or.inl rfl) | exact Or.inr (Or.inr rfl))) (pda_cons (pd_cl (c := 1) Z.c_NoMaker (by rfl)) pda_nil))) (pda_cons (pd_blt (blt_isHA hh Z.held Z.isT) (by rfl) Z.b_isinstance rfl (pda_cons (pd_var (i := 0) rfl (by first | exact Or.inl rfl | exact Or.inr (Or.inl rfl) | exact Or.inr (Or.inr rfl))) (pda_cons (pd_cl (c := 2) Z.c_NoYear (by rfl)) pda_nil))) (pda_cons (pd_blt (blt_isHA hh Z.held Z.isT) (by rfl) Z.b_isinstance rfl (pda_cons (pd_var (i := 0) rfl (by first | exact Or.inl rfl | exact Or.inr (Or.inl rfl) | exact Or.inr (Or.inr rfl))) (pda_cons (pd_cl (c := 3) Z.c_NoSize (by rfl)) pda_nil))) (pda_cons (pd_blt (blt_isHA hh Z.held Z.isT) (by rfl) Z.b_isinstance rfl (pda_cons (pd_var (i := 0) rfl (by first | exact Or.inl rfl | exact Or.inr (Or.inl rfl) | exact Or.inr (Or.inr rfl))) (pda_cons (pd_cl (c := 4) Z.c_NoBottle (by rfl)) pda_nil))) pda_nil))))))
    (pds_cons (pds_set (i := 1) sc__law_word.nd rfl (by first | exact Or.inl rfl | exact Or.inr rfl) (pd_add (pd_var (i := 1) rfl (by first | exact Or.inl rfl | exact Or.inr (Or.inl rfl) | exact Or.inr (Or.inr rfl))) (pd_lst (pda_cons (pd_blt (blt_isHA hh Z.held Z.isT) (by rfl) Z.b_isinstance rfl (pda_cons (pd_var (i := 0) rfl (by first | exact Or.inl rfl | exact Or.inr (Or.inl rfl) | exact Or.inr (Or.inr rfl))) (pda_cons (pd_cl (c := 5) Z.c_NoBottles (by rfl)) pda_nil))) (pda_cons (pd_blt (blt_isHA hh Z.held Z.isT) (by rfl) Z.b_isinstance rfl (pda_cons (pd_var (i := 0) rfl (by first | exact Or.inl rfl | exact Or.inr (Or.inl rfl) | exact Or.inr (Or.inr rfl))) (pda_cons (pd_cl (c := 6) Z.c_NoRooms (by rfl)) pda_nil))) (pda_cons (pd_blt (blt_isHA hh Z.held Z.isT) (by rfl) Z.b_isinstance rfl (pda_cons (pd_var (i := 0) rfl (by first | exact Or.inl rfl | exact Or.inr (Or.inl rfl) | exact Or.inr (Or.inr rfl))) (pda_cons (pd_cl (c := 7) Z.c_NoHold (by rfl)) pda_nil))) (pda_cons (pd_blt (blt_isHA hh Z.held Z.isT) (by rfl) Z.b_isinstance rfl (pda_cons (pd_var (i := 0) rfl (by first | exact Or.inl rfl | exact Or.inr (Or.inl rfl) | exact Or.inr (Or.inr rfl))) (pda_cons (pd_cl (c := 8) Z.c_NoMonth (by rfl)) pda_nil))) pda_nil)))))))
    (pds_cons (pds_set (i := 1) sc__law_word.nd rfl (by first | exact Or.inl rfl | exact Or.inr rfl) (pd_add (pd_var (i := 1) rfl (by first | exact Or.inl rfl | exact Or.inr (Or.inl rfl) | exact Or.inr (Or.inr rfl))) (pd_lst (pda_cons (pd_blt (blt_isHA hh Z.held Z.isT) (by rfl) Z.b_isinstance rfl (pda_cons (pd_var (i := 0) rfl (by first | exact Or.inl rfl | exact Or.inr (Or.inl rfl) | exact Or.inr (Or.inr rfl))) (pda_cons (pd_cl (c := 9) Z.c_NoWho (by rfl)) pda_nil))) (pda_cons (pd_blt (blt_isHA hh Z.held Z.isT) (by rfl) Z.b_isinstance rfl (pda_cons (pd_var (i := 0) rfl (by first | exact Or.inl rfl | exact Or.inr (Or.inl rfl) | exact Or.inr (Or.inr rfl))) (pda_cons (pd_cl (c := 10) Z.c_NoSet (by rfl)) pda_nil))) (pda_cons (pd_blt (blt_isHA hh Z.held Z.isT) (by rfl) Z.b_isinstance rfl (pda_cons (pd_var (i := 0) rfl (by first | exact Or.inl rfl | exact Or.inr (Or.inl rfl) | exact Or.inr (Or.inr rfl))) (pda_cons (pd_cl (c := 11) Z.c_NoDeed (by rfl)) pda_nil))) (pda_cons (pd_blt (blt_isHA hh Z.held Z.isT) (by rfl) Z.b_isinstance rfl (pda_cons (pd_var (i := 0) rfl (by first | exact Or.inl rfl | exact Or.inr (Or.inl rfl) | exact Or.inr (Or.inr rfl))) (pda_cons (pd_cl (c := 12) Z.c_NoWishes (by rfl)) pda_nil))) pda_nil)))))))
    (pds_cons (pds_set (i := 1) sc__law_word.nd rfl (by first | exact Or.inl rfl | exact Or.inr rfl) (pd_add (pd_var (i := 1) rfl (by first | exact Or.inl rfl | exact Or.inr (Or.inl rfl) | exact Or.inr (Or.inr rfl))) (pd_lst (pda_cons (pd_blt (blt_isHA hh Z.held Z.isT) (by rfl) Z.b_isinstance rfl (pda_cons (pd_var (i := 0) rfl (by first | exact Or.inl rfl | exact Or.inr (Or.inl rfl) | exact Or.inr (Or.inr rfl))) (pda_cons (pd_cl (c := 13) Z.c_NoLine (by rfl)) pda_nil))) (pda_cons (pd_blt (blt_isHA hh Z.held Z.isT) (by rfl) Z.b_isinstance rfl (pda_cons (pd_var (i := 0) rfl (by first | exact Or.inl rfl | exact Or.inr (Or.inl rfl) | exact Or.inr (Or.inr rfl))) (pda_cons (pd_cl (c := 14) Z.c_NoNumber (by rfl)) pda_nil))) (pda_cons (pd_blt (blt_isHA hh Z.held Z.isT) (by rfl) Z.b_isinstance rfl (pda_cons (pd_var (i := 0) rfl (by first | exact Or.inl rfl | exact Or.inr (Or.inl rfl) | exact Or.inr (Or.inr rfl))) (pda_cons (pd_cl (c := 15) Z.c_NoPlace (by rfl)) pda_nil))) (pda_cons (pd_blt (blt_isHA hh Z.held Z.isT) (by rfl) Z.b_isinstance rfl (pda_cons (pd_var (i := 0) rfl (by first | exact Or.inl rfl | exact Or.inr (Or.inl rfl) | exact Or.inr (Or.inr rfl))) (pda_cons (pd_cl (c := 16) Z.c_TooMany (by rfl)) pda_nil))) pda_nil)))))))
    (pds_cons (pds_set (i := 1) sc__law_word.nd rfl (by first | exact Or.inl rfl | exact Or.inr rfl) (pd_add (pd_var (i := 1) rfl (by first | exact Or.inl rfl | exact Or.inr (Or.inl rfl) | exact Or.inr (Or.inr rfl))) (pd_lst (pda_cons (pd_blt (blt_isHA hh Z.held Z.isT) (by rfl) Z.b_isinstance rfl (pda_cons (pd_var (i := 0) rfl (by first | exact Or.inl rfl | exact Or.inr (Or.inl rfl) | exact Or.inr (Or.inr rfl))) (pda_cons (pd_cl (c := 17) Z.c_NoText (by rfl)) pda_nil))) (pda_cons (pd_blt (blt_isHA hh Z.held Z.isT) (by rfl) Z.b_isinstance rfl (pda_cons (pd_var (i := 0) rfl (by first | exact Or.inl rfl | exact Or.inr (Or.inl rfl) | exact Or.inr (Or.inr rfl))) (pda_cons (pd_cl (c := 20) Z.c_Full (by rfl)) pda_nil))) (pda_cons (pd_blt (blt_isHA hh Z.held Z.isT) (by rfl) Z.b_isinstance rfl (pda_cons (pd_var (i := 0) rfl (by first | exact Or.inl rfl | exact Or.inr (Or.inl rfl) | exact Or.inr (Or.inr rfl))) (pda_cons (pd_cl (c := 21) Z.c_Gone (by rfl)) pda_nil))) (pda_cons (pd_blt (blt_isHA hh Z.held Z.isT) (by rfl) Z.b_isinstance rfl (pda_cons (pd_var (i := 0) rfl (by first | exact Or.inl rfl | exact Or.inr (Or.inl rfl) | exact Or.inr (Or.inr rfl))) (pda_cons (pd_cl (c := 22) Z.c_Kept (by rfl)) pda_nil))) pda_nil)))))))
    (pds_cons (pds_if (pdt_w (pdw_or (pdt_cmp (cmp_ne hu) (pd_bm mt_countD (pd_var (i := 1) rfl (by first | exact Or.inl rfl | exact Or.inr (Or.inl rfl) | exact Or.inr (Or.inr rfl))) (pda_cons pd_bl pda_nil)) pd_int (by rfl)) (pdw_or1 (pdt_cmp (cmp_eq hu) (pd_blt (blt_isHA hh Z.held Z.isT) (by rfl) Z.b_isinstance rfl (pda_cons (pd_var (i := 0) rfl (by first | exact Or.inl rfl | exact Or.inr (Or.inl rfl) | exact Or.inr (Or.inr rfl))) (pda_cons (pd_cl (c := 19) Z.c_CellarError (by rfl)) pda_nil))) (pd_blt (blt_isHA hh Z.held Z.isT) (by rfl) Z.b_isinstance rfl (pda_cons (pd_var (i := 0) rfl (by first | exact Or.inl rfl | exact Or.inr (Or.inl rfl) | exact Or.inr (Or.inr rfl))) (pda_cons (pd_cl (c := 18) Z.c_HereError (by rfl)) pda_nil))) (by rfl))))) (pds_one (pds_ret (pd_tup (pda_cons pd_str pda_nil)))) pds_nil)
    (pds_cons (pds_if (pdt_w (pdw_and (pdt_truth (pd_blt (blt_isHA hh Z.held Z.isT) (by rfl) Z.b_isinstance rfl (pda_cons (pd_var (i := 0) rfl (by first | exact Or.inl rfl | exact Or.inr (Or.inl rfl) | exact Or.inr (Or.inr rfl))) (pda_cons (pd_cl (c := 19) Z.c_CellarError (by rfl)) pda_nil)))) (pdw_and1 (pdt_not (pdt_truth (pd_blt (blt_isHA hh Z.held Z.isT) (by rfl) Z.b_isinstance rfl (pda_cons (pd_var (i := 0) rfl (by first | exact Or.inl rfl | exact Or.inr (Or.inl rfl) | exact Or.inr (Or.inr rfl))) (pda_cons (pd_bt (n := "ValueError") rfl Z.b_ValueError (by rfl)) pda_nil)))))))) (pds_one (pds_ret (pd_tup (pda_cons pd_str pda_nil)))) pds_nil)
    (pds_cons (pds_if (pdt_w (pdw_and (pdt_truth (pd_blt (blt_isHA hh Z.held Z.isT) (by rfl) Z.b_isinstance rfl (pda_cons (pd_var (i := 0) rfl (by first | exact Or.inl rfl | exact Or.inr (Or.inl rfl) | exact Or.inr (Or.inr rfl))) (pda_cons (pd_cl (c := 18) Z.c_HereError (by rfl)) pda_nil)))) (pdw_and1 (pdt_not (pdt_truth (pd_blt (blt_isHA hh Z.held Z.isT) (by rfl) Z.b_isinstance rfl (pda_cons (pd_var (i := 0) rfl (by first | exact Or.inl rfl | exact Or.inr (Or.inl rfl) | exact Or.inr (Or.inr rfl))) (pda_cons (pd_bt (n := "LookupError") rfl Z.b_LookupError (by rfl)) pda_nil)))))))) (pds_one (pds_ret (pd_tup (pda_cons pd_str pda_nil)))) pds_nil)
    (pds_cons (pds_if (pdt_truth (pd_blt (blt_isHA hh Z.held Z.isT) (by rfl) Z.b_isinstance rfl (pda_cons (pd_var (i := 0) rfl (by first | exact Or.inl rfl | exact Or.inr (Or.inl rfl) | exact Or.inr (Or.inr rfl))) (pda_cons (pd_cl (c := 16) Z.c_TooMany (by rfl)) pda_nil)))) (pds_one (pds_ret (pd_tup (pda_cons pd_str (pda_cons pd_bad (pda_cons pd_bad pda_nil)))))) pds_nil)
    (pds_cons (pds_if (pdt_truth (pd_blt (blt_isHA hh Z.held Z.isT) (by rfl) Z.b_isinstance rfl (pda_cons (pd_var (i := 0) rfl (by first | exact Or.inl rfl | exact Or.inr (Or.inl rfl) | exact Or.inr (Or.inr rfl))) (pda_cons (pd_cl (c := 17) Z.c_NoText (by rfl)) pda_nil)))) (pds_one (pds_ret (pd_tup (pda_cons pd_str (pda_cons (pd_fldX (i := 0) hh Z.r_NoText (by rw [Z.f_NoText]; decide +kernel) (by rw [Z.f_NoText]; rfl) (pd_var (i := 0) rfl (by first | exact Or.inl rfl | exact Or.inr (Or.inl rfl) | exact Or.inr (Or.inr rfl)))) pda_nil))))) pds_nil)
    (pds_cons (pds_if (pdt_truth (pd_blt (blt_isHA hh Z.held Z.isT) (by rfl) Z.b_isinstance rfl (pda_cons (pd_var (i := 0) rfl (by first | exact Or.inl rfl | exact Or.inr (Or.inl rfl) | exact Or.inr (Or.inr rfl))) (pda_cons (pd_cl (c := 20) Z.c_Full (by rfl)) pda_nil)))) (pds_one (pds_ret (pd_tup (pda_cons pd_str (pda_cons pd_bad (pda_cons pd_bad pda_nil)))))) pds_nil)
    (pds_cons (pds_if (pdt_truth (pd_blt (blt_isHA hh Z.held Z.isT) (by rfl) Z.b_isinstance rfl (pda_cons (pd_var (i := 0) rfl (by first | exact Or.inl rfl | exact Or.inr (Or.inl rfl) | exact Or.inr (Or.inr rfl))) (pda_cons (pd_cl (c := 21) Z.c_Gone (by rfl)) pda_nil)))) (pds_one (pds_ret (pd_tup (pda_cons pd_str (pda_cons pd_bad (pda_cons pd_bad pda_nil)))))) pds_nil)
    (pds_cons (pds_if (pdt_truth (pd_blt (blt_isHA hh Z.held Z.isT) (by rfl) Z.b_isinstance rfl (pda_cons (pd_var (i := 0) rfl (by first | exact Or.inl rfl | exact Or.inr (Or.inl rfl) | exact Or.inr (Or.inr rfl))) (pda_cons (pd_cl (c := 22) Z.c_Kept (by rfl)) pda_nil)))) (pds_one (pds_ret (pd_tup (pda_cons pd_str (pda_cons pd_bad (pda_cons pd_bad pda_nil)))))) pds_nil)
    (pds_cons (pds_set (i := 2) sc__law_word.nd rfl (by first | exact Or.inl rfl | exact Or.inr rfl) (pd_lst (pda_cons pd_str (pda_cons pd_str (pda_cons pd_str (pda_cons pd_str (pda_cons pd_str (pda_cons pd_str (pda_cons pd_str (pda_cons pd_str (pda_cons pd_str (pda_cons pd_str (pda_cons pd_str (pda_cons pd_str pda_nil))))))))))))))
    (pds_one (pds_ret (pd_tup (pda_cons (pd_ix (pd_add (pd_var (i := 2) rfl (by first | exact Or.inl rfl | exact Or.inr (Or.inl rfl) | exact Or.inr (Or.inr rfl))) (pd_lst (pda_cons pd_str (pda_cons pd_str (pda_cons pd_str pda_nil))))) (pd_bm mt_indexD' (pd_var (i := 1) rfl (by first | exact Or.inl rfl | exact Or.inr (Or.inl rfl) | exact Or.inr (Or.inr rfl))) (pda_cons pd_bl pda_nil))) pda_nil))))))))))))))))))
abbrev st__law_kind_of : Stmt := top 50
theorem sc__law_kind_of : FnScope ["_law_bottle"] ["_law_bottle"] (defScope st__law_kind_of) := ⟨rfl, rfl, rfl, by decide +kernel, rfl, by decide +kernel, by decide +kernel⟩
def m__law_kind_of : DS :=
    (sRet (dTup (dCons (dFld 0 0 (dVar 0)) (dCons (dFld 0 1 (dVar 0)) (dCons (dFld 0 2 (dVar 0)) dNil)))))
def f__law_kind_of : DF := body 1 1 m__law_kind_of
theorem ok__law_kind_of {w : World} {T : Txt} {mg : Str → Option Value} {base : Heap} (Z : Facts T mg) (l : Lk T 21 "_law_kind_of" "_law_kind_of" st__law_kind_of) (hg : mg "_law_kind_of" = some (.ref (T.fa 21))) : Def P w T mg base 1 21 "_law_kind_of" ["_law_bottle"] f__law_kind_of := by
  refine defD_of (m := m__law_kind_of) (k := 0) (N := ["_law_bottle"]) (ps := ["_law_bottle"]) (st := st__law_kind_of) l hg sc__law_kind_of (fun _ _ _ _ _ _ us hl => match us, hl with | [_], _ => rfl) fun cdv A outer s H E xp ft po => ?_
  exact (pds_one (pds_ret (pd_tup (pda_cons (pd_fld (i := 0) Z.i_Bottle (by rw [Z.f_Bottle]; rfl) (pd_var (i := 0) rfl (by first | exact Or.inl rfl | exact Or.inr (Or.inl rfl) | exact Or.inr (Or.inr rfl)))) (pda_cons (pd_fld (i := 1) Z.i_Bottle (by rw [Z.f_Bottle]; rfl) (pd_var (i := 0) rfl (by first | exact Or.inl rfl | exact Or.inr (Or.inl rfl) | exact Or.inr (Or.inr rfl)))) (pda_cons (pd_fld (i := 2) Z.i_Bottle (by rw [Z.f_Bottle]; rfl) (pd_var (i := 0) rfl (by first | exact Or.inl rfl | exact Or.inr (Or.inl rfl) | exact Or.inr (Or.inr rfl)))) pda_nil))))))
abbrev st__law_bottles : Stmt := top 51
theorem sc__law_bottles : FnScope ["_law_pot_here", "_law_kinds_here", "_law_most", "_law_kind", "_law_one"] ["_law_pot_here", "_law_kinds_here", "_law_most"] (defScope st__law_bottles) := ⟨rfl, rfl, rfl, by decide +kernel, rfl, by decide +kernel, by decide +kernel⟩
def m__law_bottles : DS :=
    (sRet (dLcL (dLcR1 (dCons (dVar 2) dNil) (g1 4) tYesD (dIx (dVar 1) (dCallA 2 f__law_take (dCons (dVar 0) (dCons (dCB (one gLen) (dCons (dVar 1) dNil)) dNil)))) [4]) (g1 3) tYesD (dMake 0 3 0 gd_Bottle_3 f_Bottle (dCons (dIx (dVar 3) (dC (.int 0))) (dCons (dIx (dVar 3) (dC (.int 1))) (dCons (dIx (dVar 3) (dC (.int 2))) dNil))) dNil) [3]))
def f__law_bottles : DF := body 5 3 m__law_bottles
theorem ok__law_bottles {w : World} {T : Txt} {mg : Str → Option Value} {base : Heap} (Z : Facts T mg) (D__law_take : Def P w T mg base 1 16 "_law_take" ["_law_pot_here", "_law_far"] f__law_take) (MB_Bottle : Mk_Bottle P w T mg base) (l : Lk T 22 "_law_bottles" "_law_bottles" st__law_bottles) (hg : mg "_law_bottles" = some (.ref (T.fa 22))) : Def P w T mg base 6 22 "_law_bottles" ["_law_pot_here", "_law_kinds_here", "_law_most"] f__law_bottles := by
  obtain ⟨fd_Bottle, K_Bottle, F_Bottle, B_Bottle_2, B_Bottle_3⟩ := MB_Bottle.ex
  refine defD_of (m := m__law_bottles) (k := 5) (N := ["_law_pot_here", "_law_kinds_here", "_law_most", "_law_kind", "_law_one"]) (ps := ["_law_pot_here", "_law_kinds_here", "_law_most"]) (st := st__law_bottles) l hg sc__law_bottles (fun _ _ _ _ _ _ us hl => match us, hl with | [_, _, _], _ => rfl) fun cdv A outer s H E xp ft po => ?_
  exact (pds_one (pds_ret (pd_lcL (own := [("_law_kind", 3)]) rfl sc__law_bottles.nd (pd_lcR1 (own := [("_law_one", 4)]) rfl sc__law_bottles.nd (by rfl) Z.b_range (pda_cons (pd_var (i := 2) rfl (by first | exact Or.inl rfl | exact Or.inr (Or.inl rfl) | exact Or.inr (Or.inr rfl))) pda_nil) (blkOk_by rfl) (fun _ _ _ _ _ => pg_name (i := 4) sc__law_bottles.nd rfl (by first | exact Or.inl rfl | exact Or.inr rfl)) (tg_one 4) (by decide) (fun _ _ _ _ _ => pdts_nil) (fun _ _ _ _ _ => (pd_ix (pd_var (i := 1) rfl (by first | exact Or.inl rfl | exact Or.inr (Or.inl rfl) | exact Or.inr (Or.inr rfl))) (pd_callA D__law_take ((ft.blk _ _ _ _ _ _).mono (by decide)) (by rfl) (pda_cons (pd_var (i := 0) rfl (by first | exact Or.inl rfl | exact Or.inr (Or.inl rfl) | exact Or.inr (Or.inr rfl))) (pda_cons (pd_blt blt_len (by rfl) Z.b_len rfl (pda_cons (pd_var (i := 1) rfl (by first | exact Or.inl rfl | exact Or.inr (Or.inl rfl) | exact Or.inr (Or.inr rfl))) pda_nil)) pda_nil)))))) (blkOk_by rfl) (fun _ _ _ _ _ => pg_name (i := 3) sc__law_bottles.nd rfl (by first | exact Or.inl rfl | exact Or.inr rfl)) (tg_one 3) (by decide) (fun _ _ _ _ _ => pdts_nil) (fun _ _ _ _ _ => (pd_frz (pd_makeM K_Bottle F_Bottle ((ft.blk _ _ _ _ _ _).mono (by decide)).room (ft.blk _ _ _ _ _ _).tk B_Bottle_3 (by rfl) Z.c_Bottle (pda_cons (pd_ix (pd_var (i := 3) rfl (by first | exact Or.inl rfl | exact Or.inr (Or.inl rfl) | exact Or.inr (Or.inr rfl))) pd_int) (pda_cons (pd_ix (pd_var (i := 3) rfl (by first | exact Or.inl rfl | exact Or.inr (Or.inl rfl) | exact Or.inr (Or.inr rfl))) pd_int) (pda_cons (pd_ix (pd_var (i := 3) rfl (by first | exact Or.inl rfl | exact Or.inr (Or.inl rfl) | exact Or.inr (Or.inr rfl))) pd_int) pda_nil))) pdk_nil))))))
abbrev st__law_heard : Stmt := top 52
theorem sc__law_heard : FnScope ["_law_text", "_law_litres", "_law_told", "_law_e", "_law_one"] ["_law_text", "_law_litres"] (defScope st__law_heard) := ⟨rfl, rfl, rfl, by decide +kernel, rfl, by decide +kernel, by decide +kernel⟩
def m__law_heard : DS :=
    (sSeq (sTryAs cth_CellarError 3 (sSet 2 (dIte (asB (dOp2 fEq (dCB (orB (one gRepr) (one gReprK)) (dCons (dVar 1) dNil)) (dC (.str "75")))) (dCall 1 0 gd_read_1 f_read (dCons (dVar 0) dNil) dNil) (dCall 1 1 gd_read_1_size f_read (dCons (dVar 0) dNil) (dCons (dVar 1) dNil))))
    (sRet (dCallA 1 f__law_word (dCons (dVar 3) dNil))))
    (sRet (dLcL (dFrzA (dVar 2)) (g1 4) tYesD (dCallA 1 f__law_kind_of (dCons (dVar 4) dNil)) [4])))
def f__law_heard : DF := bodyE 5 2 m__law_heard
theorem ok__law_heard {w : World} {T : Txt} {mg : Str → Option Value} {base : Heap} (Z : Facts T mg) (D__law_kind_of : Def P w T mg base 1 21 "_law_kind_of" ["_law_bottle"] f__law_kind_of) (H__law_word : DefH P w T mg base 1 20 "_law_word" ["_law_e"] f__law_word) (K_read : DefK P w T mg base 7 13 "read" ["text", "size"] f_read ways_read) (l : Lk T 23 "_law_heard" "_law_heard" st__law_heard) (hg : mg "_law_heard" = some (.ref (T.fa 23))) : Def P w T mg base 8 23 "_law_heard" ["_law_text", "_law_litres"] f__law_heard := by
  refine defD_of0 (m := m__law_heard) (k := 7) (N := ["_law_text", "_law_litres", "_law_told", "_law_e", "_law_one"]) (ps := ["_law_text", "_law_litres"]) (st := st__law_heard) l hg sc__law_heard (fun _ _ _ _ _ _ us hl => match us, hl with | [_, _], _ => rfl) fun cdv A outer s H E ft po => ?_
  exact (pds_cons (pds_tryAs (i := 3) rfl rfl sc__law_heard.nd rfl rfl ⟨by rfl, by decide, .inl Z.c_CellarError⟩ ft.tk Z.k_CellarError
    (fun W pn xe tk po => have ftt := ft.try tk; (pds_one (pds_set (i := 2) sc__law_heard.nd rfl (by first | exact Or.inl rfl | exact Or.inr rfl) (pd_ite (pdt_cmp (cmp_eq ftt.u) (pd_blt (blt_reprA ftt.room.gd ftt.u) (by rfl) Z.b_repr rfl (pda_cons (pd_var (i := 1) rfl (by first | exact Or.inl rfl | exact Or.inr (Or.inl rfl) | exact Or.inr (Or.inr rfl))) pda_nil)) pd_str (by rfl)) (pd_callK K_read List.mem_cons_self (ftt.mono (by decide)) (by rfl) (pda_cons (pd_var (i := 0) rfl (by first | exact Or.inl rfl | exact Or.inr (Or.inl rfl) | exact Or.inr (Or.inr rfl))) pda_nil) pdk_nil) (pd_callK K_read (List.mem_cons_of_mem _ List.mem_cons_self) (ftt.mono (by decide)) (by rfl) (pda_cons (pd_var (i := 0) rfl (by first | exact Or.inl rfl | exact Or.inr (Or.inl rfl) | exact Or.inr (Or.inr rfl))) pda_nil) (pdk_cons (pd_var (i := 1) rfl (by first | exact Or.inl rfl | exact Or.inr (Or.inl rfl) | exact Or.inr (Or.inr rfl))) pdk_nil))))))
    (fun a oe c d pn hz hf => (pds_one (pds_ret (pd_callHA H__law_word rfl hz hf (ft.room.mono (by decide)) (by rfl) (pda_cons (pd_var (i := 3) rfl (by first | exact Or.inl rfl | exact Or.inr (Or.inl rfl) | exact Or.inr (Or.inr rfl))) pda_nil))))))
    (pds_one (pds_ret (pd_lcL (own := [("_law_one", 4)]) rfl sc__law_heard.nd (pd_frzA (pd_var (i := 2) rfl (by first | exact Or.inl rfl | exact Or.inr (Or.inl rfl) | exact Or.inr (Or.inr rfl)))) (blkOk_by rfl) (fun _ _ _ _ _ => pg_name (i := 4) sc__law_heard.nd rfl (by first | exact Or.inl rfl | exact Or.inr rfl)) (tg_one 4) (by decide) (fun _ _ _ _ _ => pdts_nil) (fun _ _ _ _ _ => (pd_callA D__law_kind_of ((ft.blk _ _ _ _ _ _).mono (by decide)) (by rfl) (pda_cons (pd_var (i := 4) rfl (by first | exact Or.inl rfl | exact Or.inr (Or.inl rfl) | exact Or.inr (Or.inr rfl))) pda_nil)))))))
abbrev st__law_written_so : Stmt := top 53
theorem sc__law_written_so : FnScope ["_law_thing", "_law_e"] ["_law_thing"] (defScope st__law_written_so) := ⟨rfl, rfl, rfl, by decide +kernel, rfl, by decide +kernel, by decide +kernel⟩
def m__law_written_so : DS :=
    (sTryAs cth_CellarError 1 (sRet (dCallA 1 f_written (dCons (dVar 0) dNil)))
    (sRet (dCallA 1 f__law_word (dCons (dVar 1) dNil))))
def f__law_written_so : DF := bodyE 2 1 m__law_written_so
theorem ok__law_written_so {w : World} {T : Txt} {mg : Str → Option Value} {base : Heap} (Z : Facts T mg) (D_written : Def P w T mg base 4 11 "written" ["bottles"] f_written) (H__law_word : DefH P w T mg base 1 20 "_law_word" ["_law_e"] f__law_word) (l : Lk T 24 "_law_written_so" "_law_written_so" st__law_written_so) (hg : mg "_law_written_so" = some (.ref (T.fa 24))) : Def P w T mg base 5 24 "_law_written_so" ["_law_thing"] f__law_written_so := by
  refine defD_of0 (m := m__law_written_so) (k := 4) (N := ["_law_thing", "_law_e"]) (ps := ["_law_thing"]) (st := st__law_written_so) l hg sc__law_written_so (fun _ _ _ _ _ _ us hl => match us, hl with | [_], _ => rfl) fun cdv A outer s H E ft po => ?_
  exact (pds_one (pds_tryAs (i := 1) rfl rfl sc__law_written_so.nd rfl rfl ⟨by rfl, by decide, .inl Z.c_CellarError⟩ ft.tk Z.k_CellarError
    (fun W pn xe tk po => have ftt := ft.try tk; (pds_one (pds_ret (pd_callA D_written (ftt.mono (by decide)) (by rfl) (pda_cons (pd_var (i := 0) rfl (by first | exact Or.inl rfl | exact Or.inr (Or.inl rfl) | exact Or.inr (Or.inr rfl))) pda_nil)))))
    (fun a oe c d pn hz hf => (pds_one (pds_ret (pd_callHA H__law_word rfl hz hf (ft.room.mono (by decide)) (by rfl) (pda_cons (pd_var (i := 1) rfl (by first | exact Or.inl rfl | exact Or.inr (Or.inl rfl) | exact Or.inr (Or.inr rfl))) pda_nil)))))))
abbrev st_law : Stmt := top 54
theorem sc_law : FnScope ["_law_script", "_law_k", "_law_pot_here", "_law_kinds_here", "_law_turn", "_law_row", "_law_at", "_law_odds", "_law_odd_here", "_law_some", "_law_thing", "_law_kept", "_law_litres", "_law_text"] ["_law_script"] (defScope st_law) := ⟨rfl, rfl, rfl, by decide +kernel, rfl, by decide +kernel, by decide +kernel⟩
def m_law : DS :=
    (sSeq (sForR1 (dCons (dCB (two fun i j => if j > i then j else i) (dCons (dC (.int 1)) (dCons (dCB (two fun i j => if j < i then j else i) (dCons (dCB (one gLen) (dCons (dVar 0) dNil)) (dCons (dC (.int 4)) dNil))) dNil))) dNil) (g1 1)
    (sSeq (sSet 2 (dCallA 1 f__law_pot (dCons (dCallA 2 f__law_cell_at (dCons (dVar 0) (dCons (dVar 1) dNil))) dNil)))
    (sSeq (sSet 3 (dCallA 1 f__law_kinds (dCons (dVar 2) dNil)))
    (sForR1 (dCons (dC (.int 8)) dNil) (g1 4)
    (sSeq (sSet 5 (dCallA 3 f__law_bottles (dCons (dVar 2) (dCons (dVar 3) (dCons (dCallA 2 f__law_take (dCons (dVar 2) (dCons (dC (.int 5)) dNil))) dNil)))))
    (sSeq (sPar 6 7 (dCons (dCallA 2 f__law_take (dCons (dVar 2) (dCons (dAdd (dCB (one gLen) (dCons (dVar 5) dNil)) (dC (.int 1))) dNil))) (dCons (dLst (dCons (dC .non) (dCons (dC (.str "a 1950")) (dCons (dC (.int 7)) (dCons (dTup (dCons (dC (.str "a")) (dCons (dC (.int 1950)) (dCons (dC (.int 75)) dNil)))) (dCons (dLst dNil) (dCons (dCallA 1 f__law_odd (dCons (dVar 2) dNil)) dNil))))))) dNil)))
    (sSeq (sSet 8 (dIx (dVar 7) (dCallA 2 f__law_take (dCons (dVar 2) (dCons (dC (.int 6)) dNil)))))
    (sSeq (sSet 9 (dLst (dCons (dAdd (dAdd (dSl (dVar 5) oNone (oSome (dVar 6))) (dLst (dCons (dVar 8) dNil))) (dSl (dVar 5) (oSome (dVar 6)) oNone)) (dCons (dCB (one gTuple) (dCons (dVar 5) dNil)) (dCons (dDicV 0 5) (dCons (dC .non) (dCons (dC (.str "a 1950")) (dCons (dLst (dCons (dVar 5) dNil)) (dCons (dMake 0 2 0 gd_Bottle_2 f_Bottle (dCons (dC (.str "a")) (dCons (dC (.int 1950)) dNil)) dNil) (dCons (dVar 8) dNil))))))))))
    (sSeq (sForL (dVar 9) (g1 10)
    (sIf (tOrD (tNotD (dTruth (dCB (bIsi [0] isT) (dCons (dVar 10) (dCons (dC (.ty "list")) dNil))))) (asB (dOpS gNeF (dVar 10) (dLst dNil)))) (sSeq (sSet 11 (dCB (orB (orB (one gRepr) (one gReprK)) (one (gReprI 0 rB))) (dCons (dVar 10) dNil)))
    (sIf (tOrD (asB (dOp2 fNe (dCallA 1 f__law_written_so (dCons (dVar 10) dNil)) (dTup (dCons (dC (.str "bottles")) dNil)))) (asB (dOp2 fNe (dCB (orB (orB (one gRepr) (one gReprK)) (one (gReprI 0 rB))) (dCons (dVar 10) dNil)) (dVar 11)))) (sRet (dC (.bl false))) sNext)) sNext))
    (sSeq (sForL (dLst (dCons (dC (.int 0)) (dCons (dC (.int 36)) (dCons (dC (.int 74)) (dCons (dC (.int 76)) (dCons (dC (.int 149)) (dCons (dC (.bl true)) (dCons (dC .non) (dCons (dC (.str "75")) (dCons (dTup (dCons (dC (.int 75)) dNil)) (dCons (dPow (dC (.int 10)) (dC (.int 39))) (dCons (dVar 8) dNil)))))))))))) (g1 12)
    (sForL (dLst (dCons (dC (.str "a 1950")) (dCons (dC (.str "x")) (dCons (dC .non) (dCons (dVar 8) dNil))))) (g1 13)
    (sIf (asB (dOp2 fNe (dCallA 2 f__law_heard (dCons (dVar 13) (dCons (dVar 12) dNil))) (dTup (dCons (dC (.str "size")) dNil)))) (sRet (dC (.bl false))) sNext)))
    (sForL (dLst (dCons (dC .non) (dCons (dC (.int 0)) (dCons (dLst (dCons (dC (.str "a 1950")) dNil)) (dCons (dTup (dCons (dC (.str "a 1950")) dNil)) (dCons (dC (.dic [] [])) (dCons (dMake 0 2 0 gd_Bottle_2 f_Bottle (dCons (dC (.str "a")) (dCons (dC (.int 1950)) dNil)) dNil) (dCons (dVar 5) dNil)))))))) (g1 13)
    (sIf (asB (dOp2 fNe (dCallA 2 f__law_heard (dCons (dVar 13) (dCons (dIx (dLst (dCons (dC (.int 75)) (dCons (dC (.int 37)) (dCons (dC (.int 150)) dNil)))) (dCallA 2 f__law_take (dCons (dVar 2) (dCons (dC (.int 3)) dNil)))) dNil))) (dTup (dCons (dC (.str "text")) (dCons (dC (.int 0)) dNil))))) (sRet (dC (.bl false))) sNext))))))))))))
    (sRet (dC (.bl true))))
def f_law : DF := body 14 1 m_law
theorem ok_law_fd {w : World} {T : Txt} {mg : Str → Option Value} {base : Heap} (Z : Facts T mg) (D__law_bottles : Def P w T mg base 6 22 "_law_bottles" ["_law_pot_here", "_law_kinds_here", "_law_most"] f__law_bottles) (D__law_cell_at : Def P w T mg base 1 14 "_law_cell_at" ["_law_script", "_law_k"] f__law_cell_at) (D__law_heard : Def P w T mg base 8 23 "_law_heard" ["_law_text", "_law_litres"] f__law_heard) (D__law_kinds : Def P w T mg base 3 19 "_law_kinds" ["_law_pot_here"] f__law_kinds) (D__law_odd : Def P w T mg base 2 18 "_law_odd" ["_law_pot_here"] f__law_odd) (D__law_pot : Def P w T mg base 1 15 "_law_pot" ["_law_cell"] f__law_pot) (D__law_take : Def P w T mg base 1 16 "_law_take" ["_law_pot_here", "_law_far"] f__law_take) (D__law_written_so : Def P w T mg base 5 24 "_law_written_so" ["_law_thing"] f__law_written_so) (R___repr__ : DefR P w T mg base 1 0 9 f_Bottle___repr__) (hm_r : ∀ xs z st, rB xs = some z → f_Bottle___repr__ [.ins 0 xs] st = .ok (.str z) st) (MB_Bottle : Mk_Bottle P w T mg base) {fd : FuncData} (F : Fun T.K "law" "law" st_law (T.fa 25) fd) : FnG P w T.K mg base 10 (T.fa 25) fd ["_law_script"] (spM T 1 f_law) := by
  obtain ⟨fd_Bottle, K_Bottle, F_Bottle, B_Bottle_2, B_Bottle_3⟩ := MB_Bottle.ex
  refine fnD_of (m := m_law) (k := 9) (N := ["_law_script", "_law_k", "_law_pot_here", "_law_kinds_here", "_law_turn", "_law_row", "_law_at", "_law_odds", "_law_odd_here", "_law_some", "_law_thing", "_law_kept", "_law_litres", "_law_text"]) (ps := ["_law_script"]) (st := st_law) F sc_law fun cdv A outer s H E xp hr => ?_
  have ft : Fit ⟨cxOf (L2N.CX P w) P w T.K mg base ["_law_script", "_law_k", "_law_pot_here", "_law_kinds_here", "_law_turn", "_law_row", "_law_at", "_law_odds", "_law_odd_here", "_law_some", "_law_thing", "_law_kept", "_law_litres", "_law_text"] "law" (defScope st_law) (T.fa 25) cdv A outer s H E, T, xp, fun c d _ H' => E c d H', rfl⟩ 9 := ⟨rfl, hr, takes_def⟩
  have po := passes_def (P := P) (w := w) (K := T.K) (mg := mg) (base := base) (N := ["_law_script", "_law_k", "_law_pot_here", "_law_kinds_here", "_law_turn", "_law_row", "_law_at", "_law_odds", "_law_odd_here", "_law_some", "_law_thing", "_law_kept", "_law_litres", "_law_text"]) (qual := "law") (sc := defScope st_law) (f := T.fa 25) (cdv := cdv) (A := A) (outer := outer) (s := s) (H := H) (E := E)
  exact (pds_cons (pds_forR1 po rfl (by rfl) Z.b_range (pda_cons (pd_blt (blt_max2 rfl) (by rfl) Z.b_max rfl (pda_cons pd_int (pda_cons (pd_blt (blt_min2 rfl) (by rfl) Z.b_min rfl (pda_cons (pd_blt blt_len (by rfl) Z.b_len rfl (pda_cons (pd_var (i := 0) rfl (by first | exact Or.inl rfl | exact Or.inr (Or.inl rfl) | exact Or.inr (Or.inr rfl))) pda_nil)) (pda_cons pd_int pda_nil))) pda_nil))) pda_nil) (pg_name (i := 1) sc_law.nd rfl (by first | exact Or.inl rfl | exact Or.inr rfl)) (tg_one 1)
    (pds_cons (pds_set (i := 2) sc_law.nd rfl (by first | exact Or.inl rfl | exact Or.inr rfl) (pd_callA D__law_pot (ft.mono (by decide)) (by rfl) (pda_cons (pd_callA D__law_cell_at (ft.mono (by decide)) (by rfl) (pda_cons (pd_var (i := 0) rfl (by first | exact Or.inl rfl | exact Or.inr (Or.inl rfl) | exact Or.inr (Or.inr rfl))) (pda_cons (pd_var (i := 1) rfl (by first | exact Or.inl rfl | exact Or.inr (Or.inl rfl) | exact Or.inr (Or.inr rfl))) pda_nil))) pda_nil)))
    (pds_cons (pds_set (i := 3) sc_law.nd rfl (by first | exact Or.inl rfl | exact Or.inr rfl) (pd_callA D__law_kinds (ft.mono (by decide)) (by rfl) (pda_cons (pd_var (i := 2) rfl (by first | exact Or.inl rfl | exact Or.inr (Or.inl rfl) | exact Or.inr (Or.inr rfl))) pda_nil)))
    (pds_one (pds_forR1 po rfl (by rfl) Z.b_range (pda_cons pd_int pda_nil) (pg_name (i := 4) sc_law.nd rfl (by first | exact Or.inl rfl | exact Or.inr rfl)) (tg_one 4)
    (pds_cons (pds_set (i := 5) sc_law.nd rfl (by first | exact Or.inl rfl | exact Or.inr rfl) (pd_callA D__law_bottles (ft.mono (by decide)) (by rfl) (pda_cons (pd_var (i := 2) rfl (by first | exact Or.inl rfl | exact Or.inr (Or.inl rfl) | exact Or.inr (Or.inr rfl))) (pda_cons (pd_var (i := 3) rfl (by first | exact Or.inl rfl | exact Or.inr (Or.inl rfl) | exact Or.inr (Or.inr rfl))) (pda_cons (pd_callA D__law_take (ft.mono (by decide)) (by rfl) (pda_cons (pd_var (i := 2) rfl (by first | exact Or.inl rfl | exact Or.inr (Or.inl rfl) | exact Or.inr (Or.inr rfl))) (pda_cons pd_int pda_nil))) pda_nil)))))
    (pds_cons (pds_par (pz := ⟨0, 0, 0, 0⟩) (i := 6) (j := 7) rfl sc_law.nd rfl rfl (by decide) rfl rfl (pda_cons (pd_callA D__law_take (ft.mono (by decide)) (by rfl) (pda_cons (pd_var (i := 2) rfl (by first | exact Or.inl rfl | exact Or.inr (Or.inl rfl) | exact Or.inr (Or.inr rfl))) (pda_cons (pd_add (pd_blt blt_len (by rfl) Z.b_len rfl (pda_cons (pd_var (i := 5) rfl (by first | exact Or.inl rfl | exact Or.inr (Or.inl rfl) | exact Or.inr (Or.inr rfl))) pda_nil)) pd_int) pda_nil))) (pda_cons (pd_lst (pda_cons pd_non (pda_cons pd_str (pda_cons pd_int (pda_cons (pd_tup (pda_cons pd_str (pda_cons pd_int (pda_cons pd_int pda_nil)))) (pda_cons (pd_lst pda_nil) (pda_cons (pd_callA D__law_odd (ft.mono (by decide)) (by rfl) (pda_cons (pd_var (i := 2) rfl (by first | exact Or.inl rfl | exact Or.inr (Or.inl rfl) | exact Or.inr (Or.inr rfl))) pda_nil)) pda_nil))))))) pda_nil)) (by rfl))
    (pds_cons (pds_set (i := 8) sc_law.nd rfl (by first | exact Or.inl rfl | exact Or.inr rfl) (pd_ix (pd_var (i := 7) rfl (by first | exact Or.inl rfl | exact Or.inr (Or.inl rfl) | exact Or.inr (Or.inr rfl))) (pd_callA D__law_take (ft.mono (by decide)) (by rfl) (pda_cons (pd_var (i := 2) rfl (by first | exact Or.inl rfl | exact Or.inr (Or.inl rfl) | exact Or.inr (Or.inr rfl))) (pda_cons pd_int pda_nil)))))
    (pds_cons (pds_set (i := 9) sc_law.nd rfl (by first | exact Or.inl rfl | exact Or.inr rfl) (pd_lst (pda_cons (pd_add (pd_add (pd_slice (pd_var (i := 5) rfl (by first | exact Or.inl rfl | exact Or.inr (Or.inl rfl) | exact Or.inr (Or.inr rfl))) pdo_none (pdo_some (pd_var (i := 6) rfl (by first | exact Or.inl rfl | exact Or.inr (Or.inl rfl) | exact Or.inr (Or.inr rfl))))) (pd_lst (pda_cons (pd_var (i := 8) rfl (by first | exact Or.inl rfl | exact Or.inr (Or.inl rfl) | exact Or.inr (Or.inr rfl))) pda_nil))) (pd_slice (pd_var (i := 5) rfl (by first | exact Or.inl rfl | exact Or.inr (Or.inl rfl) | exact Or.inr (Or.inr rfl))) (pdo_some (pd_var (i := 6) rfl (by first | exact Or.inl rfl | exact Or.inr (Or.inl rfl) | exact Or.inr (Or.inr rfl)))) pdo_none)) (pda_cons (pd_ty ty_tuple (by rfl) Z.b_tuple rfl (pda_cons (pd_var (i := 5) rfl (by first | exact Or.inl rfl | exact Or.inr (Or.inl rfl) | exact Or.inr (Or.inr rfl))) pda_nil)) (pda_cons (pd_dicV (i := 0) (j := 5) pe_int rfl (by first | exact Or.inl rfl | exact Or.inr (Or.inl rfl) | exact Or.inr (Or.inr rfl))) (pda_cons pd_non (pda_cons pd_str (pda_cons (pd_lst (pda_cons (pd_var (i := 5) rfl (by first | exact Or.inl rfl | exact Or.inr (Or.inl rfl) | exact Or.inr (Or.inr rfl))) pda_nil)) (pda_cons (pd_frz (pd_makeM K_Bottle F_Bottle (ft.mono (by decide)).room ft.tk B_Bottle_2 (by rfl) Z.c_Bottle (pda_cons pd_str (pda_cons pd_int pda_nil)) pdk_nil)) (pda_cons (pd_var (i := 8) rfl (by first | exact Or.inl rfl | exact Or.inr (Or.inl rfl) | exact Or.inr (Or.inr rfl))) pda_nil))))))))))
    (pds_cons (pds_forL po rfl (pd_var (i := 9) rfl (by first | exact Or.inl rfl | exact Or.inr (Or.inl rfl) | exact Or.inr (Or.inr rfl))) (pg_name (i := 10) sc_law.nd rfl (by first | exact Or.inl rfl | exact Or.inr rfl)) (tg_one 10)
    (pds_one (pds_if (pdt_w (pdw_or (pdt_not (pdt_truth (pd_blt (blt_isi Z.own Z.isT) (by rfl) Z.b_isinstance rfl (pda_cons (pd_var (i := 10) rfl (by first | exact Or.inl rfl | exact Or.inr (Or.inl rfl) | exact Or.inr (Or.inr rfl))) (pda_cons (pd_bt (n := "list") rfl Z.b_list (by rfl)) pda_nil))))) (pdw_or1 (pdt_cmpS (op_neF ft.u) (osd_neF ft.u) (pd_var (i := 10) rfl (by first | exact Or.inl rfl | exact Or.inr (Or.inl rfl) | exact Or.inr (Or.inr rfl))) (pd_lst pda_nil) (by rfl))))) (pds_cons (pds_set (i := 11) sc_law.nd rfl (by first | exact Or.inl rfl | exact Or.inr rfl) (pd_blt (BltD.or (blt_reprA ft.room.gd ft.u) (blt_reprI ⟨⟨_, _, R___repr__, hm_r⟩, ft.tk⟩ (ft.mono (by decide)).room)) (by rfl) Z.b_repr rfl (pda_cons (pd_var (i := 10) rfl (by first | exact Or.inl rfl | exact Or.inr (Or.inl rfl) | exact Or.inr (Or.inr rfl))) pda_nil)))
    (pds_one (pds_if (pdt_w (pdw_or (pdt_cmp (cmp_ne ft.u) (pd_callA D__law_written_so (ft.mono (by decide)) (by rfl) (pda_cons (pd_var (i := 10) rfl (by first | exact Or.inl rfl | exact Or.inr (Or.inl rfl) | exact Or.inr (Or.inr rfl))) pda_nil)) (pd_tup (pda_cons pd_str pda_nil)) (by rfl)) (pdw_or1 (pdt_cmp (cmp_ne ft.u) (pd_blt (BltD.or (blt_reprA ft.room.gd ft.u) (blt_reprI ⟨⟨_, _, R___repr__, hm_r⟩, ft.tk⟩ (ft.mono (by decide)).room)) (by rfl) Z.b_repr rfl (pda_cons (pd_var (i := 10) rfl (by first | exact Or.inl rfl | exact Or.inr (Or.inl rfl) | exact Or.inr (Or.inr rfl))) pda_nil)) (pd_var (i := 11) rfl (by first | exact Or.inl rfl | exact Or.inr (Or.inl rfl) | exact Or.inr (Or.inr rfl))) (by rfl))))) (pds_one (pds_ret pd_bl)) pds_nil))) pds_nil)))
    (pds_cons (pds_forL po rfl (pd_lst (pda_cons pd_int (pda_cons pd_int (pda_cons pd_int (pda_cons pd_int (pda_cons pd_int (pda_cons pd_bl (pda_cons pd_non (pda_cons pd_str (pda_cons (pd_tup (pda_cons pd_int pda_nil)) (pda_cons (pd_pow pd_int pd_int) (pda_cons (pd_var (i := 8) rfl (by first | exact Or.inl rfl | exact Or.inr (Or.inl rfl) | exact Or.inr (Or.inr rfl))) pda_nil)))))))))))) (pg_name (i := 12) sc_law.nd rfl (by first | exact Or.inl rfl | exact Or.inr rfl)) (tg_one 12)
    (pds_one (pds_forL po rfl (pd_lst (pda_cons pd_str (pda_cons pd_str (pda_cons pd_non (pda_cons (pd_var (i := 8) rfl (by first | exact Or.inl rfl | exact Or.inr (Or.inl rfl) | exact Or.inr (Or.inr rfl))) pda_nil))))) (pg_name (i := 13) sc_law.nd rfl (by first | exact Or.inl rfl | exact Or.inr rfl)) (tg_one 13)
    (pds_one (pds_if (pdt_cmp (cmp_ne ft.u) (pd_callA D__law_heard (ft.mono (by decide)) (by rfl) (pda_cons (pd_var (i := 13) rfl (by first | exact Or.inl rfl | exact Or.inr (Or.inl rfl) | exact Or.inr (Or.inr rfl))) (pda_cons (pd_var (i := 12) rfl (by first | exact Or.inl rfl | exact Or.inr (Or.inl rfl) | exact Or.inr (Or.inr rfl))) pda_nil))) (pd_tup (pda_cons pd_str pda_nil)) (by rfl)) (pds_one (pds_ret pd_bl)) pds_nil)))))
    (pds_one (pds_forL po rfl (pd_lst (pda_cons pd_non (pda_cons pd_int (pda_cons (pd_lst (pda_cons pd_str pda_nil)) (pda_cons (pd_tup (pda_cons pd_str pda_nil)) (pda_cons pd_dic0 (pda_cons (pd_frz (pd_makeM K_Bottle F_Bottle (ft.mono (by decide)).room ft.tk B_Bottle_2 (by rfl) Z.c_Bottle (pda_cons pd_str (pda_cons pd_int pda_nil)) pdk_nil)) (pda_cons (pd_var (i := 5) rfl (by first | exact Or.inl rfl | exact Or.inr (Or.inl rfl) | exact Or.inr (Or.inr rfl))) pda_nil)))))))) (pg_name (i := 13) sc_law.nd rfl (by first | exact Or.inl rfl | exact Or.inr rfl)) (tg_one 13)
    (pds_one (pds_if (pdt_cmp (cmp_ne ft.u) (pd_callA D__law_heard (ft.mono (by decide)) (by rfl) (pda_cons (pd_var (i := 13) rfl (by first | exact Or.inl rfl | exact Or.inr (Or.inl rfl) | exact Or.inr (Or.inr rfl))) (pda_cons (pd_ix (pd_lst (pda_cons pd_int (pda_cons pd_int (pda_cons pd_int pda_nil)))) (pd_callA D__law_take (ft.mono (by decide)) (by rfl) (pda_cons (pd_var (i := 2) rfl (by first | exact Or.inl rfl | exact Or.inr (Or.inl rfl) | exact Or.inr (Or.inr rfl))) (pda_cons pd_int pda_nil)))) pda_nil))) (pd_tup (pda_cons pd_str (pda_cons pd_int pda_nil))) (by rfl)) (pds_one (pds_ret pd_bl)) pds_nil)))))))))))))))
    (pds_one (pds_ret pd_bl)))
end K73

set_option maxRecDepth 100000
set_option maxHeartbeats 1000000
/-! Com: what all laws share: a cell of the script, its pot, a draw from it. -/
namespace Com
open PySem PySem.Spec PyProof.Rows L2 Den
def m__law_cell_at : DS :=
    (sSeq (sIf (asB (dOp2 fLt (dVar 1) (dCB (one gLen) (dCons (dVar 0) dNil)))) (sRet (dIx (dVar 0) (dVar 1))) sNext)
    (sRet (dC (.int 0))))
def f__law_cell_at : DF := body 2 2 m__law_cell_at
def m__law_pot : DS :=
    (sSeq (sIf (asB (dOp2 fGe (dVar 0) (dPow (dC (.int 10)) (dC (.int 18))))) (sRet (dNew (dCons (dSub (dVar 0) (dPow (dC (.int 10)) (dC (.int 18)))) dNil))) sNext)
    (sSeq (sSet 1 (dC (.int 0)))
    (sSeq (sForR1 (dCons (dC (.int 64)) dNil) (g1 2)
    (sSeq (sSet 3 (dMod (dMulA (dAdd (dAdd (dMod (dVar 0) (dC (.int 2147483629))) (dMulA (dC (.int 7919)) (dVar 2))) (dC (.int 1))) (dC (.int 48271))) (dC (.int 2147483647))))
    (sSeq (sSet 3 (dMod (dAdd (dAdd (dMulA (dVar 3) (dVar 3)) (dMulA (dC (.int 69621)) (dVar 2))) (dC (.int 7))) (dC (.int 2147483587))))
    (sSet 1 (dAdd (dMulA (dVar 1) (dC (.int 2147483587))) (dVar 3))))))
    (sRet (dNew (dCons (dVar 1) dNil))))))
def f__law_pot : DF := body 4 1 m__law_pot
def m__law_take : DS :=
    (sSeq (sSet 2 (dMod (dIx (dVar 0) (dC (.int 0))) (dVar 1)))
    (sSeq (sSetIx (dVar 0) (dC (.int 0)) (dDiv (dIx (dVar 0) (dC (.int 0))) (dVar 1)))
    (sRet (dVar 2))))
def f__law_take : DF := body 3 2 m__law_take
theorem take_eq {st : Store} {k : Nat} {p far : Int} (h : st[k]? = some (.lst [.int p])) (hf : 0 < far) (hl : far.natAbs.log2 < 9000) : f__law_take [.box k, .int far] st = .ok (.int (p % far)) (st.set k (.lst [.int (p / far)])) := by
  have i0 : ixN 1 0 = some 0 := rfl
  simp [f__law_take, body, m__law_take, sSeq, sSet, sRet, sSetIx, dMod, dDiv, dOp2, dIx, dVar, dC, ixD, itemsOf, h, atI, i0, fMod, fDiv, onI, hf, hl, Res.into, Res.bind, SRes.then]
theorem take_d {st : Store} {k : Nat} {far : Int} (h : Pot k st) (hf : 0 < far) (hl : far.natAbs.log2 < 9000 := by decide) : ∃ i st1, 0 ≤ i ∧ i < far ∧ f__law_take [.box k, .int far] st = .ok (.int i) st1 ∧ Chg k st st1 := by
  obtain ⟨p, e⟩ := h
  exact ⟨p % far, _, Int.emod_nonneg _ (by omega), Int.emod_lt_of_pos _ hf, take_eq e hf hl, ⟨(List.getElem?_eq_some_iff.mp e).1, _, rfl⟩⟩
theorem cell_d {ns : List Int} {k : Nat} {st : Store} : ∃ c, f__law_cell_at [.ro (ns.map D.int), .int k] st = .ok (.int c) st := by
  have t : asB (dOp2 fLt (dVar 1) (dCB (one gLen) (dCons (dVar 0) dNil))) [some (.ro (ns.map D.int)), some (.int k)] st = .ok (decide ((k : Int) < ns.length)) st := by
    refine ev_asB (ev_op (x := .int k) (y := .int ns.length) (s1 := st) rfl (ev_cb1 rfl ?_) rfl)
    unfold gLen itemsOf
    simp
  cases hb : decide ((k : Int) < ns.length) with
  | true =>
    rw [hb] at t
    have hk : k < ns.length := by have := of_decide_eq_true hb; omega
    obtain ⟨x, hx, e⟩ := atI_mem (xs := ns.map D.int) (i := k) (by omega) (by rw [List.length_map]; omega)
    obtain ⟨c, _, rfl⟩ := List.mem_map.mp hx
    exact ⟨c, run (N := 2) (n := 2) (m := m__law_cell_at) (r := .ret (.int c) st) rfl (ex_seqR ((ex_if t).trans (ex_ret (ev_ix (x := .ro (ns.map D.int)) (y := .int k) (s1 := st) rfl rfl e)))) rfl⟩
  | false =>
    rw [hb] at t
    exact ⟨0, run (N := 2) (n := 2) (m := m__law_cell_at) (r := .ret (.int 0) st) rfl (ex_seq (s1 := st) ((ex_if t).trans rfl) rfl) rfl⟩
theorem ten18 {ρ : Rho} {st : Store} : dPow (dC (.int 10)) (dC (.int 18)) ρ st = .ok (.int (10 ^ 18)) st := by
  refine ev_op (x := .int 10) (y := .int 18) (s1 := st) rfl rfl ?_
  unfold fPow onI
  dsimp only
  rw [if_pos (by decide)]
  rfl
theorem log2_lt {i : Int} {n : Nat} (h : i.natAbs < 2 ^ n) (hn : 0 < n) : i.natAbs.log2 < n := by
  by_cases h0 : i.natAbs = 0
  · rw [h0]; simpa using hn
  · exact (Nat.log2_lt h0).mpr h
theorem fMulA_int {i j : Int} (hi : i.natAbs < 2 ^ 400000) (hj : j.natAbs < 2 ^ 400000) : fMulA (.int i) (.int j) = some (.int (i * j)) := by
  have h1 := log2_lt hi (by decide)
  have h2 := log2_lt hj (by decide)
  unfold fMulA fMul onI
  dsimp only
  rw [if_pos (by rw [decide_eq_true_eq]; omega)]
  rfl
theorem fMod_int {i j : Int} (h : 0 < j) : fMod (.int i) (.int j) = some (.int (i % j)) := by
  unfold fMod onI
  dsimp only
  rw [if_pos (by rw [decide_eq_true_eq]; exact h)]
theorem fAdd_int {i j : Int} : fAdd (.int i) (.int j) = some (.int (i + j)) := rfl
open PySem PySem.Spec PyProof.Rows L2 Den
theorem fMulA_ints {i j : Int} {a b : Nat} (hi : i.natAbs < 2 ^ a) (hj : j.natAbs < 2 ^ b) (ha : 0 < a) (hb : 0 < b) (h : a + b ≤ 1000000) : fMulA (.int i) (.int j) = some (.int (i * j)) := by
  have h1 := log2_lt hi ha
  have h2 := log2_lt hj hb
  unfold fMulA fMul onI
  dsimp only
  rw [if_pos (by rw [decide_eq_true_eq]; omega)]
  rfl
theorem pow_small {n : Int} {j : Nat} (h0 : 0 ≤ n) (h : n < (2147483587 : Int) ^ j) (hj : j ≤ 64) : n.natAbs < 2 ^ 1984 := by
  have e : ((2147483587 ^ j : Nat) : Int) = (2147483587 : Int) ^ j := by simp
  have h1 : n.natAbs < 2147483587 ^ j := by omega
  refine Nat.lt_of_lt_of_le h1 ?_
  refine Nat.le_trans (Nat.pow_le_pow_left (show 2147483587 ≤ 2 ^ 31 by decide) j) ?_
  rw [← Nat.pow_mul]
  exact Nat.pow_le_pow_right (by decide) (by omega)
def potB : DS := sSeq (sSet 3 (dMod (dMulA (dAdd (dAdd (dMod (dVar 0) (dC (.int 2147483629))) (dMulA (dC (.int 7919)) (dVar 2))) (dC (.int 1))) (dC (.int 48271))) (dC (.int 2147483647))))
    (sSeq (sSet 3 (dMod (dAdd (dAdd (dMulA (dVar 3) (dVar 3)) (dMulA (dC (.int 69621)) (dVar 2))) (dC (.int 7))) (dC (.int 2147483587))))
    (sSet 1 (dAdd (dMulA (dVar 1) (dC (.int 2147483587))) (dVar 3))))
theorem potB_ok {c n : Int} {j k : Nat} {x : Option D} {st : Store} (hj : j < 64) (hk : k < 64) (h0 : 0 ≤ n) (h1 : n < (2147483587 : Int) ^ k) :
    ∃ n' x', potB [some (.int c), some (.int n), some (.int j), x] st = .nx [some (.int c), some (.int n'), some (.int j), x'] st ∧ 0 ≤ n' ∧ n' < (2147483587 : Int) ^ (k + 1) := by
  have a0 : 0 ≤ c % 2147483629 := Int.emod_nonneg _ (by decide)
  have a1 : c % 2147483629 < 2147483629 := Int.emod_lt_of_pos _ (by decide)
  generalize hp : c % 2147483629 = p at a0 a1
  generalize hq : (p + 7919 * (j : Int) + 1) * 48271 % 2147483647 = q
  have b0 : 0 ≤ q := by rw [← hq]; exact Int.emod_nonneg _ (by decide)
  have b1 : q < 2147483647 := by rw [← hq]; exact Int.emod_lt_of_pos _ (by decide)
  generalize hr : (q * q + 69621 * (j : Int) + 7) % 2147483587 = r
  have c0 : 0 ≤ r := by rw [← hr]; exact Int.emod_nonneg _ (by decide)
  have c1 : r < 2147483587 := by rw [← hr]; exact Int.emod_lt_of_pos _ (by decide)
  refine ⟨n * 2147483587 + r, some (.int r), ?_, by omega, ?_⟩
  · refine ex_seq (ρ1 := [some (.int c), some (.int n), some (.int j), some (.int q)]) (s1 := st) (ex_set (x := .int q) ?_) ?_
    · refine ev_op (x := .int ((p + 7919 * (j : Int) + 1) * 48271)) (y := .int 2147483647) (s1 := st) ?_ rfl (by rw [fMod_int (by decide), hq])
      refine ev_op (x := .int (p + 7919 * (j : Int) + 1)) (y := .int 48271) (s1 := st) ?_ rfl (fMulA_ints (a := 70) (b := 70) (by omega) (by decide) (by decide) (by decide) (by decide))
      refine ev_op (x := .int (p + 7919 * (j : Int))) (y := .int 1) (s1 := st) ?_ rfl rfl
      refine ev_op (x := .int p) (y := .int (7919 * (j : Int))) (s1 := st) (s2 := st) ?_ ?_ rfl
      · exact ev_op (x := .int c) (y := .int 2147483629) (s1 := st) rfl rfl (by rw [fMod_int (by decide), hp])
      · exact ev_op (x := .int 7919) (y := .int j) (s1 := st) rfl rfl (fMulA_ints (a := 70) (b := 70) (by decide) (by omega) (by decide) (by decide) (by decide))
    · refine ex_seq (ρ1 := [some (.int c), some (.int n), some (.int j), some (.int r)]) (s1 := st) (ex_set (x := .int r) ?_) (ex_set (x := .int (n * 2147483587 + r)) ?_)
      · refine ev_op (x := .int (q * q + 69621 * (j : Int) + 7)) (y := .int 2147483587) (s1 := st) ?_ rfl (by rw [fMod_int (by decide), hr])
        refine ev_op (x := .int (q * q + 69621 * (j : Int))) (y := .int 7) (s1 := st) ?_ rfl rfl
        refine ev_op (x := .int (q * q)) (y := .int (69621 * (j : Int))) (s1 := st) (s2 := st) ?_ ?_ rfl
        · exact ev_op (x := .int q) (y := .int q) (s1 := st) rfl rfl (fMulA_ints (a := 70) (b := 70) (by omega) (by omega) (by decide) (by decide) (by decide))
        · exact ev_op (x := .int 69621) (y := .int j) (s1 := st) rfl rfl (fMulA_ints (a := 70) (b := 70) (by decide) (by omega) (by decide) (by decide) (by decide))
      · refine ev_op (x := .int (n * 2147483587)) (y := .int r) (s1 := st) (s2 := st) ?_ rfl rfl
        exact ev_op (x := .int n) (y := .int 2147483587) (s1 := st) rfl rfl (fMulA_ints (a := 1984) (b := 70) (pow_small h0 h1 (by omega)) (by decide) (by decide) (by decide) (by decide))
  · rw [Int.pow_succ]
    generalize (2147483587 : Int) ^ k = w at h1
    omega
theorem pot_d {c : Int} {st : Store} : ∃ p, f__law_pot [.int c] st = .ok (.box st.length) (st ++ [.lst [.int p]]) := by
  have t : asB (dOp2 fGe (dVar 0) (dPow (dC (.int 10)) (dC (.int 18)))) [some (.int c), none, none, none] st = .ok (decide (10 ^ 18 ≤ c)) st := ev_asB (ev_op (x := .int c) (y := .int (10 ^ 18)) (s1 := st) rfl ten18 rfl)
  cases hb : decide ((10 : Int) ^ 18 ≤ c) with
  | true =>
    rw [hb] at t
    refine ⟨c - 10 ^ 18, run (N := 4) (n := 1) (m := m__law_pot) (r := .ret (.box st.length) (st ++ [.lst [.int (c - 10 ^ 18)]])) rfl ?_ rfl⟩
    exact ex_seqR ((ex_if t).trans (ex_ret (ev_new (s1 := st) (ev_cons (s1 := st) (ev_op (x := .int c) (y := .int (10 ^ 18)) (s1 := st) rfl ten18 rfl) rfl) (by simp))))
  | false =>
    rw [hb] at t
    obtain ⟨ρ', st', e, n, x2, x3, q1, q2⟩ : ∃ ρ' st', forL (g1 2) potB (rangeD 0 64) [some (.int c), some (.int 0), none, none] st = .nx ρ' st' ∧ ∃ n x2 x3, ρ' = [some (.int c), some (.int n), x2, x3] ∧ st' = st := by
      obtain ⟨ρ', st', e, n, x2, x3, h1, h2, _⟩ := forL_upto (g := g1 2) (b := potB) (pre := []) (ds := rangeD 0 64) (ρ := [some (.int c), some (.int 0), none, none]) (st := st)
        (I := fun pre r ρ s => ∃ n x2 x3, ρ = [some (.int c), some (.int n), x2, x3] ∧ s = st ∧ 0 ≤ n ∧ n < (2147483587 : Int) ^ pre.length ∧ pre.length + r.length = 64 ∧ ∀ d ∈ r, ∃ j : Nat, j < 64 ∧ d = .int j)
        (fun pre d r ρ s h => by
          obtain ⟨n, x2, x3, rfl, rfl, h0, h1, h2, h3⟩ := h
          obtain ⟨j, hj, rfl⟩ := h3 d List.mem_cons_self
          rw [List.length_cons] at h2
          obtain ⟨n', x', e, k0, k1⟩ := potB_ok (c := c) (x := x3) (st := s) hj (show pre.length < 64 by omega) h0 h1
          refine ⟨_, rfl, _, _, e, n', _, _, rfl, rfl, k0, ?_, ?_, fun d hd => h3 d (List.mem_cons_of_mem _ hd)⟩
          · rw [List.length_append, List.length_singleton]; exact k1
          · rw [List.length_append, List.length_singleton]; omega)
        ⟨0, none, none, rfl, rfl, by decide, by decide, by rw [range_len]; rfl, fun d hd => by
          obtain ⟨i, hi, rfl⟩ := mem_range hd
          exact ⟨i, hi, by rw [Int.zero_add]⟩⟩
      exact ⟨ρ', st', e, n, x2, x3, h1, h2⟩
    rw [q1, q2] at e
    refine ⟨n, Den.run (N := 4) (n := 1) (m := m__law_pot) (r := .ret (.box st.length) (st ++ [.lst [.int n]])) rfl ?_ rfl⟩
    refine ex_seq (s1 := st) ((ex_if t).trans rfl) (ex_seq (ρ1 := [some (.int c), some (.int 0), none, none]) (s1 := st) rfl (ex_seq (s1 := st) (ex_forR1 (j := 64) (s1 := st) rfl (by decide) e) ?_))
    exact ex_ret (ev_new (s1 := st) (ev_cons (s1 := st) rfl rfl) (by simp))
/-- range(max(1, min(len(script), m))) -/
def cellsE (m : Int) : DA := dCons (dCB (two fun i j => if j > i then j else i) (dCons (dC (.int 1)) (dCons (dCB (two fun i j => if j < i then j else i) (dCons (dCB (one gLen) (dCons (dVar 0) dNil)) (dCons (dC (.int m)) dNil))) dNil))) dNil
theorem cells_d {ns : List Int} {m : Int} {rest : Rho} {st : Store} (h0 : 0 ≤ m) (h1 : m ≤ 1000) : ∃ n : Int, cellsE m (some (.ro (ns.map D.int)) :: rest) st = .ok [.int n] st ∧ big62 n := by
  have el : dCB (one gLen) (dCons (dVar 0) dNil) (some (.ro (ns.map D.int)) :: rest) st = .ok (.int ns.length) st := by
    refine ev_cb1 (x := .ro (ns.map D.int)) (s1 := st) rfl ?_
    unfold gLen itemsOf
    simp
  refine ⟨_, ev_cons (s1 := st) (x := .int (if (if m < (ns.length : Int) then m else (ns.length : Int)) > 1 then (if m < (ns.length : Int) then m else (ns.length : Int)) else 1)) ?_ rfl, ?_⟩
  · unfold dCB
    rw [ev_cons (x := .int 1) (s1 := st) (xs := [.int (if m < (ns.length : Int) then m else (ns.length : Int))]) (s2 := st) rfl (ev_cons (s1 := st) ?_ rfl), bind_ok]
    · rfl
    · have e2 : (dCons (dCB (one gLen) (dCons (dVar 0) dNil)) (dCons (dC (.int m)) dNil) : DA) (some (.ro (ns.map D.int)) :: rest) st = .ok [.int ns.length, .int m] st := ev_cons (s1 := st) el rfl
      exact (congrArg (fun r : Res (List D) => r.bind fun ds s1 => ofO (two (fun i j => if j < i then j else i) ds s1)) e2).trans rfl
  · unfold big62
    split <;> split <;> omega
end Com

set_option maxRecDepth 100000
set_option maxHeartbeats 1000000
namespace K73
open PySem PySem.Spec PyProof.Rows L2 Den
theorem take_eq {st : Store} {k : Nat} {p far : Int} (h : st[k]? = some (.lst [.int p])) (hf : 0 < far) (hl : far.natAbs.log2 < 9000) : f__law_take [.box k, .int far] st = .ok (.int (p % far)) (st.set k (.lst [.int (p / far)])) := by
  have i0 : ixN 1 0 = some 0 := rfl
  simp [f__law_take, body, m__law_take, sSeq, sSet, sRet, sSetIx, dMod, dDiv, dOp2, dIx, dVar, dC, ixD, itemsOf, h, atI, i0, fMod, fDiv, onI, hf, hl, Res.into, Res.bind, SRes.then]
theorem take_d {st : Store} {k : Nat} {far : Int} (h : Pot k st) (hf : 0 < far) (hl : far.natAbs.log2 < 9000 := by decide) : ∃ i st1, 0 ≤ i ∧ i < far ∧ f__law_take [.box k, .int far] st = .ok (.int i) st1 ∧ Chg k st st1 := by
  obtain ⟨p, e⟩ := h
  exact ⟨p % far, _, Int.emod_nonneg _ (by omega), Int.emod_lt_of_pos _ hf, take_eq e hf hl, ⟨(List.getElem?_eq_some_iff.mp e).1, _, rfl⟩⟩
/-- a short text of usual signs -/
def smallS (n : Nat) (z : Str) : Bool := decide (z.length ≤ n) && z.cps.toList.all fun c => decide (c < 256)
def smallD (n : Nat) : D → Bool
  | .str z => smallS n z
  | _ => false
theorem smallD_str {n : Nat} {d : D} (h : smallD n d = true) : ∃ z, d = .str z ∧ smallS n z = true := by
  cases d <;> first | (cases h; done) | exact ⟨_, rfl, h⟩
theorem smallS_iff {n : Nat} {z : Str} : smallS n z = true ↔ z.length ≤ n ∧ ∀ c ∈ z.cps.toList, c < 256 := by
  unfold smallS
  rw [Bool.and_eq_true, decide_eq_true_eq, List.all_eq_true]
  simp only [decide_eq_true_eq]
theorem fEq_int (i j : Int) : fEq (.int i) (.int j) = some (.bl (i == j)) := rfl
def isInt : D → Bool
  | .int _ => true
  | _ => false
/-- plain data: seven kinds -/
def plain : D → Bool
  | .non | .bl _ | .int _ | .str _ | .lst _ | .tup _ | .dic _ _ => true
  | _ => false
theorem whole_eq {d : D} {st : Store} (h : plain d = true) : f_is_whole [d] st = .ok (.bl (isInt d)) st := by
  cases d <;> first | (cases h; done) | rfl
theorem signs_len (z : Str) : (signsD z).length = z.cps.size := by unfold signsD; simp
/-- a small letter -/
def letter (c : Nat) : Bool := decide (97 ≤ c) && decide (c ≤ 122)
def wordOk : D → Bool
  | .str z => decide (1 ≤ z.length) && (decide (z.length ≤ 8) && z.cps.toList.all letter)
  | _ => false
theorem one_lt (a b : Nat) : decide (([a] : List Nat) < [b]) = decide (a < b) := by
  simp [List.cons_lt_cons_iff]
theorem lt_le (a b : Nat) : (!decide (a < b)) = decide (b ≤ a) := by
  by_cases h : a < b
  · rw [decide_eq_true h, decide_eq_false (by omega)]; rfl
  · rw [decide_eq_false h, decide_eq_true (by omega)]; rfl
theorem chain_sign {ρ : Rho} {st : Store} {c : Nat} (h : ρ[3]? = some (some (.str ⟨#[c]⟩))) : dChain fLe fLe (dC (.str "a")) (dVar 3) (dC (.str "z")) ρ st = .ok (.bl (letter c)) st := by
  have ea : ("a" : Str).cps.toList = [97] := by decide +kernel
  have ez : ("z" : Str).cps.toList = [122] := by decide +kernel
  have e1 : fLe (.str "a") (.str ⟨#[c]⟩) = some (.bl (decide (97 ≤ c))) := by
    simp only [fLe, bI, bS, onI, onS, ea, one_lt, lt_le]
    rfl
  have e2 : fLe (.str ⟨#[c]⟩) (.str "z") = some (.bl (decide (c ≤ 122))) := by
    simp only [fLe, bI, bS, onI, onS, ez, one_lt, lt_le]
    rfl
  unfold dChain letter
  simp only [dC, dVar, h, bind_ok, e1, e2]
  by_cases h1 : 97 ≤ c <;> simp [h1, truth, e2]
/-- is the sign a letter -/
def sgn : D → D
  | .str y => .bl (letter (y.cps.getD 0 0))
  | _ => .non
theorem letters_eq {z : Str} {st : Store} (hz : z.cps.size ≤ 8) : dLcS (dVar 0) (g1 3) tYesD (dChain fLe fLe (dC (.str "a")) (dVar 3) (dC (.str "z"))) [3] [some (.str z), some (.int 1), some (.int 8), none] st = .ok (.lst (z.cps.toList.map fun c => .bl (letter c))) st := by
  have hm : lcL (g1 3) tYesD (dChain fLe fLe (dC (.str "a")) (dVar 3) (dC (.str "z"))) [some (.str z), some (.int 1), some (.int 8), none] (signsD z) st = .ok ((signsD z).map sgn) st := by
    refine lcL_map fun d hd => ?_
    unfold signsD at hd
    obtain ⟨c, _, rfl⟩ := List.mem_map.mp hd
    exact ⟨_, rfl, chain_sign rfl⟩
  unfold dLcS
  simp only [dVar, List.getElem?_cons_zero, bind_ok, if_pos (show z.cps.size ≤ 100000 by omega), wipeD, List.set]
  rw [hm]
  have em : (signsD z).map sgn = z.cps.toList.map fun c => .bl (letter c) := by
    unfold signsD
    rw [List.map_map]
    rfl
  rw [em]
  unfold lcEnd
  simp only [bind_ok, List.length_map, Array.length_toList]
  rw [if_pos (by omega)]
theorem len_eq {z : Str} {st : Store} (h : z.length ≤ 1000000) : gLen (.str z) st = some (.int z.length) := by
  unfold gLen
  dsimp only
  rw [if_pos h]
theorem le_ii (i j : Int) : fLe (.int i) (.int j) = some (.bl (decide (i ≤ j))) := rfl
theorem bools_map {α : Type} (p : α → Bool) : ∀ xs : List α, boolsOf (xs.map fun c => .bl (p c)) = some (xs.map p)
  | [] => rfl
  | x :: xs => by
    simp only [List.map_cons, boolsOf]
    rw [bools_map p xs]
    rfl
theorem word_eq {z : Str} {st : Store} (hb : z.length ≤ 1000000) : f_is_word [.str z, .int 1, .int 8] st = .ok (.bl (wordOk (.str z))) st := by
  have t1 : dTruth (dCB (bIsi [0] isT) (dCons (dVar 0) (dCons (dC (.ty "str")) dNil))) [some (.str z), some (.int 1), some (.int 8), none] st = .ok true st := rfl
  have l1 : dCB (one gLen) (dCons (dVar 0) dNil) [some (.str z), some (.int 1), some (.int 8), none] st = .ok (.int z.length) st := by
    simp [dCB, dCons, dNil, dVar, one, len_eq hb, ofO]
  have t2 : asB (dChain fLe fLe (dVar 1) (dCB (one gLen) (dCons (dVar 0) dNil)) (dVar 2)) [some (.str z), some (.int 1), some (.int 8), none] st = .ok (decide (1 ≤ z.length) && decide (z.length ≤ 8)) st := by
    unfold asB dChain
    rw [show dVar 1 [some (.str z), some (.int 1), some (.int 8), none] st = .ok (.int 1) st from rfl, bind_ok, l1]
    simp only [dVar, List.getElem?_cons_zero, List.getElem?_cons_succ, bind_ok, le_ii]
    by_cases h1 : 1 ≤ z.length
    · have : (1 : Int) ≤ (z.length : Int) := by omega
      by_cases h2 : z.length ≤ 8
      · have h2' : (z.length : Int) ≤ 8 := by omega
        simp [truth, this, h1, h2, h2']
      · have h2' : ¬ (z.length : Int) ≤ 8 := by omega
        simp [truth, this, h1, h2, h2']
    · have : ¬ (1 : Int) ≤ (z.length : Int) := by omega
      simp [truth, this, h1]
  have b : f_is_word [.str z, .int 1, .int 8] st = (match m_is_word [some (.str z), some (.int 1), some (.int 8), none] st with
    | .nx _ st' => .ok .non st'
    | .ret d st' => .ok d st'
    | .exc c xs _ st' => .exc c xs st'
    | _ => .bad) := rfl
  rw [b]
  unfold m_is_word sSeq sIf tOrD tNotD
  rw [t1, bind_ok, bind_ok]
  simp only [Bool.not_true, t2, bind_ok, into_ok]
  by_cases h1 : 1 ≤ z.length
  · by_cases h2 : z.length ≤ 8
    · have hz : z.cps.size ≤ 8 := h2
      have h3 : sRet (dCB (one gAll) (dCons (dLcS (dVar 0) (g1 3) tYesD (dChain fLe fLe (dC (.str "a")) (dVar 3) (dC (.str "z"))) [3]) dNil)) [some (.str z), some (.int 1), some (.int 8), none] st = .ret (.bl (z.cps.toList.all letter)) st := by
        unfold sRet dCB dCons
        rw [letters_eq hz]
        simp only [dNil, bind_ok, one, gAll, litemsOf, Option.bind_some, bools_map, Option.map_some, ofO, into_ok]
        rw [List.all_map]
        rfl
      simp only [h1, h2, decide_true, Bool.and_true, Bool.not_true]
      show (match (SRes.nx _ st).then _ with
        | SRes.nx ρ st' => Res.ok D.non st'
        | SRes.ret d st' => Res.ok d st'
        | SRes.exc c xs ρ st' => Res.exc c xs st'
        | x => Res.bad) = _
      rw [then_nx, h3]
      simp [wordOk, h1, h2]
    · simp [h1, h2, sRet, dC, wordOk]
  · simp [h1, sRet, dC, wordOk]
def fits : D → Bool
  | .str z => smallS 1000 z
  | _ => true
theorem word_any {d : D} {st : Store} (h : plain d = true) (hb : fits d = true) : f_is_word [d, .int 1, .int 8] st = .ok (.bl (wordOk d)) st := by
  cases d <;> first | (cases h; done) | rfl | (exact word_eq (Nat.le_trans (smallS_iff.mp hb).1 (by decide)))
def inRange (d : D) (lo hi : Int) : Bool := match d with
  | .int i => decide (lo ≤ i) && decide (i ≤ hi)
  | _ => false
theorem chain_ints {a b c : DE} {ρ : Rho} {st : Store} {i j k : Int} (ha : a ρ st = .ok (.int i) st) (hb : b ρ st = .ok (.int j) st) (hc : c ρ st = .ok (.int k) st) : dChain fLe fLe a b c ρ st = .ok (.bl (decide (i ≤ j) && decide (j ≤ k))) st := by
  unfold dChain
  rw [ha, bind_ok, hb, bind_ok, le_ii]
  by_cases h1 : i ≤ j
  · rw [decide_eq_true h1]
    dsimp only
    rw [hc, bind_ok, le_ii]
    simp
  · rw [decide_eq_false h1]
    simp
theorem within_any {d : D} {lo hi : Int} {st : Store} (h : plain d = true) : f_is_within [d, .int lo, .int hi] st = .ok (.bl (inRange d lo hi)) st := by
  have w := whole_eq (st := st) h
  have b : f_is_within [d, .int lo, .int hi] st = (match m_is_within [some d, some (.int lo), some (.int hi)] st with
    | .nx _ st' => .ok .non st'
    | .ret d st' => .ok d st'
    | .exc c xs _ st' => .exc c xs st'
    | _ => .bad) := rfl
  rw [b]
  unfold m_is_within sRet dAnd dCallA dCons dNil
  simp only [dVar, List.getElem?_cons_zero, List.getElem?_cons_succ, bind_ok, List.length_singleton, if_pos, w, truth]
  cases d <;> first | (cases h; done) | rfl | skip
  rename_i i
  simp only [isInt]
  rw [chain_ints (i := lo) (j := i) (k := hi) rfl rfl rfl]
  rfl
def sizeOk : D → Bool
  | .int i => decide (i = 37) || (decide (i = 75) || decide (i = 150))
  | _ => false
theorem into_then_raise {ρ : Rho} {st : Store} {c : Nat} {k : DS} (t : DT) (b : Bool) (h : t ρ st = .ok b st) : ((sIf t (sRaise c) sNext) ρ st).then k = if b = true then .exc c [] ρ st else k ρ st := by
  unfold sIf
  rw [h, into_ok]
  cases b <;> rfl
theorem not_call {n : Nat} {f : DF} {a : DA} {ρ : Rho} {st : Store} {ds : List D} {b : Bool} (ha : a ρ st = .ok ds st) (hl : ds.length = n) (hf : f ds st = .ok (.bl b) st) : tNotD (dTruth (dCallA n f a)) ρ st = .ok (!b) st := by
  unfold tNotD dTruth dCallA
  rw [ha, bind_ok, if_pos hl, hf]
  rfl
theorem in_sizes (i : Int) : fIn (.int i) (.tup [.int 37, .int 75, .int 150]) = some (.bl (sizeOk (.int i))) := by
  unfold fIn inD sizeOk
  simp [seqOf, flatD, flatV', inV, eqV]
  have e : ∀ k : Int, (k == i) = decide (i = k) := fun k => by
    by_cases h : i = k
    · subst h; simp
    · rw [decide_eq_false h]; exact beq_eq_false_iff_ne.mpr (Ne.symm h)
  simp only [e]
theorem size_any {d : D} {st : Store} (h : plain d = true) : f_is_size [d] st = .ok (.bl (sizeOk d)) st := by
  have w := whole_eq (st := st) h
  have b : f_is_size [d] st = (match m_is_size [some d] st with
    | .nx _ st' => .ok .non st'
    | .ret d st' => .ok d st'
    | .exc c xs _ st' => .exc c xs st'
    | _ => .bad) := rfl
  rw [b]
  unfold m_is_size sRet dAnd dCallA dCons dNil
  simp only [dVar, List.getElem?_cons_zero, bind_ok, List.length_singleton, if_pos, w, truth]
  cases d <;> first | (cases h; done) | rfl | skip
  rename_i i
  simp only [isInt]
  unfold dOp2 dC
  simp only [bind_ok, dVar, List.getElem?_cons_zero, in_sizes]
  rfl
theorem maker_any {d : D} {st : Store} (h : plain d = true) (hb : fits d = true) : f_is_maker [d] st = .ok (.bl (wordOk d)) st :=
  run (N := 1) (n := 1) (m := m_is_maker) (r := .ret (.bl (wordOk d)) st) rfl (ex_ret (ev_call (xs := [d, .int 1, .int 8]) (s1 := st) rfl rfl (word_any h hb))) rfl
theorem year_any {d : D} {st : Store} (h : plain d = true) : f_is_year [d] st = .ok (.bl (inRange d 1900 2100)) st :=
  run (N := 1) (n := 1) (m := m_is_year) (r := .ret (.bl (inRange d 1900 2100)) st) rfl (ex_ret (ev_call (xs := [d, .int 1900, .int 2100]) (s1 := st) rfl rfl (within_any h))) rfl
/-- what making a bottle comes to -/
def made (k : Nat) (o y s : D) (st : Store) : Res D :=
  if wordOk o = true then (if inRange y 1900 2100 = true then (if sizeOk s = true then .ok .non (((st.set k (.ins 0 [o])).set k (.ins 0 [o, y])).set k (.ins 0 [o, y, s])) else .exc 3 [] st) else .exc 2 [] st) else .exc 1 [] st
theorem bottle_eq {k : Nat} {o y s : D} {st : Store} (hk : st[k]? = some (.ins 0 [])) (ho : plain o = true) (fo : fits o = true) (hy : plain y = true) (hs : plain s = true) : f_Bottle [.box k, o, y, s] st = made k o y s st := by
  have b : f_Bottle [.box k, o, y, s] st = (match m_Bottle [some (.box k), some o, some y, some s] st with
    | .nx _ st' => .ok .non st'
    | .ret d st' => .ok d st'
    | .exc c xs _ st' => .exc c xs st'
    | _ => .bad) := rfl
  have t1 := not_call (n := 1) (f := f_is_maker) (a := dCons (dVar 1) dNil) (ρ := [some (.box k), some o, some y, some s]) (st := st) (ds := [o]) rfl rfl (maker_any ho fo)
  have t2 := not_call (n := 1) (f := f_is_year) (a := dCons (dVar 2) dNil) (ρ := [some (.box k), some o, some y, some s]) (st := st) (ds := [y]) rfl rfl (year_any hy)
  have t3 := not_call (n := 1) (f := f_is_size) (a := dCons (dVar 3) dNil) (ρ := [some (.box k), some o, some y, some s]) (st := st) (ds := [s]) rfl rfl (size_any hs)
  rw [b]
  unfold m_Bottle made
  unfold sSeq
  rw [into_then_raise _ _ t1]
  cases hw : wordOk o with
  | false => rfl
  | true =>
    simp only [Bool.not_true, Bool.false_eq_true, if_false, if_true]
    rw [into_then_raise _ _ t2]
    cases hr : inRange y 1900 2100 with
    | false => rfl
    | true =>
      simp only [Bool.not_true, Bool.false_eq_true, if_false, if_true]
      rw [into_then_raise _ _ t3]
      cases hz : sizeOk s with
      | false => rfl
      | true =>
        simp only [Bool.not_true, Bool.false_eq_true, if_false, if_true]
        obtain ⟨hlt, hv⟩ := List.getElem?_eq_some_iff.mp hk
        simp [sSetF, dVar, hv, hlt]
/-! ### a bottle made, told -/
def madeR (o y s : D) (st : Store) : Res D :=
  if wordOk o = true then (if inRange y 1900 2100 = true then (if sizeOk s = true then .ok (.ins 0 [o, y, s]) (st ++ [.dead]) else .exc 3 [] (st ++ [.ins 0 []])) else .exc 2 [] (st ++ [.ins 0 []])) else .exc 1 [] (st ++ [.ins 0 []])
theorem make_eq {n m : Nat} {gD : List D → List D → List D} {a k : DA} {ρ : Rho} {st : Store} {ds es : List D} {o y s : D} (ha : a ρ st = .ok ds st) (hk : k ρ st = .ok es st) (hn : ds.length = n ∧ es.length = m) (hg : gD (.box st.length :: ds) es = [.box st.length, o, y, s])
    (ho : plain o = true) (fo : fits o = true) (hy : plain y = true) (hs : plain s = true) : dMake 0 n m gD f_Bottle a k ρ st = madeR o y s st := by
  unfold dMake dFrz dMakeM
  have hx : (st ++ [Cell.ins 0 []])[st.length]? = some (.ins 0 []) := by simp
  rw [ha, bind_ok, hk, bind_ok, if_pos hn, hg, bottle_eq hx ho fo hy hs]
  unfold made madeR
  cases wordOk o with
  | false => rfl
  | true =>
    cases inRange y 1900 2100 with
    | false => rfl
    | true =>
      cases sizeOk s with
      | false => rfl
      | true =>
        simp [frzAt]
theorem toPyL_strs : ∀ {zs : List Str}, toPyL (zs.map D.str) = some (zs.map PyData.str)
  | [] => rfl
  | z :: zs => by
    simp only [List.map_cons, toPyL, toPy]
    rw [toPyL_strs]
theorem canLay_strs : ∀ {zs : List Str}, (∀ z ∈ zs, PyData.strOk z = true) → PyData.canLayAll0 (zs.map PyData.str) = true
  | [], _ => by simp [PyData.canLayAll0]
  | z :: zs, h => by
    simp only [List.map_cons, PyData.canLayAll0, PyData.canLay0, h z List.mem_cons_self, canLay_strs fun x hx => h x (List.mem_cons_of_mem _ hx), Bool.and_self]
theorem depth_strs : ∀ {zs : List Str}, PyData.depthAll (zs.map PyData.str) ≤ 1
  | [] => by simp [PyData.depthAll]
  | z :: zs => by
    have := depth_strs (zs := zs)
    simp only [List.map_cons, PyData.depthAll, PyData.depth]
    omega
theorem eq_nil_strs {zs : List Str} (h : ∀ z ∈ zs, PyData.strOk z = true) : fEq (.lst (zs.map D.str)) (.lst []) = some (.bl zs.isEmpty) := by
  unfold fEq eqD
  have e1 : toPy (.lst (zs.map D.str)) = some (.list (zs.map PyData.str)) := by simp only [toPy, toPyL_strs, Option.map_some]
  have e2 : toPy (.lst []) = some (.list []) := rfl
  have e3 : SeqAt.shaped (.list (zs.map PyData.str)) = true := by
    unfold SeqAt.shaped
    rw [Bool.and_eq_true, decide_eq_true_eq]
    refine ⟨by simp only [PyData.canLay0]; exact canLay_strs h, ?_⟩
    have := depth_strs (zs := zs)
    simp only [PyData.depth]
    omega
  rw [e1, e2]
  dsimp only
  rw [if_pos ⟨e3, rfl⟩]
  cases zs <;> rfl
end K73

set_option maxRecDepth 100000
set_option maxHeartbeats 1000000
namespace K73
open PySem PySem.Spec PyProof.Rows L2 Den
theorem str_is {z w : Str} : (z == w) = decide (z.cps.toList = w.cps.toList) := by
  by_cases h : z = w
  · subst h; simp
  · have h2 : z.cps.toList ≠ w.cps.toList := fun e => h (by
      obtain ⟨a⟩ := z
      obtain ⟨b⟩ := w
      congr 1
      exact Array.toList_inj.mp e)
    rw [decide_eq_false h2]
    exact beq_eq_false_iff_ne.mpr h
theorem fEq_str (z w : Str) : fEq (.str z) (.str w) = some (.bl (decide (z.cps.toList = w.cps.toList))) := by
  rw [← str_is]; rfl
theorem fNe_str (z w : Str) : fNe (.str z) (.str w) = some (.bl (!decide (z.cps.toList = w.cps.toList))) := by
  rw [← str_is]; rfl
theorem len_list (z : Str) : z.length = z.cps.toList.length := by simp [Str.length]
theorem app_cps (a b : Str) : (a ++ b).cps.toList = a.cps.toList ++ b.cps.toList := by
  have e : (a ++ b).cps = a.cps ++ b.cps := rfl
  rw [e, Array.toList_append]
theorem len_box {k : Nat} {st : Store} {xs : List D} (h : st[k]? = some (.lst xs)) : gLen (.box k) st = some (.int xs.length) := by
  unfold gLen itemsOf
  simp [h]
theorem ix_box {k : Nat} {st : Store} {xs : List D} {i : Nat} {x : D} (h : st[k]? = some (.lst xs)) (hx : xs[i]? = some x) : ixD (.box k) (.int i) st = some x := by
  have lt := (List.getElem?_eq_some_iff.mp hx).1
  unfold ixD itemsOf
  simp only [h, Option.bind_some]
  unfold atI ixN
  rw [if_pos (by omega), if_pos (by omega)]
  simpa using hx
def litres (s : Int) : Prop := s = 75 ∨ s = 37 ∨ s = 150
structure Gr (k : Nat) (a b : Store) : Prop where
  len : a.length ≤ b.length
  old : ∀ j, j ≠ k → j < a.length → b[j]? = a[j]?
  noE : noES b = true
theorem Gr.refl {k : Nat} {a : Store} (h : noES a = true) : Gr k a a := ⟨Nat.le_refl _, fun _ _ _ => rfl, h⟩
theorem Gr.trans {k : Nat} {a b c : Store} (h : Gr k a b) (g : Gr k b c) : Gr k a c := ⟨Nat.le_trans h.len g.len, fun j hj lt => (g.old j hj (Nat.lt_of_lt_of_le lt h.len)).trans (h.old j hj lt), g.noE⟩
theorem noES_append {a b : Store} (h : noES a = true) (g : noES b = true) : noES (a ++ b) = true := by
  unfold noES at h g ⊢
  rw [List.all_append, h, g]
  rfl
theorem Gr.app {k : Nat} {a ex : Store} (h : noES a = true) (g : noES ex = true) : Gr k a (a ++ ex) := ⟨by simp, fun j _ lt => List.getElem?_append_left lt, noES_append h g⟩
theorem Gr.set {k : Nat} {a : Store} {c : Cell} (h : noES a = true) (g : noEC c = true) : Gr k a (a.set k c) := ⟨by simp, fun j hj _ => List.getElem?_set_ne (Ne.symm hj), noES_set h g⟩
theorem noEL_app {a b : List D} (h : noEL a = true) (g : noEL b = true) : noEL (a ++ b) = true := by
  induction a with
  | nil => exact g
  | cons x r ih =>
    simp only [noEL, Bool.and_eq_true] at h
    simp only [List.cons_append, noEL, h.1, ih h.2, Bool.and_self]
structure Gw (a b : Store) : Prop where
  len : a.length ≤ b.length
  old : ∀ j, j < a.length → b[j]? = a[j]?
  noE : noES b = true
theorem Gr.gw {a b : Store} {c : Cell} (h : Gr a.length (a ++ [c]) b) : Gw a b := ⟨Nat.le_trans (by simp) h.len, fun j lt => (h.old j (by omega) (by rw [List.length_append]; omega)).trans (List.getElem?_append_left lt), h.noE⟩
theorem Gw.dead {a b : Store} {k : Nat} (h : Gw a b) (hk : a.length ≤ k) : Gw a (b.set k .dead) := ⟨by simpa using h.len, fun j lt => (List.getElem?_set_ne (by omega)).trans (h.old j lt), noES_set h.noE rfl⟩
theorem size_lit {s : Int} (h : litres s) : sizeOk (.int s) = true := by
  rcases h with rfl | rfl | rfl <;> rfl
theorem word_eq2 {m : Int} {st : Store} : f__law_word [.exc 17 [.int m]] st = .ok (.tup [.str "text", .int m]) st := by
  kernel_rfl
theorem ev_sl {a : DE} {l h : DO} {ρ : Rho} {st s1 s2 s3 : Store} {x z : D} {lo hi : Option Int} (ha : a ρ st = .ok x s1) (hl : l ρ s1 = .ok lo s2) (hh : h ρ s2 = .ok hi s3) (hz : slD x lo hi s3 = some z) : dSl a l h ρ st = .ok z s3 := by
  unfold dSl
  rw [ha, bind_ok, hl, bind_ok, hh, bind_ok, hz]
theorem sl_to {xs : List D} {i : Int} {st : Store} (h0 : 0 ≤ i) : slD (.lst xs) none (some i) st = some (.lst (xs.take i.toNat)) := by
  unfold slD litemsOf
  simp only [Option.map_some]
  congr 2
  unfold Den.cutD HT.sIx
  dsimp only
  rw [if_neg (by omega), List.drop_zero, Nat.sub_zero]
  rcases Nat.le_total i.toNat xs.length with h | h
  · rw [Nat.min_eq_left h]
  · rw [Nat.min_eq_right h, List.take_length, List.take_of_length_le h]
theorem sl_from {xs : List D} {i : Int} {st : Store} (h0 : 0 ≤ i) : slD (.lst xs) (some i) none st = some (.lst (xs.drop i.toNat)) := by
  unfold slD litemsOf
  simp only [Option.map_some]
  congr 2
  unfold Den.cutD HT.sIx
  dsimp only
  rw [if_neg (by omega)]
  rcases Nat.le_total i.toNat xs.length with h | h
  · rw [Nat.min_eq_left h]
    exact List.take_of_length_le (by rw [List.length_drop]; omega)
  · rw [Nat.min_eq_right h, List.drop_length, List.drop_eq_nil_of_le h, List.take_nil]
def asc (z : Str) : Prop := ∀ c ∈ z.cps.toList, c < 256
theorem smallS_of {n : Nat} {z : Str} (h : z.length ≤ n) (g : asc z) : smallS n z = true := smallS_iff.mpr ⟨h, g⟩
theorem app_len (a b : Str) : (a ++ b).length = a.length + b.length := by rw [len_list, app_cps, List.length_append, ← len_list, ← len_list]
structure Go (k : Nat) (a b : Store) : Prop where
  gr : Gr k a b
  pot : Pot k b
theorem Go.refl {k : Nat} {a : Store} (h : Pot k a) (n : noES a = true) : Go k a a := ⟨Gr.refl n, h⟩
theorem Go.trans {k : Nat} {a b c : Store} (h : Go k a b) (g : Go k b c) : Go k a c := ⟨h.gr.trans g.gr, g.pot⟩
theorem Go.chg {k : Nat} {a b : Store} (h : Chg k a b) (n : noES a = true) : Go k a b := ⟨⟨Nat.le_of_eq h.len.symm, fun j hj _ => h.other hj, h.noE n⟩, h.pot⟩
theorem Go.gw {k : Nat} {a b : Store} (h : Gw a b) (p : Pot k a) : Go k a b := by
  obtain ⟨x, e⟩ := p
  exact ⟨⟨h.len, fun j _ lt => h.old j lt, h.noE⟩, ⟨x, (h.old k (List.getElem?_eq_some_iff.mp e).1).trans e⟩⟩
theorem Go.app {k : Nat} {a : Store} {c : Cell} (p : Pot k a) (n : noES a = true) (hc : noEC c = true) : Go k a (a ++ [c]) := Go.gw ⟨by simp, fun j lt => List.getElem?_append_left lt, noES_app n hc⟩ p
theorem Go.noE {k : Nat} {a b : Store} (h : Go k a b) : noES b = true := h.gr.noE
theorem Go.keep {k j : Nat} {a b : Store} {c : Cell} (h : Go k a b) (hj : j ≠ k) (e : a[j]? = some c) : b[j]? = some c := (h.gr.old j hj (List.getElem?_eq_some_iff.mp e).1).trans e
end K73

set_option maxRecDepth 100000
set_option maxHeartbeats 1000000
namespace K73
open PySem PySem.Spec PyProof.Rows L2 Den
/-! ### what is drawn -/
theorem log_small {far : Int} (h0 : 0 < far) (h : far ≤ 100000) : far.natAbs.log2 < 9000 := Nat.lt_trans (Com.log2_lt (n := 20) (by omega) (by decide)) (by decide)
theorem draw {ρ : Rho} {st : Store} {K v : Nat} {far : Int} {e : DE} (hp : Pot K st) (hv : ρ[v]? = some (some (.box K))) (he : e ρ st = .ok (.int far) st) (hf : 0 < far) (hl : far ≤ 100000) : ∃ i s1, 0 ≤ i ∧ i < far ∧ dCallA 2 f__law_take (dCons (dVar v) (dCons e dNil)) ρ st = .ok (.int i) s1 ∧ Chg K st s1 := by
  obtain ⟨i, s1, i0, i1, e1, c1⟩ := take_d hp hf (log_small hf hl)
  have hv' : dVar v ρ st = .ok (.box K) st := by unfold dVar; rw [hv]
  exact ⟨i, s1, i0, i1, ev_call (xs := [.box K, .int far]) (s1 := st) (ev_cons hv' (ev_cons he rfl)) rfl e1, c1⟩
theorem Go.pg {K : Nat} {a b c : Store} (h : Go K a b) (g : Chg K b c) : Go K a c := h.trans (Go.chg g h.noE)
theorem Go.setNew {K L : Nat} {a b : Store} {c : Cell} (h : Go K a b) (hL : a.length ≤ L) (n : L ≠ K) (hc : noEC c = true) : Go K a (b.set L c) := by
  refine ⟨⟨by rw [List.length_set]; exact h.gr.len, fun j hj lt => ?_, noES_set h.noE hc⟩, ?_⟩
  · rw [List.getElem?_set_ne (by omega)]
    exact h.gr.old j hj lt
  · obtain ⟨p, e⟩ := h.pot
    exact ⟨p, by rw [List.getElem?_set_ne n]; exact e⟩
theorem Go.newCell {K : Nat} {a b : Store} {c : Cell} (h : Go K a b) (hc : noEC c = true) : Go K a (b ++ [c]) := h.trans (Go.app h.pot h.noE hc)
/-- a text of at most n signs, each of one byte -/
def isT8 (n : Nat) (d : D) : Prop := ∃ z, d = .str z ∧ smallS n z = true
theorem isT8.noE {n : Nat} {d : D} (h : isT8 n d) : noE d = true := by obtain ⟨z, rfl, _⟩ := h; rfl
theorem noEL_of {xs : List D} (h : ∀ d ∈ xs, noE d = true) : noEL xs = true := by
  induction xs with
  | nil => rfl
  | cons x r ih =>
    simp only [noEL, h x List.mem_cons_self, ih fun d hd => h d (List.mem_cons_of_mem _ hd), Bool.and_self]
def mixE : DE := dBm "list" mPopAt (dVar 2) (dCons (dCallA 2 f__law_take (dCons (dVar 0) (dCons (dCB (one gLen) (dCons (dVar 2) dNil)) dNil))) dNil)
theorem mix_go {K L : Nat} {st0 : Store} {xs : List D} {P : D → Prop} (hP : ∀ d, P d → noE d = true) (nLK : L ≠ K) (hL0 : st0.length ≤ L) : ∀ (ds left : List D) (st : Store), ds.length ≤ left.length → left.length ≤ 1000 → (∀ d ∈ left, P d) → st[L]? = some (.lst left) → Go K st0 st →
    ∃ ys st', lcL (g1 3) tYesD mixE [some (.box K), some (.lst xs), some (.box L), none] ds st = .ok ys st' ∧ ys.length = ds.length ∧ (∀ y ∈ ys, P y) ∧ Go K st0 st'
  | [], left, st, _, _, _, _, g => ⟨[], st, rfl, rfl, fun y h => (nomatch h), g⟩
  | d :: ds, left, st, hd, hl, hp, hs, g => by
    rw [List.length_cons] at hd
    have ln : dCB (one gLen) (dCons (dVar 2) dNil) [some (.box K), some (.lst xs), some (.box L), some d] st = .ok (.int left.length) st := ev_cb1 (x := .box L) (s1 := st) rfl (len_box hs)
    obtain ⟨i, s1, i0, i1, e1, c1⟩ := draw (v := 0) (ρ := [some (.box K), some (.lst xs), some (.box L), some d]) g.pot rfl ln (by omega) (by omega)
    have hs1 : s1[L]? = some (.lst left) := by rw [c1.other nLK]; exact hs
    have hi : i.toNat < left.length := by omega
    have pe : mPopAt (.box L) [.int i] s1 = some (left[i.toNat], s1.set L (.lst (left.eraseIdx i.toNat))) := by
      have sq : seqIndex? i left.length = some i.toNat := by
        unfold seqIndex?
        rw [if_neg (show ¬ i < 0 by omega)]
        simp [i0, i1]
      unfold mPopAt
      dsimp only
      rw [hs1]
      dsimp only
      rw [if_pos (by omega), sq]
      simp [List.getElem?_eq_getElem hi]
    have e2 : mixE [some (.box K), some (.lst xs), some (.box L), some d] st = .ok left[i.toNat] (s1.set L (.lst (left.eraseIdx i.toNat))) := by
      refine ev_bm (x := .box L) (s1 := st) (ds := [.int i]) (s2 := s1) rfl ?_ (ev_cons e1 rfl) pe
      unfold tyD litemsOf
      simp [hs]
    have pl : ∀ d ∈ left.eraseIdx i.toNat, P d := fun d h => hp d (List.mem_of_mem_eraseIdx h)
    obtain ⟨ys, st', e3, hy, py, g'⟩ := mix_go hP nLK hL0 ds (left.eraseIdx i.toNat) (s1.set L (.lst (left.eraseIdx i.toNat))) (by rw [List.length_eraseIdx_of_lt hi]; omega) (by rw [List.length_eraseIdx_of_lt hi]; omega) pl
      (by rw [List.getElem?_set_self (List.getElem?_eq_some_iff.mp hs1).1]) ((g.pg c1).setNew hL0 nLK (noEL_of fun d h => hP d (pl d h)))
    refine ⟨left[i.toNat] :: ys, st', ?_, by rw [List.length_cons, List.length_cons, hy], fun y h => ?_, g'⟩
    · have eg : g1 3 d [some (.box K), some (.lst xs), some (.box L), none] = some [some (.box K), some (.lst xs), some (.box L), some d] := rfl
      unfold lcL
      rw [eg]
      dsimp only [tYesD, noX, bind_ok]
      rw [e2]
      dsimp only [noX, bind_ok]
      rw [e3]
      rfl
    · rcases List.mem_cons.mp h with rfl | h
      · exact hp _ (List.getElem_mem _)
      · exact py y h
theorem mixed_d {K : Nat} {st : Store} {xs : List D} {P : D → Prop} (hP : ∀ d, P d → noE d = true) (hp : ∀ d ∈ xs, P d) (hl : xs.length ≤ 1000) (pt : Pot K st) (no : noES st = true) : ∃ ys st', f__law_mixed [.box K, .lst xs] st = .ok (.lst ys) st' ∧ ys.length = xs.length ∧ (∀ y ∈ ys, P y) ∧ Go K st st' := by
  have nLK : st.length ≠ K := by have := pt.lt; omega
  obtain ⟨ys, st', e, hy, py, g⟩ := mix_go (L := st.length) (xs := xs) hP nLK (Nat.le_refl _) xs xs (st ++ [Cell.lst xs]) (Nat.le_refl _) hl hp (by simp) (Go.app (c := .lst xs) pt no (noEL_of fun d h => hP d (hp d h)))
  have q1 : sSet 2 (dCB gListN (dCons (dVar 1) dNil)) [some (.box K), some (.lst xs), none, none] st = .nx [some (.box K), some (.lst xs), some (.box st.length), none] (st ++ [Cell.lst xs]) := rfl
  have q2 : dLcL (dVar 1) (g1 3) tYesD mixE [3] [some (.box K), some (.lst xs), some (.box st.length), none] (st ++ [Cell.lst xs]) = .ok (.lst ys) st' := ev_lcL (xs := xs) (s1 := st ++ [Cell.lst xs]) rfl (by omega) e (by omega)
  exact ⟨ys, st', Den.run (N := 4) (n := 2) (m := m__law_mixed) (r := .ret (.lst ys) st') rfl (ex_seq q1 (ex_ret q2)) rfl, hy, py, g⟩
theorem add_ints {a b : DE} {ρ : Rho} {st s1 s2 : Store} {i j : Int} (ha : a ρ st = .ok (.int i) s1) (hb : b ρ s1 = .ok (.int j) s2) : dAdd a b ρ st = .ok (.int (i + j)) s2 := ev_op ha hb rfl
def yearE : DE := (dIx (dLst (dCons (dC (.int 1900)) (dCons (dC (.int 2100)) (dCons (dAdd (dC (.int 1950)) (dCallA 2 f__law_take (dCons (dVar 0) (dCons (dC (.int 4)) dNil)))) (dCons (dAdd (dC (.int 1900)) (dCallA 2 f__law_take (dCons (dVar 0) (dCons (dC (.int 201)) dNil)))) dNil))))) (dCallA 2 f__law_take (dCons (dVar 0) (dCons (dC (.int 4)) dNil))))
def kindB : DS := (sSeq (sSet 4 yearE)
    (sDrop (dBm "list" mApp (dVar 2) (dCons (dTup (dCons (dIx (dVar 1) (dCallA 2 f__law_take (dCons (dVar 0) (dCons (dCB (one gLen) (dCons (dVar 1) dNil)) dNil)))) (dCons (dVar 4) (dCons (dIx (dLst (dCons (dC (.int 75)) (dCons (dC (.int 37)) (dCons (dC (.int 150)) (dCons (dC (.int 75)) dNil))))) (dCallA 2 f__law_take (dCons (dVar 0) (dCons (dC (.int 4)) dNil)))) dNil)))) dNil))))
/-- a kind: a maker's word, a year, a size -/
structure Kd where
  m : Str
  y : Int
  s : Int
  hm : wordOk (.str m) = true
  hy : 1900 ≤ y ∧ y ≤ 2100
  hs : s = 75 ∨ s = 37 ∨ s = 150
def Kd.t (q : Kd) : D := .tup [.str q.m, .int q.y, .int q.s]
def Kd.b (q : Kd) : D := .ins 0 [.str q.m, .int q.y, .int q.s]
def isK (d : D) : Prop := ∃ q : Kd, d = q.t
theorem isK.noE {d : D} (h : isK d) : noE d = true := by obtain ⟨q, rfl⟩ := h; rfl
def isW (d : D) : Prop := ∃ z, d = .str z ∧ wordOk (.str z) = true
theorem isW.noE {d : D} (h : isW d) : noE d = true := by obtain ⟨z, rfl, _⟩ := h; rfl
theorem kind_turn {K L : Nat} {st0 st : Store} {ys acc : List D} {x3 x4 : Option D} (hy : ∀ y ∈ ys, isW y) (h0 : 0 < ys.length) (h1 : ys.length ≤ 1000) (nLK : L ≠ K) (hL0 : st0.length ≤ L) (hs : st[L]? = some (.lst acc)) (ha : ∀ d ∈ acc, isK d) (hl : acc.length < 1000) (g : Go K st0 st) :
    ∃ d x4' st', kindB [some (.box K), some (.lst ys), some (.box L), x3, x4] st = .nx [some (.box K), some (.lst ys), some (.box L), x3, x4'] st' ∧ st'[L]? = some (.lst (acc ++ [d])) ∧ isK d ∧ Go K st0 st' := by
  obtain ⟨a, s1, a0, a1, e1, c1⟩ := draw (v := 0) (ρ := [some (.box K), some (.lst ys), some (.box L), x3, x4]) (e := dC (.int 4)) (far := 4) g.pot rfl rfl (by decide) (by decide)
  obtain ⟨b, s2, b0, b1, e2, c2⟩ := draw (v := 0) (ρ := [some (.box K), some (.lst ys), some (.box L), x3, x4]) (e := dC (.int 201)) (far := 201) c1.pot rfl rfl (by decide) (by decide)
  obtain ⟨c, s3, c0, c1', e3, c3⟩ := draw (v := 0) (ρ := [some (.box K), some (.lst ys), some (.box L), x3, x4]) (e := dC (.int 4)) (far := 4) c2.pot rfl rfl (by decide) (by decide)
  obtain ⟨x, hx, ex⟩ := ix_mem (xs := [.int 1900, .int 2100, .int (1950 + a), .int (1900 + b)]) (i := c) (st := s3) c0 (show c < (4 : Nat) from c1')
  have qy : ∃ y : Int, x = .int y ∧ 1900 ≤ y ∧ y ≤ 2100 := by
    simp only [List.mem_cons, List.not_mem_nil, or_false] at hx
    rcases hx with rfl | rfl | rfl | rfl
    · exact ⟨1900, rfl, by decide, by decide⟩
    · exact ⟨2100, rfl, by decide, by decide⟩
    · exact ⟨_, rfl, by omega, by omega⟩
    · exact ⟨_, rfl, by omega, by omega⟩
  obtain ⟨y, rfl, y0, y1⟩ := qy
  have q0 : yearE [some (.box K), some (.lst ys), some (.box L), x3, x4] st = .ok (.int y) s3 := (ev_ix (x := .lst [.int 1900, .int 2100, .int (1950 + a), .int (1900 + b)]) (y := .int c) (s1 := s2) (ev_lst (ev_cons (s1 := st) rfl (ev_cons (s1 := st) rfl (ev_cons (s1 := s1) (add_ints rfl e1) (ev_cons (s1 := s2) (add_ints rfl e2) rfl)))) (show 4 ≤ 100000 by decide)) e3 ex)
  have q1 := ex_set (i := 4) q0
  have cc := (c1.trans c2).trans c3
  have ln : dCB (one gLen) (dCons (dVar 1) dNil) [some (.box K), some (.lst ys), some (.box L), x3, some (.int y)] s3 = .ok (.int ys.length) s3 := ev_cb1 (x := .lst ys) (s1 := s3) rfl rfl
  obtain ⟨i, s4, i0, i1, e4, c4⟩ := draw (v := 0) (ρ := [some (.box K), some (.lst ys), some (.box L), x3, some (.int y)]) cc.pot rfl ln (by omega) (by omega)
  obtain ⟨m, hm, em⟩ := ix_mem (st := s4) i0 i1
  obtain ⟨z, rfl, hz⟩ := hy m hm
  obtain ⟨j, s5, j0, j1, e5, c5⟩ := draw (v := 0) (ρ := [some (.box K), some (.lst ys), some (.box L), x3, some (.int y)]) (e := dC (.int 4)) (far := 4) c4.pot rfl rfl (by decide) (by decide)
  obtain ⟨t, ht, et⟩ := ix_mem (xs := [.int 75, .int 37, .int 150, .int 75]) (i := j) (st := s5) j0 (show j < (4 : Nat) from j1)
  have qs : ∃ s : Int, t = .int s ∧ (s = 75 ∨ s = 37 ∨ s = 150) := by
    simp only [List.mem_cons, List.not_mem_nil, or_false] at ht
    rcases ht with rfl | rfl | rfl | rfl
    · exact ⟨_, rfl, .inl rfl⟩
    · exact ⟨_, rfl, .inr (.inl rfl)⟩
    · exact ⟨_, rfl, .inr (.inr rfl)⟩
    · exact ⟨_, rfl, .inl rfl⟩
  obtain ⟨s, rfl, us⟩ := qs
  have c35 := (cc.trans c4).trans c5
  have hs3 : s3[L]? = some (.lst acc) := by rw [cc.other nLK]; exact hs
  have hs5 : s5[L]? = some (.lst acc) := by rw [c35.other nLK]; exact hs
  have hK : isK (.tup [.str z, .int y, .int s]) := ⟨⟨z, y, s, hz, ⟨y0, y1⟩, us⟩, rfl⟩
  refine ⟨.tup [.str z, .int y, .int s], _, s5.set L (.lst (acc ++ [.tup [.str z, .int y, .int s]])), ex_seq q1 (ex_drop (x := .non) (ev_bm (x := .box L) (s1 := s3) (ds := [.tup [.str z, .int y, .int s]]) (s2 := s5) rfl ?_ (ev_cons (s1 := s5) (ev_tup (ev_cons (s1 := s4) (ev_ix (x := .lst ys) (y := .int i) (s1 := s3) rfl e4 em) (ev_cons (x := .int y) (s1 := s4) rfl (ev_cons (s1 := s5) (ev_ix (x := .lst [.int 75, .int 37, .int 150, .int 75]) (y := .int j) (s1 := s4) rfl e5 et) rfl))) (show 3 ≤ 100000 by decide)) rfl) ?_)), List.getElem?_set_self (List.getElem?_eq_some_iff.mp hs5).1, hK, (g.pg c35).setNew hL0 nLK (noEL_of fun d h => ?_)⟩
  · unfold tyD litemsOf
    simp [hs3]
  · unfold mApp
    dsimp only
    rw [hs5]
    dsimp only
    rw [if_pos (by omega)]
  · rcases List.mem_append.mp h with h | h
    · exact (ha d h).noE
    · rw [List.mem_singleton.mp h]; rfl
theorem five : ∀ d ∈ [D.str "a", .str "bo", .str "cy", .str "zzzzzzzz", .str "m"], isW d := by
  intro d hd
  simp only [List.mem_cons, List.not_mem_nil, or_false] at hd
  rcases hd with rfl | rfl | rfl | rfl | rfl <;> exact ⟨_, rfl, by decide +kernel⟩
theorem kinds_d {K : Nat} {st : Store} (pt : Pot K st) (no : noES st = true) : ∃ L ds st', f__law_kinds [.box K] st = .ok (.box L) st' ∧ L ≠ K ∧ st.length ≤ L ∧ st'[L]? = some (.lst ds) ∧ 0 < ds.length ∧ ds.length ≤ 1000 ∧ (∀ d ∈ ds, isK d) ∧ Go K st st' := by
  obtain ⟨ys, s1, e1, hy, py, g1'⟩ := mixed_d (fun d h => isW.noE h) five (by decide) pt no
  obtain ⟨i, s2, i0, i1, e2, c2⟩ := draw (v := 0) (ρ := [some (.box K), none, none, none, none]) (e := dC (.int 3)) (far := 3) g1'.pot rfl rfl (by decide) (by decide)
  have hy5 : ys.length = 5 := hy
  have l1 : (ys.take (1 + i).toNat).length = (1 + i).toNat := by rw [List.length_take]; omega
  have e3 : dSl (dCallA 2 f__law_mixed (dCons (dVar 0) (dCons (dLst (dCons (dC (.str "a")) (dCons (dC (.str "bo")) (dCons (dC (.str "cy")) (dCons (dC (.str "zzzzzzzz")) (dCons (dC (.str "m")) dNil)))))) dNil))) oNone (oSome (dAdd (dC (.int 1)) (dCallA 2 f__law_take (dCons (dVar 0) (dCons (dC (.int 3)) dNil))))) [some (.box K), none, none, none, none] st = .ok (.lst (ys.take (1 + i).toNat)) s2 := by
    refine ev_sl (x := .lst ys) (lo := none) (hi := some (1 + i)) (s1 := s1) (s2 := s1) ?_ rfl ?_ (sl_to (by omega))
    · exact ev_call (xs := [.box K, .lst [.str "a", .str "bo", .str "cy", .str "zzzzzzzz", .str "m"]]) (s1 := st) rfl rfl e1
    · unfold oSome
      rw [add_ints (i := 1) (j := i) (s1 := s1) rfl e2]
      rfl
  have q1 := ex_set (i := 1) e3
  have q2 : sSet 2 (dNew dNil) [some (.box K), some (.lst (ys.take (1 + i).toNat)), none, none, none] s2 = .nx [some (.box K), some (.lst (ys.take (1 + i).toNat)), some (.box s2.length), none, none] (s2 ++ [.lst []]) := rfl
  have g2 := g1'.pg c2
  have nLK : s2.length ≠ K := by have := g2.pot.lt; omega
  have hL0 : st.length ≤ s2.length := g2.gr.len
  have g3 := g2.newCell (c := .lst []) rfl
  obtain ⟨j, s3, j0, j1, e4, c4⟩ := draw (v := 0) (ρ := [some (.box K), some (.lst (ys.take (1 + i).toNat)), some (.box s2.length), none, none]) (e := dC (.int 6)) (far := 6) g3.pot rfl rfl (by decide) (by decide)
  have hs3 : s3[s2.length]? = some (.lst []) := by rw [c4.other nLK]; simp
  have py' : ∀ y ∈ ys.take (1 + i).toNat, isW y := fun y h => py y (List.mem_of_mem_take h)
  obtain ⟨ρ', s4, e5, ds, x3, x4, rfl, hds, hl, hk, g4⟩ := forL_upto (g := g1 3) (b := kindB) (pre := []) (ds := rangeD 0 (1 + j).toNat) (ρ := [some (.box K), some (.lst (ys.take (1 + i).toNat)), some (.box s2.length), none, none]) (st := s3)
    (I := fun pre r ρ s => ∃ ds x3 x4, ρ = [some (.box K), some (.lst (ys.take (1 + i).toNat)), some (.box s2.length), x3, x4] ∧ s[s2.length]? = some (.lst ds) ∧ ds.length = pre.length ∧ (∀ d ∈ ds, isK d) ∧ Go K st s ∧ pre.length + r.length ≤ 6)
    (fun pre d r ρ s h => by
      obtain ⟨ds, x3, x4, rfl, h1, h2, h3, h4, h5⟩ := h
      rw [List.length_cons] at h5
      obtain ⟨d', x4', s', e, h6, h7, h8⟩ := kind_turn (x3 := some d) (x4 := x4) py' (by omega) (by omega) nLK hL0 h1 h3 (by omega) h4
      refine ⟨_, rfl, _, _, e, ds ++ [d'], _, _, rfl, h6, by rw [List.length_append, List.length_append, h2]; rfl, fun q hq => ?_, h8, by rw [List.length_append, List.length_singleton]; omega⟩
      rcases List.mem_append.mp hq with hq | hq
      · exact h3 q hq
      · rw [List.mem_singleton.mp hq]; exact h7)
    ⟨[], none, none, rfl, hs3, rfl, fun d h => (nomatch h), g3.pg c4, by rw [range_len]; simp only [List.length_nil]; omega⟩
  rw [List.nil_append, range_len] at hl
  have a6 : dAdd (dC (.int 1)) (dCallA 2 f__law_take (dCons (dVar 0) (dCons (dC (.int 6)) dNil))) [some (.box K), some (.lst (ys.take (1 + i).toNat)), some (.box s2.length), none, none] (s2 ++ [.lst []]) = .ok (.int (1 + j)) s3 := add_ints rfl e4
  have q3 := ex_forR1 (r := dCons (dAdd (dC (.int 1)) (dCallA 2 f__law_take (dCons (dVar 0) (dCons (dC (.int 6)) dNil)))) dNil) (j := 1 + j) (ev_cons a6 rfl) ⟨by omega, by omega⟩ e5
  have q4 : sRet (dVar 2) [some (.box K), some (.lst (ys.take (1 + i).toNat)), some (.box s2.length), x3, x4] s4 = .ret (.box s2.length) s4 := rfl
  exact ⟨s2.length, ds, s4, Den.run (N := 5) (n := 1) (m := m__law_kinds) (r := .ret (.box s2.length) s4) rfl (ex_seq q1 (ex_seq q2 (ex_seq q3 q4))) rfl, nLK, hL0, hds, by omega, by omega, hk, g4.1⟩
end K73

set_option maxRecDepth 100000
set_option maxHeartbeats 1000000
namespace K73
open PySem PySem.Spec PyProof.Rows L2 Den
theorem app_assoc (a b c : Str) : (a ++ b) ++ c = a ++ (b ++ c) := by
  show (⟨(a.cps ++ b.cps) ++ c.cps⟩ : Str) = ⟨a.cps ++ (b.cps ++ c.cps)⟩
  rw [Array.append_assoc]
theorem app_nil (a : Str) : a ++ ("" : Str) = a := by
  show (⟨a.cps ++ #[]⟩ : Str) = a
  rw [Array.append_empty]
theorem nil_app (a : Str) : Str.empty ++ a = a := by
  show (⟨#[] ++ a.cps⟩ : Str) = a
  rw [Array.empty_append]
theorem len_app (a b : Str) : (a ++ b).length = a.length + b.length := by
  show (a.cps ++ b.cps).size = a.cps.size + b.cps.size
  exact Array.size_append
theorem len_int {i : Int} (h0 : -10000 ≤ i) (h1 : i ≤ 10000) : (Str.ofString (toString i)).length ≤ 13 ∧ i.natAbs.log2 < 1920 := by
  have a : i.natAbs < 10 ^ 12 := by
    have : i.natAbs ≤ 10000 := by omega
    exact Nat.lt_of_le_of_lt this (by decide)
  refine ⟨?_, ?_⟩
  · rw [PySem.ofString_length]
    exact int_text_length_le10 (by decide) a
  · have := Com.log2_lt (show i.natAbs < 2 ^ 64 from Nat.lt_trans a (by decide)) (by decide)
    omega
abbrev T (i : Int) : Str := Str.ofString (toString i)
section
variable {ρ : Rho} {st s1 : Store} {a : DE} {z acc : Str} {i : Int} {r : List DE} {w : Res D}
theorem ev_js (h : a ρ st = .ok (.str z) s1) (hl : (acc ++ z).length ≤ 1000000) (g : dJs r (acc ++ z) ρ s1 = w) : dJs (a :: r) acc ρ st = w := by
  show (a ρ st).bind _ = w
  rw [h, bind_ok]
  dsimp only
  rw [if_pos hl]
  exact g
theorem ev_fmtS (h : a ρ st = .ok (.str z) s1) (hl : z.length ≤ 1000000) : dFmt a ρ st = .ok (.str z) s1 := by
  unfold dFmt; rw [h, bind_ok]; dsimp only; rw [if_pos hl]
theorem ev_fmtI (h : a ρ st = .ok (.int i) s1) (hl : i.natAbs.log2 < 1920) : dFmt a ρ st = .ok (.str (T i)) s1 := by
  unfold dFmt; rw [h, bind_ok]; dsimp only; rw [if_pos hl]
theorem ev_fmtR (h : a ρ st = .ok (.str z) s1) (hl : (reprText z).length ≤ 1000000) : dFmtR a ρ st = .ok (.str (reprText z)) s1 := by
  unfold dFmtR; rw [h, bind_ok]; dsimp only; rw [if_pos hl]
theorem ev_catS {b : DE} {s2 : Store} {x y : Str} (h : a ρ st = .ok (.str x) s1) (g : b ρ s1 = .ok (.str y) s2) (hl : x.length + y.length ≤ 1000000) : dAdd a b ρ st = .ok (.str (x ++ y)) s2 := by
  refine ev_op h g ?_
  have : fCatS (.str x) (.str y) = some (.str (x ++ y)) := by
    unfold fCatS onS
    dsimp only
    rw [if_pos (decide_eq_true hl)]
  unfold fAdd
  have e0 : onI (fun _ _ => true) (fun i j => D.int (i + j)) (.str x) (.str y) = none := rfl
  rw [e0, this]
  rfl
theorem ev_strI {m : DA} (h : m ρ st = .ok [.int i] s1) (hl : i.natAbs.log2 < 1920) : dCB (one gStr) m ρ st = .ok (.str (T i)) s1 := by
  refine ev_cb1 h ?_
  unfold gStr
  dsimp only
  rw [if_pos hl]
end
theorem rc_letter : ∀ c, 97 ≤ c → c ≤ 122 → Builtin.Str.reprChar 39 c = [c] := by
  have : ∀ k, k < 26 → Builtin.Str.reprChar 39 (97 + k) = [97 + k] := by decide +kernel
  intro c h1 h2
  have e := this (c - 97) (by omega)
  rw [show 97 + (c - 97) = c by omega] at e
  exact e
theorem rep_letters {z : Str} (h : ∀ c ∈ z.cps.toList, 97 ≤ c ∧ c ≤ 122) : reprText z = ("'" ++ z) ++ "'" := by
  have q : reprQuote z = 39 := by
    unfold reprQuote
    have : z.cps.contains 39 = false := by
      rw [Bool.eq_false_iff]
      intro hc
      have hm : 39 ∈ z.cps := by simpa using hc
      have := h 39 (by simpa using hm)
      omega
    have n39 : ¬ (39 ∈ z.cps) := fun hm => by have := h 39 (by simpa using hm); omega
    simp [n39]
  have f : ∀ (l : List Nat) (acc : Array Nat), (∀ c ∈ l, 97 ≤ c ∧ c ≤ 122) → l.foldl (fun out c => out ++ (Builtin.Str.reprChar 39 c).toArray) acc = acc ++ l.toArray := by
    intro l
    induction l with
    | nil => intro acc _; simp
    | cons c r ih =>
      intro acc hl
      rw [List.foldl_cons, ih _ fun x hx => hl x (List.mem_cons_of_mem _ hx), rc_letter c (hl c List.mem_cons_self).1 (hl c List.mem_cons_self).2]
      simp
  unfold reprText
  rw [q, ← Array.foldl_toList, f _ _ h]
  show (⟨(#[39] ++ z.cps.toList.toArray).push 39⟩ : Str) = ⟨(#[39] ++ z.cps) ++ #[39]⟩
  simp
theorem small_app {n m : Nat} {a b : Str} (h : smallS n a = true) (g : smallS m b = true) : smallS (n + m) (a ++ b) = true := by
  rw [smallS_iff] at h g ⊢
  refine ⟨by rw [app_len]; omega, fun c hc => ?_⟩
  rw [app_cps] at hc
  rcases List.mem_append.mp hc with hc | hc
  · exact h.2 c hc
  · exact g.2 c hc
theorem small_le {n m : Nat} {a : Str} (h : smallS n a = true) (g : n ≤ m) : smallS m a = true := by
  rw [smallS_iff] at h ⊢
  exact ⟨Nat.le_trans h.1 g, h.2⟩
theorem add_strs {a b : DE} {ρ : Rho} {st s1 s2 : Store} {x y : Str} (ha : a ρ st = .ok (.str x) s1) (hb : b ρ s1 = .ok (.str y) s2) (h : x.length + y.length ≤ 1000000) : dAdd a b ρ st = .ok (.str (x ++ y)) s2 := by
  refine ev_op ha hb ?_
  have : fCatS (.str x) (.str y) = some (.str (x ++ y)) := by
    unfold fCatS onS
    dsimp only
    rw [if_pos (by rw [decide_eq_true_eq]; exact h)]
  unfold fAdd
  rw [this]
  rfl
theorem okM_iff {z : Str} : wordOk (.str z) = true ↔ (1 ≤ z.length ∧ z.length ≤ 8) ∧ ∀ c ∈ z.cps.toList, 97 ≤ c ∧ c ≤ 122 := by
  unfold wordOk
  rw [Bool.and_eq_true, Bool.and_eq_true, decide_eq_true_eq, decide_eq_true_eq, List.all_eq_true]
  unfold letter
  simp only [Bool.and_eq_true, decide_eq_true_eq]
  exact ⟨fun h => ⟨⟨h.1, h.2.1⟩, h.2.2⟩, fun h => ⟨h.1.1, h.1.2, h.2⟩⟩
def shown (q : Kd) : Str := ((((("Bottle('" ++ q.m) ++ "', ") ++ T q.y) ++ ", ") ++ T q.s) ++ ")"
theorem T_asc (i : Int) : asc (T i) := fun c hc => by
  by_cases hb : c < 256
  · exact hb
  · exact absurd hc (int_text_free' c ⟨by omega, by omega⟩ i)
section
variable {q : Kd} {st : Store}
theorem bnds (q : Kd) : q.m.length ≤ 8 ∧ (T q.y).length ≤ 13 ∧ q.y.natAbs.log2 < 1920 ∧ (T q.s).length ≤ 13 ∧ q.s.natAbs.log2 < 1920 := by
  have a := (okM_iff.mp q.hm).1
  have b := len_int (i := q.y) (by have := q.hy; omega) (by have := q.hy; omega)
  have c := len_int (i := q.s) (by have := q.hs; omega) (by have := q.hs; omega)
  exact ⟨a.2, b.1, b.2, c.1, c.2⟩
theorem shown_eq (q : Kd) : (((((("Bottle(" ++ reprText q.m) ++ ", ") ++ T q.y) ++ ", ") ++ T q.s) ++ ")") = shown q := by
  rw [rep_letters (okM_iff.mp q.hm).2]
  unfold shown
  have e1 : ("Bottle('" : Str) = "Bottle(" ++ "'" := by decide +kernel
  have e2 : ("', " : Str) = "'" ++ ", " := by decide +kernel
  rw [e1, e2]
  simp only [app_assoc]
end
end K73

set_option maxRecDepth 100000
set_option maxHeartbeats 1000000
namespace K73
open PySem PySem.Spec PyProof.Rows L2 Den
theorem sizeOk_lit {s : Int} (h : s = 75 ∨ s = 37 ∨ s = 150) : sizeOk (.int s) = true := by
  rcases h with rfl | rfl | rfl <;> rfl
structure Jt (K L : Nat) (ds : List D) (st : Store) : Prop where
  pot : Pot K st
  no : noES st = true
  kinds : st[L]? = some (.lst ds)
theorem Jt.go {K L : Nat} {ds : List D} {a b : Store} (n : L ≠ K) (h : Jt K L ds a) (g : Go K a b) : Jt K L ds b := ⟨g.pot, g.noE, g.keep n h.kinds⟩
theorem Jt.chg {K L : Nat} {ds : List D} {a b : Store} (n : L ≠ K) (h : Jt K L ds a) (g : Chg K a b) : Jt K L ds b := h.go n (Go.chg g h.no)
theorem Jt.gw {K L : Nat} {ds : List D} {a b : Store} (n : L ≠ K) (h : Jt K L ds a) (g : Gw a b) : Jt K L ds b := h.go n (Go.gw g h.pot)
theorem inR {y : Int} (h : 1900 ≤ y ∧ y ≤ 2100) : inRange (.int y) 1900 2100 = true := by
  unfold inRange
  rw [Bool.and_eq_true, decide_eq_true_eq, decide_eq_true_eq]
  exact h
theorem m_small (q : Kd) : smallS 8 q.m = true := by
  have o := okM_iff.mp q.hm
  exact smallS_iff.mpr ⟨o.1.2, fun c hc => Nat.lt_of_le_of_lt (o.2 c hc).2 (by decide)⟩
theorem made_ok (q : Kd) (st : Store) : madeR (.str q.m) (.int q.y) (.int q.s) st = .ok q.b (st ++ [.dead]) := by
  unfold madeR
  rw [if_pos q.hm, if_pos (inR q.hy), if_pos (sizeOk_lit q.hs)]
  rfl
theorem kinds_of : ∀ {ys : List D}, (∀ y ∈ ys, isK y) → ∃ qs : List Kd, ys = qs.map Kd.t
  | [], _ => ⟨[], rfl⟩
  | y :: ys, h => by
    obtain ⟨q, rfl⟩ := h y List.mem_cons_self
    obtain ⟨qs, rfl⟩ := kinds_of fun z hz => h z (List.mem_cons_of_mem _ hz)
    exact ⟨q :: qs, rfl⟩
def makeE : DE := dMake 0 3 0 gd_Bottle_3 f_Bottle (dCons (dIx (dVar 3) (dC (.int 0))) (dCons (dIx (dVar 3) (dC (.int 1))) (dCons (dIx (dVar 3) (dC (.int 2))) dNil))) dNil
theorem make_d {q : Kd} {ρ : Rho} {st : Store} (h : ρ[3]? = some (some q.t)) (hf : fits (.str q.m) = true) : makeE ρ st = .ok q.b (st ++ [.dead]) := by
  have v : dVar 3 ρ st = .ok q.t st := by unfold dVar; rw [h]
  have a : (dCons (dIx (dVar 3) (dC (.int 0))) (dCons (dIx (dVar 3) (dC (.int 1))) (dCons (dIx (dVar 3) (dC (.int 2))) dNil))) ρ st = .ok [.str q.m, .int q.y, .int q.s] st := ev_cons (ev_ix (x := q.t) (y := .int 0) v rfl rfl) (ev_cons (ev_ix (x := q.t) (y := .int 1) v rfl rfl) (ev_cons (ev_ix (x := q.t) (y := .int 2) v rfl rfl) rfl))
  unfold makeE
  exact (make_eq (n := 3) (m := 0) (gD := gd_Bottle_3) (o := .str q.m) (y := .int q.y) (s := .int q.s) a (rfl : dNil ρ st = .ok [] st) ⟨rfl, rfl⟩ rfl rfl hf rfl rfl).trans (made_ok q st)
theorem fits_m (q : Kd) : fits (.str q.m) = true := by
  have h := m_small q
  exact small_le h (by decide)
theorem rows_make {K : Nat} {st0 : Store} {ρ : Rho} (hr : ρ.length = 5) : ∀ (qs : List Kd) (st : Store), Go K st0 st → ∃ st', lcL (g1 3) tYesD makeE ρ (qs.map Kd.t) st = .ok (qs.map Kd.b) st' ∧ Go K st0 st'
  | [], st, g => ⟨st, rfl, g⟩
  | q :: qs, st, g => by
    obtain ⟨st', e, g'⟩ := rows_make hr qs (st ++ [.dead]) (g.newCell (c := .dead) rfl)
    refine ⟨st', ?_, g'⟩
    have eg : g1 3 q.t ρ = some (ρ.set 3 (some q.t)) := by
      unfold g1
      first | rfl | simp [hr]
    have e0 : makeE (ρ.set 3 (some q.t)) st = .ok q.b (st ++ [.dead]) := make_d (by rw [List.getElem?_set_self (by omega)]) (fits_m q)
    rw [List.map_cons, List.map_cons]
    unfold lcL
    rw [eg]
    dsimp only [tYesD, noX, bind_ok]
    rw [e0]
    dsimp only [noX, bind_ok]
    rw [e]
    rfl
theorem bottles_d {K L : Nat} {ks : List D} {st : Store} {n : Int} (nLK : L ≠ K) (j : Jt K L ks st) (h0 : 0 < ks.length) (h1 : ks.length ≤ 1000) (hk : ∀ d ∈ ks, isK d) (n0 : 0 ≤ n) (n1 : n ≤ 1000) : ∃ (qs : List Kd) (st' : Store), f__law_bottles [.box K, .box L, .int n] st = .ok (.lst (qs.map Kd.b)) st' ∧ qs.length = n.toNat ∧ Jt K L ks st' := by
  obtain ⟨ys, s1, e1, l1, k1, j1⟩ := lcL_all (g := g1 4) (e := dIx (dVar 1) (dCallA 2 f__law_take (dCons (dVar 0) (dCons (dCB (one gLen) (dCons (dVar 1) dNil)) dNil)))) (ρ := [some (.box K), some (.box L), some (.int n), none, none]) (I := Jt K L ks) (K := isK) (ds := rangeD 0 n.toNat) (st := st)
    (fun d hd => ⟨[some (.box K), some (.box L), some (.int n), none, some d], rfl, fun s jj => by
      have ln : dCB (one gLen) (dCons (dVar 1) dNil) [some (.box K), some (.box L), some (.int n), none, some d] s = .ok (.int ks.length) s := ev_cb1 (x := .box L) (s1 := s) rfl (len_box jj.kinds)
      obtain ⟨m, s3, m0, m1, e3, c3⟩ := draw (v := 0) (ρ := [some (.box K), some (.box L), some (.int n), none, some d]) jj.pot rfl ln (by omega) (by omega)
      have j3 := jj.chg nLK c3
      obtain ⟨q, hq, eq⟩ := ix_memB j3.kinds m0 m1
      exact ⟨q, s3, ev_ix (x := .box L) (y := .int m) (s1 := s) rfl e3 eq, hk q hq, j3⟩⟩)
    j
  obtain ⟨qs, rfl⟩ := kinds_of k1
  have lq : qs.length = n.toNat := by rw [List.length_map] at l1; rw [l1, range_len]
  obtain ⟨s2, e2, g2⟩ := rows_make (K := K) (st0 := s1) (ρ := [some (.box K), some (.box L), some (.int n), none, none]) rfl qs s1 (Go.refl j1.pot j1.no)
  have i1 : dLcR1 (dCons (dVar 2) dNil) (g1 4) tYesD (dIx (dVar 1) (dCallA 2 f__law_take (dCons (dVar 0) (dCons (dCB (one gLen) (dCons (dVar 1) dNil)) dNil)))) [4] [some (.box K), some (.box L), some (.int n), none, none] st = .ok (.lst (qs.map Kd.t)) s1 := ev_lcR1 (j := n) (s1 := st) rfl ⟨⟨by omega, by omega⟩, by omega⟩ e1 (by rw [List.length_map]; omega)
  have i2 : dLcL (dLcR1 (dCons (dVar 2) dNil) (g1 4) tYesD (dIx (dVar 1) (dCallA 2 f__law_take (dCons (dVar 0) (dCons (dCB (one gLen) (dCons (dVar 1) dNil)) dNil)))) [4]) (g1 3) tYesD makeE [3] [some (.box K), some (.box L), some (.int n), none, none] st = .ok (.lst (qs.map Kd.b)) s2 := ev_lcL (xs := qs.map Kd.t) (s1 := s1) i1 (by rw [List.length_map]; omega) e2 (by rw [List.length_map]; omega)
  exact ⟨qs, s2, Den.run (N := 5) (n := 3) (m := m__law_bottles) (r := .ret (.lst (qs.map Kd.b)) s2) rfl (ex_ret i2) rfl, lq, j1.go nLK g2⟩
/-! ### blank lines set in -/

end K73

set_option maxRecDepth 100000
set_option maxHeartbeats 1000000
namespace K73
open PySem PySem.Spec PyProof.Rows L2 Den
/-- plain data, or a bottle -/
def known : D → Bool
  | .ins c _ => c == 0
  | d => plain d
def isBot : D → Bool
  | .ins _ _ => true
  | _ => false
def isLst : D → Bool
  | .lst _ => true
  | _ => false
/-- no list of bottles alone -/
def okP : D → Bool
  | .lst xs => xs.all known && ((xs.isEmpty || !xs.all isBot) && decide (xs.length ≤ 1000))
  | _ => true
/-- a thing that is no size, no bottle, and plain data -/
structure Od (d : D) : Prop where
  pl : plain d = true
  ns : sizeOk d = false
  ne : noE d = true
  rp : ∃ z, (∀ st, orB (one gRepr) (one gReprK) [d] st = some (.str z, st)) ∧ decide (z.cps.toList = ("75" : Str).cps.toList) = false
  lf : ∃ t, leafT 0 rB d = some t ∧ t.length ≤ 100
  r1 : ∃ z, ∀ st, orB (one gRepr) (one gReprK) [.lst [d]] st = some (.str z, st)
  pp : okP d = true
def odd17 : List D := [.non, .bl true, .bl false, .int (-1), .int (10 ^ 30), .str "", .str "a", .str "1", .tup [], .lst [], .dic [] [], .lst [.tup []], .tup [.tup []], .tup [.int 0], .lst [.int 0], .dic [.inl 0] [.int 1], .tup [.bl true, .bl true]]
theorem odd17_ok : ∀ d ∈ odd17, Od d := by
  intro d hd
  unfold odd17 at hd
  rcases List.mem_cons.mp hd with rfl | hd
  · exact ⟨rfl, by decide +kernel, rfl, ⟨"None", fun _ => by kernel_rfl, by decide +kernel⟩, ⟨"None", by kernel_rfl, by decide +kernel⟩, ⟨"[None]", fun _ => by kernel_rfl⟩, by decide +kernel⟩
  rcases List.mem_cons.mp hd with rfl | hd
  · exact ⟨rfl, by decide +kernel, rfl, ⟨"True", fun _ => by kernel_rfl, by decide +kernel⟩, ⟨"True", by kernel_rfl, by decide +kernel⟩, ⟨"[True]", fun _ => by kernel_rfl⟩, by decide +kernel⟩
  rcases List.mem_cons.mp hd with rfl | hd
  · exact ⟨rfl, by decide +kernel, rfl, ⟨"False", fun _ => by kernel_rfl, by decide +kernel⟩, ⟨"False", by kernel_rfl, by decide +kernel⟩, ⟨"[False]", fun _ => by kernel_rfl⟩, by decide +kernel⟩
  rcases List.mem_cons.mp hd with rfl | hd
  · exact ⟨rfl, by decide +kernel, rfl, ⟨"-1", fun _ => by kernel_rfl, by decide +kernel⟩, ⟨"-1", by kernel_rfl, by decide +kernel⟩, ⟨"[-1]", fun _ => by kernel_rfl⟩, by decide +kernel⟩
  rcases List.mem_cons.mp hd with rfl | hd
  · exact ⟨rfl, by decide +kernel, rfl, ⟨"1000000000000000000000000000000", fun _ => by kernel_rfl, by decide +kernel⟩, ⟨"1000000000000000000000000000000", by kernel_rfl, by decide +kernel⟩, ⟨"[1000000000000000000000000000000]", fun _ => by kernel_rfl⟩, by decide +kernel⟩
  rcases List.mem_cons.mp hd with rfl | hd
  · exact ⟨rfl, by decide +kernel, rfl, ⟨"''", fun _ => by kernel_rfl, by decide +kernel⟩, ⟨"''", by kernel_rfl, by decide +kernel⟩, ⟨"['']", fun _ => by kernel_rfl⟩, by decide +kernel⟩
  rcases List.mem_cons.mp hd with rfl | hd
  · exact ⟨rfl, by decide +kernel, rfl, ⟨"'a'", fun _ => by kernel_rfl, by decide +kernel⟩, ⟨"'a'", by kernel_rfl, by decide +kernel⟩, ⟨"['a']", fun _ => by kernel_rfl⟩, by decide +kernel⟩
  rcases List.mem_cons.mp hd with rfl | hd
  · exact ⟨rfl, by decide +kernel, rfl, ⟨"'1'", fun _ => by kernel_rfl, by decide +kernel⟩, ⟨"'1'", by kernel_rfl, by decide +kernel⟩, ⟨"['1']", fun _ => by kernel_rfl⟩, by decide +kernel⟩
  rcases List.mem_cons.mp hd with rfl | hd
  · exact ⟨rfl, by decide +kernel, rfl, ⟨"()", fun _ => by kernel_rfl, by decide +kernel⟩, ⟨"()", by kernel_rfl, by decide +kernel⟩, ⟨"[()]", fun _ => by kernel_rfl⟩, by decide +kernel⟩
  rcases List.mem_cons.mp hd with rfl | hd
  · exact ⟨rfl, by decide +kernel, rfl, ⟨"[]", fun _ => by kernel_rfl, by decide +kernel⟩, ⟨"[]", by kernel_rfl, by decide +kernel⟩, ⟨"[[]]", fun _ => by kernel_rfl⟩, by decide +kernel⟩
  rcases List.mem_cons.mp hd with rfl | hd
  · exact ⟨rfl, by decide +kernel, rfl, ⟨"{}", fun _ => by kernel_rfl, by decide +kernel⟩, ⟨"{}", by kernel_rfl, by decide +kernel⟩, ⟨"[{}]", fun _ => by kernel_rfl⟩, by decide +kernel⟩
  rcases List.mem_cons.mp hd with rfl | hd
  · exact ⟨rfl, by decide +kernel, rfl, ⟨"[()]", fun _ => by kernel_rfl, by decide +kernel⟩, ⟨"[()]", by kernel_rfl, by decide +kernel⟩, ⟨"[[()]]", fun _ => by kernel_rfl⟩, by decide +kernel⟩
  rcases List.mem_cons.mp hd with rfl | hd
  · exact ⟨rfl, by decide +kernel, rfl, ⟨"((),)", fun _ => by kernel_rfl, by decide +kernel⟩, ⟨"((),)", by kernel_rfl, by decide +kernel⟩, ⟨"[((),)]", fun _ => by kernel_rfl⟩, by decide +kernel⟩
  rcases List.mem_cons.mp hd with rfl | hd
  · exact ⟨rfl, by decide +kernel, rfl, ⟨"(0,)", fun _ => by kernel_rfl, by decide +kernel⟩, ⟨"(0,)", by kernel_rfl, by decide +kernel⟩, ⟨"[(0,)]", fun _ => by kernel_rfl⟩, by decide +kernel⟩
  rcases List.mem_cons.mp hd with rfl | hd
  · exact ⟨rfl, by decide +kernel, rfl, ⟨"[0]", fun _ => by kernel_rfl, by decide +kernel⟩, ⟨"[0]", by kernel_rfl, by decide +kernel⟩, ⟨"[[0]]", fun _ => by kernel_rfl⟩, by decide +kernel⟩
  rcases List.mem_cons.mp hd with rfl | hd
  · exact ⟨rfl, by decide +kernel, rfl, ⟨"{0: 1}", fun _ => by kernel_rfl, by decide +kernel⟩, ⟨"{0: 1}", by kernel_rfl, by decide +kernel⟩, ⟨"[{0: 1}]", fun _ => by kernel_rfl⟩, by decide +kernel⟩
  rcases List.mem_cons.mp hd with rfl | hd
  · exact ⟨rfl, by decide +kernel, rfl, ⟨"(True, True)", fun _ => by kernel_rfl, by decide +kernel⟩, ⟨"(True, True)", by kernel_rfl, by decide +kernel⟩, ⟨"[(True, True)]", fun _ => by kernel_rfl⟩, by decide +kernel⟩
  exact absurd hd List.not_mem_nil
def odd5 : List D := [.non, .str "a 1950", .int 7, .tup [.str "a", .int 1950, .int 75], .lst []]
theorem odd5_ok : ∀ d ∈ odd5, Od d := by
  intro d hd
  unfold odd5 at hd
  rcases List.mem_cons.mp hd with rfl | hd
  · exact ⟨rfl, by decide +kernel, rfl, ⟨"None", fun _ => by kernel_rfl, by decide +kernel⟩, ⟨"None", by kernel_rfl, by decide +kernel⟩, ⟨"[None]", fun _ => by kernel_rfl⟩, by decide +kernel⟩
  rcases List.mem_cons.mp hd with rfl | hd
  · exact ⟨rfl, by decide +kernel, rfl, ⟨"'a 1950'", fun _ => by kernel_rfl, by decide +kernel⟩, ⟨"'a 1950'", by kernel_rfl, by decide +kernel⟩, ⟨"['a 1950']", fun _ => by kernel_rfl⟩, by decide +kernel⟩
  rcases List.mem_cons.mp hd with rfl | hd
  · exact ⟨rfl, by decide +kernel, rfl, ⟨"7", fun _ => by kernel_rfl, by decide +kernel⟩, ⟨"7", by kernel_rfl, by decide +kernel⟩, ⟨"[7]", fun _ => by kernel_rfl⟩, by decide +kernel⟩
  rcases List.mem_cons.mp hd with rfl | hd
  · exact ⟨rfl, by decide +kernel, rfl, ⟨"('a', 1950, 75)", fun _ => by kernel_rfl, by decide +kernel⟩, ⟨"('a', 1950, 75)", by kernel_rfl, by decide +kernel⟩, ⟨"[('a', 1950, 75)]", fun _ => by kernel_rfl⟩, by decide +kernel⟩
  rcases List.mem_cons.mp hd with rfl | hd
  · exact ⟨rfl, by decide +kernel, rfl, ⟨"[]", fun _ => by kernel_rfl, by decide +kernel⟩, ⟨"[]", by kernel_rfl, by decide +kernel⟩, ⟨"[[]]", fun _ => by kernel_rfl⟩, by decide +kernel⟩
  exact absurd hd List.not_mem_nil
def lits : List D := [.int 0, .int 36, .int 74, .int 76, .int 149, .bl true, .non, .str "75", .tup [.int 75], .int (10 ^ 39)]
theorem lits_ok : ∀ d ∈ lits, Od d := by
  intro d hd
  unfold lits at hd
  rcases List.mem_cons.mp hd with rfl | hd
  · exact ⟨rfl, by decide +kernel, rfl, ⟨"0", fun _ => by kernel_rfl, by decide +kernel⟩, ⟨"0", by kernel_rfl, by decide +kernel⟩, ⟨"[0]", fun _ => by kernel_rfl⟩, by decide +kernel⟩
  rcases List.mem_cons.mp hd with rfl | hd
  · exact ⟨rfl, by decide +kernel, rfl, ⟨"36", fun _ => by kernel_rfl, by decide +kernel⟩, ⟨"36", by kernel_rfl, by decide +kernel⟩, ⟨"[36]", fun _ => by kernel_rfl⟩, by decide +kernel⟩
  rcases List.mem_cons.mp hd with rfl | hd
  · exact ⟨rfl, by decide +kernel, rfl, ⟨"74", fun _ => by kernel_rfl, by decide +kernel⟩, ⟨"74", by kernel_rfl, by decide +kernel⟩, ⟨"[74]", fun _ => by kernel_rfl⟩, by decide +kernel⟩
  rcases List.mem_cons.mp hd with rfl | hd
  · exact ⟨rfl, by decide +kernel, rfl, ⟨"76", fun _ => by kernel_rfl, by decide +kernel⟩, ⟨"76", by kernel_rfl, by decide +kernel⟩, ⟨"[76]", fun _ => by kernel_rfl⟩, by decide +kernel⟩
  rcases List.mem_cons.mp hd with rfl | hd
  · exact ⟨rfl, by decide +kernel, rfl, ⟨"149", fun _ => by kernel_rfl, by decide +kernel⟩, ⟨"149", by kernel_rfl, by decide +kernel⟩, ⟨"[149]", fun _ => by kernel_rfl⟩, by decide +kernel⟩
  rcases List.mem_cons.mp hd with rfl | hd
  · exact ⟨rfl, by decide +kernel, rfl, ⟨"True", fun _ => by kernel_rfl, by decide +kernel⟩, ⟨"True", by kernel_rfl, by decide +kernel⟩, ⟨"[True]", fun _ => by kernel_rfl⟩, by decide +kernel⟩
  rcases List.mem_cons.mp hd with rfl | hd
  · exact ⟨rfl, by decide +kernel, rfl, ⟨"None", fun _ => by kernel_rfl, by decide +kernel⟩, ⟨"None", by kernel_rfl, by decide +kernel⟩, ⟨"[None]", fun _ => by kernel_rfl⟩, by decide +kernel⟩
  rcases List.mem_cons.mp hd with rfl | hd
  · exact ⟨rfl, by decide +kernel, rfl, ⟨"'75'", fun _ => by kernel_rfl, by decide +kernel⟩, ⟨"'75'", by kernel_rfl, by decide +kernel⟩, ⟨"['75']", fun _ => by kernel_rfl⟩, by decide +kernel⟩
  rcases List.mem_cons.mp hd with rfl | hd
  · exact ⟨rfl, by decide +kernel, rfl, ⟨"(75,)", fun _ => by kernel_rfl, by decide +kernel⟩, ⟨"(75,)", by kernel_rfl, by decide +kernel⟩, ⟨"[(75,)]", fun _ => by kernel_rfl⟩, by decide +kernel⟩
  rcases List.mem_cons.mp hd with rfl | hd
  · exact ⟨rfl, by decide +kernel, rfl, ⟨"1000000000000000000000000000000000000000", fun _ => by kernel_rfl, by decide +kernel⟩, ⟨"1000000000000000000000000000000000000000", by kernel_rfl, by decide +kernel⟩, ⟨"[1000000000000000000000000000000000000000]", fun _ => by kernel_rfl⟩, by decide +kernel⟩
  exact absurd hd List.not_mem_nil
end K73

set_option maxRecDepth 100000
set_option maxHeartbeats 1000000
namespace K73
open PySem PySem.Spec PyProof.Rows L2 Den
/-! ### are they bottles -/
theorem part_is {d : D} {x0 : Option D} {st : Store} (h : known d = true) : dCB (bIsi [0] isT) (dCons (dVar 1) (dCons (dC (.cl 0)) dNil)) [x0, some d] st = .ok (.bl (isBot d)) st := by
  cases d with
  | ins c xs =>
    obtain rfl : c = 0 := eq_of_beq h
    kernel_rfl
  | non => kernel_rfl
  | bl => kernel_rfl
  | int => kernel_rfl
  | str => kernel_rfl
  | lst => kernel_rfl
  | tup => kernel_rfl
  | dic => kernel_rfl
  | _ => cases h
theorem list_is {d : D} {xs : List (Option D)} {st : Store} (h : known d = true) : dCB (bIsi [0] isT) (dCons (dVar 0) (dCons (dC (.ty "list")) dNil)) (some d :: xs) st = .ok (.bl (isLst d)) st := by
  cases d with
  | ins c xs =>
    obtain rfl : c = 0 := eq_of_beq h
    kernel_rfl
  | non => kernel_rfl
  | bl => kernel_rfl
  | int => kernel_rfl
  | str => kernel_rfl
  | lst => kernel_rfl
  | tup => kernel_rfl
  | dic => kernel_rfl
  | _ => cases h
theorem ev_andD {a b : DE} {ρ : Rho} {st s1 : Store} {x : Bool} {w : Res D} (h : a ρ st = .ok (.bl x) s1) (g : (if x = true then b ρ s1 else .ok (.bl false) s1) = w) : dAnd a b ρ st = w := by
  unfold dAnd
  rw [h]
  cases x <;> exact g
theorem are_list {xs : List D} {st : Store} (h : ∀ d ∈ xs, known d = true) (hb : xs.all isBot = false) (hl : xs.length ≤ 1000) : f_are_bottles [.lst xs] st = .ok (.bl false) st := by
  have l1 : dLc (iSeq (dVar 0)) (g1 1) tYesD (dCB (bIsi [0] isT) (dCons (dVar 1) (dCons (dC (.cl 0)) dNil))) [1] [some (.lst xs), none] st = .ok (.lst (xs.map fun d => D.bl (isBot d))) st := by
    have it : iSeq (dVar 0) [some (.lst xs), none] st = .ok xs st := rfl
    unfold dLc
    rw [it, bind_ok, if_pos (by omega), lcL_map (f := fun d => D.bl (isBot d)) fun d hd => ⟨[some (.lst xs), some d], rfl, part_is (h d hd)⟩]
    unfold lcEnd
    rw [bind_ok, if_pos (by rw [List.length_map]; omega)]
  have a : dCB (one gAll) (dCons (dLc (iSeq (dVar 0)) (g1 1) tYesD (dCB (bIsi [0] isT) (dCons (dVar 1) (dCons (dC (.cl 0)) dNil))) [1]) dNil) [some (.lst xs), none] st = .ok (.bl false) st := by
    refine ev_cb1 (ev_cons l1 rfl) ?_
    unfold gAll litemsOf
    rw [Option.bind_some, bools_map isBot]
    simp only [Option.map_some]
    congr 2
    rw [List.all_map]
    exact hb
  refine Den.run (N := 2) (n := 1) (m := m_are_bottles) (r := .ret (.bl false) st) rfl (ex_ret (ev_andD (x := true) (s1 := st) (list_is (d := .lst xs) (xs := [none]) rfl) ?_)) rfl
  rw [if_pos rfl]
  exact a
theorem are_no {d : D} {st : Store} (h : known d = true) (hl : isLst d = false) : f_are_bottles [d] st = .ok (.bl false) st := by
  refine Den.run (N := 2) (n := 1) (m := m_are_bottles) (r := .ret (.bl false) st) rfl (ex_ret (ev_andD (x := false) (s1 := st) ((list_is (d := d) (xs := [none]) h).trans (by rw [hl])) ?_)) rfl
  rw [if_neg (by decide)]
/-! ### words of errors -/
theorem word3 {st : Store} : f__law_word [.exc 3 []] st = .ok (.tup [.str "size"]) st := by
  kernel_rfl
theorem word5 {st : Store} : f__law_word [.exc 5 []] st = .ok (.tup [.str "bottles"]) st := by
  kernel_rfl
theorem written_bad {d : D} {st : Store} (h : f_are_bottles [d] st = .ok (.bl false) st) : f_written [d] st = .exc 5 [] st := by
  have t : tNotD (dTruth (dCallA 1 f_are_bottles (dCons (dVar 0) dNil))) [some d, none] st = .ok true st := (ev_not (ev_truth (w := false) (ev_call (xs := [d]) (s1 := st) rfl rfl h) rfl)).trans rfl
  exact Den.run (N := 2) (n := 1) (m := m_written) (r := .exc 5 [] [some d, none] st) rfl (ex_seqE ((ex_if t).trans rfl)) rfl
theorem so_bad {d : D} {st : Store} (hd : noE d = true) (hn : noES st = true) (h : f_are_bottles [d] st = .ok (.bl false) st) : f__law_written_so [d] st = .ok (.tup [.str "bottles"]) st := by
  have he : noEL [d] = true := by simp only [noEL, hd, Bool.and_self]
  refine runE (N := 2) (n := 1) (m := m__law_written_so) (r := .ret (.tup [.str "bottles"]) st) rfl he hn ?_ rfl
  have qb : sRet (dCallA 1 f_written (dCons (dVar 0) dNil)) [some d, none] st = .exc 5 [] [some d, none] st := by
    have e : dCallA 1 f_written (dCons (dVar 0) dNil) [some d, none] st = .exc 5 [] st := ev_call (xs := [d]) (s1 := st) rfl rfl (written_bad h)
    unfold sRet
    rw [e]
    rfl
  have qc : sRet (dCallA 1 f__law_word (dCons (dVar 1) dNil)) [some d, some (.exc 5 [])] st = .ret (.tup [.str "bottles"]) st := ex_ret (ev_call (xs := [.exc 5 []]) (s1 := st) rfl rfl word5)
  show sTryAs cth_CellarError 1 (sRet (dCallA 1 f_written (dCons (dVar 0) dNil))) (sRet (dCallA 1 f__law_word (dCons (dVar 1) dNil))) [some d, none] st = _
  unfold sTryAs
  rw [qb]
  dsimp only
  rw [show cth_CellarError 5 = some true from rfl]
  dsimp only
  rw [show ([some d, none] : Rho).set 1 (some (.exc 5 [])) = [some d, some (.exc 5 [])] from rfl, qc]
  dsimp only
  rw [if_pos ⟨rfl, hn⟩]
/-! ### reading -/
theorem read_size {t d : D} {st : Store} (h : plain d = true) (hs : sizeOk d = false) : f_read [t, d] st = .exc 3 [] st := by
  have t1 : tNotD (dTruth (dCallA 1 f_is_size (dCons (dVar 1) dNil))) [some t, some d, none, none, none, none] st = .ok true st := (ev_not (ev_truth (w := sizeOk d) (ev_call (xs := [d]) (s1 := st) rfl rfl (size_any h)) rfl)).trans (by rw [hs]; rfl)
  exact Den.run (N := 6) (n := 2) (m := m_read) (r := .exc 3 [] [some t, some d, none, none, none, none] st) rfl (ex_seqE ((ex_if t1).trans rfl)) rfl
def isTxt : D → Bool
  | .str _ => true
  | _ => false
theorem txt_is {d : D} {xs : List (Option D)} {st : Store} (h : known d = true) : dCB (bIsi [0] isT) (dCons (dVar 0) (dCons (dC (.ty "str")) dNil)) (some d :: xs) st = .ok (.bl (isTxt d)) st := by
  cases d with
  | ins c xs =>
    obtain rfl : c = 0 := eq_of_beq h
    kernel_rfl
  | non => kernel_rfl
  | bl => kernel_rfl
  | int => kernel_rfl
  | str => kernel_rfl
  | lst => kernel_rfl
  | tup => kernel_rfl
  | dic => kernel_rfl
  | _ => cases h
theorem read_text {t : D} {s : Int} {st : Store} (h : known t = true) (ht : isTxt t = false) (hs : litres s) : f_read [t, .int s] st = .exc 17 [.int 0] st := by
  have t1 : tNotD (dTruth (dCallA 1 f_is_size (dCons (dVar 1) dNil))) [some t, some (.int s), none, none, none, none] st = .ok false st := (ev_not (ev_truth (w := sizeOk (.int s)) (ev_call (xs := [.int s]) (s1 := st) rfl rfl (size_any rfl)) rfl)).trans (by rw [size_lit hs]; rfl)
  have t2 : tNotD (dTruth (dCB (bIsi [0] isT) (dCons (dVar 0) (dCons (dC (.ty "str")) dNil)))) [some t, some (.int s), none, none, none, none] st = .ok true st := (ev_not (ev_truth (w := isTxt t) (txt_is h) rfl)).trans (by rw [ht]; rfl)
  exact Den.run (N := 6) (n := 2) (m := m_read) (r := .exc 17 [.int 0] [some t, some (.int s), none, none, none, none] st) rfl (ex_seq ((ex_if t1).trans rfl) (ex_seqE ((ex_if t2).trans rfl))) rfl
/-- what is heard when reading is refused -/
theorem heard_bad {t d : D} {c : Nat} {es : List D} {w : D} {z : Str} {st : Store} (ht : noE t = true) (hd : noE d = true) (hn : noES st = true) (hw : noE w = true) (hz : orB (one gRepr) (one gReprK) [d] st = some (.str z, st)) (hr : f_read [t, d] st = .exc c es st) (h75 : decide (z.cps.toList = ("75" : Str).cps.toList) = true → d = .int 75)
    (hc : cth_CellarError c = some true) (e : f__law_word [.exc c es] st = .ok w st) : f__law_heard [t, d] st = .ok w st := by
  have he : noEL [t, d] = true := by simp only [noEL, ht, hd, Bool.and_self]
  have rp : dCB (orB (one gRepr) (one gReprK)) (dCons (dVar 1) dNil) [some t, some d, none, none, none] st = .ok (.str z) st := by
    unfold dCB
    rw [show dCons (dVar 1) dNil [some t, some d, none, none, none] st = .ok [d] st from rfl, bind_ok, hz]
    rfl
  have tt : asB (dOp2 fEq (dCB (orB (one gRepr) (one gReprK)) (dCons (dVar 1) dNil)) (dC (.str "75"))) [some t, some d, none, none, none] st = .ok (decide (z.cps.toList = ("75" : Str).cps.toList)) st := ev_asB (ev_op (x := .str z) (s1 := st) (s2 := st) rp rfl (by rw [fEq_str]))
  have qv : dIte (asB (dOp2 fEq (dCB (orB (one gRepr) (one gReprK)) (dCons (dVar 1) dNil)) (dC (.str "75")))) (dCall 1 0 gd_read_1 f_read (dCons (dVar 0) dNil) dNil) (dCall 1 1 gd_read_1_size f_read (dCons (dVar 0) dNil) (dCons (dVar 1) dNil)) [some t, some d, none, none, none] st = f_read [t, d] st := by
    refine ev_ite tt ?_
    cases hb : decide (z.cps.toList = ("75" : Str).cps.toList) with
    | true =>
      have ed := h75 hb
      subst ed
      rfl
    | false => rfl
  refine runE (N := 5) (n := 2) (m := m__law_heard) (r := .ret w st) rfl he hn (ex_seqR ?_) rfl
  have qb : sSet 2 (dIte (asB (dOp2 fEq (dCB (orB (one gRepr) (one gReprK)) (dCons (dVar 1) dNil)) (dC (.str "75")))) (dCall 1 0 gd_read_1 f_read (dCons (dVar 0) dNil) dNil) (dCall 1 1 gd_read_1_size f_read (dCons (dVar 0) dNil) (dCons (dVar 1) dNil))) [some t, some d, none, none, none] st = .exc c es [some t, some d, none, none, none] st := by
    unfold sSet
    rw [qv, hr]
    rfl
  unfold sTryAs
  rw [show (sSet 2 _ : DS) ([t, d].map some ++ List.replicate (5 - 2) none) st = _ from qb]
  dsimp only
  rw [hc]
  dsimp only
  have qh : sRet (dCallA 1 f__law_word (dCons (dVar 3) dNil)) ([some t, some d, none, none, none].set 3 (some (.exc c es))) st = .ret w st := ex_ret (ev_call (xs := [.exc c es]) (s1 := st) rfl rfl e)
  rw [qh]
  dsimp only
  rw [if_pos ⟨hw, hn⟩]
theorem heard_size {t d : D} {st : Store} (ht : noE t = true) (h : Od d) (hn : noES st = true) : f__law_heard [t, d] st = .ok (.tup [.str "size"]) st := by
  obtain ⟨z, hz, h75⟩ := h.rp
  exact heard_bad ht h.ne hn rfl (hz st) (read_size h.pl h.ns) (fun e => by rw [h75] at e; cases e) rfl word3
theorem repr_lit {s : Int} (h : litres s) : ∃ z, (∀ st, orB (one gRepr) (one gReprK) [.int s] st = some (.str z, st)) ∧ (decide (z.cps.toList = ("75" : Str).cps.toList) = true → s = 75) := by
  rcases h with rfl | rfl | rfl
  · exact ⟨"75", fun _ => by kernel_rfl, fun _ => rfl⟩
  · exact ⟨"37", fun _ => by kernel_rfl, fun e => by exact absurd e (by decide +kernel)⟩
  · exact ⟨"150", fun _ => by kernel_rfl, fun e => by exact absurd e (by decide +kernel)⟩
theorem heard_text {t : D} {s : Int} {st : Store} (ht : noE t = true) (h : known t = true) (hx : isTxt t = false) (hs : litres s) (hn : noES st = true) : f__law_heard [t, .int s] st = .ok (.tup [.str "text", .int 0]) st := by
  obtain ⟨z, hz, h75⟩ := repr_lit hs
  exact heard_bad ht rfl hn rfl (hz st) (read_text h hx hs) (fun e => by rw [h75 e]) rfl word_eq2
/-! ### an odd thing -/
theorem odd_d {K : Nat} {st : Store} (pt : Pot K st) : ∃ o st', f__law_odd [.box K] st = .ok o st' ∧ Od o ∧ Chg K st st' := by
  have l1 : dLst (dCons (dC .non) (dCons (dC (.bl true)) (dCons (dC (.bl false)) (dCons (dNeg (dC (.int 1))) (dCons (dPow (dC (.int 10)) (dC (.int 30))) (dCons (dC (.str "")) (dCons (dC (.str "a")) (dCons (dC (.str "1")) (dCons (dTup dNil) (dCons (dLst dNil) (dCons (dC (.dic [] [])) (dCons (dLst (dCons (dTup dNil) dNil)) (dCons (dTup (dCons (dTup dNil) dNil)) (dCons (dTup (dCons (dC (.int 0)) dNil)) (dCons (dLst (dCons (dC (.int 0)) dNil)) (dCons (dC (.dic [.inl 0] [.int 1])) (dCons (dTup (dCons (dC (.bl true)) (dCons (dC (.bl true)) dNil))) dNil))))))))))))))))) [some (.box K), none] st = .ok (.lst odd17) st := by kernel_rfl
  have ln : dCB (one gLen) (dCons (dVar 1) dNil) [some (.box K), some (.lst odd17)] st = .ok (.int 17) st := by kernel_rfl
  obtain ⟨i, s1, i0, i1, e, c⟩ := draw (v := 0) (ρ := [some (.box K), some (.lst odd17)]) pt rfl ln (by decide) (by decide)
  obtain ⟨o, ho, ix⟩ := ix_mem (xs := odd17) (st := s1) i0 i1
  exact ⟨o, s1, Den.run (N := 2) (n := 1) (m := m__law_odd) (r := .ret o s1) rfl (ex_seq (ex_set l1) (ex_ret (ev_ix (x := .lst odd17) (y := .int i) (s1 := st) rfl e ix))) rfl, odd17_ok o ho, c⟩
end K73

set_option maxRecDepth 100000
set_option maxHeartbeats 1000000
namespace K73
open PySem PySem.Spec PyProof.Rows L2 Den
/-! ### the text of a bottle -/
theorem rB_kd (q : Kd) : rB [.str q.m, .int q.y, .int q.s] = some (shown q) := by
  have b := bnds q
  have lr : (reprText q.m).length ≤ 1000 := by
    rw [rep_letters (okM_iff.mp q.hm).2, len_app, len_app, show ("'" : Str).length = 1 from rfl]
    omega
  have hs := q.hs
  have hy := q.hy
  unfold rB
  dsimp only
  rw [if_pos ⟨⟨b.1, lr⟩, ⟨by omega, by omega⟩, by omega, by omega⟩]
  unfold shownB
  rw [shown_eq]
theorem hm_r (xs : List D) (z : Str) (st : Store) (h : rB xs = some z) : f_Bottle___repr__ [.ins 0 xs] st = .ok (.str z) st := by
  unfold rB at h
  split at h
  · rename_i m y s
    split at h
    · rename_i hc
      cases h
      obtain ⟨⟨c1, c2⟩, ⟨c3, c4⟩, c5, c6⟩ := hc
      obtain ⟨b2, b3⟩ := len_int (i := y) (by omega) (by omega)
      obtain ⟨b4, b5⟩ := len_int (i := s) (by omega) (by omega)
      have b2' : (T y).length ≤ 13 := b2
      have b4' : (T s).length ≤ 13 := b4
      have l1 : ("Bottle(" : Str).length = 7 := rfl
      have l3 : (", " : Str).length = 2 := rfl
      have l4 : (")" : Str).length = 1 := rfl
      refine Den.run (N := 1) (n := 1) (m := m_Bottle___repr__) (r := .ret (.str (shownB m y s)) st) rfl (ex_ret ?_) rfl
      have f0 : dFmtR (dFld 0 0 (dVar 0)) [some (.ins 0 [.str m, .int y, .int s])] st = .ok (.str (reprText m)) st := ev_fmtR (z := m) rfl (by omega)
      have f1 : dFmt (dFld 0 1 (dVar 0)) [some (.ins 0 [.str m, .int y, .int s])] st = .ok (.str (T y)) st := ev_fmtI (i := y) rfl b3
      have f2 : dFmt (dFld 0 2 (dVar 0)) [some (.ins 0 [.str m, .int y, .int s])] st = .ok (.str (T s)) st := ev_fmtI (i := s) rfl b5
      refine ev_js (z := "Bottle(") rfl (by rw [nil_app]; omega) (ev_js f0 (by simp only [nil_app, len_app]; omega) (ev_js (z := ", ") rfl (by simp only [nil_app, len_app]; omega) (ev_js f1 (by simp only [nil_app, len_app]; omega) (ev_js (z := ", ") rfl (by simp only [nil_app, len_app]; omega) (ev_js f2 (by simp only [nil_app, len_app]; omega) (ev_js (z := ")") rfl (by simp only [nil_app, len_app]; omega) ?_))))))
      rw [nil_app]
      rfl
    · cases h
  · cases h
theorem leaf_kd (q : Kd) : ∃ t, leafT 0 rB q.b = some t ∧ t.length ≤ 100 := by
  refine ⟨shown q, rB_kd q, ?_⟩
  obtain ⟨b1, b2, b3, b4, b5⟩ := bnds q
  have k1 : ("Bottle('" : Str).length = 8 := rfl
  have k2 : ("', " : Str).length = 3 := rfl
  have k3 : (", " : Str).length = 2 := rfl
  have k4 : (")" : Str).length = 1 := rfl
  unfold shown
  simp only [len_app]
  omega
/-! ### the text of a thing -/
def G : FB := orB (orB (one gRepr) (one gReprK)) (one (gReprI 0 rB))
theorem G_left {x : D} {z : Str} (h : ∀ st, orB (one gRepr) (one gReprK) [x] st = some (.str z, st)) : ∀ st, G [x] st = some (.str z, st) := fun st => by
  show (orB (one gRepr) (one gReprK) [x] st).or _ = _
  rw [h st]
  rfl
theorem top_repr {x : D} {t : Str} (h : topT 0 rB x = some t) (hl : t.length ≤ 1000000) : ∃ z, ∀ st, G [x] st = some (.str z, st) := by
  have gi : ∀ st, gReprI 0 rB x st = some (.str t) := fun st => by
    unfold gReprI
    rw [h]
    dsimp only
    rw [if_pos hl]
  have cs : (∃ z, ∀ st, gRepr x st = some (.str z)) ∨ ∀ st, gRepr x st = none := by
    unfold gRepr
    cases isDic x with
    | true => exact .inr fun _ => rfl
    | false =>
      cases toPyR x with
      | none => exact .inr fun _ => rfl
      | some p =>
        dsimp only
        by_cases c : p.showable = true ∧ p.depth ≤ 60 ∧ p.shown.length ≤ 1000000
        · exact .inl ⟨p.shown, fun _ => by simp [c]⟩
        · exact .inr fun _ => by simp [c]
  have ck : (∃ z, ∀ st, gReprK x st = some (.str z)) ∨ ∀ st, gReprK x st = none := by
    unfold gReprK
    cases isDic x with
    | false => exact .inr fun _ => rfl
    | true =>
      cases toPyR x with
      | none => exact .inr fun _ => rfl
      | some p =>
        dsimp only
        by_cases c : p.showable = true ∧ p.depth ≤ 60 ∧ p.shown.length ≤ 1000000
        · exact .inl ⟨p.shown, fun _ => by simp [c]⟩
        · exact .inr fun _ => by simp [c]
  have e : ∀ st, G [x] st = ((((gRepr x st).map fun z => (z, st)).or ((gReprK x st).map fun z => (z, st))).or ((gReprI 0 rB x st).map fun z => (z, st))) := fun _ => rfl
  rcases cs with ⟨z, hz⟩ | hz
  · exact ⟨z, fun st => by rw [e, hz]; rfl⟩
  · rcases ck with ⟨y, hy⟩ | hy
    · exact ⟨y, fun st => by rw [e, hz, hy]; rfl⟩
    · exact ⟨t, fun st => by rw [e, hz, hy, gi]; rfl⟩
theorem leafs_all : ∀ {ds : List D}, (∀ d ∈ ds, ∃ t, leafT 0 rB d = some t ∧ t.length ≤ 100) → ∃ ts, leafs 0 rB ds = some ts ∧ ∀ t ∈ ts, t.length ≤ 100
  | [], _ => ⟨[], rfl, fun _ h => absurd h List.not_mem_nil⟩
  | d :: ds, h => by
    obtain ⟨t, e, l⟩ := h d List.mem_cons_self
    obtain ⟨ts, e2, l2⟩ := leafs_all (ds := ds) fun x hx => h x (List.mem_cons_of_mem _ hx)
    refine ⟨t :: ts, ?_, fun x hx => ?_⟩
    · unfold leafs
      rw [e, e2]
    · rcases List.mem_cons.mp hx with rfl | hx
      · exact l
      · exact l2 x hx
theorem sum_le {B : Nat} : ∀ {ts : List Str}, (∀ t ∈ ts, t.length ≤ B) → (ts.map (·.length)).sum ≤ ts.length * B
  | [], _ => Nat.zero_le _
  | t :: ts, h => by
    have := sum_le (B := B) (ts := ts) fun x hx => h x (List.mem_cons_of_mem _ hx)
    have l := h t List.mem_cons_self
    rw [List.map_cons, List.sum_cons, List.length_cons, Nat.succ_mul]
    omega
theorem list_le {ts : List Str} (h : ∀ t ∈ ts, t.length ≤ 100) (hl : ts.length ≤ 1000) : (listText ts).length ≤ 110000 := by
  have a := listText_len_le ts
  have b := sum_le h
  omega
theorem join_le {y : Str} {B : Nat} : ∀ {ts : List Str}, (∀ t ∈ ts, t.length ≤ B) → (Str.join y ts).length ≤ ts.length * (B + y.length)
  | [], _ => Nat.zero_le _
  | [x], h => by
    have := h x List.mem_cons_self
    show x.length ≤ _
    rw [List.length_singleton]
    omega
  | x :: x2 :: r, h => by
    have ih := join_le (y := y) (B := B) (ts := x2 :: r) fun z hz => h z (List.mem_cons_of_mem _ hz)
    have := h x List.mem_cons_self
    show ((x ++ y) ++ Str.join y (x2 :: r)).length ≤ _
    rw [len_app, len_app, List.length_cons, Nat.succ_mul]
    omega
theorem tuple_le {ts : List Str} (h : ∀ t ∈ ts, t.length ≤ 100) (hl : ts.length ≤ 1000) : (tupleText ts).length ≤ 110000 := by
  have b := join_le (y := ", ") h
  have l : (", " : Str).length = 2 := rfl
  have k1 : ("(" : Str).length = 1 := rfl
  have k2 : ((if (ts.length == 1) = true then ",)" else ")" : String) : Str).length ≤ 2 := by split <;> decide
  unfold tupleText
  rw [len_app, len_app]
  rw [l] at b
  have : ts.length * (100 + 2) ≤ 102000 := by omega
  omega
end K73

set_option maxRecDepth 100000
set_option maxHeartbeats 1000000
namespace K73
open PySem PySem.Spec PyProof.Rows L2 Den
/-- a thing that can't be written -/
structure Th (x : D) : Prop where
  ne : noE x = true
  kn : known x = true
  bad : ∀ st, f_are_bottles [x] st = .ok (.bl false) st
  rp : ∃ z, ∀ st, G [x] st = some (.str z, st)
  far : isLst x = false ∨ ∃ y ys, x = .lst (y :: ys)
def Thing (x : D) : Prop := Th x ∨ x = .lst []
theorem plain_known {d : D} (h : plain d = true) : known d = true := by
  cases d <;> first | exact h | (cases h; done)
theorem plain_ins {d : D} (h : plain d = true) : isBot d = false := by
  cases d <;> first | rfl | (cases h; done)
theorem isIns_kd (q : Kd) : isIns 0 q.b = true := rfl
theorem any_kd {qs : List Kd} (h : qs ≠ []) {l r : List D} : (l ++ qs.map Kd.b ++ r).any (isIns 0) = true := by
  cases qs with
  | nil => exact absurd rfl h
  | cons q qs =>
    rw [List.any_eq_true]
    exact ⟨q.b, by simp, rfl⟩
/-! ### odd things -/
theorem odd_thing {o : D} (h : Od o) : Thing o := by
  obtain ⟨z, hz, _⟩ := h.rp
  have rp : ∃ z, ∀ st, G [o] st = some (.str z, st) := ⟨z, G_left hz⟩
  have kn := plain_known h.pl
  cases hl : isLst o with
  | false => exact .inl ⟨h.ne, kn, fun st => are_no kn hl, rp, .inl hl⟩
  | true =>
    cases o <;> first | (cases hl; done) | skip
    rename_i xs
    cases xs with
    | nil => exact .inr rfl
    | cons y ys =>
      have pp := h.pp
      unfold okP at pp
      obtain ⟨p1, p2⟩ := (Bool.and_eq_true _ _).mp pp
      obtain ⟨p2, p3⟩ := (Bool.and_eq_true _ _).mp p2
      refine .inl ⟨h.ne, kn, fun st => are_list (fun d hd => List.all_eq_true.mp p1 d hd) ?_ (of_decide_eq_true p3), rp, .inr ⟨y, ys, rfl⟩⟩
      rw [List.isEmpty_cons, Bool.false_or] at p2
      cases hb : (y :: ys).all isBot with
      | false => rfl
      | true => rw [hb] at p2; cases p2
/-! ### a list with an odd thing in it -/
theorem known_kd {qs : List Kd} : ∀ d ∈ qs.map Kd.b, known d = true := fun d hd => by
  obtain ⟨q, _, rfl⟩ := List.mem_map.mp hd
  rfl
theorem noE_kd {qs : List Kd} : ∀ d ∈ qs.map Kd.b, noE d = true := fun d hd => by
  obtain ⟨q, _, rfl⟩ := List.mem_map.mp hd
  rfl
theorem leaf_kds {qs : List Kd} : ∀ d ∈ qs.map Kd.b, ∃ t, leafT 0 rB d = some t ∧ t.length ≤ 100 := fun d hd => by
  obtain ⟨q, _, rfl⟩ := List.mem_map.mp hd
  exact leaf_kd q
theorem mid_th {o : D} (h : Od o) {qs : List Kd} {i : Nat} (hl : qs.length ≤ 900) : Th (.lst ((qs.map Kd.b).take i ++ [o] ++ (qs.map Kd.b).drop i)) := by
  have mem : ∀ d ∈ (qs.map Kd.b).take i ++ [o] ++ (qs.map Kd.b).drop i, d = o ∨ d ∈ qs.map Kd.b := fun d hd => by
    rcases List.mem_append.mp hd with hd | hd
    · rcases List.mem_append.mp hd with hd | hd
      · exact .inr (List.mem_of_mem_take hd)
      · exact .inl (List.mem_singleton.mp hd)
    · exact .inr (List.mem_of_mem_drop hd)
  have len : ((qs.map Kd.b).take i ++ [o] ++ (qs.map Kd.b).drop i).length ≤ 1000 := by
    have := List.take_append_drop i (qs.map Kd.b)
    have e := congrArg List.length this
    rw [List.length_append, List.length_map] at e
    simp only [List.length_append, List.length_singleton] at e ⊢
    omega
  have kn : ∀ d ∈ (qs.map Kd.b).take i ++ [o] ++ (qs.map Kd.b).drop i, known d = true := fun d hd => by
    rcases mem d hd with rfl | hd
    · exact plain_known h.pl
    · exact known_kd d hd
  refine ⟨?_, rfl, fun st => are_list kn ?_ len, ?_, .inr ?_⟩
  · show noEL _ = true
    exact noEL_of fun d hd => by
      rcases mem d hd with rfl | hd
      · exact h.ne
      · exact noE_kd d hd
  · rw [← Bool.not_eq_true, List.all_eq_true]
    intro z
    have := z o (by simp)
    rw [plain_ins h.pl] at this
    cases this
  · by_cases hq : qs = []
    · subst hq
      obtain ⟨z, hz⟩ := h.r1
      exact ⟨z, G_left (by simpa using hz)⟩
    · obtain ⟨ts, e1, e2⟩ := leafs_all (ds := (qs.map Kd.b).take i ++ [o] ++ (qs.map Kd.b).drop i) fun d hd => by
        rcases mem d hd with rfl | hd
        · exact h.lf
        · exact leaf_kds d hd
      have an : ((qs.map Kd.b).take i ++ [o] ++ (qs.map Kd.b).drop i).any (isIns 0) = true := by
        have a0 : (qs.map Kd.b).any (isIns 0) = true := by simpa using any_kd (l := []) (r := []) hq
        rw [← List.take_append_drop i (qs.map Kd.b), List.any_append] at a0
        rw [List.any_append, List.any_append]
        rcases (Bool.or_eq_true _ _).mp a0 with a | a <;> simp [a]
      refine top_repr (t := listText ts) ?_ ?_
      · unfold topT
        dsimp only
        rw [if_pos an, e1]
        rfl
      · have := list_le e2 (by rw [leafs_len e1]; exact len)
        omega
  · have : (qs.map Kd.b).take i ++ [o] ++ (qs.map Kd.b).drop i ≠ [] := by simp
    obtain ⟨y, ys, e⟩ := List.exists_cons_of_ne_nil this
    exact ⟨y, ys, by rw [e]⟩
/-! ### what else holds the row -/
theorem row_leafs (qs : List Kd) (hl : qs.length ≤ 900) : ∃ ts, leafs 0 rB (qs.map Kd.b) = some ts ∧ (∀ t ∈ ts, t.length ≤ 100) ∧ ts.length ≤ 1000 := by
  obtain ⟨ts, e1, e2⟩ := leafs_all (leaf_kds (qs := qs))
  exact ⟨ts, e1, e2, by rw [leafs_len e1, List.length_map]; omega⟩
theorem noE_row (qs : List Kd) : noEL (qs.map Kd.b) = true := noEL_of noE_kd
theorem tup_th {qs : List Kd} (hl : qs.length ≤ 900) : Th (.tup (qs.map Kd.b)) := by
  refine ⟨noE_row qs, rfl, fun st => are_no rfl rfl, ?_, .inl rfl⟩
  by_cases hq : qs = []
  · subst hq
    exact ⟨"()", G_left fun _ => by kernel_rfl⟩
  · obtain ⟨ts, e1, e2, e3⟩ := row_leafs qs hl
    refine top_repr (t := tupleText ts) ?_ ?_
    · unfold topT
      dsimp only
      rw [if_pos (by simpa using any_kd (l := []) (r := []) hq), e1]
      rfl
    · have := tuple_le e2 e3
      omega
theorem dic_th {qs : List Kd} (hl : qs.length ≤ 900) : Th (.dic [.inl 0] [.lst (qs.map Kd.b)]) := by
  refine ⟨?_, rfl, fun st => are_no rfl rfl, ?_, .inl rfl⟩
  · show noEL [.lst (qs.map Kd.b)] = true
    simp only [noEL, noE, noE_row qs, Bool.and_self]
  · by_cases hq : qs = []
    · subst hq
      exact ⟨"{0: []}", G_left fun _ => by kernel_rfl⟩
    · obtain ⟨ts, e1, e2, e3⟩ := row_leafs qs hl
      refine top_repr (t := dictText [keyT (.inl 0) ++ ": " ++ listText ts]) ?_ ?_
      · unfold topT
        dsimp only
        rw [if_pos ⟨by simpa using any_kd (l := []) (r := []) hq, by decide +kernel⟩, e1]
        rfl
      · have a := list_le e2 e3
        have k0 : (keyT (.inl 0)).length = 1 := by decide +kernel
        have k1 : (": " : Str).length = 2 := rfl
        have k2 : ("{" : Str).length = 1 := rfl
        have k3 : ("}" : Str).length = 1 := rfl
        unfold dictText
        rw [show ∀ (y x : Str), Str.join y [x] = x from fun _ _ => rfl]
        simp only [len_app]
        omega
theorem lst1_th {qs : List Kd} (hl : qs.length ≤ 900) : Th (.lst [.lst (qs.map Kd.b)]) := by
  refine ⟨?_, rfl, fun st => are_list (fun d hd => by rw [List.mem_singleton.mp hd]; rfl) rfl (by rw [List.length_singleton]; decide), ?_, .inr ⟨_, _, rfl⟩⟩
  · show noEL [.lst (qs.map Kd.b)] = true
    simp only [noEL, noE, noE_row qs, Bool.and_self]
  · by_cases hq : qs = []
    · subst hq
      exact ⟨"[[]]", G_left fun _ => by kernel_rfl⟩
    · obtain ⟨ts, e1, e2, e3⟩ := row_leafs qs hl
      refine top_repr (t := listText [listText ts]) ?_ ?_
      · unfold topT
        dsimp only
        rw [if_neg (by simp [isIns]), if_pos (by simpa using any_kd (l := []) (r := []) hq), e1]
        rfl
      · have a := list_le e2 e3
        have b := listText_len_le [listText ts]
        simp only [List.map_cons, List.map_nil, List.sum_cons, List.sum_nil, List.length_singleton] at b
        omega
theorem non_th : Th .non := ⟨rfl, rfl, fun st => are_no rfl rfl, ⟨"None", G_left fun _ => by kernel_rfl⟩, .inl rfl⟩
theorem str_th : Th (.str "a 1950") := ⟨rfl, rfl, fun st => are_no rfl rfl, ⟨"'a 1950'", G_left fun _ => by kernel_rfl⟩, .inl rfl⟩
theorem bot_th : Th (.ins 0 [.str "a", .int 1950, .int 75]) := by
  obtain ⟨t, e, l⟩ := leaf_kd ⟨"a", 1950, 75, by decide +kernel, by decide, .inl rfl⟩
  refine ⟨rfl, rfl, fun st => are_no rfl rfl, top_repr (t := t) ?_ (by omega), .inl rfl⟩
  unfold topT
  dsimp only
  rw [if_pos rfl]
  exact e
end K73

set_option maxRecDepth 100000
set_option maxHeartbeats 1000000
namespace K73
open PySem PySem.Spec PyProof.Rows L2 Den
/-! ### the law, cut into pieces -/
def botE : DE := (dCallA 3 f__law_bottles (dCons (dVar 2) (dCons (dVar 3) (dCons (dCallA 2 f__law_take (dCons (dVar 2) (dCons (dC (.int 5)) dNil))) dNil))))
def atE : DE := (dCallA 2 f__law_take (dCons (dVar 2) (dCons (dAdd (dCB (one gLen) (dCons (dVar 5) dNil)) (dC (.int 1))) dNil)))
def oddsE : DE := (dLst (dCons (dC .non) (dCons (dC (.str "a 1950")) (dCons (dC (.int 7)) (dCons (dTup (dCons (dC (.str "a")) (dCons (dC (.int 1950)) (dCons (dC (.int 75)) dNil)))) (dCons (dLst dNil) (dCons (dCallA 1 f__law_odd (dCons (dVar 2) dNil)) dNil)))))))
def parB : DS := (sPar 6 7 (dCons atE (dCons oddsE dNil)))
def oddE : DE := (dIx (dVar 7) (dCallA 2 f__law_take (dCons (dVar 2) (dCons (dC (.int 6)) dNil))))
def midE : DE := (dAdd (dAdd (dSl (dVar 5) oNone (oSome (dVar 6))) (dLst (dCons (dVar 8) dNil))) (dSl (dVar 5) (oSome (dVar 6)) oNone))
def newE : DE := (dMake 0 2 0 gd_Bottle_2 f_Bottle (dCons (dC (.str "a")) (dCons (dC (.int 1950)) dNil)) dNil)
def someE : DE := (dLst (dCons midE (dCons (dCB (one gTuple) (dCons (dVar 5) dNil)) (dCons (dDicV 0 5) (dCons (dC .non) (dCons (dC (.str "a 1950")) (dCons (dLst (dCons (dVar 5) dNil)) (dCons newE (dCons (dVar 8) dNil)))))))))
def reprE : DE := (dCB G (dCons (dVar 10) dNil))
def bodyA : DS := (sIf (tOrD (tNotD (dTruth (dCB (bIsi [0] isT) (dCons (dVar 10) (dCons (dC (.ty "list")) dNil))))) (asB (dOpS gNeF (dVar 10) (dLst dNil)))) (sSeq (sSet 11 reprE)
    (sIf (tOrD (asB (dOp2 fNe (dCallA 1 f__law_written_so (dCons (dVar 10) dNil)) (dTup (dCons (dC (.str "bottles")) dNil)))) (asB (dOp2 fNe reprE (dVar 11)))) (sRet (dC (.bl false))) sNext)) sNext)
def bodyB1 : DS := (sIf (asB (dOp2 fNe (dCallA 2 f__law_heard (dCons (dVar 13) (dCons (dVar 12) dNil))) (dTup (dCons (dC (.str "size")) dNil)))) (sRet (dC (.bl false))) sNext)
def textsB : DE := (dLst (dCons (dC (.str "a 1950")) (dCons (dC (.str "x")) (dCons (dC .non) (dCons (dVar 8) dNil)))))
def bodyB : DS := (sForL textsB (g1 13) bodyB1)
def litsE : DE := (dLst (dCons (dC (.int 0)) (dCons (dC (.int 36)) (dCons (dC (.int 74)) (dCons (dC (.int 76)) (dCons (dC (.int 149)) (dCons (dC (.bl true)) (dCons (dC .non) (dCons (dC (.str "75")) (dCons (dTup (dCons (dC (.int 75)) dNil)) (dCons (dPow (dC (.int 10)) (dC (.int 39))) (dCons (dVar 8) dNil))))))))))))
def textsE : DE := (dLst (dCons (dC .non) (dCons (dC (.int 0)) (dCons (dLst (dCons (dC (.str "a 1950")) dNil)) (dCons (dTup (dCons (dC (.str "a 1950")) dNil)) (dCons (dC (.dic [] [])) (dCons newE (dCons (dVar 5) dNil))))))))
def sizeE : DE := (dIx (dLst (dCons (dC (.int 75)) (dCons (dC (.int 37)) (dCons (dC (.int 150)) dNil)))) (dCallA 2 f__law_take (dCons (dVar 2) (dCons (dC (.int 3)) dNil))))
def bodyC : DS := (sIf (asB (dOp2 fNe (dCallA 2 f__law_heard (dCons (dVar 13) (dCons sizeE dNil))) (dTup (dCons (dC (.str "text")) (dCons (dC (.int 0)) dNil))))) (sRet (dC (.bl false))) sNext)
def turnB : DS := (sSeq (sSet 5 botE)
    (sSeq parB
    (sSeq (sSet 8 oddE)
    (sSeq (sSet 9 someE)
    (sSeq (sForL (dVar 9) (g1 10)
    bodyA)
    (sSeq (sForL litsE (g1 12)
    bodyB)
    (sForL textsE (g1 13)
    bodyC)))))))
def cellB : DS := (sSeq (sSet 2 (dCallA 1 f__law_pot (dCons (dCallA 2 f__law_cell_at (dCons (dVar 0) (dCons (dVar 1) dNil))) dNil)))
    (sSeq (sSet 3 (dCallA 1 f__law_kinds (dCons (dVar 2) dNil)))
    (sForR1 (dCons (dC (.int 8)) dNil) (g1 4) turnB)))
theorem law_cut : m_law = sSeq (sForR1 (Com.cellsE 4) (g1 1) cellB) (sRet (dC (.bl true))) := rfl
section
variable {ns : List Int} {k K L : Nat} {ks : List D} {qs : List Kd} {st : Store} {o x : D} {x1 x2 x3 x4 x5 x6 x7 x8 x9 x10 x11 x12 x13 : Option D}
abbrev ρl (ns : List Int) (x1 : Option D) (K L : Nat) (x4 x5 x6 x7 x8 x9 x10 x11 x12 x13 : Option D) : Rho := [some (.ro (ns.map D.int)), x1, some (.box K), some (.box L), x4, x5, x6, x7, x8, x9, x10, x11, x12, x13]
/-! ### one thing -/
theorem lst_is (h : known x = true) : bIsi [0] isT [x, .ty "list"] st = some (.bl (isLst x), st) := by
  cases x with
  | ins c xs =>
    obtain rfl : c = 0 := eq_of_beq h
    kernel_rfl
  | non => kernel_rfl
  | bl => kernel_rfl
  | int => kernel_rfl
  | str => kernel_rfl
  | lst => kernel_rfl
  | tup => kernel_rfl
  | dic => kernel_rfl
  | _ => cases h
theorem lst_e (h : known x = true) : dTruth (dCB (bIsi [0] isT) (dCons (dVar 10) (dCons (dC (.ty "list")) dNil))) (ρl ns x1 K L x4 x5 x6 x7 x8 x9 (some x) x11 x12 x13) st = .ok (isLst x) st := by
  refine ev_truth (x := .bl (isLst x)) (s1 := st) ?_ rfl
  unfold dCB
  rw [show dCons (dVar 10) (dCons (dC (.ty "list")) dNil) (ρl ns x1 K L x4 x5 x6 x7 x8 x9 (some x) x11 x12 x13) st = .ok [x, .ty "list"] st from rfl, bind_ok, lst_is h]
  rfl
theorem repr_e {z : Str} (h : ∀ st, G [x] st = some (.str z, st)) : reprE (ρl ns x1 K L x4 x5 x6 x7 x8 x9 (some x) x11 x12 x13) st = .ok (.str z) st := by
  unfold reprE dCB
  rw [show dCons (dVar 10) dNil (ρl ns x1 K L x4 x5 x6 x7 x8 x9 (some x) x11 x12 x13) st = .ok [x] st from rfl, bind_ok, h]
  rfl
theorem ev_opS {g : F2} {a b : DE} {ρ : Rho} {st s1 s2 s3 : Store} {x y z : D} (h : a ρ st = .ok x s1) (h2 : b ρ s1 = .ok y s2) (hg : g x y s2 = some (z, s3)) : dOpS g a b ρ st = .ok z s3 := by
  unfold dOpS
  rw [h, bind_ok, h2, bind_ok, hg]
theorem ne_str (z : Str) : fNe (.str z) (.str z) = some (.bl false) := by
  rw [fNe_str]
  simp
theorem th_turn (hn : noES st = true) (h : Th x) : ∃ y11, bodyA (ρl ns x1 K L x4 x5 x6 x7 x8 x9 (some x) x11 x12 x13) st = .nx (ρl ns x1 K L x4 x5 x6 x7 x8 x9 (some x) y11 x12 x13) st := by
  obtain ⟨z, hz⟩ := h.rp
  have t1 : tOrD (tNotD (dTruth (dCB (bIsi [0] isT) (dCons (dVar 10) (dCons (dC (.ty "list")) dNil))))) (asB (dOpS gNeF (dVar 10) (dLst dNil))) (ρl ns x1 K L x4 x5 x6 x7 x8 x9 (some x) x11 x12 x13) st = .ok true st := by
    have a := ev_not (lst_e (ns := ns) (x1 := x1) (K := K) (L := L) (x4 := x4) (x5 := x5) (x6 := x6) (x7 := x7) (x8 := x8) (x9 := x9) (x11 := x11) (x12 := x12) (x13 := x13) (st := st) h.kn)
    rcases h.far with hf | ⟨y, ys, rfl⟩
    · rw [hf] at a
      exact ev_orT a
    · exact ev_orF a (ev_asB (ev_opS (x := .lst (y :: ys)) (y := .lst []) (s1 := st) (s2 := st) rfl rfl rfl))
  have q1 : sSet 11 reprE (ρl ns x1 K L x4 x5 x6 x7 x8 x9 (some x) x11 x12 x13) st = .nx (ρl ns x1 K L x4 x5 x6 x7 x8 x9 (some x) (some (.str z)) x12 x13) st := ex_set (repr_e hz)
  have a2 : asB (dOp2 fNe (dCallA 1 f__law_written_so (dCons (dVar 10) dNil)) (dTup (dCons (dC (.str "bottles")) dNil))) (ρl ns x1 K L x4 x5 x6 x7 x8 x9 (some x) (some (.str z)) x12 x13) st = .ok false st := ev_asB (ev_op (x := .tup [.str "bottles"]) (y := .tup [.str "bottles"]) (s1 := st) (s2 := st) (ev_call (xs := [x]) (s1 := st) rfl rfl (so_bad h.ne hn (h.bad st))) rfl (by kernel_rfl))
  have b2 : asB (dOp2 fNe reprE (dVar 11)) (ρl ns x1 K L x4 x5 x6 x7 x8 x9 (some x) (some (.str z)) x12 x13) st = .ok false st := ev_asB (ev_op (x := .str z) (y := .str z) (s1 := st) (s2 := st) (repr_e hz) rfl (ne_str z))
  have q2 : sIf (tOrD (asB (dOp2 fNe (dCallA 1 f__law_written_so (dCons (dVar 10) dNil)) (dTup (dCons (dC (.str "bottles")) dNil)))) (asB (dOp2 fNe reprE (dVar 11)))) (sRet (dC (.bl false))) sNext (ρl ns x1 K L x4 x5 x6 x7 x8 x9 (some x) (some (.str z)) x12 x13) st = .nx (ρl ns x1 K L x4 x5 x6 x7 x8 x9 (some x) (some (.str z)) x12 x13) st := (ex_if (ev_orF a2 b2)).trans (by rw [if_neg Bool.false_ne_true]; rfl)
  refine ⟨some (.str z), ?_⟩
  unfold bodyA
  rw [ex_if t1, if_pos rfl]
  exact ex_seq q1 q2
theorem thing_turn (hn : noES st = true) (h : Thing x) : ∃ y11, bodyA (ρl ns x1 K L x4 x5 x6 x7 x8 x9 (some x) x11 x12 x13) st = .nx (ρl ns x1 K L x4 x5 x6 x7 x8 x9 (some x) y11 x12 x13) st := by
  rcases h with h | rfl
  · exact th_turn hn h
  · refine ⟨x11, ?_⟩
    have t1 : tOrD (tNotD (dTruth (dCB (bIsi [0] isT) (dCons (dVar 10) (dCons (dC (.ty "list")) dNil))))) (asB (dOpS gNeF (dVar 10) (dLst dNil))) (ρl ns x1 K L x4 x5 x6 x7 x8 x9 (some (.lst [])) x11 x12 x13) st = .ok false st :=
      ev_orF (ev_not (lst_e (x := .lst []) rfl)) (ev_asB (ev_opS (x := .lst []) (y := .lst []) (s1 := st) (s2 := st) rfl rfl (by kernel_rfl)))
    unfold bodyA
    rw [ex_if t1, if_neg Bool.false_ne_true]
    rfl
theorem things_go (hn : noES st = true) {ds : List D} (h : ∀ d ∈ ds, Thing d) : ∃ y10 y11, forL (g1 10) bodyA ds (ρl ns x1 K L x4 x5 x6 x7 x8 x9 x10 x11 x12 x13) st = .nx (ρl ns x1 K L x4 x5 x6 x7 x8 x9 y10 y11 x12 x13) st := by
  obtain ⟨ρ', s', e, ⟨y10, y11, rfl⟩, rfl⟩ := forL_inv (g := g1 10) (b := bodyA) (ds := ds) (ρ := ρl ns x1 K L x4 x5 x6 x7 x8 x9 x10 x11 x12 x13) (st := st)
    (I := fun ρ s => (∃ y10 y11, ρ = ρl ns x1 K L x4 x5 x6 x7 x8 x9 y10 y11 x12 x13) ∧ s = st)
    (fun d hd ρ s hI => by
      obtain ⟨⟨y10, y11, rfl⟩, rfl⟩ := hI
      obtain ⟨z11, e⟩ := thing_turn (ns := ns) (x1 := x1) (K := K) (L := L) (x4 := x4) (x5 := x5) (x6 := x6) (x7 := x7) (x8 := x8) (x9 := x9) (x11 := y11) (x12 := x12) (x13 := x13) hn (h d hd)
      exact ⟨_, rfl, _, _, e, ⟨_, _, rfl⟩, rfl⟩)
    ⟨⟨_, _, rfl⟩, rfl⟩
  exact ⟨y10, y11, e⟩
/-! ### sizes that are none -/
theorem size_turn (hn : noES st = true) {t d : D} (ht : noE t = true) (h : Od d) : bodyB1 (ρl ns x1 K L x4 x5 x6 x7 x8 x9 x10 x11 (some d) (some t)) st = .nx (ρl ns x1 K L x4 x5 x6 x7 x8 x9 x10 x11 (some d) (some t)) st := by
  have a : asB (dOp2 fNe (dCallA 2 f__law_heard (dCons (dVar 13) (dCons (dVar 12) dNil))) (dTup (dCons (dC (.str "size")) dNil))) (ρl ns x1 K L x4 x5 x6 x7 x8 x9 x10 x11 (some d) (some t)) st = .ok false st := ev_asB (ev_op (x := .tup [.str "size"]) (y := .tup [.str "size"]) (s1 := st) (s2 := st) (ev_call (xs := [t, d]) (s1 := st) rfl rfl (heard_size ht h hn)) rfl (by kernel_rfl))
  exact (ex_if a).trans (by rw [if_neg Bool.false_ne_true]; rfl)
theorem sizes_turn (hn : noES st = true) {d : D} (h : Od d) (ho : Od o) : ∃ y13, bodyB (ρl ns x1 K L x4 x5 x6 x7 (some o) x9 x10 x11 (some d) x13) st = .nx (ρl ns x1 K L x4 x5 x6 x7 (some o) x9 x10 x11 (some d) y13) st := by
  obtain ⟨ρ', s', e, ⟨y13, rfl⟩, rfl⟩ := forL_inv (g := g1 13) (b := bodyB1) (ds := [.str "a 1950", .str "x", .non, o]) (ρ := ρl ns x1 K L x4 x5 x6 x7 (some o) x9 x10 x11 (some d) x13) (st := st)
    (I := fun ρ s => (∃ y13, ρ = ρl ns x1 K L x4 x5 x6 x7 (some o) x9 x10 x11 (some d) y13) ∧ s = st)
    (fun t hd ρ s hI => by
      obtain ⟨⟨y13, rfl⟩, rfl⟩ := hI
      have ht : noE t = true := by
        simp only [List.mem_cons, List.not_mem_nil, or_false] at hd
        rcases hd with rfl | rfl | rfl | rfl
        · rfl
        · rfl
        · rfl
        · exact ho.ne
      exact ⟨_, rfl, _, _, size_turn hn ht h, ⟨_, rfl⟩, rfl⟩)
    ⟨⟨_, rfl⟩, rfl⟩
  exact ⟨y13, ex_forL (xs := [.str "a 1950", .str "x", .non, o]) (s1 := s') rfl e⟩
theorem lits_e : litsE (ρl ns x1 K L x4 x5 x6 x7 (some o) x9 x10 x11 x12 x13) st = .ok (.lst (lits ++ [o])) st := by kernel_rfl
theorem lits_go (hn : noES st = true) (ho : Od o) : ∃ y12 y13, sForL litsE (g1 12) bodyB (ρl ns x1 K L x4 x5 x6 x7 (some o) x9 x10 x11 x12 x13) st = .nx (ρl ns x1 K L x4 x5 x6 x7 (some o) x9 x10 x11 y12 y13) st := by
  obtain ⟨ρ', s', e, ⟨y12, y13, rfl⟩, rfl⟩ := forL_inv (g := g1 12) (b := bodyB) (ds := lits ++ [o]) (ρ := ρl ns x1 K L x4 x5 x6 x7 (some o) x9 x10 x11 x12 x13) (st := st)
    (I := fun ρ s => (∃ y12 y13, ρ = ρl ns x1 K L x4 x5 x6 x7 (some o) x9 x10 x11 y12 y13) ∧ s = st)
    (fun d hd ρ s hI => by
      obtain ⟨⟨y12, y13, rfl⟩, rfl⟩ := hI
      have od : Od d := by
        rcases List.mem_append.mp hd with hd | hd
        · exact lits_ok d hd
        · rw [List.mem_singleton.mp hd]; exact ho
      obtain ⟨z13, e⟩ := sizes_turn (ns := ns) (x1 := x1) (K := K) (L := L) (x4 := x4) (x5 := x5) (x6 := x6) (x7 := x7) (x9 := x9) (x10 := x10) (x11 := x11) (x13 := y13) hn od ho
      exact ⟨_, rfl, _, _, e, ⟨_, _, rfl⟩, rfl⟩)
    ⟨⟨_, _, rfl⟩, rfl⟩
  exact ⟨y12, y13, ex_forL (xs := lits ++ [o]) (s1 := s') lits_e e⟩
end
end K73

set_option maxRecDepth 100000
set_option maxHeartbeats 1000000
namespace K73
open PySem PySem.Spec PyProof.Rows L2 Den
section
variable {ns : List Int} {k K L : Nat} {ks : List D} {qs : List Kd} {st : Store} {o x : D} {x1 x2 x3 x4 x5 x6 x7 x8 x9 x10 x11 x12 x13 : Option D}
theorem new_e {ρ : Rho} {st : Store} : newE ρ st = .ok (.ins 0 [.str "a", .int 1950, .int 75]) (st ++ [.dead]) := by
  unfold newE
  refine (make_eq (n := 2) (m := 0) (gD := gd_Bottle_2) (o := .str "a") (y := .int 1950) (s := .int 75) (ds := [.str "a", .int 1950]) (es := []) rfl rfl ⟨rfl, rfl⟩ rfl rfl (by decide +kernel) rfl rfl).trans ?_
  unfold madeR
  rw [if_pos (by decide +kernel), if_pos (by decide +kernel), if_pos (by decide +kernel)]
theorem Jt.dead (n : L ≠ K) (h : Jt K L ks st) : Jt K L ks (st ++ [.dead]) := h.go n (Go.app h.pot h.no rfl)
theorem add_lsts {a b : DE} {ρ : Rho} {st s1 s2 : Store} {u w : List D} (ha : a ρ st = .ok (.lst u) s1) (hb : b ρ s1 = .ok (.lst w) s2) (h : u.length + w.length ≤ 100000) : dAdd a b ρ st = .ok (.lst (u ++ w)) s2 := by
  refine ev_op ha hb ?_
  have : fCatL (.lst u) (.lst w) = some (.lst (u ++ w)) := by
    unfold fCatL
    dsimp only
    rw [if_pos h]
  unfold fAdd
  rw [this]
  rfl
/-! ### texts that are none -/
theorem size_d (nLK : L ≠ K) (j : Jt K L ks st) : ∃ s st', sizeE (ρl ns x1 K L x4 x5 x6 x7 x8 x9 x10 x11 x12 x13) st = .ok (.int s) st' ∧ litres s ∧ Jt K L ks st' := by
  obtain ⟨c, s2, c0, c1', e2, c2⟩ := draw (v := 2) (ρ := ρl ns x1 K L x4 x5 x6 x7 x8 x9 x10 x11 x12 x13) (e := dC (.int 3)) (far := 3) j.pot rfl rfl (by decide) (by decide)
  obtain ⟨x, hx, ex⟩ := ix_mem (xs := [.int 75, .int 37, .int 150]) (i := c) (st := s2) c0 (show c < (3 : Nat) from c1')
  have qn : ∃ n : Int, x = .int n ∧ litres n := by
    simp only [List.mem_cons, List.not_mem_nil, or_false] at hx
    rcases hx with rfl | rfl | rfl
    · exact ⟨_, rfl, .inl rfl⟩
    · exact ⟨_, rfl, .inr (.inl rfl)⟩
    · exact ⟨_, rfl, .inr (.inr rfl)⟩
  obtain ⟨n, rfl, hn⟩ := qn
  exact ⟨n, s2, ev_ix (x := .lst [.int 75, .int 37, .int 150]) (y := .int c) (s1 := st) rfl e2 ex, hn, j.chg nLK c2⟩
theorem text_turn (nLK : L ≠ K) (j : Jt K L ks st) {t : D} (ht : noE t = true) (kn : known t = true) (tx : isTxt t = false) : ∃ st', bodyC (ρl ns x1 K L x4 x5 x6 x7 x8 x9 x10 x11 x12 (some t)) st = .nx (ρl ns x1 K L x4 x5 x6 x7 x8 x9 x10 x11 x12 (some t)) st' ∧ Jt K L ks st' := by
  obtain ⟨s, s1, e, hs, j1⟩ := size_d (ns := ns) (x1 := x1) (x4 := x4) (x5 := x5) (x6 := x6) (x7 := x7) (x8 := x8) (x9 := x9) (x10 := x10) (x11 := x11) (x12 := x12) (x13 := some t) nLK j
  have a : asB (dOp2 fNe (dCallA 2 f__law_heard (dCons (dVar 13) (dCons sizeE dNil))) (dTup (dCons (dC (.str "text")) (dCons (dC (.int 0)) dNil)))) (ρl ns x1 K L x4 x5 x6 x7 x8 x9 x10 x11 x12 (some t)) st = .ok false s1 := ev_asB (ev_op (x := .tup [.str "text", .int 0]) (y := .tup [.str "text", .int 0]) (s1 := s1) (s2 := s1) (ev_call (xs := [t, .int s]) (s1 := s1) (ev_cons (s1 := st) rfl (ev_cons e rfl)) rfl (heard_text ht kn tx hs j1.no)) rfl (by kernel_rfl))
  exact ⟨s1, (ex_if a).trans (by rw [if_neg Bool.false_ne_true]; rfl), j1⟩
def texts (qs : List Kd) : List D := [.non, .int 0, .lst [.str "a 1950"], .tup [.str "a 1950"], .dic [] [], .ins 0 [.str "a", .int 1950, .int 75], .lst (qs.map Kd.b)]
theorem texts_ok {t : D} (h : t ∈ texts qs) : noE t = true ∧ known t = true ∧ isTxt t = false := by
  unfold texts at h
  simp only [List.mem_cons, List.not_mem_nil, or_false] at h
  rcases h with rfl | rfl | rfl | rfl | rfl | rfl | rfl
  · exact ⟨rfl, rfl, rfl⟩
  · exact ⟨rfl, rfl, rfl⟩
  · exact ⟨rfl, rfl, rfl⟩
  · exact ⟨rfl, rfl, rfl⟩
  · exact ⟨rfl, rfl, rfl⟩
  · exact ⟨rfl, rfl, rfl⟩
  · exact ⟨noE_row qs, rfl, rfl⟩
theorem texts_go (nLK : L ≠ K) (j : Jt K L ks st) : ∃ y13 st', sForL textsE (g1 13) bodyC (ρl ns x1 K L x4 (some (.lst (qs.map Kd.b))) x6 x7 x8 x9 x10 x11 x12 x13) st = .nx (ρl ns x1 K L x4 (some (.lst (qs.map Kd.b))) x6 x7 x8 x9 x10 x11 x12 y13) st' ∧ Jt K L ks st' := by
  have j0 := j.dead nLK
  have nw := new_e (ρ := ρl ns x1 K L x4 (some (.lst (qs.map Kd.b))) x6 x7 x8 x9 x10 x11 x12 x13) (st := st)
  generalize (st ++ [Cell.dead] : Store) = sq at j0 nw
  have te : textsE (ρl ns x1 K L x4 (some (.lst (qs.map Kd.b))) x6 x7 x8 x9 x10 x11 x12 x13) st = .ok (.lst (texts qs)) sq :=
    ev_lst (ev_cons (s1 := st) (x := .non) rfl (ev_cons (s1 := st) (x := .int 0) rfl (ev_cons (s1 := st) (x := .lst [.str "a 1950"]) rfl (ev_cons (s1 := st) (x := .tup [.str "a 1950"]) rfl (ev_cons (s1 := st) (x := .dic [] []) rfl (ev_cons nw (ev_cons (x := .lst (qs.map Kd.b)) (s1 := sq) rfl rfl))))))) (by show 7 ≤ 100000; decide)
  obtain ⟨ρ', s', e, ⟨y13, rfl⟩, j'⟩ := forL_inv (g := g1 13) (b := bodyC) (ds := texts qs) (ρ := ρl ns x1 K L x4 (some (.lst (qs.map Kd.b))) x6 x7 x8 x9 x10 x11 x12 x13) (st := sq)
    (I := fun ρ s => (∃ y13, ρ = ρl ns x1 K L x4 (some (.lst (qs.map Kd.b))) x6 x7 x8 x9 x10 x11 x12 y13) ∧ Jt K L ks s)
    (fun t hd ρ s hI => by
      obtain ⟨⟨y13, rfl⟩, jj⟩ := hI
      obtain ⟨t1, t2, t3⟩ := texts_ok hd
      obtain ⟨s', e, j'⟩ := text_turn (ns := ns) (x1 := x1) (x4 := x4) (x5 := some (.lst (qs.map Kd.b))) (x6 := x6) (x7 := x7) (x8 := x8) (x9 := x9) (x10 := x10) (x11 := x11) (x12 := x12) nLK jj t1 t2 t3
      exact ⟨_, rfl, _, _, e, ⟨_, rfl⟩, j'⟩)
    ⟨⟨_, rfl⟩, j0⟩
  exact ⟨y13, s', ex_forL (xs := texts qs) (s1 := sq) te e, j'⟩
/-! ### the things -/
theorem mid_e (h : qs.length ≤ 900) {i : Int} (i0 : 0 ≤ i) : midE (ρl ns x1 K L x4 (some (.lst (qs.map Kd.b))) (some (.int i)) x7 (some o) x9 x10 x11 x12 x13) st = .ok (.lst ((qs.map Kd.b).take i.toNat ++ [o] ++ (qs.map Kd.b).drop i.toNat)) st := by
  have l0 : (qs.map Kd.b).length ≤ 900 := by rw [List.length_map]; exact h
  have l1 : ((qs.map Kd.b).take i.toNat).length ≤ 900 := Nat.le_trans (List.length_take_le' _ _) l0
  have l2 : ((qs.map Kd.b).drop i.toNat).length ≤ 900 := by rw [List.length_drop]; omega
  have a : dSl (dVar 5) oNone (oSome (dVar 6)) (ρl ns x1 K L x4 (some (.lst (qs.map Kd.b))) (some (.int i)) x7 (some o) x9 x10 x11 x12 x13) st = .ok (.lst ((qs.map Kd.b).take i.toNat)) st := ev_sl (x := .lst (qs.map Kd.b)) (lo := none) (hi := some i) (s1 := st) (s2 := st) (s3 := st) rfl rfl rfl (sl_to i0)
  have b : dSl (dVar 5) (oSome (dVar 6)) oNone (ρl ns x1 K L x4 (some (.lst (qs.map Kd.b))) (some (.int i)) x7 (some o) x9 x10 x11 x12 x13) st = .ok (.lst ((qs.map Kd.b).drop i.toNat)) st := ev_sl (x := .lst (qs.map Kd.b)) (lo := some i) (hi := none) (s1 := st) (s2 := st) (s3 := st) rfl rfl rfl (sl_from i0)
  have c : dLst (dCons (dVar 8) dNil) (ρl ns x1 K L x4 (some (.lst (qs.map Kd.b))) (some (.int i)) x7 (some o) x9 x10 x11 x12 x13) st = .ok (.lst [o]) st := ev_lst (ev_cons (x := o) (s1 := st) rfl rfl) (by rw [List.length_singleton]; decide)
  exact add_lsts (add_lsts a c (by rw [List.length_singleton]; omega)) b (by rw [List.length_append, List.length_singleton]; omega)
def things (qs : List Kd) (i : Nat) (o : D) : List D := [.lst ((qs.map Kd.b).take i ++ [o] ++ (qs.map Kd.b).drop i), .tup (qs.map Kd.b), .dic [.inl 0] [.lst (qs.map Kd.b)], .non, .str "a 1950", .lst [.lst (qs.map Kd.b)], .ins 0 [.str "a", .int 1950, .int 75], o]
theorem things_ok (h : qs.length ≤ 900) (ho : Od o) {i : Nat} : ∀ d ∈ things qs i o, Thing d := fun d hd => by
  unfold things at hd
  simp only [List.mem_cons, List.not_mem_nil, or_false] at hd
  rcases hd with rfl | rfl | rfl | rfl | rfl | rfl | rfl | rfl
  · exact .inl (mid_th ho h)
  · exact .inl (tup_th h)
  · exact .inl (dic_th h)
  · exact .inl non_th
  · exact .inl str_th
  · exact .inl (lst1_th h)
  · exact .inl bot_th
  · exact odd_thing ho
theorem some_e (h : qs.length ≤ 900) {i : Int} (i0 : 0 ≤ i) : someE (ρl ns x1 K L x4 (some (.lst (qs.map Kd.b))) (some (.int i)) x7 (some o) x9 x10 x11 x12 x13) st = .ok (.lst (things qs i.toNat o)) (st ++ [.dead]) := by
  have nw := new_e (ρ := ρl ns x1 K L x4 (some (.lst (qs.map Kd.b))) (some (.int i)) x7 (some o) x9 x10 x11 x12 x13) (st := st)
  generalize (st ++ [Cell.dead] : Store) = sq at nw ⊢
  have tp : dCB (one gTuple) (dCons (dVar 5) dNil) (ρl ns x1 K L x4 (some (.lst (qs.map Kd.b))) (some (.int i)) x7 (some o) x9 x10 x11 x12 x13) st = .ok (.tup (qs.map Kd.b)) st := rfl
  have di : dDicV 0 5 (ρl ns x1 K L x4 (some (.lst (qs.map Kd.b))) (some (.int i)) x7 (some o) x9 x10 x11 x12 x13) st = .ok (.dic [.inl 0] [.lst (qs.map Kd.b)]) st := rfl
  have l1 : dLst (dCons (dVar 5) dNil) (ρl ns x1 K L x4 (some (.lst (qs.map Kd.b))) (some (.int i)) x7 (some o) x9 x10 x11 x12 x13) st = .ok (.lst [.lst (qs.map Kd.b)]) st := ev_lst (ev_cons (x := .lst (qs.map Kd.b)) (s1 := st) rfl rfl) (by rw [List.length_singleton]; decide)
  exact ev_lst (ev_cons (mid_e h i0) (ev_cons tp (ev_cons di (ev_cons (s1 := st) (x := .non) rfl (ev_cons (s1 := st) (x := .str "a 1950") rfl (ev_cons l1 (ev_cons nw (ev_cons (x := o) (s1 := sq) rfl rfl)))))))) (by show 8 ≤ 100000; decide)
/-! ### one turn -/
theorem turn_d (nLK : L ≠ K) (j : Jt K L ks st) (h0 : 0 < ks.length) (h1 : ks.length ≤ 1000) (hk : ∀ d ∈ ks, isK d) : ∃ y5 y6 y7 y8 y9 y10 y11 y12 y13 st', turnB (ρl ns x1 K L x4 x5 x6 x7 x8 x9 x10 x11 x12 x13) st = .nx (ρl ns x1 K L x4 y5 y6 y7 y8 y9 y10 y11 y12 y13) st' ∧ Jt K L ks st' := by
  obtain ⟨n, s1, n0, n1, e1, c1⟩ := draw (v := 2) (ρ := ρl ns x1 K L x4 x5 x6 x7 x8 x9 x10 x11 x12 x13) (e := dC (.int 5)) (far := 5) j.pot rfl rfl (by decide) (by decide)
  have j1 := j.chg nLK c1
  obtain ⟨qs, s2, e2, lq, j2⟩ := bottles_d nLK j1 h0 h1 hk n0 (by omega)
  have lq4 : qs.length ≤ 4 := by omega
  have q1 : sSet 5 botE (ρl ns x1 K L x4 x5 x6 x7 x8 x9 x10 x11 x12 x13) st = .nx (ρl ns x1 K L x4 (some (.lst (qs.map Kd.b))) x6 x7 x8 x9 x10 x11 x12 x13) s2 := ex_set (ev_call (xs := [.box K, .box L, .int n]) (s1 := s1) (ev_cons (s1 := st) rfl (ev_cons (s1 := st) rfl (ev_cons e1 rfl))) rfl e2)
  have ln : dAdd (dCB (one gLen) (dCons (dVar 5) dNil)) (dC (.int 1)) (ρl ns x1 K L x4 (some (.lst (qs.map Kd.b))) x6 x7 x8 x9 x10 x11 x12 x13) s2 = .ok (.int (qs.length + 1)) s2 := by
    refine add_ints (i := qs.length) (s1 := s2) ?_ rfl
    refine ev_cb1 (x := .lst (qs.map Kd.b)) (s1 := s2) rfl ?_
    unfold gLen itemsOf
    simp
  obtain ⟨i, s3, i0, i1, e3, c3⟩ := draw (v := 2) (ρ := ρl ns x1 K L x4 (some (.lst (qs.map Kd.b))) x6 x7 x8 x9 x10 x11 x12 x13) j2.pot rfl ln (by omega) (by omega)
  have j3 := j2.chg nLK c3
  obtain ⟨o1, s4, e4, ho1, c4⟩ := odd_d j3.pot
  have j4 := j3.chg nLK c4
  have oe : oddsE (ρl ns x1 K L x4 (some (.lst (qs.map Kd.b))) x6 x7 x8 x9 x10 x11 x12 x13) s3 = .ok (.lst (odd5 ++ [o1])) s4 :=
    ev_lst (ev_cons (s1 := s3) (x := .non) rfl (ev_cons (s1 := s3) (x := .str "a 1950") rfl (ev_cons (s1 := s3) (x := .int 7) rfl (ev_cons (s1 := s3) (x := .tup [.str "a", .int 1950, .int 75]) rfl (ev_cons (s1 := s3) (x := .lst []) rfl (ev_cons (ev_call (xs := [.box K]) (s1 := s3) rfl rfl e4) rfl)))))) (by show 6 ≤ 100000; decide)
  have q2 : parB (ρl ns x1 K L x4 (some (.lst (qs.map Kd.b))) x6 x7 x8 x9 x10 x11 x12 x13) s2 = .nx (ρl ns x1 K L x4 (some (.lst (qs.map Kd.b))) (some (.int i)) (some (.lst (odd5 ++ [o1]))) x8 x9 x10 x11 x12 x13) s4 := ex_par (ev_cons e3 (ev_cons oe rfl))
  obtain ⟨c, s5, c0, c1', e5, c5⟩ := draw (v := 2) (ρ := ρl ns x1 K L x4 (some (.lst (qs.map Kd.b))) (some (.int i)) (some (.lst (odd5 ++ [o1]))) x8 x9 x10 x11 x12 x13) (e := dC (.int 6)) (far := 6) j4.pot rfl rfl (by decide) (by decide)
  have j5 := j4.chg nLK c5
  obtain ⟨o, ho, ix⟩ := ix_mem (xs := odd5 ++ [o1]) (st := s5) c0 (show c < (6 : Nat) from c1')
  have od : Od o := by
    rcases List.mem_append.mp ho with h | h
    · exact odd5_ok o h
    · rw [List.mem_singleton.mp h]; exact ho1
  have q3 : sSet 8 oddE (ρl ns x1 K L x4 (some (.lst (qs.map Kd.b))) (some (.int i)) (some (.lst (odd5 ++ [o1]))) x8 x9 x10 x11 x12 x13) s4 = .nx (ρl ns x1 K L x4 (some (.lst (qs.map Kd.b))) (some (.int i)) (some (.lst (odd5 ++ [o1]))) (some o) x9 x10 x11 x12 x13) s5 := ex_set (ev_ix (x := .lst (odd5 ++ [o1])) (y := .int c) (s1 := s4) rfl e5 ix)
  have se := some_e (ns := ns) (x1 := x1) (K := K) (L := L) (x4 := x4) (x7 := some (.lst (odd5 ++ [o1]))) (x9 := x9) (x10 := x10) (x11 := x11) (x12 := x12) (x13 := x13) (st := s5) (o := o) (qs := qs) (by omega) i0
  have j6 := j5.dead nLK
  generalize (s5 ++ [Cell.dead] : Store) = s6 at se j6
  have q4 : sSet 9 someE (ρl ns x1 K L x4 (some (.lst (qs.map Kd.b))) (some (.int i)) (some (.lst (odd5 ++ [o1]))) (some o) x9 x10 x11 x12 x13) s5 = .nx (ρl ns x1 K L x4 (some (.lst (qs.map Kd.b))) (some (.int i)) (some (.lst (odd5 ++ [o1]))) (some o) (some (.lst (things qs i.toNat o))) x10 x11 x12 x13) s6 := ex_set se
  obtain ⟨y10, y11, e7⟩ := things_go (ns := ns) (x1 := x1) (K := K) (L := L) (x4 := x4) (x5 := some (.lst (qs.map Kd.b))) (x6 := some (.int i)) (x7 := some (.lst (odd5 ++ [o1]))) (x8 := some o) (x9 := some (.lst (things qs i.toNat o))) (x10 := x10) (x11 := x11) (x12 := x12) (x13 := x13) j6.no (things_ok (qs := qs) (i := i.toNat) (by omega) od)
  have q5 := ex_forL (it := dVar 9) (xs := things qs i.toNat o) (s1 := s6) rfl e7
  obtain ⟨y12, y13, q6⟩ := lits_go (ns := ns) (x1 := x1) (K := K) (L := L) (x4 := x4) (x5 := some (.lst (qs.map Kd.b))) (x6 := some (.int i)) (x7 := some (.lst (odd5 ++ [o1]))) (x9 := some (.lst (things qs i.toNat o))) (x10 := y10) (x11 := y11) (x12 := x12) (x13 := x13) j6.no od
  obtain ⟨z13, s7, q7, j7⟩ := texts_go (ns := ns) (x1 := x1) (x4 := x4) (qs := qs) (x6 := some (.int i)) (x7 := some (.lst (odd5 ++ [o1]))) (x8 := some o) (x9 := some (.lst (things qs i.toNat o))) (x10 := y10) (x11 := y11) (x12 := y12) (x13 := y13) nLK j6
  exact ⟨_, _, _, _, _, _, _, _, _, s7, ex_seq q1 (ex_seq q2 (ex_seq q3 (ex_seq q4 (ex_seq q5 (ex_seq q6 q7))))), j7⟩
theorem cell_d (no : noES st = true) : ∃ y2 y3 y4 y5 y6 y7 y8 y9 y10 y11 y12 y13 st', cellB [some (.ro (ns.map D.int)), some (.int k), x2, x3, x4, x5, x6, x7, x8, x9, x10, x11, x12, x13] st = .nx [some (.ro (ns.map D.int)), some (.int k), y2, y3, y4, y5, y6, y7, y8, y9, y10, y11, y12, y13] st' ∧ noES st' = true := by
  obtain ⟨c, e⟩ := Com.cell_d (ns := ns) (k := k) (st := st)
  obtain ⟨v, e2⟩ := Com.pot_d (c := c) (st := st)
  obtain ⟨K, hK⟩ : ∃ K, K = st.length := ⟨_, rfl⟩
  rw [← hK] at e2
  have a1 : dCallA 2 f__law_cell_at (dCons (dVar 0) (dCons (dVar 1) dNil)) [some (.ro (ns.map D.int)), some (.int k), x2, x3, x4, x5, x6, x7, x8, x9, x10, x11, x12, x13] st = .ok (.int c) st := ev_call (xs := [.ro (ns.map D.int), .int k]) (s1 := st) rfl rfl e
  have q1 := ex_set (i := 2) (ev_call (n := 1) (f := f__law_pot) (xs := [.int c]) (s1 := st) (ev_cons (r := dNil) a1 rfl) rfl e2)
  have pt : Pot K (st ++ [.lst [.int v]]) := ⟨v, by rw [hK]; simp⟩
  have no1 : noES (st ++ [.lst [.int v]]) = true := noES_app no rfl
  generalize (st ++ [.lst [.int v]] : Store) = sq at *
  obtain ⟨L, ks, s1, e3, nLK, _, hk, h0, h1, hKK, g⟩ := kinds_d pt no1
  have a2 : dCallA 1 f__law_kinds (dCons (dVar 2) dNil) [some (.ro (ns.map D.int)), some (.int k), some (.box K), x3, x4, x5, x6, x7, x8, x9, x10, x11, x12, x13] sq = .ok (.box L) s1 := ev_call (xs := [.box K]) (s1 := sq) rfl rfl e3
  have q2 := ex_set (i := 3) a2
  obtain ⟨ρ', s2, e4, ⟨y4, y5, y6, y7, y8, y9, y10, y11, y12, y13, rfl⟩, j2⟩ := forL_inv (g := g1 4) (b := turnB) (ds := rangeD 0 (8 : Int).toNat) (ρ := ρl ns (some (.int k)) K L x4 x5 x6 x7 x8 x9 x10 x11 x12 x13) (st := s1)
    (I := fun ρ s => (∃ y4 y5 y6 y7 y8 y9 y10 y11 y12 y13, ρ = ρl ns (some (.int k)) K L y4 y5 y6 y7 y8 y9 y10 y11 y12 y13) ∧ Jt K L ks s)
    (fun d hd ρ s hI => by
      obtain ⟨⟨y4, y5, y6, y7, y8, y9, y10, y11, y12, y13, rfl⟩, jj⟩ := hI
      obtain ⟨z5, z6, z7, z8, z9, z10, z11, z12, z13, s', e, j'⟩ := turn_d (ns := ns) (x1 := some (.int k)) (x4 := some d) (x5 := y5) (x6 := y6) (x7 := y7) (x8 := y8) (x9 := y9) (x10 := y10) (x11 := y11) (x12 := y12) (x13 := y13) nLK jj h0 h1 hKK
      exact ⟨_, rfl, _, _, e, ⟨_, _, _, _, _, _, _, _, _, _, rfl⟩, j'⟩)
    ⟨⟨_, _, _, _, _, _, _, _, _, _, rfl⟩, ⟨g.pot, g.noE, hk⟩⟩
  have q3 := ex_forR1 (r := dCons (dC (.int 8)) dNil) (j := 8) (s1 := s1) (ρ := ρl ns (some (.int k)) K L x4 x5 x6 x7 x8 x9 x10 x11 x12 x13) (st := s1) rfl (by decide) e4
  exact ⟨_, _, _, _, _, _, _, _, _, _, _, _, s2, ex_seq q1 (ex_seq q2 q3), j2.no⟩
end
theorem mirror (ns : List Int) (h : ns.length ≤ 63) : ∃ st, f_law [.ro (ns.map D.int)] [] = .ok (.bl true) st := by
  obtain ⟨n, e0, hn⟩ := Com.cells_d (ns := ns) (m := 4) (rest := List.replicate 13 none) (st := []) (by decide) (by decide)
  obtain ⟨ρ', st', e, hI⟩ := forL_inv (g := g1 1) (b := cellB) (ds := rangeD 0 n.toNat) (ρ := some (.ro (ns.map D.int)) :: List.replicate 13 none) (st := [])
    (I := fun ρ s => (∃ y1 y2 y3 y4 y5 y6 y7 y8 y9 y10 y11 y12 y13, ρ = [some (.ro (ns.map D.int)), y1, y2, y3, y4, y5, y6, y7, y8, y9, y10, y11, y12, y13]) ∧ noES s = true)
    (fun d hd ρ s hI => by
      obtain ⟨⟨y1, y2, y3, y4, y5, y6, y7, y8, y9, y10, y11, y12, y13, rfl⟩, hn⟩ := hI
      obtain ⟨k, hk, rfl⟩ := mem_range hd
      rw [Int.zero_add]
      obtain ⟨z2, z3, z4, z5, z6, z7, z8, z9, z10, z11, z12, z13, s1, e, h1⟩ := cell_d (ns := ns) (k := k) (st := s) (x2 := y2) (x3 := y3) (x4 := y4) (x5 := y5) (x6 := y6) (x7 := y7) (x8 := y8) (x9 := y9) (x10 := y10) (x11 := y11) (x12 := y12) (x13 := y13) hn
      exact ⟨_, rfl, _, _, e, ⟨_, _, _, _, _, _, _, _, _, _, _, _, _, rfl⟩, h1⟩)
    ⟨⟨_, _, _, _, _, _, _, _, _, _, _, _, _, rfl⟩, rfl⟩
  refine ⟨st', Den.run (N := 14) (n := 1) (m := m_law) (r := .ret (.bl true) st') rfl ?_ rfl⟩
  rw [law_cut]
  exact ex_seq (s1 := st') (ex_forR1 (j := n) (s1 := []) e0 hn e) rfl
end K73

set_option maxRecDepth 100000
set_option maxHeartbeats 4000000
namespace K73
open PySem PySem.Spec PyProof.Rows L2 Den
def tagC (cs : List Addr) : Tag → Value
  | .ty n => .type n
  | .ow c => .ref (cs.getD c 0)
/-- isinstance may be asked of it -/
def vB (K : PySem.W.Frag) (a : Addr) : Bool := PySem.W.subIn K (.ref a) (.type "BaseException") == some true && (PySem.W.findIn K (.ref a) "__getattribute__" == some (some (.builtin "BaseException.__getattribute__")) && (PySem.W.findIn K (.ref a) "__getattr__" == some none && (PySem.W.hasDictIn K a &&
  (PySem.W.findIn K (.ref a) "__class__" == some (some (.builtin "object.__class__")) && (PySem.W.specialIn K (.builtin "object.__class__") "__get__" == some (some (.builtin "getset_descriptor.__get__")) && (PySem.W.takesIn K (.builtin "object.__class__") == some true && PySem.W.mroIn K a (.type "object") == some true))))))
/-- made with nothing -/
def nB (K : PySem.W.Frag) (a : Addr) : Bool := PySem.W.excIn K a veB "ValueError.__new__" && (PySem.W.keepIn K (.ref a) && (PySem.W.subIn K (.ref a) (.type "BaseException") == some true && PySem.W.typeIn K (.ref a) == some (.type "type")))
/-- made with fields -/
def iB (K : PySem.W.Frag) (a : Addr) (fs : List Str) (bm : List Value) (nid : String) : Bool := PySem.W.excInitIn K a bm nid && (PySem.W.excOver K a bm && (PySem.W.hasDictIn K a && (PySem.W.findIn K (.ref a) "__setattr__" == some (some (.builtin "object.__setattr__")) && (PySem.W.keepIn K (.ref a) && (PySem.W.typeIn K (.ref a) == some (.type "type") && (fs.all fun f => PySem.W.findIn K (.ref a) f == some none))))))
/-- isinstance may be asked of its instances -/
def ownB (K : PySem.W.Frag) (a : Addr) : Bool := PySem.W.findIn K (.ref a) "__class__" == some (some (.builtin "object.__class__")) && (PySem.W.specialIn K (.builtin "object.__class__") "__get__" == some (some (.builtin "getset_descriptor.__get__")) && (PySem.W.takesIn K (.builtin "object.__class__") == some true && PySem.W.mroIn K a (.type "object") == some true))
def errN : List Nat := [1, 2, 3, 5]
def errW : List (Nat × List Str × Bool) := [(17, (["line"] : List Str), true)]
def bmOf (b : Bool) : List Value := if b = true then veB else leB
def nidOf (b : Bool) : String := if b = true then "ValueError.__new__" else "LookupError.__new__"
def chk (K : PySem.W.Frag) (cs : List Addr) : Bool := ((tyTab ++ errTab).all fun q => PySem.W.kitOne K (tagC cs q.1) (tagC cs q.2.1) == some q.2.2) && ((heldC.all fun c => PySem.W.exmOne K (.ref (cs.getD c 0)) (.ref (cs.getD 19 0)) == some true) &&
  ((heldC.all fun c => vB K (cs.getD c 0)) && ((errN.all fun c => nB K (cs.getD c 0)) && ((errW.all fun z => iB K (cs.getD z.1 0) z.2.1 (bmOf z.2.2) (nidOf z.2.2)) && ([0] : List Nat).all fun c => ownB K (cs.getD c 0)))))
def txt (K : PySem.W.Frag) (cs fs : List Addr) : Txt := ⟨K, fun i => cs.getD i 0, fun i => fs.getD i 0, fun i => if i = 0 then ([("maker" : Str), "year", "size"]) else if i = 17 then ([("line" : Str)]) else []⟩
theorem and2 {a b : Bool} (h : (a && b) = true) : a = true ∧ b = true := (Bool.and_eq_true a b).mp h
theorem tag_eq (K : PySem.W.Frag) (cs fs : List Addr) (t : Tag) : tagV (txt K cs fs) t = tagC cs t := by cases t <;> rfl
theorem v_ok {K : PySem.W.Frag} {a : Addr} (h : vB K a = true) : ExcC K a := by
  unfold vB at h
  obtain ⟨h1, h⟩ := and2 h
  obtain ⟨h2, h⟩ := and2 h
  obtain ⟨h3, h⟩ := and2 h
  obtain ⟨h4, h⟩ := and2 h
  obtain ⟨h5, h⟩ := and2 h
  obtain ⟨h6, h⟩ := and2 h
  obtain ⟨h7, h8⟩ := and2 h
  exact ⟨eq_of_beq h2, eq_of_beq h3, eq_of_beq h1, h4, eq_of_beq h5, eq_of_beq h6, eq_of_beq h7, eq_of_beq h8⟩
theorem n_ok {K : PySem.W.Frag} {cs fs : List Addr} {c : Nat} (h : nB K (cs.getD c 0) = true) : ExcK (txt K cs fs) c := by
  unfold nB at h
  obtain ⟨h1, h⟩ := and2 h
  obtain ⟨h2, h⟩ := and2 h
  obtain ⟨h3, h4⟩ := and2 h
  exact ⟨h1, h2, eq_of_beq h3, eq_of_beq h4⟩
theorem i_ok {K : PySem.W.Frag} {a : Addr} {fs : List Str} {bm : List Value} {nid : String} (h : iB K a fs bm nid = true) : ErrK K a bm nid ∧ (∀ f ∈ fs, PySem.W.findIn K (.ref a) f = some none) ∧ PySem.W.typeIn K (.ref a) = some (.type "type") := by
  unfold iB at h
  obtain ⟨h1, h⟩ := and2 h
  obtain ⟨h2, h⟩ := and2 h
  obtain ⟨h3, h⟩ := and2 h
  obtain ⟨h4, h⟩ := and2 h
  obtain ⟨h5, h⟩ := and2 h
  obtain ⟨h6, h7⟩ := and2 h
  exact ⟨⟨h1, h2, h3, eq_of_beq h4, h5⟩, fun f hf => eq_of_beq (List.all_eq_true.mp h7 f hf), eq_of_beq h6⟩
theorem own_k {K : PySem.W.Frag} {cs fs : List Addr} {c : Nat} (h : ownB K (cs.getD c 0) = true) (hc : ClsD (txt K cs fs) c) : ClsI (txt K cs fs) c := by
  unfold ownB at h
  obtain ⟨h1, h⟩ := and2 h
  obtain ⟨h2, h⟩ := and2 h
  obtain ⟨h3, h4⟩ := and2 h
  exact ⟨hc, eq_of_beq h1, eq_of_beq h2, eq_of_beq h3, eq_of_beq h4⟩
theorem chk_ok {K : PySem.W.Frag} {cs fs : List Addr} (h : chk K cs = true) : IsT (txt K cs fs) isT ∧ (∀ c ∈ heldC, ExcC K (cs.getD c 0)) ∧ (∀ c ∈ errN, ExcK (txt K cs fs) c) ∧ (∀ z ∈ errW, ErrK K (cs.getD z.1 0) (bmOf z.2.2) (nidOf z.2.2) ∧ (∀ f ∈ z.2.1, PySem.W.findIn K (.ref (cs.getD z.1 0)) f = some none) ∧ PySem.W.typeIn K (.ref (cs.getD z.1 0)) = some (.type "type")) ∧
    (∀ c b, cth_CellarError c = some b → PySem.W.exmOne K (.ref (cs.getD c 0)) (.ref (cs.getD 19 0)) = some b) ∧ ∀ c ∈ ([0] : List Nat), ownB K (cs.getD c 0) = true := by
  obtain ⟨h1, h⟩ := and2 h
  obtain ⟨h2, h⟩ := and2 h
  obtain ⟨h3, h⟩ := and2 h
  obtain ⟨h4, h⟩ := and2 h
  obtain ⟨h5, h6⟩ := and2 h
  refine ⟨isTab_ok fun q hq => ?_, fun c hc => v_ok (List.all_eq_true.mp h3 c hc), fun c hc => n_ok (List.all_eq_true.mp h4 c hc), fun z hz => i_ok (List.all_eq_true.mp h5 z hz), fun c b e => ?_, fun c hc => List.all_eq_true.mp h6 c hc⟩
  · rw [tag_eq, tag_eq]
    exact eq_of_beq (List.all_eq_true.mp h1 q hq)
  · unfold cth_CellarError at e
    split at e
    · rename_i hc
      cases e
      exact eq_of_beq (List.all_eq_true.mp h2 c hc)
    · cases e
theorem errF_of {T : Txt} {c : Nat} {bm : List Value} {nid : String} (v : ExcC T.K (T.ca c)) (k : ErrK T.K (T.ca c) bm nid) (n : ∀ f ∈ T.fl c, PySem.W.findIn T.K (.ref (T.ca c)) f = some none) : ErrF T c := ⟨⟨v.hg, v.hk, v.hs, k.hd⟩, n⟩
theorem all {w : World} {K : PySem.W.Frag} {h : Heap} {mg : Str → Option Value} {fa : Addr} (X : K.In h) (G : h.Ns mainGlobals mg) (hfa : mg "law" = some (.ref fa))
    {f0 f1 f2 f3 f4 f5 f6 f7 f8 f9 f10 f11 f12 f13 f14 f15 f16 f17 f18 f19 f20 f21 f22 f23 f24 f25 f26 c0 c1 c2 c3 c4 c5 c6 c7 c8 c9 c10 c11 c12 c13 c14 c15 c16 c17 c18 c19 c20 c21 c22 tD7 tD13 tD26 p_SIZES : Addr}
    {oc0 oc1 oc2 oc3 oc4 oc5 oc6 oc7 oc8 oc9 oc10 oc11 oc12 oc13 oc14 oc15 oc16 oc17 oc18 oc19 oc20 oc21 oc22 oc23 oc24 oc25 oc26 : Value} {od0 od1 od2 od3 od4 od5 od6 od7 od8 od9 od10 od11 od12 od13 od14 od15 od16 od17 od18 od19 od20 od21 od22 od23 od24 od25 od26 : Option Addr} {an0 an1 an2 an3 an4 an5 an6 an7 an8 an9 an10 an11 an12 an13 an14 an15 an16 an17 an18 an19 an20 an21 an22 an23 an24 an25 an26 : Option Addr} {kV0 kV1 kV2 kV3 kV4 kV5 kV6 kV7 kV8 kV9 kV10 kV11 kV12 kV13 kV14 kV15 kV16 kV17 kV18 kV19 kV20 kV21 kV22 kV23 kV24 kV25 kV26 : Value} {dc0 dc1 dc2 dc3 dc4 dc5 dc6 dc7 dc8 dc9 dc10 dc11 dc12 dc13 dc14 dc15 dc16 dc17 dc18 dc19 dc20 dc21 dc22 dc23 dc24 dc25 dc26 : Value} {pm0 pm1 pm2 pm3 pm4 pm5 pm6 pm7 pm8 pm9 pm10 pm11 pm12 pm13 pm14 pm15 pm16 pm17 pm18 pm19 pm20 pm21 pm22 pm23 pm24 pm25 pm26 : Value} {cd0 cd1 cd2 cd3 cd4 cd5 cd6 cd7 cd8 cd9 cd10 cd11 cd12 cd13 cd14 cd15 cd16 cd17 cd18 cd19 cd20 cd21 cd22 cd23 cd24 cd25 cd26 : Value} {ct0 ct1 ct2 ct3 ct4 ct5 ct6 ct7 ct8 ct9 ct10 ct11 ct12 ct13 ct14 ct15 ct16 ct17 ct18 ct19 ct20 ct21 ct22 ct23 ct24 ct25 ct26 : Value} {sl0 sl1 sl2 sl3 sl4 sl5 sl6 sl7 sl8 sl9 sl10 sl11 sl12 sl13 sl14 sl15 sl16 sl17 sl18 sl19 sl20 sl21 sl22 sl23 sl24 sl25 sl26 : Array (Option Value)}
    {oD7 : Value} {dD7 : Option Addr} {nD7 : Nat} {t7 : Tok} {slD7 : Array (Option Value)} {oD13 : Value} {dD13 : Option Addr} {nD13 : Nat} {t13 : Tok} {slD13 : Array (Option Value)} {oD26 : Value} {dD26 : Option Addr} {nD26 : Nat} {t26 : Tok} {slD26 : Array (Option Value)}
    {t_USUAL_SIZE : Tok} {t_MOST_FIGURES : Tok}
    {d_SIZES : Option Addr} {n_SIZES : Nat} {t_SIZES0 t_SIZES1 t_SIZES2 : Tok} {s_SIZES : Array (Option Value)}
    (ac0 : PySem.W.nsIn K mainGlobals "Bottle" = some (some (.ref c0)))
    (ac1 : PySem.W.nsIn K mainGlobals "NoMaker" = some (some (.ref c1)))
    (ac2 : PySem.W.nsIn K mainGlobals "NoYear" = some (some (.ref c2)))
    (ac3 : PySem.W.nsIn K mainGlobals "NoSize" = some (some (.ref c3)))
    (ac4 : PySem.W.nsIn K mainGlobals "NoBottle" = some (some (.ref c4)))
    (ac5 : PySem.W.nsIn K mainGlobals "NoBottles" = some (some (.ref c5)))
    (ac6 : PySem.W.nsIn K mainGlobals "NoRooms" = some (some (.ref c6)))
    (ac7 : PySem.W.nsIn K mainGlobals "NoHold" = some (some (.ref c7)))
    (ac8 : PySem.W.nsIn K mainGlobals "NoMonth" = some (some (.ref c8)))
    (ac9 : PySem.W.nsIn K mainGlobals "NoWho" = some (some (.ref c9)))
    (ac10 : PySem.W.nsIn K mainGlobals "NoSet" = some (some (.ref c10)))
    (ac11 : PySem.W.nsIn K mainGlobals "NoDeed" = some (some (.ref c11)))
    (ac12 : PySem.W.nsIn K mainGlobals "NoWishes" = some (some (.ref c12)))
    (ac13 : PySem.W.nsIn K mainGlobals "NoLine" = some (some (.ref c13)))
    (ac14 : PySem.W.nsIn K mainGlobals "NoNumber" = some (some (.ref c14)))
    (ac15 : PySem.W.nsIn K mainGlobals "NoPlace" = some (some (.ref c15)))
    (ac16 : PySem.W.nsIn K mainGlobals "TooMany" = some (some (.ref c16)))
    (ac17 : PySem.W.nsIn K mainGlobals "NoText" = some (some (.ref c17)))
    (ac18 : PySem.W.nsIn K mainGlobals "HereError" = some (some (.ref c18)))
    (ac19 : PySem.W.nsIn K mainGlobals "CellarError" = some (some (.ref c19)))
    (ac20 : PySem.W.nsIn K mainGlobals "Full" = some (some (.ref c20)))
    (ac21 : PySem.W.nsIn K mainGlobals "Gone" = some (some (.ref c21)))
    (ac22 : PySem.W.nsIn K mainGlobals "Kept" = some (some (.ref c22)))
    (a0 : PySem.W.nsIn K mainGlobals "is_whole" = some (some (.ref f0)))
    (l0 : K.lookup f0 = some ⟨oc0, od0, .func (PySem.W.fnOf "is_whole" "is_whole" (defArgs st_is_whole) (defBody st_is_whole) (defScope st_is_whole) .none kV0 dc0 pm0 an0 cd0 ct0), sl0⟩)
    (q0 : PySem.W.codeIn K cd0 "is_whole" = true)
    (k0 : PySem.W.keepIn K (.ref f0) = true)
    (a1 : PySem.W.nsIn K mainGlobals "is_within" = some (some (.ref f1)))
    (l1 : K.lookup f1 = some ⟨oc1, od1, .func (PySem.W.fnOf "is_within" "is_within" (defArgs st_is_within) (defBody st_is_within) (defScope st_is_within) .none kV1 dc1 pm1 an1 cd1 ct1), sl1⟩)
    (q1 : PySem.W.codeIn K cd1 "is_within" = true)
    (k1 : PySem.W.keepIn K (.ref f1) = true)
    (a2 : PySem.W.nsIn K mainGlobals "is_year" = some (some (.ref f2)))
    (l2 : K.lookup f2 = some ⟨oc2, od2, .func (PySem.W.fnOf "is_year" "is_year" (defArgs st_is_year) (defBody st_is_year) (defScope st_is_year) .none kV2 dc2 pm2 an2 cd2 ct2), sl2⟩)
    (q2 : PySem.W.codeIn K cd2 "is_year" = true)
    (k2 : PySem.W.keepIn K (.ref f2) = true)
    (a3 : PySem.W.nsIn K mainGlobals "is_word" = some (some (.ref f3)))
    (l3 : K.lookup f3 = some ⟨oc3, od3, .func (PySem.W.fnOf "is_word" "is_word" (defArgs st_is_word) (defBody st_is_word) (defScope st_is_word) .none kV3 dc3 pm3 an3 cd3 ct3), sl3⟩)
    (q3 : PySem.W.codeIn K cd3 "is_word" = true)
    (k3 : PySem.W.keepIn K (.ref f3) = true)
    (a4 : PySem.W.nsIn K mainGlobals "is_maker" = some (some (.ref f4)))
    (l4 : K.lookup f4 = some ⟨oc4, od4, .func (PySem.W.fnOf "is_maker" "is_maker" (defArgs st_is_maker) (defBody st_is_maker) (defScope st_is_maker) .none kV4 dc4 pm4 an4 cd4 ct4), sl4⟩)
    (q4 : PySem.W.codeIn K cd4 "is_maker" = true)
    (k4 : PySem.W.keepIn K (.ref f4) = true)
    (a5 : PySem.W.nsIn K mainGlobals "whole_in" = some (some (.ref f5)))
    (l5 : K.lookup f5 = some ⟨oc5, od5, .func (PySem.W.fnOf "whole_in" "whole_in" (defArgs st_whole_in) (defBody st_whole_in) (defScope st_whole_in) .none kV5 dc5 pm5 an5 cd5 ct5), sl5⟩)
    (q5 : PySem.W.codeIn K cd5 "whole_in" = true)
    (k5 : PySem.W.keepIn K (.ref f5) = true)
    (a6 : PySem.W.nsIn K mainGlobals "is_size" = some (some (.ref f6)))
    (l6 : K.lookup f6 = some ⟨oc6, od6, .func (PySem.W.fnOf "is_size" "is_size" (defArgs st_is_size) (defBody st_is_size) (defScope st_is_size) .none kV6 dc6 pm6 an6 cd6 ct6), sl6⟩)
    (q6 : PySem.W.codeIn K cd6 "is_size" = true)
    (k6 : PySem.W.keepIn K (.ref f6) = true)
    (a7 : PySem.W.findIn K (.ref c0) "__init__" = some (some (.ref f7)))
    (l7 : K.lookup f7 = some ⟨oc7, od7, .func (PySem.W.fnOf "__init__" "Bottle.__init__" (defArgs st_Bottle) (defBody st_Bottle) (defScope st_Bottle) (.ref tD7) kV7 dc7 pm7 an7 cd7 ct7), sl7⟩)
    (q7 : PySem.W.codeIn K cd7 "Bottle.__init__" = true)
    (k7 : PySem.W.keepIn K (.ref f7) = true)
    (fi7 : PySem.W.isFn K (.ref f7) = true)
    (a8 : PySem.W.findIn K (.ref c0) "__str__" = some (some (.ref f8)))
    (l8 : K.lookup f8 = some ⟨oc8, od8, .func (PySem.W.fnOf "__str__" "Bottle.__str__" (defArgs st_Bottle___str__) (defBody st_Bottle___str__) (defScope st_Bottle___str__) .none kV8 dc8 pm8 an8 cd8 ct8), sl8⟩)
    (q8 : PySem.W.codeIn K cd8 "Bottle.__str__" = true)
    (k8 : PySem.W.keepIn K (.ref f8) = true)
    (fi8 : PySem.W.isFn K (.ref f8) = true)
    (a9 : PySem.W.findIn K (.ref c0) "__repr__" = some (some (.ref f9)))
    (l9 : K.lookup f9 = some ⟨oc9, od9, .func (PySem.W.fnOf "__repr__" "Bottle.__repr__" (defArgs st_Bottle___repr__) (defBody st_Bottle___repr__) (defScope st_Bottle___repr__) .none kV9 dc9 pm9 an9 cd9 ct9), sl9⟩)
    (q9 : PySem.W.codeIn K cd9 "Bottle.__repr__" = true)
    (k9 : PySem.W.keepIn K (.ref f9) = true)
    (fi9 : PySem.W.isFn K (.ref f9) = true)
    (a10 : PySem.W.nsIn K mainGlobals "are_bottles" = some (some (.ref f10)))
    (l10 : K.lookup f10 = some ⟨oc10, od10, .func (PySem.W.fnOf "are_bottles" "are_bottles" (defArgs st_are_bottles) (defBody st_are_bottles) (defScope st_are_bottles) .none kV10 dc10 pm10 an10 cd10 ct10), sl10⟩)
    (q10 : PySem.W.codeIn K cd10 "are_bottles" = true)
    (k10 : PySem.W.keepIn K (.ref f10) = true)
    (a11 : PySem.W.nsIn K mainGlobals "written" = some (some (.ref f11)))
    (l11 : K.lookup f11 = some ⟨oc11, od11, .func (PySem.W.fnOf "written" "written" (defArgs st_written) (defBody st_written) (defScope st_written) .none kV11 dc11 pm11 an11 cd11 ct11), sl11⟩)
    (q11 : PySem.W.codeIn K cd11 "written" = true)
    (k11 : PySem.W.keepIn K (.ref f11) = true)
    (a12 : PySem.W.nsIn K mainGlobals "_bottle_in" = some (some (.ref f12)))
    (l12 : K.lookup f12 = some ⟨oc12, od12, .func (PySem.W.fnOf "_bottle_in" "_bottle_in" (defArgs st__bottle_in) (defBody st__bottle_in) (defScope st__bottle_in) .none kV12 dc12 pm12 an12 cd12 ct12), sl12⟩)
    (q12 : PySem.W.codeIn K cd12 "_bottle_in" = true)
    (k12 : PySem.W.keepIn K (.ref f12) = true)
    (a13 : PySem.W.nsIn K mainGlobals "read" = some (some (.ref f13)))
    (l13 : K.lookup f13 = some ⟨oc13, od13, .func (PySem.W.fnOf "read" "read" (defArgs st_read) (defBody st_read) (defScope st_read) (.ref tD13) kV13 dc13 pm13 an13 cd13 ct13), sl13⟩)
    (q13 : PySem.W.codeIn K cd13 "read" = true)
    (k13 : PySem.W.keepIn K (.ref f13) = true)
    (a14 : PySem.W.nsIn K mainGlobals "_law_cell_at" = some (some (.ref f14)))
    (l14 : K.lookup f14 = some ⟨oc14, od14, .func (PySem.W.fnOf "_law_cell_at" "_law_cell_at" (defArgs st__law_cell_at) (defBody st__law_cell_at) (defScope st__law_cell_at) .none kV14 dc14 pm14 an14 cd14 ct14), sl14⟩)
    (q14 : PySem.W.codeIn K cd14 "_law_cell_at" = true)
    (k14 : PySem.W.keepIn K (.ref f14) = true)
    (a15 : PySem.W.nsIn K mainGlobals "_law_pot" = some (some (.ref f15)))
    (l15 : K.lookup f15 = some ⟨oc15, od15, .func (PySem.W.fnOf "_law_pot" "_law_pot" (defArgs st__law_pot) (defBody st__law_pot) (defScope st__law_pot) .none kV15 dc15 pm15 an15 cd15 ct15), sl15⟩)
    (q15 : PySem.W.codeIn K cd15 "_law_pot" = true)
    (k15 : PySem.W.keepIn K (.ref f15) = true)
    (a16 : PySem.W.nsIn K mainGlobals "_law_take" = some (some (.ref f16)))
    (l16 : K.lookup f16 = some ⟨oc16, od16, .func (PySem.W.fnOf "_law_take" "_law_take" (defArgs st__law_take) (defBody st__law_take) (defScope st__law_take) .none kV16 dc16 pm16 an16 cd16 ct16), sl16⟩)
    (q16 : PySem.W.codeIn K cd16 "_law_take" = true)
    (k16 : PySem.W.keepIn K (.ref f16) = true)
    (a17 : PySem.W.nsIn K mainGlobals "_law_mixed" = some (some (.ref f17)))
    (l17 : K.lookup f17 = some ⟨oc17, od17, .func (PySem.W.fnOf "_law_mixed" "_law_mixed" (defArgs st__law_mixed) (defBody st__law_mixed) (defScope st__law_mixed) .none kV17 dc17 pm17 an17 cd17 ct17), sl17⟩)
    (q17 : PySem.W.codeIn K cd17 "_law_mixed" = true)
    (k17 : PySem.W.keepIn K (.ref f17) = true)
    (a18 : PySem.W.nsIn K mainGlobals "_law_odd" = some (some (.ref f18)))
    (l18 : K.lookup f18 = some ⟨oc18, od18, .func (PySem.W.fnOf "_law_odd" "_law_odd" (defArgs st__law_odd) (defBody st__law_odd) (defScope st__law_odd) .none kV18 dc18 pm18 an18 cd18 ct18), sl18⟩)
    (q18 : PySem.W.codeIn K cd18 "_law_odd" = true)
    (k18 : PySem.W.keepIn K (.ref f18) = true)
    (a19 : PySem.W.nsIn K mainGlobals "_law_kinds" = some (some (.ref f19)))
    (l19 : K.lookup f19 = some ⟨oc19, od19, .func (PySem.W.fnOf "_law_kinds" "_law_kinds" (defArgs st__law_kinds) (defBody st__law_kinds) (defScope st__law_kinds) .none kV19 dc19 pm19 an19 cd19 ct19), sl19⟩)
    (q19 : PySem.W.codeIn K cd19 "_law_kinds" = true)
    (k19 : PySem.W.keepIn K (.ref f19) = true)
    (a20 : PySem.W.nsIn K mainGlobals "_law_word" = some (some (.ref f20)))
    (l20 : K.lookup f20 = some ⟨oc20, od20, .func (PySem.W.fnOf "_law_word" "_law_word" (defArgs st__law_word) (defBody st__law_word) (defScope st__law_word) .none kV20 dc20 pm20 an20 cd20 ct20), sl20⟩)
    (q20 : PySem.W.codeIn K cd20 "_law_word" = true)
    (k20 : PySem.W.keepIn K (.ref f20) = true)
    (a21 : PySem.W.nsIn K mainGlobals "_law_kind_of" = some (some (.ref f21)))
    (l21 : K.lookup f21 = some ⟨oc21, od21, .func (PySem.W.fnOf "_law_kind_of" "_law_kind_of" (defArgs st__law_kind_of) (defBody st__law_kind_of) (defScope st__law_kind_of) .none kV21 dc21 pm21 an21 cd21 ct21), sl21⟩)
    (q21 : PySem.W.codeIn K cd21 "_law_kind_of" = true)
    (k21 : PySem.W.keepIn K (.ref f21) = true)
    (a22 : PySem.W.nsIn K mainGlobals "_law_bottles" = some (some (.ref f22)))
    (l22 : K.lookup f22 = some ⟨oc22, od22, .func (PySem.W.fnOf "_law_bottles" "_law_bottles" (defArgs st__law_bottles) (defBody st__law_bottles) (defScope st__law_bottles) .none kV22 dc22 pm22 an22 cd22 ct22), sl22⟩)
    (q22 : PySem.W.codeIn K cd22 "_law_bottles" = true)
    (k22 : PySem.W.keepIn K (.ref f22) = true)
    (a23 : PySem.W.nsIn K mainGlobals "_law_heard" = some (some (.ref f23)))
    (l23 : K.lookup f23 = some ⟨oc23, od23, .func (PySem.W.fnOf "_law_heard" "_law_heard" (defArgs st__law_heard) (defBody st__law_heard) (defScope st__law_heard) .none kV23 dc23 pm23 an23 cd23 ct23), sl23⟩)
    (q23 : PySem.W.codeIn K cd23 "_law_heard" = true)
    (k23 : PySem.W.keepIn K (.ref f23) = true)
    (a24 : PySem.W.nsIn K mainGlobals "_law_written_so" = some (some (.ref f24)))
    (l24 : K.lookup f24 = some ⟨oc24, od24, .func (PySem.W.fnOf "_law_written_so" "_law_written_so" (defArgs st__law_written_so) (defBody st__law_written_so) (defScope st__law_written_so) .none kV24 dc24 pm24 an24 cd24 ct24), sl24⟩)
    (q24 : PySem.W.codeIn K cd24 "_law_written_so" = true)
    (k24 : PySem.W.keepIn K (.ref f24) = true)
    (a25 : PySem.W.nsIn K mainGlobals "law" = some (some (.ref f25)))
    (l25 : K.lookup f25 = some ⟨oc25, od25, .func (PySem.W.fnOf "law" "law" (defArgs st_law) (defBody st_law) (defScope st_law) .none kV25 dc25 pm25 an25 cd25 ct25), sl25⟩)
    (q25 : PySem.W.codeIn K cd25 "law" = true)
    (k25 : PySem.W.keepIn K (.ref f25) = true)
    (a26 : PySem.W.findIn K (.ref c17) "__init__" = some (some (.ref f26)))
    (l26 : K.lookup f26 = some ⟨oc26, od26, .func (PySem.W.fnOf "__init__" "NoText.__init__" (defArgs st_NoText) (defBody st_NoText) (defScope st_NoText) (.ref tD26) kV26 dc26 pm26 an26 cd26 ct26), sl26⟩)
    (q26 : PySem.W.codeIn K cd26 "NoText.__init__" = true)
    (k26 : PySem.W.keepIn K (.ref f26) = true)
    (fi26 : PySem.W.isFn K (.ref f26) = true)
    (lD7 : K.lookup tD7 = some ⟨oD7, dD7, .seq #[.int 75 t7] nD7, slD7⟩)
    (lD13 : K.lookup tD13 = some ⟨oD13, dD13, .seq #[.int 75 t13] nD13, slD13⟩)
    (lD26 : K.lookup tD26 = some ⟨oD26, dD26, .seq #[.int 0 t26] nD26, slD26⟩)
    (b_int : PySem.W.nsIn K mainGlobals "int" = some none)
    (b_bool : PySem.W.nsIn K mainGlobals "bool" = some none)
    (b_str : PySem.W.nsIn K mainGlobals "str" = some none)
    (b_list : PySem.W.nsIn K mainGlobals "list" = some none)
    (b_tuple : PySem.W.nsIn K mainGlobals "tuple" = some none)
    (b_ValueError : PySem.W.nsIn K mainGlobals "ValueError" = some none)
    (b_LookupError : PySem.W.nsIn K mainGlobals "LookupError" = some none)
    (b_isinstance : PySem.W.nsIn K mainGlobals "isinstance" = some none)
    (b_len : PySem.W.nsIn K mainGlobals "len" = some none)
    (b_all : PySem.W.nsIn K mainGlobals "all" = some none)
    (b_max : PySem.W.nsIn K mainGlobals "max" = some none)
    (b_min : PySem.W.nsIn K mainGlobals "min" = some none)
    (b_range : PySem.W.nsIn K mainGlobals "range" = some none)
    (b_repr : PySem.W.nsIn K mainGlobals "repr" = some none)
    (b_enumerate : PySem.W.nsIn K mainGlobals "enumerate" = some none)
    (v_SIZES : PySem.W.nsIn K mainGlobals "SIZES" = some (some (.ref p_SIZES)))
    (w_SIZES : K.lookup p_SIZES = some ⟨.type "tuple", d_SIZES, .seq #[.int 37 t_SIZES0, .int 75 t_SIZES1, .int 150 t_SIZES2] n_SIZES, s_SIZES⟩)
    (v_USUAL_SIZE : PySem.W.nsIn K mainGlobals "USUAL_SIZE" = some (some (.int 75 t_USUAL_SIZE)))
    (v_MOST_FIGURES : PySem.W.nsIn K mainGlobals "MOST_FIGURES" = some (some (.int 40 t_MOST_FIGURES)))
    (pg_Bottle : PySem.W.plainGet K c0 Str.empty = true)
    (hd_Bottle : PySem.W.hasDictIn K c0 = true)
    (po_Bottle : PySem.W.plainOver K c0 = true)
    (sa_Bottle : PySem.W.findIn K (.ref c0) "__setattr__" = some (some (.builtin "object.__setattr__")))
    (n0_Bottle : PySem.W.findIn K (.ref c0) "maker" = some none)
    (n1_Bottle : PySem.W.findIn K (.ref c0) "year" = some none)
    (n2_Bottle : PySem.W.findIn K (.ref c0) "size" = some none)
    (mk_Bottle : PySem.W.makesIn K c0 = true)
    (kc_Bottle : PySem.W.keepIn K (.ref c0) = true)
    (ck : chk K [c0, c1, c2, c3, c4, c5, c6, c7, c8, c9, c10, c11, c12, c13, c14, c15, c16, c17, c18, c19, c20, c21, c22] = true) :
    ∃ (T : Txt) (fd : FuncData) (m : DF), T.K = K ∧ (∀ (s : Shared) (u : Value), BindsTo s fd ⟨[u], []⟩ [("_law_script", u)]) ∧ (∀ ns : List Int, ns.length ≤ 63 → ∃ st, m [.ro (ns.map D.int)] [] = .ok (.bl true) st) ∧
        ∀ base : Heap, T.K.In base → base.Ns mainGlobals mg → FnG P w T.K mg base 10 fa fd ["_law_script"] (spM T 1 m) := by
  have e := hfa.symm.trans (PySem.W.mg_of X G a25)
  have e' : f25 = fa := by cases e; rfl
  subst e'
  obtain ⟨g1, g2, g3, g4, g5, g6⟩ := chk_ok (fs := [f0, f1, f2, f3, f4, f5, f6, f7, f8, f9, f10, f11, f12, f13, f14, f15, f16, f17, f18, f19, f20, f21, f22, f23, f24, f25, f26]) ck
  have cD_Bottle : ClsD (txt K [c0, c1, c2, c3, c4, c5, c6, c7, c8, c9, c10, c11, c12, c13, c14, c15, c16, c17, c18, c19, c20, c21, c22] [f0, f1, f2, f3, f4, f5, f6, f7, f8, f9, f10, f11, f12, f13, f14, f15, f16, f17, f18, f19, f20, f21, f22, f23, f24, f25, f26]) 0 := ⟨⟨pg_Bottle, hd_Bottle, po_Bottle, sa_Bottle⟩, (fun f hf => by
      rcases List.mem_cons.mp hf with h1 | hf
      · rw [h1]; exact n0_Bottle
      rcases List.mem_cons.mp hf with h1 | hf
      · rw [h1]; exact n1_Bottle
      rcases List.mem_cons.mp hf with h1 | hf
      · rw [h1]; exact n2_Bottle
      exact absurd hf List.not_mem_nil), (show ([("maker" : Str), "year", "size"]).Nodup by decide +kernel), (show 3 < 900 by decide)⟩
  have w_NoText := g4 (17, (["line"] : List Str), true) (by simp [errW])
  have Z : Facts (txt K [c0, c1, c2, c3, c4, c5, c6, c7, c8, c9, c10, c11, c12, c13, c14, c15, c16, c17, c18, c19, c20, c21, c22] [f0, f1, f2, f3, f4, f5, f6, f7, f8, f9, f10, f11, f12, f13, f14, f15, f16, f17, f18, f19, f20, f21, f22, f23, f24, f25, f26]) mg := {
    isT := g1
    own := fun c hc => by rw [List.mem_singleton.mp hc]; exact own_k (g6 0 (by simp)) cD_Bottle
    held := g2
    k_CellarError := g5
    i_Bottle := cD_Bottle
    f_Bottle := rfl
    g_USUAL_SIZE := ⟨.int 75, .int 75 t_USUAL_SIZE, ⟨fun xp G ι => .int _⟩, ⟨_, rfl⟩, PySem.W.mg_of X G v_USUAL_SIZE⟩
    g_MOST_FIGURES := ⟨.int 40, .int 40 t_MOST_FIGURES, ⟨fun xp G ι => .int _⟩, ⟨_, rfl⟩, PySem.W.mg_of X G v_MOST_FIGURES⟩
    g_SIZES := ⟨.ref p_SIZES, .ref p_SIZES, ⟨fun xp G' ι => .tup (xs := [.int 37, .int 75, .int 150]) (.inr ⟨_, _, _, w_SIZES, rfl, rfl, (show 3 ≤ sizeLine by decide), .cons ⟨_, rfl⟩ (.cons ⟨_, rfl⟩ (.cons ⟨_, rfl⟩ .nil))⟩) (.cons (.int _) (.cons (.int _) (.cons (.int _) .nil)))⟩, rfl, PySem.W.mg_of X G v_SIZES⟩
    e_NoMaker := g3 1 (by decide)
    e_NoYear := g3 2 (by decide)
    e_NoSize := g3 3 (by decide)
    e_NoBottles := g3 5 (by decide)
    f_NoText := rfl
    r_NoText := errF_of (g2 17 (by decide)) w_NoText.1 w_NoText.2.1
    i_NoText := w_NoText.1
    n_NoText := w_NoText.2.1
    b1_NoText := (g2 17 (by decide)).hs
    b2_NoText := w_NoText.2.2
    b_int := PySem.W.mg_none_of X G b_int
    b_bool := PySem.W.mg_none_of X G b_bool
    b_str := PySem.W.mg_none_of X G b_str
    b_list := PySem.W.mg_none_of X G b_list
    b_tuple := PySem.W.mg_none_of X G b_tuple
    b_ValueError := PySem.W.mg_none_of X G b_ValueError
    b_LookupError := PySem.W.mg_none_of X G b_LookupError
    b_isinstance := PySem.W.mg_none_of X G b_isinstance
    b_len := PySem.W.mg_none_of X G b_len
    b_all := PySem.W.mg_none_of X G b_all
    b_max := PySem.W.mg_none_of X G b_max
    b_min := PySem.W.mg_none_of X G b_min
    b_range := PySem.W.mg_none_of X G b_range
    b_repr := PySem.W.mg_none_of X G b_repr
    b_enumerate := PySem.W.mg_none_of X G b_enumerate
    c_Bottle := PySem.W.mg_of X G ac0
    c_NoMaker := PySem.W.mg_of X G ac1
    c_NoYear := PySem.W.mg_of X G ac2
    c_NoSize := PySem.W.mg_of X G ac3
    c_NoBottle := PySem.W.mg_of X G ac4
    c_NoBottles := PySem.W.mg_of X G ac5
    c_NoRooms := PySem.W.mg_of X G ac6
    c_NoHold := PySem.W.mg_of X G ac7
    c_NoMonth := PySem.W.mg_of X G ac8
    c_NoWho := PySem.W.mg_of X G ac9
    c_NoSet := PySem.W.mg_of X G ac10
    c_NoDeed := PySem.W.mg_of X G ac11
    c_NoWishes := PySem.W.mg_of X G ac12
    c_NoLine := PySem.W.mg_of X G ac13
    c_NoNumber := PySem.W.mg_of X G ac14
    c_NoPlace := PySem.W.mg_of X G ac15
    c_TooMany := PySem.W.mg_of X G ac16
    c_NoText := PySem.W.mg_of X G ac17
    c_HereError := PySem.W.mg_of X G ac18
    c_CellarError := PySem.W.mg_of X G ac19
    c_Full := PySem.W.mg_of X G ac20
    c_Gone := PySem.W.mg_of X G ac21
    c_Kept := PySem.W.mg_of X G ac22 }
  have F25 := fun_mk (st := st_law) l25 q25 k25
  refine ⟨txt K [c0, c1, c2, c3, c4, c5, c6, c7, c8, c9, c10, c11, c12, c13, c14, c15, c16, c17, c18, c19, c20, c21, c22] [f0, f1, f2, f3, f4, f5, f6, f7, f8, f9, f10, f11, f12, f13, f14, f15, f16, f17, f18, f19, f20, f21, f22, f23, f24, f25, f26], PySem.W.fnOf "law" "law" (defArgs st_law) (defBody st_law) (defScope st_law) .none kV25 dc25 pm25 an25 cd25 ct25, f_law, rfl, fun s u => ?_, mirror, fun base _ _ => ?_⟩
  · exact .of_eq rfl
  · skip
    have M_NoText := ok_NoText (w := w) (base := base) Z ⟨_, ⟨⟨_, _, _, _, _, _, _, _, _, _, rfl, l26, q26, .inr ⟨by simp, tD26, _, [.int 0 t26], nD26, rfl, lD26, rfl, .cons ⟨_, rfl⟩ .nil⟩, .inl rfl⟩, k26⟩⟩ a26 (eq_of_beq fi26)
    have D_is_whole := ok_is_whole (w := w) (base := base) Z  ⟨⟨_, fun_mk (st := st_is_whole) l0 q0 k0⟩⟩ (PySem.W.mg_of X G a0)
    have D_is_within := ok_is_within (w := w) (base := base) Z D_is_whole ⟨⟨_, fun_mk (st := st_is_within) l1 q1 k1⟩⟩ (PySem.W.mg_of X G a1)
    have D_is_year := ok_is_year (w := w) (base := base) Z D_is_within ⟨⟨_, fun_mk (st := st_is_year) l2 q2 k2⟩⟩ (PySem.W.mg_of X G a2)
    have D_is_word := ok_is_word (w := w) (base := base) Z  ⟨⟨_, fun_mk (st := st_is_word) l3 q3 k3⟩⟩ (PySem.W.mg_of X G a3)
    have D_is_maker := ok_is_maker (w := w) (base := base) Z D_is_word ⟨⟨_, fun_mk (st := st_is_maker) l4 q4 k4⟩⟩ (PySem.W.mg_of X G a4)
    have D_whole_in := ok_whole_in (w := w) (base := base) Z  ⟨⟨_, fun_mk (st := st_whole_in) l5 q5 k5⟩⟩ (PySem.W.mg_of X G a5)
    have D_is_size := ok_is_size (w := w) (base := base) Z D_is_whole ⟨⟨_, fun_mk (st := st_is_size) l6 q6 k6⟩⟩ (PySem.W.mg_of X G a6)
    have MB_Bottle := ok_Bottle (w := w) (base := base) Z D_is_maker D_is_size D_is_year ⟨mk_Bottle, a7, fi7, kc_Bottle⟩ ⟨_, ⟨⟨_, _, _, _, _, _, _, _, _, _, rfl, l7, q7, .inr ⟨by simp, tD7, _, [.int 75 t7], nD7, rfl, lD7, rfl, .cons ⟨_, rfl⟩ .nil⟩, .inl rfl⟩, k7⟩⟩
    have O___str__ := ok_Bottle___str__ (w := w) (mg := mg) (base := base) Z  ⟨⟨_, fun_mk (st := st_Bottle___str__) l8 q8 k8⟩⟩ ⟨a8, fi8, k8⟩
    have R___repr__ := ok_Bottle___repr__ (w := w) (mg := mg) (base := base) Z  ⟨⟨_, fun_mk (st := st_Bottle___repr__) l9 q9 k9⟩⟩ ⟨a9, fi9, k9⟩
    have D_are_bottles := ok_are_bottles (w := w) (base := base) Z  ⟨⟨_, fun_mk (st := st_are_bottles) l10 q10 k10⟩⟩ (PySem.W.mg_of X G a10)
    have D_written := ok_written (w := w) (base := base) Z D_are_bottles O___str__ ⟨⟨_, fun_mk (st := st_written) l11 q11 k11⟩⟩ (PySem.W.mg_of X G a11)
    have D__bottle_in := ok__bottle_in (w := w) (base := base) Z D_is_maker D_is_size D_is_year D_whole_in MB_Bottle ⟨⟨_, fun_mk (st := st__bottle_in) l12 q12 k12⟩⟩ (PySem.W.mg_of X G a12)
    have K_read := ok_read (w := w) (base := base) Z D__bottle_in D_is_size M_NoText ⟨⟨_, ⟨⟨_, _, _, _, _, _, _, _, _, _, rfl, l13, q13, .inr ⟨by simp, tD13, _, [.int 75 t13], nD13, rfl, lD13, rfl, .cons ⟨_, rfl⟩ .nil⟩, .inl rfl⟩, k13⟩⟩⟩ (PySem.W.mg_of X G a13)
    have D__law_cell_at := ok__law_cell_at (w := w) (base := base) Z  ⟨⟨_, fun_mk (st := st__law_cell_at) l14 q14 k14⟩⟩ (PySem.W.mg_of X G a14)
    have D__law_pot := ok__law_pot (w := w) (base := base) Z  ⟨⟨_, fun_mk (st := st__law_pot) l15 q15 k15⟩⟩ (PySem.W.mg_of X G a15)
    have D__law_take := ok__law_take (w := w) (base := base) Z  ⟨⟨_, fun_mk (st := st__law_take) l16 q16 k16⟩⟩ (PySem.W.mg_of X G a16)
    have D__law_mixed := ok__law_mixed (w := w) (base := base) Z D__law_take ⟨⟨_, fun_mk (st := st__law_mixed) l17 q17 k17⟩⟩ (PySem.W.mg_of X G a17)
    have D__law_odd := ok__law_odd (w := w) (base := base) Z D__law_take ⟨⟨_, fun_mk (st := st__law_odd) l18 q18 k18⟩⟩ (PySem.W.mg_of X G a18)
    have D__law_kinds := ok__law_kinds (w := w) (base := base) Z D__law_mixed D__law_take ⟨⟨_, fun_mk (st := st__law_kinds) l19 q19 k19⟩⟩ (PySem.W.mg_of X G a19)
    have H__law_word := ok__law_word (w := w) (base := base) Z  ⟨⟨_, fun_mk (st := st__law_word) l20 q20 k20⟩⟩ (PySem.W.mg_of X G a20)
    have D__law_kind_of := ok__law_kind_of (w := w) (base := base) Z  ⟨⟨_, fun_mk (st := st__law_kind_of) l21 q21 k21⟩⟩ (PySem.W.mg_of X G a21)
    have D__law_bottles := ok__law_bottles (w := w) (base := base) Z D__law_take MB_Bottle ⟨⟨_, fun_mk (st := st__law_bottles) l22 q22 k22⟩⟩ (PySem.W.mg_of X G a22)
    have D__law_heard := ok__law_heard (w := w) (base := base) Z D__law_kind_of H__law_word K_read ⟨⟨_, fun_mk (st := st__law_heard) l23 q23 k23⟩⟩ (PySem.W.mg_of X G a23)
    have D__law_written_so := ok__law_written_so (w := w) (base := base) Z D_written H__law_word ⟨⟨_, fun_mk (st := st__law_written_so) l24 q24 k24⟩⟩ (PySem.W.mg_of X G a24)
    exact ok_law_fd (w := w) (base := base) Z D__law_bottles D__law_cell_at D__law_heard D__law_kinds D__law_odd D__law_pot D__law_take D__law_written_so R___repr__ hm_r MB_Bottle F25
end K73

open PySem PySem.W PyProof.Rows
set_option maxRecDepth 100000 in
set_option maxHeartbeats 0 in
theorem PySem.Challenge.cw_dimcellar_k73_lists_refused_holds : PySem.Challenge.rw_dimcellar_k73_lists_refused.Holds := by
  w_on; o_law; k_head; (case hw => w_witness2)
  k_fill
  refine Den.walk_den (n := 63) (k := 10) (x := "_law_script") rfl (by decide) rfl ⟨⟨rfl, by decide, by decide⟩, rfl⟩ (fun w h Y => PySem.W.kIn_of Y) ?F
  case F =>
    intro w mg fa h KX G hmg
    refine' K73.all KX G hmg ?ac0 ?ac1 ?ac2 ?ac3 ?ac4 ?ac5 ?ac6 ?ac7 ?ac8 ?ac9 ?ac10 ?ac11 ?ac12 ?ac13 ?ac14 ?ac15 ?ac16 ?ac17 ?ac18 ?ac19 ?ac20 ?ac21 ?ac22 ?a0 ?l0 ?q0 ?k0 ?a1 ?l1 ?q1 ?k1 ?a2 ?l2 ?q2 ?k2 ?a3 ?l3 ?q3 ?k3 ?a4 ?l4 ?q4 ?k4 ?a5 ?l5 ?q5 ?k5 ?a6 ?l6 ?q6 ?k6 ?a7 ?l7 ?q7 ?k7 ?fi7 ?a8 ?l8 ?q8 ?k8 ?fi8 ?a9 ?l9 ?q9 ?k9 ?fi9 ?a10 ?l10 ?q10 ?k10 ?a11 ?l11 ?q11 ?k11 ?a12 ?l12 ?q12 ?k12 ?a13 ?l13 ?q13 ?k13 ?a14 ?l14 ?q14 ?k14 ?a15 ?l15 ?q15 ?k15 ?a16 ?l16 ?q16 ?k16 ?a17 ?l17 ?q17 ?k17 ?a18 ?l18 ?q18 ?k18 ?a19 ?l19 ?q19 ?k19 ?a20 ?l20 ?q20 ?k20 ?a21 ?l21 ?q21 ?k21 ?a22 ?l22 ?q22 ?k22 ?a23 ?l23 ?q23 ?k23 ?a24 ?l24 ?q24 ?k24 ?a25 ?l25 ?q25 ?k25 ?a26 ?l26 ?q26 ?k26 ?fi26 ?lD7 ?lD13 ?lD26 ?b_int ?b_bool ?b_str ?b_list ?b_tuple ?b_ValueError ?b_LookupError ?b_isinstance ?b_len ?b_all ?b_max ?b_min ?b_range ?b_repr ?b_enumerate ?v_SIZES ?w_SIZES ?v_USUAL_SIZE ?v_MOST_FIGURES ?pg_Bottle ?hd_Bottle ?po_Bottle ?sa_Bottle ?n0_Bottle ?n1_Bottle ?n2_Bottle ?mk_Bottle ?kc_Bottle ?ck
    (case ac0 => k_is)
    (case ac1 => k_is)
    (case ac2 => k_is)
    (case ac3 => k_is)
    (case ac4 => k_is)
    (case ac5 => k_is)
    (case ac6 => k_is)
    (case ac7 => k_is)
    (case ac8 => k_is)
    (case ac9 => k_is)
    (case ac10 => k_is)
    (case ac11 => k_is)
    (case ac12 => k_is)
    (case ac13 => k_is)
    (case ac14 => k_is)
    (case ac15 => k_is)
    (case ac16 => k_is)
    (case ac17 => k_is)
    (case ac18 => k_is)
    (case ac19 => k_is)
    (case ac20 => k_is)
    (case ac21 => k_is)
    (case ac22 => k_is)
    (case a0 => k_is)
    (case l0 => k_is)
    (case q0 => k_is)
    (case k0 => k_is)
    (case a1 => k_is)
    (case l1 => k_is)
    (case q1 => k_is)
    (case k1 => k_is)
    (case a2 => k_is)
    (case l2 => k_is)
    (case q2 => k_is)
    (case k2 => k_is)
    (case a3 => k_is)
    (case l3 => k_is)
    (case q3 => k_is)
    (case k3 => k_is)
    (case a4 => k_is)
    (case l4 => k_is)
    (case q4 => k_is)
    (case k4 => k_is)
    (case a5 => k_is)
    (case l5 => k_is)
    (case q5 => k_is)
    (case k5 => k_is)
    (case a6 => k_is)
    (case l6 => k_is)
    (case q6 => k_is)
    (case k6 => k_is)
    (case a7 => k_is)
    (case l7 => k_is)
    (case q7 => k_is)
    (case k7 => k_is)
    (case fi7 => k_is)
    (case a8 => k_is)
    (case l8 => k_is)
    (case q8 => k_is)
    (case k8 => k_is)
    (case fi8 => k_is)
    (case a9 => k_is)
    (case l9 => k_is)
    (case q9 => k_is)
    (case k9 => k_is)
    (case fi9 => k_is)
    (case a10 => k_is)
    (case l10 => k_is)
    (case q10 => k_is)
    (case k10 => k_is)
    (case a11 => k_is)
    (case l11 => k_is)
    (case q11 => k_is)
    (case k11 => k_is)
    (case a12 => k_is)
    (case l12 => k_is)
    (case q12 => k_is)
    (case k12 => k_is)
    (case a13 => k_is)
    (case l13 => k_is)
    (case q13 => k_is)
    (case k13 => k_is)
    (case a14 => k_is)
    (case l14 => k_is)
    (case q14 => k_is)
    (case k14 => k_is)
    (case a15 => k_is)
    (case l15 => k_is)
    (case q15 => k_is)
    (case k15 => k_is)
    (case a16 => k_is)
    (case l16 => k_is)
    (case q16 => k_is)
    (case k16 => k_is)
    (case a17 => k_is)
    (case l17 => k_is)
    (case q17 => k_is)
    (case k17 => k_is)
    (case a18 => k_is)
    (case l18 => k_is)
    (case q18 => k_is)
    (case k18 => k_is)
    (case a19 => k_is)
    (case l19 => k_is)
    (case q19 => k_is)
    (case k19 => k_is)
    (case a20 => k_is)
    (case l20 => k_is)
    (case q20 => k_is)
    (case k20 => k_is)
    (case a21 => k_is)
    (case l21 => k_is)
    (case q21 => k_is)
    (case k21 => k_is)
    (case a22 => k_is)
    (case l22 => k_is)
    (case q22 => k_is)
    (case k22 => k_is)
    (case a23 => k_is)
    (case l23 => k_is)
    (case q23 => k_is)
    (case k23 => k_is)
    (case a24 => k_is)
    (case l24 => k_is)
    (case q24 => k_is)
    (case k24 => k_is)
    (case a25 => k_is)
    (case l25 => k_is)
    (case q25 => k_is)
    (case k25 => k_is)
    (case a26 => k_is)
    (case l26 => k_is)
    (case q26 => k_is)
    (case k26 => k_is)
    (case fi26 => k_is)
    (case lD7 => k_is)
    (case lD13 => k_is)
    (case lD26 => k_is)
    (case b_int => k_is)
    (case b_bool => k_is)
    (case b_str => k_is)
    (case b_list => k_is)
    (case b_tuple => k_is)
    (case b_ValueError => k_is)
    (case b_LookupError => k_is)
    (case b_isinstance => k_is)
    (case b_len => k_is)
    (case b_all => k_is)
    (case b_max => k_is)
    (case b_min => k_is)
    (case b_range => k_is)
    (case b_repr => k_is)
    (case b_enumerate => k_is)
    (case v_SIZES => k_is)
    (case w_SIZES => k_is)
    (case v_USUAL_SIZE => k_is)
    (case v_MOST_FIGURES => k_is)
    (case pg_Bottle => k_is)
    (case hd_Bottle => k_is)
    (case po_Bottle => k_is)
    (case sa_Bottle => k_is)
    (case n0_Bottle => k_is)
    (case n1_Bottle => k_is)
    (case n2_Bottle => k_is)
    (case mk_Bottle => k_is)
    (case kc_Bottle => k_is)
    (case ck => kernel_rfl)

