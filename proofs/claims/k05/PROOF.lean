import PyProof.Rows.All
import Wide.All
import OpenK.AllK
import Wide.FinOn
import HandS.ForMost
import HandS.TupAny
import HandS.Deep
import HandS.Style
import HandS.StrMore
import HandS.Codes
import HandS.IsInst
import PySem.Challenge.RW_givesifgets_k05_tokens_and_their_places
set_option Elab.async false
set_option linter.all false
set_option maxRecDepth 100000
namespace Y
open PySem PySem.Spec PyProof.Rows L2

/-! ### what a program reckons with: data, and places of a store -/
inductive W where
  | d (x : PyData)
  | ref (n : Nat)
  /-- the script -/
  | scr (ns : List Int)
inductive SO where
  | lst (xs : List W)
  | dead
abbrev Sto := List SO
abbrev En := List (Option W)
inductive R (α : Type) where
  | ok (a : α) (s : Sto)
  | exc (c : Str) (x : PyData) (s : Sto)
  | bad
def R.bind {α β : Type} (r : R α) (f : α → Sto → R β) : R β :=
  match r with
  | .ok a s => f a s
  | .exc c x s => .exc c x s
  | .bad => .bad
@[simp] theorem R.bind_ok {α β : Type} (a : α) (s : Sto) (f : α → Sto → R β) : (R.ok a s).bind f = f a s := rfl
@[simp] theorem R.bind_exc {α β : Type} (c : Str) (x : PyData) (s : Sto) (f : α → Sto → R β) : (R.exc c x s : R α).bind f = .exc c x s := rfl
@[simp] theorem R.bind_bad {α β : Type} (f : α → Sto → R β) : (R.bad : R α).bind f = .bad := rfl
theorem R.bind_assoc {α β γ : Type} (r : R α) (f : α → Sto → R β) (g : β → Sto → R γ) : (r.bind f).bind g = r.bind fun a s => (f a s).bind g := by
  cases r <;> rfl

/-! ### how a value stands in the heap -/
abbrev Hz : Hp := fun _ => none
def LstF (Z : Addr → Prop) (H : Hp) (a : Addr) (xs : List V) : Prop := Rd H a (.lst xs) ∧ ¬ Z a
def ScrF (K : PySem.W.Frag) (Z : Addr → Prop) (H : Hp) (a : Addr) (xs : List V) : Prop := LstF Z H a xs ∨ SqL K Hz a xs
mutual
inductive Pd (K : PySem.W.Frag) (Z : Addr → Prop) (H : Hp) : V → PyData → Prop
  | non : Pd K Z H .non .none
  | bl (b : Bool) : Pd K Z H (.bl b) (.bool b)
  | int (i : Int) : Pd K Z H (.int i) (.int i)
  | str (x : Str) : Pd K Z H (.str x) (.str x)
  | lst {a : Addr} {xs : List V} {ds : List PyData} : LstF Z H a xs → PdAll K Z H xs ds → Pd K Z H (.ref a) (.list ds)
  | tup {a : Addr} {xs : List V} {ds : List PyData} : SqT K H a xs → PdAll K Z H xs ds → Pd K Z H (.ref a) (.tuple ds)
inductive PdAll (K : PySem.W.Frag) (Z : Addr → Prop) (H : Hp) : List V → List PyData → Prop
  | nil : PdAll K Z H [] []
  | cons {v : V} {vs : List V} {d : PyData} {ds : List PyData} : Pd K Z H v d → PdAll K Z H vs ds → PdAll K Z H (v :: vs) (d :: ds)
end
def WR (K : PySem.W.Frag) (Z : Addr → Prop) (θ : List (Option Addr)) (H : Hp) : W → V → Prop
  | .d x, v => Pd K Z H v x
  | .ref n, v => ∃ o, θ[n]? = some o ∧ ∀ a, o = some a → v = .ref a
  | .scr ns, v => ∃ a, v = .ref a ∧ ScrF K Z H a (ns.map V.int)
abbrev WRs (K : PySem.W.Frag) (Z : Addr → Prop) (θ : List (Option Addr)) (H : Hp) : List W → List V → Prop := Paired (WR K Z θ H)
def OR (K : PySem.W.Frag) (Z : Addr → Prop) (θ : List (Option Addr)) (H : Hp) (a : Addr) : SO → Prop
  | .lst ws => ∃ vs, H a = some (.lst vs) ∧ WRs K Z θ H ws vs
  | .dead => False
def Zs (Z0 : Addr → Prop) (θ : List (Option Addr)) : Addr → Prop := fun a => some a ∈ θ ∨ Z0 a
structure SR (K : PySem.W.Frag) (Z0 : Addr → Prop) (θ : List (Option Addr)) (st : Sto) (H : Hp) : Prop where
  len : θ.length = st.length
  nd : ∀ (m n : Nat) (a : Addr), θ[m]? = some (some a) → θ[n]? = some (some a) → m = n
  obj : ∀ (n : Nat) (a : Addr) (o : SO), θ[n]? = some (some a) → st[n]? = some o → OR K (Zs Z0 θ) θ H a o
  dd : ∀ (n : Nat), θ[n]? = some none → st[n]? = some .dead
  z0 : ∀ a, Z0 a → H a ≠ none
  dis : ∀ a, some a ∈ θ → ¬ Z0 a
structure Ext (θ : List (Option Addr)) (H : Hp) (θ' : List (Option Addr)) (H' : Hp) : Prop where
  new : ∀ (n : Nat) a, θ'[n]? = some (some a) → θ[n]? = some (some a) ∨ H a = none
  old : ∀ (n : Nat) o, θ[n]? = some o → θ'[n]? = some o ∨ θ'[n]? = some none
  keep : ∀ a o, some a ∉ θ → H a = some o → H' a = some o
  tup : ∀ a xs, H a = some (.tup xs) → H' a = some (.tup xs)
  frz : ∀ a o u, H a = some (.frz o u) → H' a = some (.frz o u)
  live : ∀ a, H a ≠ none → H' a ≠ none
structure EnR (K : PySem.W.Frag) (Z : Addr → Prop) (θ : List (Option Addr)) (H : Hp) (ρ : En) (σ : L2.St) : Prop where
  len : ρ.length = σ.length
  at_ : ∀ (i : Nat) (w : W), ρ[i]? = some (some w) → ∃ v, σ[i]? = some (some v) ∧ WR K Z θ H w v

section
variable {K : PySem.W.Frag} {Z Z0 : Addr → Prop} {θ θ1 θ2 : List (Option Addr)} {H H1 H2 : Hp} {st st1 : Sto}
theorem Ext.refl : Ext θ H θ H := ⟨fun _ _ h => .inl h, fun _ _ h => .inl h, fun _ _ _ h => h, fun _ _ h => h, fun _ _ _ h => h, fun _ h => h⟩
theorem Ext.fresh (e : Ext θ H θ1 H1) {a : Addr} (h : H1 a = none) : H a = none := by
  cases q : H a with
  | none => rfl
  | some o => exact absurd h (e.live a (by rw [q]; simp))
theorem Ext.mem (e : Ext θ H θ1 H1) {a : Addr} (h : some a ∈ θ1) : some a ∈ θ ∨ H a = none := by
  obtain ⟨n, h⟩ := List.getElem?_of_mem h
  rcases e.new n a h with q | q
  · exact .inl (List.mem_of_getElem? q)
  · exact .inr q
theorem Ext.trans (a : Ext θ H θ1 H1) (b : Ext θ1 H1 θ2 H2) : Ext θ H θ2 H2 := by
  refine ⟨fun n x h => ?_, fun n o h => ?_, fun x o hx h => ?_, fun x xs h => b.tup _ _ (a.tup _ _ h), fun x o u h => b.frz _ _ _ (a.frz _ _ _ h), fun x h => b.live x (a.live x h)⟩
  · rcases b.new n x h with q | q
    · exact a.new n x q
    · exact .inr (a.fresh q)
  · rcases a.old n o h with q | q
    · exact b.old n o q
    · rcases b.old n none q with q | q <;> exact .inr q
  · refine b.keep x o (fun hm => ?_) (a.keep x o hx h)
    rcases a.mem hm with q | q
    · exact hx q
    · rw [q] at h; cases h
theorem Ext.sqT (e : Ext θ H θ1 H1) {a : Addr} {xs : List V} (h : SqT K H a xs) : SqT K H1 a xs := by
  rcases h with (h | ⟨o, h⟩) | h
  · exact .inl (.inl (e.tup _ _ h))
  · exact .inl (.inr ⟨o, e.frz _ _ _ h⟩)
  · exact .inr h
theorem Ext.lstF (e : Ext θ H θ1 H1) {a : Addr} {xs : List V} (h : LstF (Zs Z0 θ) H a xs) : LstF (Zs Z0 θ1) H1 a xs := by
  obtain ⟨h, z⟩ := h
  have z1 : some a ∉ θ := fun q => z (.inl q)
  have hn : H a ≠ none := by rcases h with h | ⟨o, h⟩ <;> rw [h] <;> simp
  refine ⟨?_, fun q => ?_⟩
  · rcases h with h | ⟨o, h⟩
    · exact .inl (e.keep a _ z1 h)
    · exact .inr ⟨o, e.keep a _ z1 h⟩
  · rcases q with q | q
    · rcases e.mem q with q | q
      · exact z1 q
      · exact hn q
    · exact z (.inr q)
mutual
theorem Pd.ext (e : Ext θ H θ1 H1) : ∀ {d : PyData} {v : V}, Pd K (Zs Z0 θ) H v d → Pd K (Zs Z0 θ1) H1 v d
  | _, _, .non => .non
  | _, _, .bl b => .bl b
  | _, _, .int i => .int i
  | _, _, .str x => .str x
  | _, _, .lst h a => .lst (e.lstF h) (PdAll.ext e a)
  | _, _, .tup h a => .tup (e.sqT h) (PdAll.ext e a)
theorem PdAll.ext (e : Ext θ H θ1 H1) : ∀ {ds : List PyData} {vs : List V}, PdAll K (Zs Z0 θ) H vs ds → PdAll K (Zs Z0 θ1) H1 vs ds
  | _, _, .nil => .nil
  | _, _, .cons a b => .cons (Pd.ext e a) (PdAll.ext e b)
end
/-- fewer places are another's -/
theorem LstF.less {Z1 : Addr → Prop} (hz : ∀ a, Z1 a → Z a) {a : Addr} {xs : List V} (h : LstF Z H a xs) : LstF Z1 H a xs := ⟨h.1, fun q => h.2 (hz a q)⟩
mutual
theorem Pd.less {Z1 : Addr → Prop} (hz : ∀ a, Z1 a → Z a) : ∀ {d : PyData} {v : V}, Pd K Z H v d → Pd K Z1 H v d
  | _, _, .non => .non
  | _, _, .bl b => .bl b
  | _, _, .int i => .int i
  | _, _, .str x => .str x
  | _, _, .lst h a => .lst (h.less hz) (PdAll.less hz a)
  | _, _, .tup h a => .tup h (PdAll.less hz a)
theorem PdAll.less {Z1 : Addr → Prop} (hz : ∀ a, Z1 a → Z a) : ∀ {ds : List PyData} {vs : List V}, PdAll K Z H vs ds → PdAll K Z1 H vs ds
  | _, _, .nil => .nil
  | _, _, .cons a b => .cons (Pd.less hz a) (PdAll.less hz b)
end
theorem sqL_of_hz {a : Addr} {xs : List V} (h : SqL K Hz a xs) : SqL K H a xs := by
  rcases h with (h | ⟨o, h⟩) | h
  · cases h
  · cases h
  · exact .inr h
theorem LstF.sqL {a : Addr} {xs : List V} (h : LstF Z H a xs) : SqL K H a xs := .inl h.1
theorem ScrF.sqL {a : Addr} {xs : List V} (h : ScrF K Z H a xs) : SqL K H a xs := by
  rcases h with h | h
  · exact h.sqL
  · exact sqL_of_hz h
mutual
theorem Pd.dp : ∀ {d : PyData} {v : V}, Pd K Z H v d → Dp K H v d
  | _, _, .non => .non
  | _, _, .bl b => .bl b
  | _, _, .int i => .int i
  | _, _, .str x => .str x
  | _, _, .lst h a => .lst h.sqL (PdAll.dp a)
  | _, _, .tup h a => .tup h (PdAll.dp a)
theorem PdAll.dp : ∀ {ds : List PyData} {vs : List V}, PdAll K Z H vs ds → DpAll K H vs ds
  | _, _, .nil => .nil
  | _, _, .cons a b => .cons (Pd.dp a) (PdAll.dp b)
end
theorem WR.ext (e : Ext θ H θ1 H1) {w : W} {v : V} (h : WR K (Zs Z0 θ) θ H w v) : WR K (Zs Z0 θ1) θ1 H1 w v := by
  cases w with
  | d x => exact Pd.ext e h
  | ref n =>
    obtain ⟨o, h1, h2⟩ := h
    rcases e.old n o h1 with q | q
    · exact ⟨o, q, h2⟩
    · exact ⟨none, q, fun a z => by cases z⟩
  | scr ns =>
    obtain ⟨a, h1, h2⟩ := h
    exact ⟨a, h1, h2.elim (fun q => .inl (e.lstF q)) .inr⟩
theorem Paired.imp {α β : Type} {F G : α → β → Prop} (f : ∀ a b, F a b → G a b) : ∀ {l₁ : List α} {l₂ : List β}, Paired F l₁ l₂ → Paired G l₁ l₂
  | _, _, .nil => .nil
  | _, _, .cons r t => .cons (f _ _ r) (Paired.imp f t)
theorem WRs.ext (e : Ext θ H θ1 H1) {ws : List W} {vs : List V} (h : WRs K (Zs Z0 θ) θ H ws vs) : WRs K (Zs Z0 θ1) θ1 H1 ws vs := Paired.imp (fun _ _ => WR.ext e) h
theorem EnR.ext {ρ : En} {σ : L2.St} (e : Ext θ H θ1 H1) (h : EnR K (Zs Z0 θ) θ H ρ σ) : EnR K (Zs Z0 θ1) θ1 H1 ρ σ :=
  ⟨h.len, fun i w q => let ⟨v, h1, h2⟩ := h.at_ i w q; ⟨v, h1, h2.ext e⟩⟩
end

/-! ### what is wanted behind -/
structure Ct where
  K : PySem.W.Frag
  mg : Str → Option Value
  E : XK
def ExcW (C : Ct) (Z0 : Addr → Prop) (θ : List (Option Addr)) (H : Hp) (c : Str) (x : PyData) (st' : Sto) : Prop :=
  ∀ θ' H' dx v Ca, Ext θ H θ' H' → SR C.K Z0 θ' st' H' → Pd C.K (Zs Z0 θ') H' v x → H dx = none → some dx ∉ θ' → H' dx = some (.xd [("at", v)]) → C.mg c = some (.ref Ca) → C.E (.ref Ca) (some dx) H'
def Post {α β : Type} (C : Ct) (Z0 : Addr → Prop) (θ : List (Option Addr)) (H : Hp) (rel : List (Option Addr) → Hp → α → β → Prop) (r : R α) (Q : β → Hp → Prop) : Prop :=
  match r with
  | .ok w st' => ∀ θ' H' v, Ext θ H θ' H' → SR C.K Z0 θ' st' H' → rel θ' H' w v → Q v H'
  | .exc c x st' => ExcW C Z0 θ H c x st'
  | .bad => False
abbrev relW (K : PySem.W.Frag) (Z0 : Addr → Prop) : List (Option Addr) → Hp → W → V → Prop := fun θ H w v => WR K (Zs Z0 θ) θ H w v
abbrev relWs (K : PySem.W.Frag) (Z0 : Addr → Prop) : List (Option Addr) → Hp → List W → List V → Prop := fun θ H w v => WRs K (Zs Z0 θ) θ H w v
abbrev relB : List (Option Addr) → Hp → Bool → Bool → Prop := fun _ _ a b => a = b
def rdE (C : Ct) (f : En → Sto → R W) : TE := fun σ H Q => ∃ Z0 θ ρ st, SR C.K Z0 θ st H ∧ EnR C.K (Zs Z0 θ) θ H ρ σ ∧ Post C Z0 θ H (relW C.K Z0) (f ρ st) Q
def rdT (C : Ct) (f : En → Sto → R Bool) : TT := fun σ H Q => ∃ Z0 θ ρ st, SR C.K Z0 θ st H ∧ EnR C.K (Zs Z0 θ) θ H ρ σ ∧ Post C Z0 θ H relB (f ρ st) Q
def rdA (C : Ct) (f : En → Sto → R (List W)) : TA := fun σ H Q => ∃ Z0 θ ρ st, SR C.K Z0 θ st H ∧ EnR C.K (Zs Z0 θ) θ H ρ σ ∧ Post C Z0 θ H (relWs C.K Z0) (f ρ st) Q
section
variable {C : Ct} {Z0 : Addr → Prop} {θ θ1 : List (Option Addr)} {H H1 : Hp}
theorem ExcW.from {c : Str} {x : PyData} {st' : Sto} (e : Ext θ H θ1 H1) (h : ExcW C Z0 θ H c x st') : ExcW C Z0 θ1 H1 c x st' := fun θ' H' dx v Ca e' S p hn hd hx hm =>
  h θ' H' dx v Ca (e.trans e') S p (by
    cases q : H dx with
    | none => rfl
    | some o => exact absurd hn (e.live dx (by rw [q]; simp))) hd hx hm
theorem Post.from {α β : Type} {rel : List (Option Addr) → Hp → α → β → Prop} {r : R α} {Q : β → Hp → Prop} (e : Ext θ H θ1 H1) (h : Post C Z0 θ H rel r Q) : Post C Z0 θ1 H1 rel r Q := by
  cases r with
  | ok w st' => exact fun θ' H' v e' S p => h θ' H' v (e.trans e') S p
  | exc c x st' => exact ExcW.from e h
  | bad => exact h
/-- the first of two steps -/
theorem Post.bind {α α' β β' : Type} {rel : List (Option Addr) → Hp → α → β → Prop} {rel' : List (Option Addr) → Hp → α' → β' → Prop} {r : R α} {f : α → Sto → R α'} {Q : β' → Hp → Prop} {G : β → Hp → Prop} (h : Post C Z0 θ H rel' (r.bind f) Q)
    (k : ∀ w st1 θ1 H1 v, r = .ok w st1 → Ext θ H θ1 H1 → SR C.K Z0 θ1 st1 H1 → rel θ1 H1 w v → Post C Z0 θ1 H1 rel' (f w st1) Q → G v H1) : Post C Z0 θ H rel r G := by
  cases r with
  | ok w st1 => exact fun θ1 H1 v e S p => k w st1 θ1 H1 v rfl e S p (Post.from e h)
  | exc c x st1 => exact h
  | bad => exact h
theorem Post.mono {α β : Type} {rel : List (Option Addr) → Hp → α → β → Prop} {r : R α} {Q Q' : β → Hp → Prop} (h : Post C Z0 θ H rel r Q) (k : ∀ v H', Q v H' → Q' v H') : Post C Z0 θ H rel r Q' := by
  cases r with
  | ok w st' => exact fun θ' H' v e' S p => k _ _ (h θ' H' v e' S p)
  | exc c x st' => exact h
  | bad => exact h
/-- a value is there, no store changed -/
theorem Post.now {α β : Type} {rel : List (Option Addr) → Hp → α → β → Prop} {w : α} {st : Sto} {v : β} {Q : β → Hp → Prop} (h : Post C Z0 θ H rel (.ok w st) Q) (S : SR C.K Z0 θ st H) (p : rel θ H w v) : Q v H := h θ H v Ext.refl S p
end
section
variable {X : Cx} {C : Ct}
theorem PE.imp {e : Expr} {t t' : TE} (h : PE X e t) (k : ∀ σ H Q, t' σ H Q → t σ H Q) : PE X e t' := ⟨fun pins s σ H Q I q => h.run pins s σ H Q I (k σ H Q q)⟩
theorem PT.imp {e : Expr} {t t' : TT} (h : PT X e t) (k : ∀ σ H Q, t' σ H Q → t σ H Q) : PT X e t' := ⟨fun pins s σ H Q I q => h.run pins s σ H Q I (k σ H Q q)⟩
theorem PW.imp {e : Expr} {t t' : TT} (h : PW X e t) (k : ∀ σ H Q, t' σ H Q → t σ H Q) : PW X e t' := ⟨fun wh pins s σ H Q I q => h.run wh pins s σ H Q I (k σ H Q q)⟩
theorem PA.imp {e : List Expr} {t t' : TA} (h : PA X e t) (k : ∀ σ H Q, t' σ H Q → t σ H Q) : PA X e t' := ⟨fun pos pins s σ H Q I q => h.run pos pins s σ H Q I (k σ H Q q)⟩
theorem PS.imp {e : Stmt} {t t' : TS} (h : PS X e t) (k : ∀ D σ H, t' D σ H → t D σ H) : PS X e t' := ⟨fun pins s σ H D I q => h.run pins s σ H D I (k D σ H q)⟩
theorem PSs.imp {e : List Stmt} {t t' : TS} (h : PSs X e t) (k : ∀ D σ H, t' D σ H → t D σ H) : PSs X e t' := ⟨fun pins s σ H D I q => h.run pins s σ H D I (k D σ H q)⟩

/-! ### names, constants, operators -/
@[simp] def dVar (i : Nat) : En → Sto → R W := fun ρ st => match ρ[i]? with | some (some w) => .ok w st | _ => .bad
@[simp] def dLit (x : PyData) : En → Sto → R W := fun _ st => .ok (.d x) st
theorem y_var {i : Nat} {x : Str} {pos : Pos} (h : PE X (.Name x pos) (tVar i)) : PE X (.Name x pos) (rdE C (dVar i)) := PE.imp h fun σ H Q q => by
  obtain ⟨Z0, θ, ρ, st, S, N, p⟩ := q
  unfold dVar at p
  cases e : ρ[i]? with
  | none => rw [e] at p; exact p.elim
  | some o =>
    cases o with
    | none => rw [e] at p; exact p.elim
    | some w =>
      rw [e] at p
      obtain ⟨v, h1, h2⟩ := N.at_ i w e
      exact ⟨v, h1, p.now S h2⟩
theorem y_lit {e : Expr} {v : V} {x : PyData} (h : PE X e (tC v)) (hp : ∀ K Z H, Pd K Z H v x) : PE X e (rdE C (dLit x)) := PE.imp h fun σ H Q ⟨_, _, _, _, S, _, p⟩ => p.now S (show Pd _ _ _ _ _ from hp _ _ _)
theorem y_int {i j pos} : PE X (.Constant (.int i) j pos) (rdE C (dLit (.int i))) := y_lit pe_int fun _ _ _ => .int i
theorem y_bl {b j pos} : PE X (.Constant (.bool b) j pos) (rdE C (dLit (.bool b))) := y_lit pe_bl fun _ _ _ => .bl b
theorem y_non {j pos} : PE X (.Constant .none j pos) (rdE C (dLit .none)) := y_lit pe_non fun _ _ _ => .non
theorem y_str {x j pos} : PE X (.Constant (.str x) j pos) (rdE C (dLit (.str x))) := y_lit pe_str fun _ _ _ => .str x

/-- a two-place operation on values -/
def rdO (C : Ct) (g : W → W → Sto → R W) : R2 := fun x y H Q => ∃ Z0 θ st u w, SR C.K Z0 θ st H ∧ WR C.K (Zs Z0 θ) θ H u x ∧ WR C.K (Zs Z0 θ) θ H w y ∧ Post C Z0 θ H (relW C.K Z0) (g u w st) Q
def rdU (C : Ct) (g : W → Sto → R W) : V → Hp → VK → Prop := fun x H Q => ∃ Z0 θ st u, SR C.K Z0 θ st H ∧ WR C.K (Zs Z0 θ) θ H u x ∧ Post C Z0 θ H (relW C.K Z0) (g u st) Q
def rdC (C : Ct) (g : List W → Sto → R W) : List V → Hp → VK → Prop := fun xs H Q => ∃ Z0 θ st us, SR C.K Z0 θ st H ∧ WRs C.K (Zs Z0 θ) θ H us xs ∧ Post C Z0 θ H (relW C.K Z0) (g us st) Q
@[simp] def dBin (g : W → W → Sto → R W) (fa fb : En → Sto → R W) : En → Sto → R W := fun ρ st => (fa ρ st).bind fun x s => (fb ρ s).bind fun y s => g x y s
@[simp] def dUn (g : W → Sto → R W) (fa : En → Sto → R W) : En → Sto → R W := fun ρ st => (fa ρ st).bind fun x s => g x s
theorem t_bin {g : W → W → Sto → R W} {fa fb : En → Sto → R W} {σ : L2.St} {H : Hp} {Q : VK} (q : rdE C (dBin g fa fb) σ H Q) : tOp (rdO C g) (rdE C fa) (rdE C fb) σ H Q := by
  obtain ⟨Z0, θ, ρ, st, S, N, p⟩ := q
  exact ⟨Z0, θ, ρ, st, S, N, Post.bind p fun w st1 θ1 H1 v _ e1 S1 w1 p1 => ⟨Z0, θ1, ρ, st1, S1, N.ext e1, Post.bind p1 fun w' st2 θ2 H2 v' _ e2 S2 w2 p2 => ⟨Z0, θ2, st2, w, w', S2, w1.ext e2, w2, p2⟩⟩⟩
theorem t_un {g : W → Sto → R W} {fa : En → Sto → R W} {σ : L2.St} {H : Hp} {Q : VK} (q : rdE C (dUn g fa) σ H Q) : tUn (rdU C g) (rdE C fa) σ H Q := by
  obtain ⟨Z0, θ, ρ, st, S, N, p⟩ := q
  exact ⟨Z0, θ, ρ, st, S, N, Post.bind p fun w st1 θ1 H1 v _ e1 S1 w1 p1 => ⟨Z0, θ1, st1, w, S1, w1, p1⟩⟩
variable {a b c : Expr} {fa fb fc : En → Sto → R W} {pos : Pos}
theorem y_op {op : Operator} {g : W → W → Sto → R W} (ho : OpR X (binaryOp op) (rdO C g)) (ha : PE X a (rdE C fa)) (hb : PE X b (rdE C fb)) : PE X (.BinOp a op b pos) (rdE C (dBin g fa fb)) := PE.imp (pe_op ho ha hb) fun _ _ _ => t_bin
theorem y_un {op : UnaryOp} {g : W → Sto → R W} (ho : UnR X (unaryOp op) (rdU C g)) (ha : PE X a (rdE C fa)) : PE X (.UnaryOp op a pos) (rdE C (dUn g fa)) := PE.imp (pe_un ho ha) fun _ _ _ => t_un
theorem y_cmp {op : CmpOp} {g : W → W → Sto → R W} (ho : OpR X (compareOp op) (rdO C g)) (ha : PE X a (rdE C fa)) (hb : PE X b (rdE C fb)) (hm : behindInMarks op b = false) : PE X (.Compare a [op] [b] pos) (rdE C (dBin g fa fb)) := PE.imp (pe_cmpR ho ha hb hm) fun _ _ _ => t_bin

/-! ### tests -/
@[simp] def asB (r : R W) : R Bool := r.bind fun w s => match w with | .d (.bool b) => .ok b s | _ => .bad
theorem t_test {t : TE} {f : En → Sto → R W} (k : ∀ σ H Q, rdE C f σ H Q → t σ H Q) {σ : L2.St} {H : Hp} {Q : Bool → Hp → Prop} (q : rdT C (fun ρ st => asB (f ρ st)) σ H Q) : t σ H fun x H' => ∃ c, x = .bl c ∧ Q c H' := by
  obtain ⟨Z0, θ, ρ, st, S, N, p⟩ := q
  refine k _ _ _ ⟨Z0, θ, ρ, st, S, N, Post.bind p fun w st1 θ1 H1 v _ e1 S1 w1 p1 => ?_⟩
  cases w with
  | ref n => exact p1.elim
  | scr n => exact p1.elim
  | d x =>
    cases x with
    | bool b => cases w1; exact ⟨b, rfl, p1.now S1 rfl⟩
    | _ => exact p1.elim
theorem y_tcmp {op : CmpOp} {g : W → W → Sto → R W} (ho : OpR X (compareOp op) (rdO C g)) (ha : PE X a (rdE C fa)) (hb : PE X b (rdE C fb)) (hm : behindInMarks op b = false) : PT X (.Compare a [op] [b] pos) (rdT C fun ρ st => asB (dBin g fa fb ρ st)) :=
  PT.imp (pt_cmpR ho ha hb hm) fun _ _ _ q => t_test (fun _ _ _ => t_bin) q
theorem y_tval {e : Expr} {f : En → Sto → R W} (h : PE X e (rdE C f)) (he : ∀ whole, isTrue e X.env whole = (do let v ← whole; standAt e.pos; holding [v] (truthy v)) := by intro _; rfl) : PT X e (rdT C fun ρ st => asB (f ρ st)) :=
  PT.imp (pt_val h he) fun _ _ _ q => t_test (fun _ _ _ k => k) q
@[simp] def dAnd (f g : En → Sto → R Bool) : En → Sto → R Bool := fun ρ st => (f ρ st).bind fun b s => if b = true then g ρ s else .ok false s
@[simp] def dOr (f g : En → Sto → R Bool) : En → Sto → R Bool := fun ρ st => (f ρ st).bind fun b s => if b = true then .ok true s else g ρ s
@[simp] def dNot (f : En → Sto → R Bool) : En → Sto → R Bool := fun ρ st => (f ρ st).bind fun b s => .ok (!b) s
variable {ga gb : En → Sto → R Bool} {rest : List Expr}
theorem y_pw1 {op : BoolOp} (h : PT X a (rdT C ga)) : PW X (.BoolOp op [a] pos) (rdT C ga) := by
  cases op with
  | And => exact pw_and1 h
  | Or => exact pw_or1 h
theorem y_and (ha : PT X a (rdT C ga)) (hb : PW X (.BoolOp .And (b :: rest) pos) (rdT C gb)) : PW X (.BoolOp .And (a :: b :: rest) pos) (rdT C (dAnd ga gb)) := PW.imp (pw_and ha hb) fun σ H Q q => by
  obtain ⟨Z0, θ, ρ, st, S, N, p⟩ := q
  refine ⟨Z0, θ, ρ, st, S, N, Post.bind p fun w st1 θ1 H1 v _ e1 S1 w1 p1 => ?_⟩
  cases w1
  cases w with
  | true => rw [if_pos rfl]; exact ⟨Z0, θ1, ρ, st1, S1, N.ext e1, p1⟩
  | false => rw [if_neg (by simp)]; exact p1.now S1 rfl
theorem y_or (ha : PT X a (rdT C ga)) (hb : PW X (.BoolOp .Or (b :: rest) pos) (rdT C gb)) : PW X (.BoolOp .Or (a :: b :: rest) pos) (rdT C (dOr ga gb)) := PW.imp (pw_or ha hb) fun σ H Q q => by
  obtain ⟨Z0, θ, ρ, st, S, N, p⟩ := q
  refine ⟨Z0, θ, ρ, st, S, N, Post.bind p fun w st1 θ1 H1 v _ e1 S1 w1 p1 => ?_⟩
  cases w1
  cases w with
  | false => rw [if_neg (by simp)]; exact ⟨Z0, θ1, ρ, st1, S1, N.ext e1, p1⟩
  | true => rw [if_pos rfl]; exact p1.now S1 rfl
theorem y_not (ha : PT X a (rdT C ga)) : PT X (.UnaryOp .Not a pos) (rdT C (dNot ga)) := PT.imp (pt_not ha) fun σ H Q q => by
  obtain ⟨Z0, θ, ρ, st, S, N, p⟩ := q
  refine ⟨Z0, θ, ρ, st, S, N, Post.bind p fun w st1 θ1 H1 v _ e1 S1 w1 p1 => ?_⟩
  cases w1
  exact p1.now S1 rfl
/-- as values -/
@[simp] def dAndV (f g : En → Sto → R W) : En → Sto → R W := fun ρ st => (asB (f ρ st)).bind fun b s => if b = true then g ρ s else .ok (.d (.bool false)) s
@[simp] def dOrV (f g : En → Sto → R W) : En → Sto → R W := fun ρ st => (asB (f ρ st)).bind fun b s => if b = true then .ok (.d (.bool true)) s else g ρ s
@[simp] def dNotV (f : En → Sto → R W) : En → Sto → R W := fun ρ st => (asB (f ρ st)).bind fun b s => .ok (.d (.bool (!b))) s
theorem post_asB {Z0 : Addr → Prop} {θ : List (Option Addr)} {H : Hp} {r : R W} {α β : Type} {rel : List (Option Addr) → Hp → α → β → Prop} {f : Bool → Sto → R α} {Q : β → Hp → Prop} {G : V → Hp → Prop} (p : Post C Z0 θ H rel ((asB r).bind f) Q)
    (k : ∀ b st1 θ1 H1, Ext θ H θ1 H1 → SR C.K Z0 θ1 st1 H1 → Post C Z0 θ1 H1 rel (f b st1) Q → G (.bl b) H1) : Post C Z0 θ H (relW C.K Z0) r G := by
  unfold asB at p
  rw [R.bind_assoc] at p
  refine Post.bind p fun w st1 θ1 H1 v _ e1 S1 w1 p1 => ?_
  cases w with
  | ref n => exact p1.elim
  | scr n => exact p1.elim
  | d x =>
    cases x with
    | bool b => cases w1; exact k b st1 θ1 H1 e1 S1 p1
    | _ => exact p1.elim
theorem y_one {op} {f : En → Sto → R W} (h : PE X a (rdE C f)) : PE X (.BoolOp op [a] pos) (rdE C f) := pe_one h
theorem y_andV (ha : PE X a (rdE C fa)) (hb : PE X (.BoolOp .And (b :: rest) pos) (rdE C fb)) : PE X (.BoolOp .And (a :: b :: rest) pos) (rdE C (dAndV fa fb)) := PE.imp (pe_and ha hb) fun σ H Q q => by
  obtain ⟨Z0, θ, ρ, st, S, N, p⟩ := q
  refine ⟨Z0, θ, ρ, st, S, N, post_asB p fun w st1 θ1 H1 e1 S1 p1 => ⟨w, rfl, ?_⟩⟩
  cases w with
  | true => rw [if_pos rfl]; exact ⟨Z0, θ1, ρ, st1, S1, N.ext e1, p1⟩
  | false => rw [if_neg (by simp)]; exact p1.now S1 (show Pd _ _ _ _ _ from .bl _)
theorem y_orV (ha : PE X a (rdE C fa)) (hb : PE X (.BoolOp .Or (b :: rest) pos) (rdE C fb)) : PE X (.BoolOp .Or (a :: b :: rest) pos) (rdE C (dOrV fa fb)) := PE.imp (pe_or ha hb) fun σ H Q q => by
  obtain ⟨Z0, θ, ρ, st, S, N, p⟩ := q
  refine ⟨Z0, θ, ρ, st, S, N, post_asB p fun w st1 θ1 H1 e1 S1 p1 => ⟨w, rfl, ?_⟩⟩
  cases w with
  | false => rw [if_neg (by simp)]; exact ⟨Z0, θ1, ρ, st1, S1, N.ext e1, p1⟩
  | true => rw [if_pos rfl]; exact p1.now S1 (show Pd _ _ _ _ _ from .bl _)
theorem y_notV (ha : PE X a (rdE C fa)) : PE X (.UnaryOp .Not a pos) (rdE C (dNotV fa)) := PE.imp (pe_not ha) fun σ H Q q => by
  obtain ⟨Z0, θ, ρ, st, S, N, p⟩ := q
  exact ⟨Z0, θ, ρ, st, S, N, post_asB p fun w st1 θ1 H1 e1 S1 p1 => ⟨w, rfl, p1.now S1 (show Pd _ _ _ _ _ from .bl _)⟩⟩
@[simp] def dIf (t : En → Sto → R Bool) (f g : En → Sto → R W) : En → Sto → R W := fun ρ st => (t ρ st).bind fun b s => if b = true then f ρ s else g ρ s
theorem y_if {c : Expr} (hc : PT X c (rdT C ga)) (ha : PE X a (rdE C fa)) (hb : PE X b (rdE C fb)) : PE X (.IfExp c a b pos) (rdE C (dIf ga fa fb)) := PE.imp (pe_ifExp hc ha hb) fun σ H Q q => by
  obtain ⟨Z0, θ, ρ, st, S, N, p⟩ := q
  refine ⟨Z0, θ, ρ, st, S, N, Post.bind p fun w st1 θ1 H1 v _ e1 S1 w1 p1 => ?_⟩
  cases w1
  cases w with
  | true => rw [if_pos rfl] at p1 ⊢; exact ⟨Z0, θ1, ρ, st1, S1, N.ext e1, p1⟩
  | false => rw [if_neg (by simp)] at p1 ⊢; exact ⟨Z0, θ1, ρ, st1, S1, N.ext e1, p1⟩
/-- a chain of two comparisons -/
@[simp] def dChain (g g' : W → W → Sto → R W) (fa fb fc : En → Sto → R W) : En → Sto → R W := fun ρ st => (fa ρ st).bind fun x s => (fb ρ s).bind fun y s => (asB (g x y s)).bind fun k s => if k = true then (fc ρ s).bind fun z s => g' y z s else .ok (.d (.bool false)) s
end
end Y

namespace Y
open PySem PySem.Spec PyProof.Rows L2

section
variable {K : PySem.W.Frag} {Z Z0 : Addr → Prop} {θ θ1 θ2 : List (Option Addr)} {H H1 H2 : Hp} {st st1 : Sto} {C : Ct}
theorem SR.notZ (S : SR K Z0 θ st H) {p : Addr} (hp : H p = none) : ¬ Zs Z0 θ p := fun h => by
  rcases h with h | h
  · obtain ⟨n, h⟩ := List.getElem?_of_mem h
    have hl : n < st.length := by rw [← S.len]; exact (List.getElem?_eq_some_iff.mp h).1
    have o := S.obj n p _ h (List.getElem?_eq_getElem hl)
    cases e : st[n] with
    | lst ws => rw [e] at o; obtain ⟨vs, q, _⟩ := o; rw [hp] at q; cases q
    | dead => rw [e] at o; exact o
  · exact S.z0 p h hp
theorem Ext.alloc {p : Addr} {o : HO} (hp : H p = none) : Ext θ H θ (upd H p o) := by
  have k : ∀ a u, H a = some u → upd H p o a = some u := fun a u h => by rw [upd_ne (ne_of_none h hp)]; exact h
  refine ⟨fun _ _ h => .inl h, fun _ _ h => .inl h, fun a u _ h => k a u h, fun a xs h => k _ _ h, fun a u v h => k _ _ h, fun a h => ?_⟩
  cases e : H a with
  | none => exact absurd e h
  | some u => rw [k a u e]; simp
theorem OR.ext (e : Ext θ H θ1 H1) {a : Addr} {o : SO} (hk : H1 a = H a) (h : OR K (Zs Z0 θ) θ H a o) : OR K (Zs Z0 θ1) θ1 H1 a o := by
  cases o with
  | lst ws => obtain ⟨vs, h1, h2⟩ := h; exact ⟨vs, hk.trans h1, WRs.ext e h2⟩
  | dead => exact h
theorem SR.alloc {p : Addr} {o : HO} (S : SR K Z0 θ st H) (hp : H p = none) : SR K Z0 θ st (upd H p o) := by
  have nz := S.notZ hp
  refine ⟨S.len, S.nd, fun n a so h1 h2 => OR.ext (Ext.alloc hp) (upd_ne fun e => nz (.inl (e ▸ List.mem_of_getElem? h1))) (S.obj n a so h1 h2), S.dd, fun a h => ?_, S.dis⟩
  have hn := S.z0 a h
  cases e : H a with
  | none => exact absurd e hn
  | some u => rw [upd_ne (ne_of_none e hp), e]; simp
theorem Post.newLst {Q : V → Hp → Prop} {p : Addr} {ds : List PyData} {vs : List V} (h : Post C Z0 θ H (relW C.K Z0) (.ok (.d (.list ds)) st) Q) (S : SR C.K Z0 θ st H) (hp : H p = none) (r : PdAll C.K (Zs Z0 θ) H vs ds) : Q (.ref p) (upd H p (.lst vs)) :=
  h θ _ (.ref p) (Ext.alloc hp) (S.alloc hp) (show Pd _ _ _ _ _ from .lst ⟨.inl upd_same, S.notZ hp⟩ (PdAll.ext (Ext.alloc hp) r))
theorem Post.newTup {Q : V → Hp → Prop} {p : Addr} {ds : List PyData} {vs : List V} (h : Post C Z0 θ H (relW C.K Z0) (.ok (.d (.tuple ds)) st) Q) (S : SR C.K Z0 θ st H) (hp : H p = none) (r : PdAll C.K (Zs Z0 θ) H vs ds) : Q (.ref p) (upd H p (.tup vs)) :=
  h θ _ (.ref p) (Ext.alloc hp) (S.alloc hp) (show Pd _ _ _ _ _ from .tup (.inl (.inl upd_same)) (PdAll.ext (Ext.alloc hp) r))
theorem getElem?_snoc {α : Type} {l : List α} {x y : α} {n : Nat} (h : (l ++ [x])[n]? = some y) : l[n]? = some y ∨ (n = l.length ∧ y = x) := by
  by_cases hn : n < l.length
  · rw [List.getElem?_append_left hn] at h; exact .inl h
  · rw [List.getElem?_append_right (by omega)] at h
    have : n - l.length = 0 := by
      have := (List.getElem?_eq_some_iff.mp h).1
      simp at this; omega
    rw [this] at h
    exact .inr ⟨by omega, (by simpa using h.symm)⟩
theorem Ext.push {p : Addr} {o : HO} (hp : H p = none) : Ext θ H (θ ++ [some p]) (upd H p o) := by
  have a := Ext.alloc (θ := θ) (o := o) hp
  refine ⟨fun n b h => ?_, fun n b h => .inl ?_, a.keep, a.tup, a.frz, a.live⟩
  · rcases getElem?_snoc h with h | ⟨_, h⟩
    · exact .inl h
    · cases h; exact .inr hp
  · rw [List.getElem?_append_left (List.getElem?_eq_some_iff.mp h).1]; exact h
theorem SR.push {p : Addr} {ws : List W} {vs : List V} (S : SR K Z0 θ st H) (hp : H p = none) (r : WRs K (Zs Z0 θ) θ H ws vs) : SR K Z0 (θ ++ [some p]) (st ++ [.lst ws]) (upd H p (.lst vs)) := by
  have nz := S.notZ hp
  have np : ∀ n a, θ[n]? = some (some a) → a ≠ p := fun n a h1 e => nz (.inl (e ▸ List.mem_of_getElem? h1))
  refine ⟨by simp [S.len], fun m n a h1 h2 => ?_, fun n a so h1 h2 => ?_, fun n h => ?_, fun a h => ?_, fun a h => ?_⟩
  · rcases getElem?_snoc h1 with h1 | ⟨e1, h1⟩ <;> rcases getElem?_snoc h2 with h2 | ⟨e2, h2⟩
    · exact S.nd m n a h1 h2
    · cases h2; exact absurd rfl (np _ _ h1)
    · cases h1; exact absurd rfl (np _ _ h2)
    · omega
  · rcases getElem?_snoc h1 with h1 | ⟨e1, h1⟩
    · have hl : n < st.length := by rw [← S.len]; exact (List.getElem?_eq_some_iff.mp h1).1
      rw [List.getElem?_append_left hl] at h2
      exact OR.ext (Ext.push hp) (upd_ne (np _ _ h1)) (S.obj n a so h1 h2)
    · cases h1
      rw [e1, S.len, List.getElem?_append_right (Nat.le_refl _)] at h2
      have : so = .lst ws := by simpa using h2.symm
      subst this
      exact ⟨vs, upd_same, WRs.ext (Ext.push hp) r⟩
  · rcases getElem?_snoc h with h | ⟨_, h⟩
    · have e := S.dd n h
      rw [List.getElem?_append_left (List.getElem?_eq_some_iff.mp e).1]; exact e
    · cases h
  · have hn := S.z0 a h
    cases e : H a with
    | none => exact absurd e hn
    | some u => rw [upd_ne (ne_of_none e hp), e]; simp
  · rcases List.mem_append.mp h with h | h
    · exact S.dis a h
    · have e : a = p := by simpa using h
      subst e
      exact fun z => S.z0 _ z hp
theorem Post.newRef {Q : V → Hp → Prop} {p : Addr} {ws : List W} {vs : List V} (h : Post C Z0 θ H (relW C.K Z0) (.ok (.ref st.length) (st ++ [.lst ws])) Q) (S : SR C.K Z0 θ st H) (hp : H p = none) (r : WRs C.K (Zs Z0 θ) θ H ws vs) : Q (.ref p) (upd H p (.lst vs)) :=
  h _ _ (.ref p) (Ext.push hp) (S.push hp r) ⟨some p, by rw [← S.len]; simp, fun a e => by cases e; rfl⟩

/-! ### lists of data -/
theorem PdAll.length {ds : List PyData} {vs : List V} (h : PdAll K Z H vs ds) : vs.length = ds.length := by
  induction ds generalizing vs with
  | nil => cases h; rfl
  | cons d ds ih => cases h with | cons a b => simp [ih b]
theorem PdAll.append {ds es : List PyData} {vs us : List V} (h : PdAll K Z H vs ds) (g : PdAll K Z H us es) : PdAll K Z H (vs ++ us) (ds ++ es) := by
  induction ds generalizing vs with
  | nil => cases h; exact g
  | cons d ds ih => cases h with | cons a b => exact .cons a (ih b)
theorem PdAll.get {ds : List PyData} {vs : List V} (h : PdAll K Z H vs ds) {i : Nat} {d : PyData} (e : ds[i]? = some d) : ∃ v, vs[i]? = some v ∧ Pd K Z H v d := by
  induction ds generalizing vs i with
  | nil => simp at e
  | cons x ds ih =>
    cases h with
    | cons a b =>
      cases i with
      | zero => simp at e; subst e; exact ⟨_, by simp, a⟩
      | succ i => simpa using ih b (by simpa using e)
theorem PdAll.drop {ds : List PyData} {vs : List V} (n : Nat) (h : PdAll K Z H vs ds) : PdAll K Z H (vs.drop n) (ds.drop n) := by
  induction n generalizing vs ds with
  | zero => exact h
  | succ n ih =>
    cases ds with
    | nil => cases h; exact .nil
    | cons x ds => cases h with | cons a b => exact ih b
theorem PdAll.take {ds : List PyData} {vs : List V} (n : Nat) (h : PdAll K Z H vs ds) : PdAll K Z H (vs.take n) (ds.take n) := by
  induction n generalizing vs ds with
  | zero => exact .nil
  | succ n ih =>
    cases ds with
    | nil => cases h; exact .nil
    | cons x ds => cases h with | cons a b => exact .cons a (ih b)
theorem PdAll.reverse {ds : List PyData} {vs : List V} (h : PdAll K Z H vs ds) : PdAll K Z H vs.reverse ds.reverse := by
  induction ds generalizing vs with
  | nil => cases h; exact .nil
  | cons x ds ih => cases h with | cons a b => simp only [List.reverse_cons]; exact (ih b).append (.cons a .nil)
theorem PdAll.toWRs {ds : List PyData} {vs : List V} (h : PdAll K Z H vs ds) : WRs K Z θ H (ds.map W.d) vs := by
  induction ds generalizing vs with
  | nil => cases h; exact .nil
  | cons x ds ih => cases h with | cons a b => exact .cons a (ih b)
@[simp] def allD : List W → Option (List PyData)
  | [] => some []
  | .d x :: ws => (allD ws).map (x :: ·)
  | _ :: _ => none
theorem allD_map (ds : List PyData) : allD (ds.map W.d) = some ds := by
  induction ds with
  | nil => rfl
  | cons x ds ih => simp [allD, ih]
theorem allD_eq : ∀ {ws : List W} {ds : List PyData}, allD ws = some ds → ws = ds.map W.d
  | [], ds, h => by cases h; rfl
  | .d x :: ws, ds, h => by
    simp only [allD, Option.map_eq_some_iff] at h
    obtain ⟨es, h1, rfl⟩ := h
    rw [allD_eq h1]; rfl
  | .ref _ :: _, _, h => by cases h
  | .scr _ :: _, _, h => by cases h
theorem WRs.pd {ws : List W} {vs : List V} {ds : List PyData} (h : WRs K Z θ H ws vs) (e : allD ws = some ds) : PdAll K Z H vs ds := by
  have := allD_eq e
  subst this
  clear e
  induction ds generalizing vs with
  | nil => cases h; exact .nil
  | cons x ds ih => cases h with | cons a b => exact .cons a (ih b)
theorem WRs.length {ws : List W} {vs : List V} (h : WRs K Z θ H ws vs) : ws.length = vs.length := Paired.length h
theorem paired_get' {α β : Type} {F : α → β → Prop} {l₁ : List α} {l₂ : List β} (h : Paired F l₁ l₂) : ∀ {i : Nat} {a : α}, l₁[i]? = some a → ∃ b, l₂[i]? = some b ∧ F a b := fun {i a} e => L2.paired_get h e
/-- the live object behind a place -/
theorem SR.at_ (S : SR K Z0 θ st H) {n : Nat} {ws : List W} {v : V} (h : WR K (Zs Z0 θ) θ H (.ref n) v) (e : st[n]? = some (.lst ws)) : ∃ a vs, v = .ref a ∧ θ[n]? = some (some a) ∧ H a = some (.lst vs) ∧ WRs K (Zs Z0 θ) θ H ws vs := by
  obtain ⟨o, h1, h2⟩ := h
  cases o with
  | none => rw [S.dd n h1] at e; cases e
  | some a =>
    obtain ⟨vs, q1, q2⟩ := S.obj n a _ h1 e
    exact ⟨a, vs, h2 a rfl, h1, q1, q2⟩
/-- a value as data, read through the store -/
@[simp] def asD (st : Sto) : W → Option PyData
  | .d x => some x
  | .ref n => match st[n]? with
    | some (.lst ws) => (allD ws).map .list
    | _ => none
  | .scr ns => some (.list (ns.map .int))
theorem dpAll_ints : ∀ ns : List Int, DpAll K H (ns.map V.int) (ns.map PyData.int)
  | [] => .nil
  | n :: ns => .cons (.int n) (dpAll_ints ns)
theorem asD_dp (S : SR K Z0 θ st H) {w : W} {v : V} {x : PyData} (h : WR K (Zs Z0 θ) θ H w v) (e : asD st w = some x) : Dp K H v x := by
  cases w with
  | d y => cases e; exact Pd.dp h
  | ref n =>
    dsimp only [asD] at e
    split at e
    · rename_i ws hw
      obtain ⟨a, vs, rfl, _, h3, h4⟩ := S.at_ h hw
      simp only [Option.map_eq_some_iff] at e
      obtain ⟨ds, e1, rfl⟩ := e
      exact .lst (.inl (.inl h3)) (PdAll.dp (h4.pd e1))
    · cases e
  | scr ns =>
    cases e
    obtain ⟨a, rfl, h⟩ := h
    exact .lst h.sqL (dpAll_ints ns)
/-- the items of a list or a tuple -/
@[simp] def items (st : Sto) : W → Option (List W)
  | .d (.list ds) => some (ds.map .d)
  | .d (.tuple ds) => some (ds.map .d)
  | .ref n => match st[n]? with
    | some (.lst ws) => some ws
    | _ => none
  | .scr ns => some (ns.map fun n => .d (.int n))
  | _ => none
theorem pdAll_ints : ∀ ns : List Int, PdAll K Z H (ns.map V.int) (ns.map PyData.int)
  | [] => .nil
  | n :: ns => .cons (.int n) (pdAll_ints ns)
theorem items_sq (S : SR K Z0 θ st H) {w : W} {v : V} {ws : List W} (h : WR K (Zs Z0 θ) θ H w v) (e : items st w = some ws) : ∃ a vs, v = .ref a ∧ (SqL K H a vs ∨ SqT K H a vs) ∧ WRs K (Zs Z0 θ) θ H ws vs := by
  cases w with
  | d y =>
    cases y with
    | list ds => cases e; cases h with | lst h1 h2 => exact ⟨_, _, rfl, .inl h1.sqL, h2.toWRs⟩
    | tuple ds => cases e; cases h with | tup h1 h2 => exact ⟨_, _, rfl, .inr h1, h2.toWRs⟩
    | _ => cases e
  | ref n =>
    dsimp only [items] at e
    split at e
    · rename_i ws' hw
      cases e
      obtain ⟨a, vs, rfl, _, h3, h4⟩ := S.at_ h hw
      exact ⟨a, vs, rfl, .inl (.inl (.inl h3)), h4⟩
    · cases e
  | scr ns =>
    cases e
    obtain ⟨a, rfl, h⟩ := h
    refine ⟨a, _, rfl, .inl h.sqL, ?_⟩
    have := (pdAll_ints (K := K) (Z := Zs Z0 θ) (H := H) ns).toWRs (θ := θ)
    rwa [List.map_map] at this
end

/-! ### operators -/
def chk {α : Type} (c : Prop) [Decidable c] (r : R α) : R α := if c then r else .bad
theorem chk_ok {α : Type} {c : Prop} [Decidable c] {r : R α} (h : c) : chk c r = r := if_pos h
theorem Post.chk {C : Ct} {Z0 : Addr → Prop} {θ : List (Option Addr)} {H : Hp} {α β : Type} {rel : List (Option Addr) → Hp → α → β → Prop} {c : Prop} [Decidable c] {r : R α} {Q : β → Hp → Prop} (h : Post C Z0 θ H rel (chk c r) Q) : c ∧ Post C Z0 θ H rel r Q := by
  unfold Y.chk at h
  by_cases hc : c
  · rw [if_pos hc] at h; exact ⟨hc, h⟩
  · rw [if_neg hc] at h; exact h.elim
@[simp] def vAdd : W → W → Sto → R W
  | .d (.int i), .d (.int j), st => .ok (.d (.int (i + j))) st
  | .d (.str x), .d (.str y), st => chk (x.length + y.length ≤ sizeLine) (.ok (.d (.str (x ++ y))) st)
  | .d (.tuple xs), .d (.tuple ys), st => chk (xs.length + ys.length ≤ sizeLine) (.ok (.d (.tuple (xs ++ ys))) st)
  | .d (.list xs), .d (.list ys), st => chk (xs.length + ys.length ≤ sizeLine) (.ok (.d (.list (xs ++ ys))) st)
  | _, _, _ => .bad
@[simp] def vInt (g : Int → Int → Int) : W → W → Sto → R W
  | .d (.int i), .d (.int j), st => .ok (.d (.int (g i j))) st
  | _, _, _ => .bad
def vIntC (c : Int → Int → Bool) (g : Int → Int → Int) : W → W → Sto → R W
  | .d (.int i), .d (.int j), st => chk (c i j = true) (.ok (.d (.int (g i j))) st)
  | _, _, _ => .bad
abbrev vSub := vInt (· - ·)
def cMul (i j : Int) : Bool := (decide (-(2 ^ 64) < i) && decide (i < 2 ^ 64)) || (decide (-(2 ^ 64) < j) && decide (j < 2 ^ 64))
def cDiv (i j : Int) : Bool := decide (j ≠ 0) && decide (j.natAbs < 1073741824)
def cMod (i j : Int) : Bool := decide (j ≠ 0)
def cPow (i j : Int) : Bool := decide (0 ≤ j) && (decide (j ≤ 1000000) && decide (i.natAbs < 2 ^ 64))
abbrev vMul := vIntC cMul (· * ·)
abbrev vDiv := vIntC cDiv Int.fdiv
abbrev vMod := vIntC cMod Int.fmod
abbrev vPow := vIntC cPow fun i j => i ^ j.toNat
abbrev vXor := vInt Builtin.bitXor
section
variable {X : Cx} {C : Ct}
theorem sqL_raw {pins : List (Addr × Obj)} {σ : L2.St} {H : Hp} {s : Shared} {a : Addr} {xs : List V} (I : Inv X pins σ H s) (h : Rd H a (.lst xs)) : ∃ (its : List Value) (n : Nat), Vals xs its ∧ xs.length = its.length ∧ s.heap.get? a = some { cls := .type "list", data := .seq its.toArray n } := by
  obtain ⟨z, its, n, r, e⟩ := h.ok I.hok
  exact ⟨its, n, r, r.length, e⟩
theorem op_catL {pins : List (Addr × Obj)} {s : Shared} {σ : L2.St} {H : Hp} {l b : Addr} {xs zs : List V} {Q : VK} (I : Inv X pins σ H s) (hH : Rd H l (.lst xs)) (hB : Rd H b (.lst zs)) (hz : xs.length + zs.length ≤ sizeLine)
    (q : ∀ p, H p = none → Q (.ref p) (upd H p (.lst (xs ++ zs)))) : wpAny (model X.prog X.w) X.A (binaryOp .Add (.ref l) (.ref b)) (EP X pins σ Q) X.xe s := by
  obtain ⟨its, n, r, hl, e⟩ := sqL_raw I hH
  obtain ⟨its2, n2, r2, hl2, e2⟩ := sqL_raw I hB
  have room : its.toArray.size + its2.toArray.size ≤ sizeLine := by
    simp only [List.size_toArray]; omega
  refine PySem.P.add_list e e2 ?_ room
  rw [show its.toArray ++ its2.toArray = (its ++ its2).toArray from by simp]
  have both : (xs ++ zs).length ≤ sizeLine := by rw [List.length_append]; exact hz
  exact ⟨.ref _, _, I.lnew (t' := s.toks) (r.append r2) both, rfl, q _ I.fresh⟩
theorem opAdd (hK : C.K = X.K) : OpR X (binaryOp .Add) (rdO C vAdd) := by
  obtain ⟨K, mg, E⟩ := C
  obtain rfl : K = X.K := hK
  intro pins s σ H x y v u Q I rx ry h
  obtain ⟨Z0, θ, st, a, b, S, wa, wb, p⟩ := h
  unfold vAdd at p
  split at p
  · cases wa; cases wb
    exact op_add pins s σ H _ _ v u Q I rx ry ⟨_, _, rfl, rfl, p.now S (show Pd _ _ _ _ _ from .int _)⟩
  · cases wa; cases wb
    exact op_add_str pins s σ H _ _ v u Q I rx ry ⟨_, _, rfl, rfl, p.chk.1, p.chk.2.now S (show Pd _ _ _ _ _ from .str _)⟩
  · cases wa with
    | tup h1 h2 =>
      cases wb with
      | tup g1 g2 =>
        refine op_catA pins s σ H _ _ v u Q I rx ry ⟨_, _, _, _, rfl, rfl, h1, g1, by rw [h2.length, g2.length]; exact p.chk.1, fun e => ?_, fun _ e => ?_, fun _ _ q hq => ?_⟩
        · subst e; cases h2
          exact p.chk.2.now S (show Pd _ _ _ _ _ from .tup g1 g2)
        · subst e; cases g2
          have p2 := p.chk.2
          rw [List.append_nil] at p2
          exact p2.now S (show Pd _ _ _ _ _ from .tup h1 h2)
        · exact p.chk.2.newTup S hq (h2.append g2)
  · cases wa with
    | lst h1 h2 =>
      cases wb with
      | lst g1 g2 =>
        cases rx; cases ry
        exact op_catL I h1.1 g1.1 (by rw [h2.length, g2.length]; exact p.chk.1) fun q hq => p.chk.2.newLst S hq (h2.append g2)
  · exact p.elim
theorem opI {f : Value → Value → Sem Value} {g : Int → Int → Int} (ho : OpR X f (rI0 fun i j => .int (g i j))) : OpR X f (rdO C (vInt g)) := by
  intro pins s σ H x y v u Q I rx ry h
  obtain ⟨Z0, θ, st, a, b, S, wa, wb, p⟩ := h
  unfold vInt at p
  split at p
  · cases wa; cases wb
    exact ho pins s σ H _ _ v u Q I rx ry ⟨_, _, rfl, rfl, p.now S (show Pd _ _ _ _ _ from .int _)⟩
  · exact p.elim
theorem opIC {f : Value → Value → Sem Value} {c : Int → Int → Bool} {P : Int → Int → Prop} {g : Int → Int → Int} (ho : OpR X f (rI P fun i j => .int (g i j))) (hc : ∀ i j, c i j = true → P i j) : OpR X f (rdO C (vIntC c g)) := by
  intro pins s σ H x y v u Q I rx ry h
  obtain ⟨Z0, θ, st, a, b, S, wa, wb, p⟩ := h
  unfold vIntC at p
  split at p
  · cases wa; cases wb
    exact ho pins s σ H _ _ v u Q I rx ry ⟨_, _, rfl, rfl, hc _ _ p.chk.1, p.chk.2.now S (show Pd _ _ _ _ _ from .int _)⟩
  · exact p.elim
theorem opSub : OpR X (binaryOp .Sub) (rdO C vSub) := opI op_sub
theorem opXor : OpR X (binaryOp .BitXor) (rdO C vXor) := opI op_xor
theorem opMul : OpR X (binaryOp .Mult) (rdO C vMul) := opIC op_mul fun i j h => by simpa [cMul, CMul] using h
theorem opDiv : OpR X (binaryOp .FloorDiv) (rdO C vDiv) := opIC op_fdivN fun i j h => by simpa [cDiv, CDivN] using h
theorem opMod : OpR X (binaryOp .Mod) (rdO C vMod) := opIC op_modN fun i j h => by simpa [cMod] using h
theorem opPow : OpR X (binaryOp .Pow) (rdO C vPow) := opIC op_pow fun i j h => by simpa [cPow, CPow] using h
@[simp] def vNeg : W → Sto → R W
  | .d (.int i), st => .ok (.d (.int (-i))) st
  | _, _ => .bad
theorem unNeg : UnR X (unaryOp .USub) (rdU C vNeg) := by
  intro pins s σ H x v Q I rx h
  obtain ⟨Z0, θ, st, a, S, wa, p⟩ := h
  unfold vNeg at p
  split at p
  · cases wa
    exact un_neg pins s σ H _ v Q I rx ⟨_, rfl, p.now S (show Pd _ _ _ _ _ from .int _)⟩
  · exact p.elim

/-! ### comparisons -/
def asInts : List PyData → Option (List Int)
  | [] => some []
  | .int i :: r => (asInts r).map (i :: ·)
  | _ :: _ => none
theorem asInts_eq : ∀ {ds : List PyData} {ns : List Int}, asInts ds = some ns → ds = ns.map .int
  | [], ns, h => by cases h; rfl
  | .int i :: ds, ns, h => by
    simp only [asInts, Option.map_eq_some_iff] at h
    obtain ⟨es, h1, rfl⟩ := h
    rw [asInts_eq h1]; rfl
  | .none :: _, _, h => by cases h
  | .bool _ :: _, _, h => by cases h
  | .str _ :: _, _, h => by cases h
  | .list _ :: _, _, h => by cases h
  | .tuple _ :: _, _, h => by cases h
  | .dict _ :: _, _, h => by cases h
theorem asInts_map (ns : List Int) : asInts (ns.map .int) = some ns := by
  induction ns with
  | nil => rfl
  | cons n ns ih => simp [asInts, ih]
theorem PdAll.intsEq {K : PySem.W.Frag} {Z : Addr → Prop} {H : Hp} : ∀ {ns : List Int} {vs : List V}, PdAll K Z H vs (ns.map .int) → vs = ns.map V.int
  | [], _, h => by cases h; rfl
  | n :: ns, _, h => by cases h with | cons a b => cases a; rw [PdAll.intsEq b]; rfl
@[simp] def vLt : W → W → Sto → R W
  | .d (.int i), .d (.int j), st => .ok (.d (.bool (decide (i < j)))) st
  | .d (.str x), .d (.str y), st => .ok (.d (.bool (decide (x.cps.toList < y.cps.toList)))) st
  | .d (.tuple xs), .d (.tuple ys), st => match asInts xs, asInts ys with
    | some ns, some ms => .ok (.d (.bool (HT.lexLt ns ms))) st
    | _, _ => .bad
  | _, _, _ => .bad
theorem opLt (hK : C.K = X.K) (hu : X.A.units < cLine) : OpR X (compareOp .Lt) (rdO C vLt) := by
  obtain ⟨K, mg, E⟩ := C
  obtain rfl : K = X.K := hK
  intro pins s σ H x y v u Q I rx ry h
  obtain ⟨Z0, θ, st, a, b, S, wa, wb, p⟩ := h
  unfold vLt at p
  split at p
  · cases wa; cases wb
    exact op_lt pins s σ H _ _ v u Q I rx ry ⟨_, _, rfl, rfl, p.now S (show Pd _ _ _ _ _ from .bl _)⟩
  · cases wa; cases wb
    exact op_lt_str pins s σ H _ _ v u Q I rx ry ⟨_, _, rfl, rfl, p.now S (show Pd _ _ _ _ _ from .bl _)⟩
  · split at p
    · rename_i ns ms e1 e2
      have e1 := asInts_eq e1
      have e2 := asInts_eq e2
      subst e1 e2
      cases wa with
      | tup h1 h2 =>
        cases wb with
        | tup g1 g2 =>
          have i1 := h2.intsEq
          have i2 := g2.intsEq
          subst i1 i2
          exact op_ltT hu pins s σ H _ _ v u Q I rx ry ⟨_, _, ns, ms, rfl, rfl, h1, g1, p.now S (show Pd _ _ _ _ _ from .bl _)⟩
    · exact p.elim
  · exact p.elim
@[simp] def vLe : W → W → Sto → R W
  | .d (.int i), .d (.int j), st => .ok (.d (.bool (decide (i ≤ j)))) st
  | .d (.str x), .d (.str y), st => .ok (.d (.bool (!decide (y.cps.toList < x.cps.toList)))) st
  | _, _, _ => .bad
theorem opLe : OpR X (compareOp .LtE) (rdO C vLe) := by
  intro pins s σ H x y v u Q I rx ry h
  obtain ⟨Z0, θ, st, a, b, S, wa, wb, p⟩ := h
  unfold vLe at p
  split at p
  · cases wa; cases wb
    exact op_le pins s σ H _ _ v u Q I rx ry ⟨_, _, rfl, rfl, p.now S (show Pd _ _ _ _ _ from .bl _)⟩
  · cases wa; cases wb
    exact op_le_str pins s σ H _ _ v u Q I rx ry ⟨_, _, rfl, rfl, p.now S (show Pd _ _ _ _ _ from .bl _)⟩
  · exact p.elim
@[simp] def vGt : W → W → Sto → R W
  | .d (.int i), .d (.int j), st => .ok (.d (.bool (decide (j < i)))) st
  | _, _, _ => .bad
theorem opGt : OpR X (compareOp .Gt) (rdO C vGt) := by
  intro pins s σ H x y v u Q I rx ry h
  obtain ⟨Z0, θ, st, a, b, S, wa, wb, p⟩ := h
  unfold vGt at p
  split at p
  · cases wa; cases wb
    exact op_gt pins s σ H _ _ v u Q I rx ry ⟨_, _, rfl, rfl, p.now S (show Pd _ _ _ _ _ from .bl _)⟩
  · exact p.elim
@[simp] def vGe : W → W → Sto → R W
  | .d (.int i), .d (.int j), st => .ok (.d (.bool (decide (j ≤ i)))) st
  | _, _, _ => .bad
theorem opGe : OpR X (compareOp .GtE) (rdO C vGe) := by
  intro pins s σ H x y v u Q I rx ry h
  obtain ⟨Z0, θ, st, a, b, S, wa, wb, p⟩ := h
  unfold vGe at p
  split at p
  · cases wa; cases wb
    exact op_ge pins s σ H _ _ v u Q I rx ry ⟨_, _, rfl, rfl, p.now S (show Pd _ _ _ _ _ from .bl _)⟩
  · exact p.elim
@[simp] def vEq (neg : Bool) : W → W → Sto → R W := fun a b st => match a, b with
  | .d (.str x), .d (.str y) => .ok (.d (.bool (neg ^^ decide (x = y)))) st
  | a, b => match asD st a, asD st b with
    | some d, some e => chk (SeqAt.shaped d = true ∧ SeqAt.shaped e = true) (.ok (.d (.bool (neg ^^ PyData.eqv d e))) st)
    | _, _ => .bad
theorem opEq (hK : C.K = X.K) (hu : X.A.units + 64 < cLine) : OpR X (compareOp .Eq) (rdO C (vEq false)) := by
  obtain ⟨K, mg, E⟩ := C
  obtain rfl : K = X.K := hK
  intro pins s σ H x y v u Q I rx ry h
  obtain ⟨Z0, θ, st, a, b, S, wa, wb, p⟩ := h
  unfold vEq at p
  split at p
  · cases wa; cases wb
    refine op_eq pins s σ H _ _ v u Q I rx ry ⟨rfl, ?_⟩
    have q := p
    rw [Bool.false_xor] at q
    have q := q.now S (show Pd _ _ _ _ _ from .bl _)
    simpa using q
  · split at p
    · rename_i d e h1 h2
      exact op_eqD hu pins s σ H _ _ v u Q I rx ry ⟨d, e, asD_dp S wa h1, asD_dp S wb h2, p.chk.1.1, p.chk.1.2, by have q := p.chk.2; rw [Bool.false_xor] at q; exact q.now S (show Pd _ _ _ _ _ from .bl _)⟩
    · exact p.elim
theorem opNe (hK : C.K = X.K) (hu : X.A.units + 64 < cLine) : OpR X (compareOp .NotEq) (rdO C (vEq true)) := by
  obtain ⟨K, mg, E⟩ := C
  obtain rfl : K = X.K := hK
  intro pins s σ H x y v u Q I rx ry h
  obtain ⟨Z0, θ, st, a, b, S, wa, wb, p⟩ := h
  unfold vEq at p
  split at p
  · cases wa; cases wb
    refine op_ne pins s σ H _ _ v u Q I rx ry ⟨rfl, ?_⟩
    have q := p
    rw [Bool.true_xor] at q
    have q := q.now S (show Pd _ _ _ _ _ from .bl _)
    simpa using q
  · split at p
    · rename_i d e h1 h2
      exact op_neD hu pins s σ H _ _ v u Q I rx ry ⟨d, e, asD_dp S wa h1, asD_dp S wb h2, p.chk.1.1, p.chk.1.2, by have q := p.chk.2; rw [Bool.true_xor] at q; exact q.now S (show Pd _ _ _ _ _ from .bl _)⟩
    · exact p.elim
@[simp] def vIs (neg : Bool) : W → W → Sto → R W
  | .d x, .d .none, st => .ok (.d (.bool (neg ^^ match x with | .none => true | _ => false))) st
  | .d (.bool a), .d (.bool b), st => .ok (.d (.bool (neg ^^ decide (a = b)))) st
  | _, _, _ => .bad
end
end Y
namespace Y
open PySem PySem.Spec PyProof.Rows L2
section
variable {X : Cx} {C : Ct}
theorem opIs (hK : C.K = X.K) : OpR X (compareOp .Is) (rdO C (vIs false)) := by
  obtain ⟨K, mg, E⟩ := C
  obtain rfl : K = X.K := hK
  intro pins s σ H x y v u Q I rx ry h
  obtain ⟨Z0, θ, st, a, b, S, wa, wb, p⟩ := h
  unfold vIs at p
  split at p
  · cases wb
    refine op_isN pins s σ H _ _ v u Q I rx ry ⟨rfl, ?_⟩
    rename_i d
    cases d <;> cases wa <;> exact p.now S (show Pd _ _ _ _ _ from .bl _)
  · cases wa; cases wb
    exact op_isBl pins s σ H _ _ v u Q I rx ry ⟨_, _, rfl, rfl, by rw [Bool.false_xor] at p; exact p.now S (show Pd _ _ _ _ _ from .bl _)⟩
  · exact p.elim
theorem opIsNot (hK : C.K = X.K) : OpR X (compareOp .IsNot) (rdO C (vIs true)) := by
  obtain ⟨K, mg, E⟩ := C
  obtain rfl : K = X.K := hK
  intro pins s σ H x y v u Q I rx ry h
  obtain ⟨Z0, θ, st, a, b, S, wa, wb, p⟩ := h
  unfold vIs at p
  split at p
  · cases wb
    refine op_notN pins s σ H _ _ v u Q I rx ry ⟨rfl, ?_⟩
    rename_i d
    cases d <;> cases wa <;> exact p.now S (show Pd _ _ _ _ _ from .bl _)
  · cases wa; cases wb
    exact op_notBl pins s σ H _ _ v u Q I rx ry ⟨_, _, rfl, rfl, by rw [Bool.true_xor] at p; exact p.now S (show Pd _ _ _ _ _ from .bl _)⟩
  · exact p.elim
/-- x in y: texts, lists, tuples of data -/
@[simp] def vIn (neg : Bool) : W → W → Sto → R W := fun a b st => match a, b with
  | .d (.str x), .d (.str y) => .ok (.d (.bool (neg ^^ !(Builtin.Str.occurrences y x 0 y.length 1).isEmpty))) st
  | a, b => match asD st a, asD st b with
    | some d, some (.list ds) => chk (SeqAt.shaped d = true ∧ SeqAt.shaped (.list ds) = true) (.ok (.d (.bool (neg ^^ ds.any fun z => PyData.eqv z d))) st)
    | some d, some (.tuple ds) => chk (SeqAt.shaped d = true ∧ SeqAt.shaped (.tuple ds) = true) (.ok (.d (.bool (neg ^^ ds.any fun z => PyData.eqv z d))) st)
    | _, _ => .bad
theorem opIn (hK : C.K = X.K) (hu : X.A.units + 65 < cLine) : OpR X (compareOp .In) (rdO C (vIn false)) := by
  obtain ⟨K, mg, E⟩ := C
  obtain rfl : K = X.K := hK
  intro pins s σ H x y v u Q I rx ry h
  obtain ⟨Z0, θ, st, a, b, S, wa, wb, p⟩ := h
  unfold vIn at p
  split at p
  · cases wa; cases wb
    exact op_in_str pins s σ H _ _ v u Q I rx ry ⟨_, _, rfl, rfl, by rw [Bool.false_xor] at p; exact p.now S (show Pd _ _ _ _ _ from .bl _)⟩
  · split at p
    · rename_i h1 h2
      obtain ⟨as, r1⟩ := Dp.reads I _ x v (asD_dp S wa h1) rx
      obtain ⟨bs, r2⟩ := Dp.reads I _ y u (asD_dp S wb h2) ry
      refine SeqAt.in_list_reads r2 r1 (SeqAt.canLay_of_shaped p.chk.1.2) (SeqAt.canLay_of_shaped p.chk.1.1) (room_in_shaped p.chk.1.1 hu) ⟨.bl _, H, I, rfl, ?_⟩
      have q := p.chk.2; rw [Bool.false_xor] at q; exact q.now S (show Pd _ _ _ _ _ from .bl _)
    · rename_i h1 h2
      obtain ⟨as, r1⟩ := Dp.reads I _ x v (asD_dp S wa h1) rx
      obtain ⟨bs, r2⟩ := Dp.reads I _ y u (asD_dp S wb h2) ry
      refine SeqAt.in_tuple_reads r2 r1 (SeqAt.canLay_of_shaped p.chk.1.2) (SeqAt.canLay_of_shaped p.chk.1.1) (room_in_shaped p.chk.1.1 hu) ⟨.bl _, H, I, rfl, ?_⟩
      have q := p.chk.2; rw [Bool.false_xor] at q; exact q.now S (show Pd _ _ _ _ _ from .bl _)
    · exact p.elim
theorem opNotIn (hK : C.K = X.K) (hu : X.A.units + 65 < cLine) : OpR X (compareOp .NotIn) (rdO C (vIn true)) := by
  obtain ⟨K, mg, E⟩ := C
  obtain rfl : K = X.K := hK
  intro pins s σ H x y v u Q I rx ry h
  obtain ⟨Z0, θ, st, a, b, S, wa, wb, p⟩ := h
  unfold vIn at p
  split at p
  · cases wa; cases wb
    exact op_notIn_str pins s σ H _ _ v u Q I rx ry ⟨_, _, rfl, rfl, by rw [Bool.true_xor] at p; exact p.now S (show Pd _ _ _ _ _ from .bl _)⟩
  · split at p
    · rename_i h1 h2
      obtain ⟨as, r1⟩ := Dp.reads I _ x v (asD_dp S wa h1) rx
      obtain ⟨bs, r2⟩ := Dp.reads I _ y u (asD_dp S wb h2) ry
      refine SeqAt.notIn_list_reads r2 r1 (SeqAt.canLay_of_shaped p.chk.1.2) (SeqAt.canLay_of_shaped p.chk.1.1) (room_in_shaped p.chk.1.1 hu) ⟨.bl _, H, I, rfl, ?_⟩
      have q := p.chk.2; rw [Bool.true_xor] at q; exact q.now S (show Pd _ _ _ _ _ from .bl _)
    · rename_i h1 h2
      obtain ⟨as, r1⟩ := Dp.reads I _ x v (asD_dp S wa h1) rx
      obtain ⟨bs, r2⟩ := Dp.reads I _ y u (asD_dp S wb h2) ry
      refine SeqAt.notIn_tuple_reads r2 r1 (SeqAt.canLay_of_shaped p.chk.1.2) (SeqAt.canLay_of_shaped p.chk.1.1) (room_in_shaped p.chk.1.1 hu) ⟨.bl _, H, I, rfl, ?_⟩
      have q := p.chk.2; rw [Bool.true_xor] at q; exact q.now S (show Pd _ _ _ _ _ from .bl _)
    · exact p.elim
/-- a chain -/
theorem t_chain {g g' : W → W → Sto → R W} {fa fb fc : En → Sto → R W} {σ : L2.St} {H : Hp} {Q : VK} (q : rdE C (dChain g g' fa fb fc) σ H Q) : tChain (rdO C g) (rdO C g') (rdE C fa) (rdE C fb) (rdE C fc) σ H Q := by
  obtain ⟨Z0, θ, ρ, st, S, N, p⟩ := q
  exact ⟨Z0, θ, ρ, st, S, N, Post.bind p fun w st1 θ1 H1 v _ e1 S1 w1 p1 => ⟨Z0, θ1, ρ, st1, S1, N.ext e1, Post.bind p1 fun w' st2 θ2 H2 v' _ e2 S2 w2 p2 => ⟨Z0, θ2, st2, w, w', S2, w1.ext e2, w2,
    post_asB p2 fun k st3 θ3 H3 e3 S3 p3 => ⟨k, rfl, by
      cases k with
      | true =>
        rw [if_pos rfl] at p3
        rw [if_pos rfl]
        exact ⟨Z0, θ3, ρ, st3, S3, ((N.ext e1).ext e2).ext e3, Post.bind p3 fun w'' st4 θ4 H4 v'' _ e4 S4 w4 p4 => ⟨Z0, θ4, st4, w', w'', S4, (w2.ext e3).ext e4, w4, p4⟩⟩
      | false =>
        rw [if_neg (by simp)] at p3
        rw [if_neg (by simp)]
        exact p3.now S3 (show Pd _ _ _ _ _ from .bl _)⟩⟩⟩⟩
theorem y_chain {a b c : Expr} {pos : Pos} {g g' : W → W → Sto → R W} {fa fb fc : En → Sto → R W} {op op' : CmpOp} (ho : OpR X (compareOp op) (rdO C g)) (ho' : OpR X (compareOp op') (rdO C g')) (ha : PE X a (rdE C fa)) (hb : PE X b (rdE C fb)) (hc : PE X c (rdE C fc))
    (hm : lastMarks [op, op'] [b, c] = false := by with_unfolding_all rfl) : PE X (.Compare a [op, op'] [b, c] pos) (rdE C (dChain g g' fa fb fc)) := PE.imp (pe_chain ho ho' ha hb hc hm) fun _ _ _ => t_chain
theorem y_tchain {a b c : Expr} {pos : Pos} {g g' : W → W → Sto → R W} {fa fb fc : En → Sto → R W} {op op' : CmpOp} (ho : OpR X (compareOp op) (rdO C g)) (ho' : OpR X (compareOp op') (rdO C g')) (ha : PE X a (rdE C fa)) (hb : PE X b (rdE C fb)) (hc : PE X c (rdE C fc))
    (hm : lastMarks [op, op'] [b, c] = false := by with_unfolding_all rfl) : PT X (.Compare a [op, op'] [b, c] pos) (rdT C fun ρ st => asB (dChain g g' fa fb fc ρ st)) := PT.imp (pt_chain ho ho' ha hb hc hm) fun _ _ _ q => t_test (fun _ _ _ => t_chain) q

/-! ### arguments, displays -/
@[simp] def dNil : En → Sto → R (List W) := fun _ st => .ok [] st
@[simp] def dCons (f : En → Sto → R W) (g : En → Sto → R (List W)) : En → Sto → R (List W) := fun ρ st => (f ρ st).bind fun w s => (g ρ s).bind fun ws s => .ok (w :: ws) s
theorem t_nil {σ : L2.St} {H : Hp} {Q : List V → Hp → Prop} (q : rdA C dNil σ H Q) : tNil σ H Q := by
  obtain ⟨Z0, θ, ρ, st, S, N, p⟩ := q
  exact p.now S .nil
theorem t_cons {f : En → Sto → R W} {g : En → Sto → R (List W)} {σ : L2.St} {H : Hp} {Q : List V → Hp → Prop} (q : rdA C (dCons f g) σ H Q) : tCons (rdE C f) (rdA C g) σ H Q := by
  obtain ⟨Z0, θ, ρ, st, S, N, p⟩ := q
  exact ⟨Z0, θ, ρ, st, S, N, Post.bind p fun w st1 θ1 H1 v _ e1 S1 w1 p1 => ⟨Z0, θ1, ρ, st1, S1, N.ext e1, Post.bind p1 fun ws st2 θ2 H2 vs _ e2 S2 w2 p2 => p2.now S2 (.cons (w1.ext e2) w2)⟩⟩
theorem y_nil : PA X [] (rdA C dNil) := PA.imp pa_nil fun _ _ _ => t_nil
theorem y_cons {e : Expr} {es : List Expr} {f : En → Sto → R W} {g : En → Sto → R (List W)} (h : PE X e (rdE C f)) (hr : PA X es (rdA C g)) (hs : starEach (e :: es) X.env = (false, eval e X.env) :: starEach es X.env := by rfl) : PA X (e :: es) (rdA C (dCons f g)) := PA.imp (pa_cons h hr hs) fun _ _ _ => t_cons
@[simp] def dTup (f : En → Sto → R (List W)) : En → Sto → R W := fun ρ st => (f ρ st).bind fun ws s => match allD ws with
  | some ds => chk (ds.length ≤ sizeLine) (.ok (.d (.tuple ds)) s)
  | none => .bad
/-- a new list that is not to change -/
@[simp] def dLst (f : En → Sto → R (List W)) : En → Sto → R W := fun ρ st => (f ρ st).bind fun ws s => match allD ws with
  | some ds => chk (ds.length ≤ sizeLine) (.ok (.d (.list ds)) s)
  | none => .bad
/-- a new list of the store -/
@[simp] def dNew (f : En → Sto → R (List W)) : En → Sto → R W := fun ρ st => (f ρ st).bind fun ws s => chk (ws.length ≤ sizeLine) (.ok (.ref s.length) (s ++ [.lst ws]))
theorem y_tup {es : List Expr} {pos : Pos} {x1} {f : En → Sto → R (List W)} (h : PA X es (rdA C f)) : PE X (.Tuple es x1 pos) (rdE C (dTup f)) := PE.imp (pe_tup h) fun σ H Q q => by
  obtain ⟨Z0, θ, ρ, st, S, N, p⟩ := q
  refine ⟨Z0, θ, ρ, st, S, N, Post.bind p fun ws st1 θ1 H1 vs _ e1 S1 w1 p1 => ?_⟩
  split at p1
  · rename_i ds e
    have r := w1.pd e
    exact ⟨by rw [r.length]; exact p1.chk.1, fun t ht => p1.chk.2.newTup S1 ht r⟩
  · exact p1.elim
theorem y_lst {es : List Expr} {pos : Pos} {f : En → Sto → R (List W)} (h : PA X es (rdA C f)) : PE X (.List es pos) (rdE C (dLst f)) := PE.imp (pe_lst h) fun σ H Q q => by
  obtain ⟨Z0, θ, ρ, st, S, N, p⟩ := q
  refine ⟨Z0, θ, ρ, st, S, N, Post.bind p fun ws st1 θ1 H1 vs _ e1 S1 w1 p1 => ?_⟩
  split at p1
  · rename_i ds e
    have r := w1.pd e
    exact ⟨by rw [r.length]; exact p1.chk.1, fun t ht => p1.chk.2.newLst S1 ht r⟩
  · exact p1.elim
theorem y_new {es : List Expr} {pos : Pos} {f : En → Sto → R (List W)} (h : PA X es (rdA C f)) : PE X (.List es pos) (rdE C (dNew f)) := PE.imp (pe_lst h) fun σ H Q q => by
  obtain ⟨Z0, θ, ρ, st, S, N, p⟩ := q
  refine ⟨Z0, θ, ρ, st, S, N, Post.bind p fun ws st1 θ1 H1 vs _ e1 S1 w1 p1 => ?_⟩
  exact ⟨by rw [← w1.length]; exact p1.chk.1, fun t ht => p1.chk.2.newRef S1 ht w1⟩

/-! ### subscripts, slices -/
@[simp] def vIx : W → W → Sto → R W := fun a i st => match i with
  | .d (.int i) => match a with
    | .d (.str z) => chk (z.length ≤ sizeLine) (match atI z.cps.toList i with
      | some c => .ok (.d (.str ⟨#[c]⟩)) st
      | none => .bad)
    | a => match items st a with
      | some ws => match atI ws i with
        | some w => .ok w st
        | none => .bad
      | none => .bad
  | _ => .bad
theorem atI_rel {α β : Type} {F : α → β → Prop} {l₁ : List α} {l₂ : List β} {i : Int} {x : α} (h : Paired F l₁ l₂) (e : atI l₁ i = some x) : ∃ y, atI l₂ i = some y ∧ F x y := by
  unfold atI at e ⊢
  rw [← Paired.length h]
  cases q : ixN l₁.length i with
  | none => rw [q] at e; cases e
  | some j =>
    rw [q] at e
    exact L2.paired_get h e
theorem ixR (hK : C.K = X.K) : IxR X (rdO C vIx) := by
  obtain ⟨K, mg, E⟩ := C
  obtain rfl : K = X.K := hK
  intro o sl pins s σ H x y v u Q I rx ry h hsb
  obtain ⟨Z0, θ, st, a, b, S, wa, wb, p⟩ := h
  unfold vIx at p
  split at p
  · cases wb
    split at p
    · cases wa
      obtain ⟨hz, p⟩ := p.chk
      split at p
      · rename_i c hc
        exact ix_seq o sl pins s σ H _ _ v u Q I rx ry (.inr (.inr ⟨_, _, c, rfl, rfl, hz, hc, p.now S (show Pd _ _ _ _ _ from .str _)⟩)) hsb
      · exact p.elim
    · split at p
      · rename_i ws hw
        split at p
        · rename_i w hx
          obtain ⟨p', vs, rfl, hs, r⟩ := items_sq S wa hw
          obtain ⟨y', hy, ry'⟩ := atI_rel r hx
          refine ix_seq o sl pins s σ H _ _ v u Q I rx ry ?_ hsb
          rcases hs with hs | hs
          · exact .inl ⟨_, _, _, _, rfl, rfl, hs, hy, p.now S ry'⟩
          · exact .inr (.inl ⟨_, _, _, _, rfl, rfl, hs, hy, p.now S ry'⟩)
        · exact p.elim
      · exact p.elim
  · exact p.elim
theorem y_ix {a b : Expr} {pos : Pos} {fa fb : En → Sto → R W} (hK : C.K = X.K) (ha : PE X a (rdE C fa)) (hb : PE X b (rdE C fb)) (hs : PlainIx b := by intro _ _; rfl) : PE X (.Subscript a b pos) (rdE C (dBin vIx fa fb)) := PE.imp (pe_ix (ixR hK) ha hb hs) fun _ _ _ => t_bin
def relO : List (Option Addr) → Hp → Option Int → Option Int → Prop := fun _ _ a b => a = b
def rdP (C : Ct) (f : En → Sto → R (Option Int)) : TO := fun σ H Q => ∃ Z0 θ ρ st, SR C.K Z0 θ st H ∧ EnR C.K (Zs Z0 θ) θ H ρ σ ∧ Post C Z0 θ H relO (f ρ st) Q
@[simp] def dNoP : En → Sto → R (Option Int) := fun _ st => .ok none st
@[simp] def dPart (f : En → Sto → R W) : En → Sto → R (Option Int) := fun ρ st => (f ρ st).bind fun w s => match w with
  | .d (.int i) => .ok (some i) s
  | _ => .bad
theorem PO.imp {e : Option Expr} {t t' : TO} (h : PO X e t) (k : ∀ σ H Q, t' σ H Q → t σ H Q) : PO X e t' := ⟨fun pins s σ H Q I q => h.run pins s σ H Q I (k σ H Q q)⟩
theorem y_noP : PO X none (rdP C dNoP) := PO.imp po_none fun σ H Q q => by
  obtain ⟨Z0, θ, ρ, st, S, N, p⟩ := q
  exact p.now S rfl
theorem y_part {e : Expr} {f : En → Sto → R W} (h : PE X e (rdE C f)) : PO X (some e) (rdP C (dPart f)) := PO.imp (po_some h) fun σ H Q q => by
  obtain ⟨Z0, θ, ρ, st, S, N, p⟩ := q
  refine ⟨Z0, θ, ρ, st, S, N, Post.bind p fun w st1 θ1 H1 v _ e1 S1 w1 p1 => ?_⟩
  split at p1
  · cases w1
    exact ⟨_, rfl, p1.now S1 rfl⟩
  · exact p1.elim
def cut {α : Type} (xs : List α) (lo hi : Option Int) : List α := (xs.drop (HT.sIx xs.length 0 lo)).take (HT.sIx xs.length xs.length hi - HT.sIx xs.length 0 lo)
@[simp] def vSl : W → Option Int → Option Int → Sto → R W := fun a lo hi st => match a with
  | .d (.str z) => chk (z.length ≤ sizeLine) (.ok (.d (.str (Txt.slice z lo hi))) st)
  | .d (.tuple ds) => .ok (.d (.tuple (cut ds lo hi))) st
  | a => match asD st a with
    | some (.list ds) => .ok (.d (.list (cut ds lo hi))) st
    | _ => .bad
@[simp] def dSl (fe : En → Sto → R W) (fl fh : En → Sto → R (Option Int)) : En → Sto → R W := fun ρ st => (fe ρ st).bind fun w s => (fl ρ s).bind fun lo s => (fh ρ s).bind fun hi s => vSl w lo hi s
theorem PdAll.cut {K : PySem.W.Frag} {Z : Addr → Prop} {H : Hp} {ds : List PyData} {vs : List V} (h : PdAll K Z H vs ds) (lo hi : Option Int) : PdAll K Z H (cutV vs lo hi) (Y.cut ds lo hi) := by
  unfold cutV Y.cut
  rw [h.length]
  exact (h.drop _).take _
theorem cut_whole {α : Type} {xs : List α} {lo hi : Option Int} (h : HT.sIx xs.length 0 lo = 0 ∧ HT.sIx xs.length xs.length hi = xs.length) : cut xs lo hi = xs := by
  unfold cut
  rw [h.1, h.2]
  simp
/-- a list of data, read -/
theorem asD_list {K : PySem.W.Frag} {Z0 : Addr → Prop} {θ : List (Option Addr)} {H : Hp} {st : Sto} (S : SR K Z0 θ st H) {w : W} {v : V} {ds : List PyData} (h : WR K (Zs Z0 θ) θ H w v) (e : asD st w = some (.list ds)) : ∃ a vs, v = .ref a ∧ SqL K H a vs ∧ PdAll K (Zs Z0 θ) H vs ds := by
  cases w with
  | d y => cases e; cases h with | lst h1 h2 => exact ⟨_, _, rfl, h1.sqL, h2⟩
  | ref n =>
    dsimp only [asD] at e
    split at e
    · rename_i ws hw
      obtain ⟨a, vs, rfl, _, h3, h4⟩ := S.at_ h hw
      simp only [Option.map_eq_some_iff] at e
      obtain ⟨ds', e1, e2⟩ := e
      cases e2
      exact ⟨a, vs, rfl, .inl (.inl h3), h4.pd e1⟩
    · cases e
  | scr ns =>
    cases e
    obtain ⟨a, rfl, h⟩ := h
    exact ⟨a, _, rfl, h.sqL, pdAll_ints ns⟩
theorem y_sl {e : Expr} {lo hi : Option Expr} {pos p2 : Pos} {fe : En → Sto → R W} {fl fh : En → Sto → R (Option Int)} (hK : C.K = X.K) (he : PE X e (rdE C fe)) (hl : PO X lo (rdP C fl)) (hh : PO X hi (rdP C fh)) : PE X (.Subscript e (.Slice lo hi none p2) pos) (rdE C (dSl fe fl fh)) := by
  obtain ⟨K, mg, E⟩ := C
  obtain rfl : K = X.K := hK
  refine PE.imp (pe_slice (SlR.or sl_list (SlR.or sl_tupA C8.sl_txt)) he hl hh) fun σ H Q q => ?_
  obtain ⟨Z0, θ, ρ, st, S, N, p⟩ := q
  refine ⟨Z0, θ, ρ, st, S, N, Post.bind p fun w st1 θ1 H1 v _ e1 S1 w1 p1 => ⟨Z0, θ1, ρ, st1, S1, N.ext e1, Post.bind p1 fun l st2 θ2 H2 l' _ e2 S2 w2 p2 => ⟨Z0, θ2, ρ, st2, S2, (N.ext e1).ext e2, Post.bind p2 fun h st3 θ3 H3 h' _ e3 S3 w3 p3 => ?_⟩⟩⟩
  cases w2
  cases w3
  have w4 := (w1.ext e2).ext e3
  unfold vSl at p3
  split at p3
  · cases w4
    exact .inr (.inr ⟨_, rfl, p3.chk.1, p3.chk.2.now S3 (show Pd _ _ _ _ _ from .str _)⟩)
  · cases w4 with
    | tup h1 h2 =>
      refine .inr (.inl ⟨_, _, rfl, h1, fun hw => ?_, fun _ t ht => ?_⟩)
      · rw [h2.length] at hw
        rw [cut_whole hw] at p3
        exact p3.now S3 (show Pd _ _ _ _ _ from .tup h1 h2)
      · exact p3.newTup S3 ht (h2.cut _ _)
  · split at p3
    · rename_i hd
      obtain ⟨a, vs, rfl, hs, r⟩ := asD_list S3 w4 hd
      exact .inl ⟨_, _, rfl, hs, fun t ht => p3.newLst S3 ht (r.cut _ _)⟩
    · exact p3.elim
/-- xs[::-1], a list -/
@[simp] def dRev (fe : En → Sto → R W) : En → Sto → R W := fun ρ st => (fe ρ st).bind fun w s => match asD s w with
  | some (.list ds) => .ok (.d (.list ds.reverse)) s
  | _ => .bad
theorem y_rev {e : Expr} {k : Nat} {p1 p2 p3 pos : Pos} {fe : En → Sto → R W} (hK : C.K = X.K) (he : PE X e (rdE C fe)) : PE X (.Subscript e (.Slice none none (some (.UnaryOp .USub (.Constant (.int 1) k p1) p2)) p3) pos) (rdE C (dRev fe)) := by
  obtain ⟨K, mg, E⟩ := C
  obtain rfl : K = X.K := hK
  refine PE.imp (pe_revL he) fun σ H Q q => ?_
  obtain ⟨Z0, θ, ρ, st, S, N, p⟩ := q
  refine ⟨Z0, θ, ρ, st, S, N, Post.bind p fun w st1 θ1 H1 v _ e1 S1 w1 p1 => ?_⟩
  split at p1
  · rename_i hd
    obtain ⟨a, vs, rfl, hs, r⟩ := asD_list S1 w1 hd
    exact ⟨_, _, rfl, hs, fun t ht => p1.newLst S1 ht r.reverse⟩
  · exact p1.elim
end
end Y

namespace Y
open PySem PySem.Spec PyProof.Rows L2
section
variable {X : Cx} {C : Ct}
/-! ### built-ins called by their names -/
@[simp] def dCall (g : List W → Sto → R W) (fa : En → Sto → R (List W)) : En → Sto → R W := fun ρ st => (fa ρ st).bind fun ws s => g ws s
theorem t_callB {g : List W → Sto → R W} {fa : En → Sto → R (List W)} {σ : L2.St} {H : Hp} {Q : VK} (q : rdE C (dCall g fa) σ H Q) : tCB (rdC C g) (rdA C fa) σ H Q := by
  obtain ⟨Z0, θ, ρ, st, S, N, p⟩ := q
  exact ⟨Z0, θ, ρ, st, S, N, Post.bind p fun w st1 θ1 H1 v _ e1 S1 w1 p1 => ⟨Z0, θ1, st1, w, S1, w1, p1⟩⟩
@[simp] def gLen : List W → Sto → R W
  | [.d (.str x)], st => chk (x.length ≤ sizeLine) (.ok (.d (.int x.length)) st)
  | [w], st => match items st w with
    | some ws => .ok (.d (.int ws.length)) st
    | none => .bad
  | _, _ => .bad
theorem cLen (hK : C.K = X.K) : CallR X (.builtin "len") (rdC C gLen) := by
  obtain ⟨K, mg, E⟩ := C
  obtain rfl : K = X.K := hK
  intro pins s σ H xs us Q I r h
  obtain ⟨Z0, θ, st, ws, S, rw', p⟩ := h
  unfold gLen at p
  split at p
  · cases rw' with
    | cons a b =>
      cases b
      cases a
      exact call_len_str pins s σ H _ us Q I r ⟨_, rfl, p.chk.1, p.chk.2.now S (show Pd _ _ _ _ _ from .int _)⟩
  · cases rw' with
    | cons a b =>
      cases b
      split at p
      · rename_i ws' hw
        obtain ⟨p', vs, rfl, hs, r'⟩ := items_sq S a hw
        exact call_len_seq pins s σ H _ us Q I r ⟨_, vs, rfl, hs, by rw [← r'.length]; exact p.now S (show Pd _ _ _ _ _ from .int _)⟩
      · exact p.elim
  · exact p.elim
@[simp] def gInt : List W → Sto → R W
  | [.d (.int i)], st => .ok (.d (.int i)) st
  | [.d (.bool b)], st => .ok (.d (.int (if b then 1 else 0))) st
  | _, _ => .bad
theorem cInt : CallR X (.type "int") (rdC C gInt) := by
  intro pins s σ H xs us Q I r h
  obtain ⟨Z0, θ, st, ws, S, rw', p⟩ := h
  unfold gInt at p
  split at p
  · cases rw' with
    | cons a b =>
      cases b
      cases a
      exact call_int1 pins s σ H _ us Q I r (.inl ⟨_, rfl, p.now S (show Pd _ _ _ _ _ from .int _)⟩)
  · cases rw' with
    | cons a b =>
      cases b
      cases a
      exact call_int1 pins s σ H _ us Q I r (.inr ⟨_, rfl, p.now S (show Pd _ _ _ _ _ from .int _)⟩)
  · exact p.elim
@[simp] def gAbs : List W → Sto → R W
  | [.d (.int i)], st => .ok (.d (.int (if i < 0 then -i else i))) st
  | _, _ => .bad
theorem cAbs : CallR X (.builtin "abs") (rdC C gAbs) := by
  intro pins s σ H xs us Q I r h
  obtain ⟨Z0, θ, st, ws, S, rw', p⟩ := h
  unfold gAbs at p
  split at p
  · cases rw' with
    | cons a b =>
      cases b
      cases a
      exact call_abs pins s σ H _ us Q I r ⟨_, rfl, p.now S (show Pd _ _ _ _ _ from .int _)⟩
  · exact p.elim
@[simp] def gMax2 : List W → Sto → R W
  | [.d (.int i), .d (.int j)], st => .ok (.d (.int (if j > i then j else i))) st
  | _, _ => .bad
@[simp] def gMin2 : List W → Sto → R W
  | [.d (.int i), .d (.int j)], st => .ok (.d (.int (if j < i then j else i))) st
  | _, _ => .bad
theorem cMax2 (hc : X.calm = true) : CallR X (.builtin "max") (rdC C gMax2) := by
  intro pins s σ H xs us Q I r h
  obtain ⟨Z0, θ, st, ws, S, rw', p⟩ := h
  unfold gMax2 at p
  split at p
  · cases rw' with
    | cons a b =>
      cases b with
      | cons c d =>
        cases d
        cases a
        cases c
        exact call_max2 hc pins s σ H _ us Q I r ⟨_, _, rfl, p.now S (show Pd _ _ _ _ _ from .int _)⟩
  · exact p.elim
theorem cMin2 (hc : X.calm = true) : CallR X (.builtin "min") (rdC C gMin2) := by
  intro pins s σ H xs us Q I r h
  obtain ⟨Z0, θ, st, ws, S, rw', p⟩ := h
  unfold gMin2 at p
  split at p
  · cases rw' with
    | cons a b =>
      cases b with
      | cons c d =>
        cases d
        cases a
        cases c
        exact call_min2 hc pins s σ H _ us Q I r ⟨_, _, rfl, p.now S (show Pd _ _ _ _ _ from .int _)⟩
  · exact p.elim
@[simp] def gTupleOf : List W → Sto → R W
  | [.d (.tuple ds)], st => .ok (.d (.tuple ds)) st
  | [w], st => match asD st w with
    | some (.list ds) => .ok (.d (.tuple ds)) st
    | _ => .bad
  | _, _ => .bad
theorem cTupleOf (hK : C.K = X.K) : CallR X (.type "tuple") (rdC C gTupleOf) := by
  obtain ⟨K, mg, E⟩ := C
  obtain rfl : K = X.K := hK
  intro pins s σ H xs us Q I r h
  obtain ⟨Z0, θ, st, ws, S, rw', p⟩ := h
  unfold gTupleOf at p
  split at p
  · cases rw' with
    | cons a b =>
      cases b
      cases a with
      | tup h1 h2 => exact call_tuple_of pins s σ H _ us Q I r ⟨_, _, rfl, .inr ⟨h1, p.now S (show Pd _ _ _ _ _ from .tup h1 h2)⟩⟩
  · cases rw' with
    | cons a b =>
      cases b
      split at p
      · rename_i ds hd
        obtain ⟨p', vs, rfl, hs, r'⟩ := asD_list S a hd
        exact call_tuple_of pins s σ H _ us Q I r ⟨_, _, rfl, .inl ⟨hs, fun l hl => p.newTup S hl r'⟩⟩
      · exact p.elim
  · exact p.elim
/-- list(x): a new one that is not to change -/
@[simp] def gListOf : List W → Sto → R W
  | [w], st => match asD st w with
    | some (.list ds) => .ok (.d (.list ds)) st
    | some (.tuple ds) => .ok (.d (.list ds)) st
    | _ => .bad
  | _, _ => .bad
/-- list(x): one of the store -/
@[simp] def gListNew : List W → Sto → R W
  | [w], st => match items st w with
    | some ws => .ok (.ref st.length) (st ++ [.lst ws])
    | none => .bad
  | _, _ => .bad
theorem asD_tup {K : PySem.W.Frag} {Z0 : Addr → Prop} {θ : List (Option Addr)} {H : Hp} {st : Sto} {w : W} {v : V} {ds : List PyData} (h : WR K (Zs Z0 θ) θ H w v) (e : asD st w = some (.tuple ds)) : ∃ a vs, v = .ref a ∧ SqT K H a vs ∧ PdAll K (Zs Z0 θ) H vs ds := by
  cases w with
  | d y => cases e; cases h with | tup h1 h2 => exact ⟨_, _, rfl, h1, h2⟩
  | ref n =>
    dsimp only [asD] at e
    split at e
    · simp only [Option.map_eq_some_iff] at e
      obtain ⟨ds', e1, e2⟩ := e
      cases e2
    · cases e
  | scr ns => cases e
theorem cListOf (hK : C.K = X.K) : CallR X (.type "list") (rdC C gListOf) := by
  obtain ⟨K, mg, E⟩ := C
  obtain rfl : K = X.K := hK
  intro pins s σ H xs us Q I r h
  obtain ⟨Z0, θ, st, ws, S, rw', p⟩ := h
  unfold gListOf at p
  split at p
  · cases rw' with
    | cons a b =>
      cases b
      split at p
      · rename_i ds hd
        obtain ⟨p', vs, rfl, hs, r'⟩ := asD_list S a hd
        exact call_list_of pins s σ H _ us Q I r ⟨_, _, rfl, .inl hs, fun l hl => p.newLst S hl r'⟩
      · rename_i ds hd
        obtain ⟨p', vs, rfl, hs, r'⟩ := asD_tup a hd
        exact call_list_of pins s σ H _ us Q I r ⟨_, _, rfl, .inr hs, fun l hl => p.newLst S hl r'⟩
      · exact p.elim
  · exact p.elim
theorem cListNew (hK : C.K = X.K) : CallR X (.type "list") (rdC C gListNew) := by
  obtain ⟨K, mg, E⟩ := C
  obtain rfl : K = X.K := hK
  intro pins s σ H xs us Q I r h
  obtain ⟨Z0, θ, st, ws, S, rw', p⟩ := h
  unfold gListNew at p
  split at p
  · cases rw' with
    | cons a b =>
      cases b
      split at p
      · rename_i ws' hw
        obtain ⟨p', vs, rfl, hs, r'⟩ := items_sq S a hw
        exact call_list_of pins s σ H _ us Q I r ⟨_, _, rfl, hs, fun l hl => p.newRef S hl r'⟩
      · exact p.elim
  · exact p.elim
@[simp] def gSum : List W → Sto → R W
  | [w], st => match asD st w with
    | some (.list ds) => match asInts ds with
      | some ns => .ok (.d (.int ns.sum)) st
      | none => .bad
    | _ => .bad
  | _, _ => .bad
theorem cSum (hK : C.K = X.K) (hc : X.calm = true) : CallR X (.builtin "sum") (rdC C gSum) := by
  obtain ⟨K, mg, E⟩ := C
  obtain rfl : K = X.K := hK
  intro pins s σ H xs us Q I r h
  obtain ⟨Z0, θ, st, ws, S, rw', p⟩ := h
  unfold gSum at p
  split at p
  · cases rw' with
    | cons a b =>
      cases b
      split at p
      · rename_i ds hd
        split at p
        · rename_i ns hn
          have := asInts_eq hn
          subst this
          obtain ⟨p', vs, rfl, hs, r'⟩ := asD_list S a hd
          have := r'.intsEq
          subst this
          exact cr_sum hc pins s σ H _ us Q I r ⟨_, ns, rfl, hs, p.now S (show Pd _ _ _ _ _ from .int _)⟩
        · exact p.elim
      · exact p.elim
  · exact p.elim
def asBools : List PyData → Option (List Bool)
  | [] => some []
  | .bool i :: r => (asBools r).map (i :: ·)
  | _ :: _ => none
theorem asBools_eq : ∀ {ds : List PyData} {ns : List Bool}, asBools ds = some ns → ds = ns.map .bool
  | [], ns, h => by cases h; rfl
  | .bool i :: ds, ns, h => by
    simp only [asBools, Option.map_eq_some_iff] at h
    obtain ⟨es, h1, rfl⟩ := h
    rw [asBools_eq h1]; rfl
  | .none :: _, _, h => by cases h
  | .int _ :: _, _, h => by cases h
  | .str _ :: _, _, h => by cases h
  | .list _ :: _, _, h => by cases h
  | .tuple _ :: _, _, h => by cases h
  | .dict _ :: _, _, h => by cases h
theorem asBools_map (ns : List Bool) : asBools (ns.map .bool) = some ns := by
  induction ns with
  | nil => rfl
  | cons n ns ih => simp [asBools, ih]
theorem PdAll.blsEq {K : PySem.W.Frag} {Z : Addr → Prop} {H : Hp} : ∀ {ns : List Bool} {vs : List V}, PdAll K Z H vs (ns.map .bool) → vs = ns.map V.bl
  | [], _, h => by cases h; rfl
  | n :: ns, _, h => by cases h with | cons a b => cases a; rw [PdAll.blsEq b]; rfl
@[simp] def gAll : List W → Sto → R W
  | [w], st => match asD st w with
    | some (.list ds) => match asBools ds with
      | some ns => .ok (.d (.bool (ns.all id))) st
      | none => .bad
    | _ => .bad
  | _, _ => .bad
theorem cAll (hK : C.K = X.K) (hc : X.calm = true) : CallR X (.builtin "all") (rdC C gAll) := by
  obtain ⟨K, mg, E⟩ := C
  obtain rfl : K = X.K := hK
  intro pins s σ H xs us Q I r h
  obtain ⟨Z0, θ, st, ws, S, rw', p⟩ := h
  unfold gAll at p
  split at p
  · cases rw' with
    | cons a b =>
      cases b
      split at p
      · rename_i ds hd
        split at p
        · rename_i ns hn
          have := asBools_eq hn
          subst this
          obtain ⟨p', vs, rfl, hs, r'⟩ := asD_list S a hd
          have := r'.blsEq
          subst this
          exact cr_all hc pins s σ H _ us Q I r ⟨_, ns, rfl, hs, p.now S (show Pd _ _ _ _ _ from .bl _)⟩
        · exact p.elim
      · exact p.elim
  · exact p.elim
@[simp] def gStr : List W → Sto → R W
  | [.d (.int i)], st => chk (i.natAbs.log2 < 1920) (.ok (.d (.str (toString i))) st)
  | _, _ => .bad
theorem cStr : CallR X (.type "str") (rdC C gStr) := by
  intro pins s σ H xs us Q I r h
  obtain ⟨Z0, θ, st, ws, S, rw', p⟩ := h
  unfold gStr at p
  split at p
  · cases rw' with
    | cons a b =>
      cases b
      cases a
      exact call_str_int pins s σ H _ us Q I r ⟨_, rfl, p.chk.1, p.chk.2.now S (show Pd _ _ _ _ _ from .str _)⟩
  · exact p.elim
/-- repr of data -/
@[simp] def gRepr : List W → Sto → R W
  | [w], st => match asD st w with
    | some d => chk (d.showable = true ∧ d.hasDict = false ∧ d.depth ≤ 64 ∧ d.shown.length ≤ sizeLine) (.ok (.d (.str d.shown)) st)
    | none => .bad
  | _, _ => .bad
theorem cRepr (hK : C.K = X.K) (hg : X.A.guards = some []) (hu : X.A.units + 66 < cLine) : CallR X (.builtin "repr") (rdC C gRepr) := by
  obtain ⟨K, mg, E⟩ := C
  obtain rfl : K = X.K := hK
  intro pins s σ H xs us Q I r h
  obtain ⟨Z0, θ, st, ws, S, rw', p⟩ := h
  unfold gRepr at p
  split at p
  · cases rw' with
    | cons a b =>
      cases b
      split at p
      · rename_i w v d hd
        obtain ⟨⟨h1, h2, h3, h4⟩, p⟩ := p.chk
        have hp := asD_dp S a hd
        obtain ⟨u, rfl, ru⟩ := vals1 r
        have fin : ∀ (k : Tok) (h' : Heap) (tk : Nat), (∀ b o, s.heap.get? b = some o → h'.get? b = some o) → EP X pins σ Q (.str d.shown k) { s with heap := h', toks := tk } := fun k h' tk hk =>
          ⟨.str d.shown, H, I.kept hk, ⟨_, rfl⟩, p.now S (show Pd _ _ _ _ _ from .str _)⟩
        have stay := fun (k : Tok) (tk : Nat) => fin k s.heap tk fun _ _ e => e
        cases hp with
        | non => cases ru; exact PySem.P.repr_of_none (stay _ _)
        | bl b => cases ru; exact PySem.P.repr_of_bool (stay _ _)
        | int i => obtain ⟨t, rfl⟩ := ru; exact PySem.P.repr_of_int (by simpa [PyData.showable] using h1) (stay _ _)
        | str x => obtain ⟨t, rfl⟩ := ru; exact PySem.P.repr_of_str (stay _ _) h4
        | lst g1 g2 =>
          cases ru
          obtain ⟨as, rr⟩ := Dp.reads I _ _ _ (.lst g1 g2) rfl
          exact PySem.repr_of_reads' rr h1 (fun z => by rw [h2] at z; cases z) hg (by omega) (fun _ _ e => e) (fun h' u tk hk => fin u h' tk hk) h4
        | tup g1 g2 =>
          cases ru
          obtain ⟨as, rr⟩ := Dp.reads I _ _ _ (.tup g1 g2) rfl
          exact PySem.repr_of_reads' rr h1 (fun z => by rw [h2] at z; cases z) hg (by omega) (fun _ _ e => e) (fun h' u tk hk => fin u h' tk hk) h4
      · exact p.elim
  · exact p.elim
end
end Y

namespace Y
open PySem PySem.Spec PyProof.Rows L2

/-! ### statements -/
inductive Fl where
  | nx | bk | ct
  | rt (w : W)
abbrev DS := En → Sto → R (Fl × En)
def EndAt (C : Ct) (Z0 : Addr → Prop) (θ : List (Option Addr)) (H : Hp) (σ : L2.St) (D : Ends) : Fl → Prop
  | .nx => D.nx σ H
  | .bk => D.bk σ H
  | .ct => D.ct σ H
  | .rt w => ∀ v, WR C.K (Zs Z0 θ) θ H w v → D.rt v H
def PostS (C : Ct) (Z0 : Addr → Prop) (θ : List (Option Addr)) (H : Hp) (r : R (Fl × En)) (D : Ends) : Prop :=
  match r with
  | .ok a st' => ∀ θ' H' σ', Ext θ H θ' H' → SR C.K Z0 θ' st' H' → EnR C.K (Zs Z0 θ') θ' H' a.2 σ' → EndAt C Z0 θ' H' σ' D a.1
  | .exc c x st' => ExcW C Z0 θ H c x st'
  | .bad => False
def rdS (C : Ct) (f : DS) : TS := fun D σ H => ∃ Z0 θ ρ st, SR C.K Z0 θ st H ∧ EnR C.K (Zs Z0 θ) θ H ρ σ ∧ PostS C Z0 θ H (f ρ st) D
section
variable {X : Cx} {C : Ct} {Z0 : Addr → Prop} {θ θ1 : List (Option Addr)} {H H1 : Hp} {D D' : Ends}
theorem PostS.from {r : R (Fl × En)} (e : Ext θ H θ1 H1) (h : PostS C Z0 θ H r D) : PostS C Z0 θ1 H1 r D := by
  cases r with
  | ok w st' => exact fun θ' H' v e' S p => h θ' H' v (e.trans e') S p
  | exc c x st' => exact ExcW.from e h
  | bad => exact h
theorem PostS.bindS {r : R (Fl × En)} {k : Fl × En → Sto → R (Fl × En)} (h : PostS C Z0 θ H (r.bind k) D)
    (f : ∀ fl ρ' st1 θ1 H1 σ1, Ext θ H θ1 H1 → SR C.K Z0 θ1 st1 H1 → EnR C.K (Zs Z0 θ1) θ1 H1 ρ' σ1 → PostS C Z0 θ1 H1 (k (fl, ρ') st1) D → EndAt C Z0 θ1 H1 σ1 D' fl) : PostS C Z0 θ H r D' := by
  cases r with
  | ok a st1 => exact fun θ1 H1 σ1 e S N => f a.1 a.2 st1 θ1 H1 σ1 e S N (PostS.from e h)
  | exc c x st1 => exact h
  | bad => exact h
theorem PostS.bindE {α β : Type} {rel : List (Option Addr) → Hp → α → β → Prop} {r : R α} {k : α → Sto → R (Fl × En)} {G : β → Hp → Prop} (h : PostS C Z0 θ H (r.bind k) D)
    (f : ∀ w st1 θ1 H1 v, Ext θ H θ1 H1 → SR C.K Z0 θ1 st1 H1 → rel θ1 H1 w v → PostS C Z0 θ1 H1 (k w st1) D → G v H1) : Post C Z0 θ H rel r G := by
  cases r with
  | ok w st1 => exact fun θ1 H1 v e S p => f w st1 θ1 H1 v e S p (PostS.from e h)
  | exc c x st1 => exact h
  | bad => exact h
theorem PostS.now {fl : Fl} {ρ : En} {st : Sto} {σ : L2.St} (h : PostS C Z0 θ H (.ok (fl, ρ) st) D) (S : SR C.K Z0 θ st H) (N : EnR C.K (Zs Z0 θ) θ H ρ σ) : EndAt C Z0 θ H σ D fl := h θ H σ Ext.refl S N
theorem EndAt.nxOf {D : Ends} {fl : Fl} {σ : L2.St} {u : L2.St → Hp → Prop} (h : fl ≠ .nx) (q : EndAt C Z0 θ H σ D fl) : EndAt C Z0 θ H σ { D with nx := u } fl := by
  cases fl with
  | nx => exact absurd rfl h
  | bk => exact q
  | ct => exact q
  | rt w => exact q
theorem EnR.set {K : PySem.W.Frag} {Z : Addr → Prop} {ρ : En} {σ : L2.St} {w : W} {v : V} (i : Nat) (N : EnR K Z θ H ρ σ) (r : WR K Z θ H w v) : EnR K Z θ H (ρ.set i (some w)) (σ.set i (some v)) := by
  refine ⟨by simp [N.len], fun j u e => ?_⟩
  by_cases h : i = j
  · subst h
    have hi : i < ρ.length := by
      have := (List.getElem?_eq_some_iff.mp e).1
      simpa using this
    rw [List.getElem?_set_self hi] at e
    cases e
    exact ⟨v, by rw [List.getElem?_set_self (by rw [← N.len]; exact hi)], r⟩
  · rw [List.getElem?_set_ne h] at e
    obtain ⟨v', h1, h2⟩ := N.at_ j u e
    exact ⟨v', by rw [List.getElem?_set_ne h]; exact h1, h2⟩
/-- one behind the other -/
@[simp] def dSeq (f g : DS) : DS := fun ρ st => (f ρ st).bind fun a s => match a.1 with
  | .nx => g a.2 s
  | fl => .ok (fl, a.2) s
@[simp] def dEnd : DS := fun ρ st => .ok (.nx, ρ) st
variable {st : Stmt} {rest : List Stmt} {f g : DS} {e : Expr} {fe : En → Sto → R W} {pos : Pos}
theorem t_seq {σ : L2.St} (q : rdS C (dSeq f g) D σ H) : tSeq (rdS C f) (rdS C g) D σ H := by
  obtain ⟨Z0, θ, ρ, st, S, N, p⟩ := q
  refine ⟨Z0, θ, ρ, st, S, N, PostS.bindS p fun fl ρ' st1 θ1 H1 σ1 e1 S1 N1 p1 => ?_⟩
  cases fl with
  | nx => exact ⟨Z0, θ1, ρ', st1, S1, N1, p1⟩
  | bk => exact p1.now S1 N1
  | ct => exact p1.now S1 N1
  | rt w => exact p1.now S1 N1
theorem y_end : PSs X [] (rdS C dEnd) := PSs.imp pss_nil fun D σ H ⟨_, _, _, _, S, N, p⟩ => p.now S N
theorem y_seq (h1 : PS X st (rdS C f)) (h2 : PSs X rest (rdS C g)) : PSs X (st :: rest) (rdS C (dSeq f g)) := PSs.imp (pss_cons h1 h2) fun _ _ _ => t_seq
theorem y_last (h1 : PS X st (rdS C f)) : PSs X [st] (rdS C f) := pss_one h1
@[simp] def dPass : DS := dEnd
theorem y_pass : PS X (.Pass pos) (rdS C dPass) := PS.imp ps_pass fun D σ H ⟨_, _, _, _, S, N, p⟩ => p.now S N
@[simp] def dCont : DS := fun ρ st => .ok (.ct, ρ) st
theorem y_cont : PS X (.Continue pos) (rdS C dCont) := PS.imp ps_continue fun D σ H ⟨_, _, _, _, S, N, p⟩ => p.now S N
@[simp] def dBreak : DS := fun ρ st => .ok (.bk, ρ) st
theorem y_break : PS X (.Break pos) (rdS C dBreak) := PS.imp ps_break fun D σ H ⟨_, _, _, _, S, N, p⟩ => p.now S N
@[simp] def dExpr (fe : En → Sto → R W) : DS := fun ρ st => (fe ρ st).bind fun _ s => .ok (.nx, ρ) s
theorem y_expr (h : PE X e (rdE C fe)) (hs : swapsWith e none pos.line X.env = pure false := by rfl) : PS X (.Expr e pos) (rdS C (dExpr fe)) := PS.imp (ps_expr h hs) fun D σ H q => by
  obtain ⟨Z0, θ, ρ, st, S, N, p⟩ := q
  exact ⟨Z0, θ, ρ, st, S, N, PostS.bindE p fun w st1 θ1 H1 v e1 S1 w1 p1 => p1.now S1 (N.ext e1)⟩
@[simp] def dRet (fe : En → Sto → R W) : DS := fun ρ st => (fe ρ st).bind fun w s => .ok (.rt w, ρ) s
theorem y_ret (h : PE X e (rdE C fe)) : PS X (.Return (some e) pos) (rdS C (dRet fe)) := PS.imp (ps_ret h) fun D σ H q => by
  obtain ⟨Z0, θ, ρ, st, S, N, p⟩ := q
  exact ⟨Z0, θ, ρ, st, S, N, PostS.bindE p fun w st1 θ1 H1 v e1 S1 w1 p1 => p1.now S1 (N.ext e1) v w1⟩
@[simp] def dRetN : DS := fun ρ st => .ok (.rt (.d .none), ρ) st
theorem y_retN : PS X (.Return none pos) (rdS C dRetN) := PS.imp ps_retN fun D σ H ⟨_, _, _, _, S, N, p⟩ => p.now S N _ (show Pd _ _ _ _ _ from .non)
@[simp] def dIfS (t : En → Sto → R Bool) (f g : DS) : DS := fun ρ st => (t ρ st).bind fun b s => if b = true then f ρ s else g ρ s
theorem y_ifS {c : Expr} {t : En → Sto → R Bool} {sa sb : List Stmt} (hc : PT X c (rdT C t)) (ha : PSs X sa (rdS C f)) (hb : PSs X sb (rdS C g)) : PS X (.If c sa sb pos) (rdS C (dIfS t f g)) := PS.imp (ps_if hc ha hb) fun D σ H q => by
  obtain ⟨Z0, θ, ρ, st, S, N, p⟩ := q
  refine ⟨Z0, θ, ρ, st, S, N, PostS.bindE p fun w st1 θ1 H1 v e1 S1 w1 p1 => ?_⟩
  cases w1
  cases w with
  | true => rw [if_pos rfl] at p1 ⊢; exact ⟨Z0, θ1, ρ, st1, S1, N.ext e1, p1⟩
  | false => rw [if_neg (by simp)] at p1 ⊢; exact ⟨Z0, θ1, ρ, st1, S1, N.ext e1, p1⟩

/-! ### targets -/
@[simp] def wipeE (ρ : En) : List Nat → En
  | [] => ρ
  | v :: vs => (wipeE ρ vs).set v none
theorem EnR.wipe {K : PySem.W.Frag} {Z : Addr → Prop} {ρ : En} {σ : L2.St} (N : EnR K Z θ H ρ σ) : ∀ vs : List Nat, EnR K Z θ H (wipeE ρ vs) (L2.wipe σ vs)
  | [] => N
  | v :: vs => by
    have ih := EnR.wipe N vs
    refine ⟨by simp [wipeE, L2.wipe, ih.len], fun j u e => ?_⟩
    unfold wipeE at e
    unfold L2.wipe
    by_cases h : v = j
    · subst h
      by_cases hv : v < (wipeE ρ vs).length
      · rw [List.getElem?_set_self hv] at e; cases e
      · rw [List.getElem?_eq_none (by simpa using hv)] at e; cases e
    · rw [List.getElem?_set_ne h] at e
      rw [List.getElem?_set_ne h]
      exact ih.at_ j u e
theorem wipe_set {σ : L2.St} {i : Nat} {x : Option V} : ∀ {vs : List Nat}, i ∈ vs → L2.wipe (σ.set i x) vs = L2.wipe σ vs
  | v :: vs, h => by
    unfold L2.wipe
    by_cases hi : i ∈ vs
    · rw [wipe_set hi]
    · have hv : v = i := by
        rcases List.mem_cons.mp h with h | h
        · exact h.symm
        · exact absurd h hi
      subst hv
      have : ∀ (us : List Nat), v ∉ us → L2.wipe (σ.set v x) us = (L2.wipe σ us).set v x := by
        intro us
        induction us with
        | nil => intro _; rfl
        | cons u us ih =>
          intro hu
          simp only [List.mem_cons, not_or] at hu
          show (L2.wipe (σ.set v x) us).set u none = ((L2.wipe σ us).set u none).set v x
          rw [ih hu.2, List.set_comm _ _ (Ne.symm hu.1)]
      rw [this vs hi, List.set_set]
abbrev relG (K : PySem.W.Frag) (Z0 : Addr → Prop) (vs : List Nat) (σ0 : L2.St) : List (Option Addr) → Hp → En → L2.St → Prop := fun θ H ρ σ => EnR K (Zs Z0 θ) θ H ρ σ ∧ L2.wipe σ vs = L2.wipe σ0 vs
def rdG (C : Ct) (vs : List Nat) (g : W → En → Sto → R En) : TG := fun v σ H Q => ∃ Z0 θ ρ st w, SR C.K Z0 θ st H ∧ EnR C.K (Zs Z0 θ) θ H ρ σ ∧ WR C.K (Zs Z0 θ) θ H w v ∧ Post C Z0 θ H (relG C.K Z0 vs σ) (g w ρ st) Q
def rdGs (C : Ct) (vs : List Nat) (g : List W → En → Sto → R En) : TGs := fun us σ H Q => ∃ Z0 θ ρ st ws, SR C.K Z0 θ st H ∧ EnR C.K (Zs Z0 θ) θ H ρ σ ∧ WRs C.K (Zs Z0 θ) θ H ws us ∧ Post C Z0 θ H (relG C.K Z0 vs σ) (g ws ρ st) Q
theorem PG.imp {e : Expr} {t t' : TG} (h : PG X e t) (k : ∀ v σ H Q, t' v σ H Q → t v σ H Q) : PG X e t' := ⟨fun pins s σ H v u Q I r q => h.run pins s σ H v u Q I r (k v σ H Q q)⟩
theorem PGs.imp {e : List Expr} {t t' : TGs} (h : PGs X e t) (k : ∀ v σ H Q, t' v σ H Q → t v σ H Q) : PGs X e t' := ⟨fun pins s σ H v u Q I r q => h.run pins s σ H v u Q I r (k v σ H Q q)⟩
@[simp] def tName (i : Nat) : W → En → Sto → R En := fun w ρ st => .ok (ρ.set i (some w)) st
@[simp] def tNil' : List W → En → Sto → R En := fun ws ρ st => match ws with | [] => .ok ρ st | _ => .bad
@[simp] def tCons' (g : W → En → Sto → R En) (h : List W → En → Sto → R En) : List W → En → Sto → R En := fun ws ρ st => match ws with
  | w :: ws => (g w ρ st).bind fun ρ s => h ws ρ s
  | [] => .bad
@[simp] def tTup' (n : Nat) (h : List W → En → Sto → R En) : W → En → Sto → R En := fun w ρ st => match w with
  | .d (.tuple ds) => chk (ds.length = n) (h (ds.map .d) ρ st)
  | _ => .bad
theorem y_gname {vs : List Nat} {i : Nat} {e : Expr} (h : PG X e (gName i)) (hi : i ∈ vs) : PG X e (rdG C vs (tName i)) := PG.imp h fun v σ H Q q => by
  obtain ⟨Z0, θ, ρ, st, w, S, N, r, p⟩ := q
  exact p.now S ⟨N.set i r, wipe_set hi⟩
theorem y_gnil {vs : List Nat} : PGs X [] (rdGs C vs tNil') := PGs.imp pgs_nil fun v σ H Q q => by
  obtain ⟨Z0, θ, ρ, st, ws, S, N, r, p⟩ := q
  unfold tNil' at p
  split at p
  · cases r
    exact ⟨rfl, p.now S ⟨N, rfl⟩⟩
  · exact p.elim
theorem y_gcons {vs : List Nat} {e : Expr} {es : List Expr} {g : W → En → Sto → R En} {h : List W → En → Sto → R En} (h1 : PG X e (rdG C vs g)) (h2 : PGs X es (rdGs C vs h))
    (hs : (assignEach (e :: es) X.env).map (·.2) = assign e X.env :: (assignEach es X.env).map (·.2) := by rfl) : PGs X (e :: es) (rdGs C vs (tCons' g h)) := PGs.imp (pgs_cons h1 h2 hs) fun v σ H Q q => by
  obtain ⟨Z0, θ, ρ, st, ws, S, N, r, p⟩ := q
  unfold tCons' at p
  split at p
  · cases r with
    | cons a b =>
      refine ⟨_, _, rfl, Z0, θ, ρ, st, _, S, N, a, Post.bind p fun ρ1 st1 θ1 H1 σ1 _ e1 S1 w1 p1 => ?_⟩
      refine ⟨Z0, θ1, ρ1, st1, _, S1, w1.1, WRs.ext e1 b, ?_⟩
      cases hr : h _ ρ1 st1 with
      | ok ρ2 st2 => rw [hr] at p1; exact fun θ2 H2 σ2 e2 S2 w2 => p1 θ2 H2 σ2 e2 S2 ⟨w2.1, w2.2.trans w1.2⟩
      | exc c x s => rw [hr] at p1; exact p1
      | bad => rw [hr] at p1; exact p1
  · exact p.elim
theorem y_gtup {vs : List Nat} {es : List Expr} {k n : Nat} {h : List W → En → Sto → R En} (hK : C.K = X.K) (hc : X.calm = true) (hh : PGs X es (rdGs C vs h))
    (hn : (assignEach es X.env).length = n := by rfl) (hst : (assignEach es X.env).findIdx? (·.1) = none := by rfl) : PG X (.Tuple es k pos) (rdG C vs (tTup' n h)) := by
  obtain ⟨K, mg, E⟩ := C
  obtain rfl : K = X.K := hK
  refine PG.imp (pg_tup hc hh hn hst) fun v σ H Q q => ?_
  obtain ⟨Z0, θ, ρ, st, w, S, N, r, p⟩ := q
  unfold tTup' at p
  split at p
  · cases r with
    | tup h1 h2 => exact ⟨_, _, rfl, h1, by rw [h2.length]; exact p.chk.1, Z0, θ, ρ, st, _, S, N, h2.toWRs, p.chk.2⟩
  · exact p.elim
/-- target = value -/
@[simp] def dAsg (fe : En → Sto → R W) (g : W → En → Sto → R En) : DS := fun ρ st => (fe ρ st).bind fun w s => (g w ρ s).bind fun ρ s => .ok (.nx, ρ) s
theorem t_asg {vs : List Nat} {g : W → En → Sto → R En} {σ : L2.St} (q : rdS C (dAsg fe g) D σ H) : tAsg (rdE C fe) (rdG C vs g) D σ H := by
  obtain ⟨Z0, θ, ρ, st, S, N, p⟩ := q
  refine ⟨Z0, θ, ρ, st, S, N, PostS.bindE p fun w st1 θ1 H1 v e1 S1 w1 p1 => ⟨Z0, θ1, ρ, st1, w, S1, N.ext e1, w1, PostS.bindE p1 fun ρ2 st2 θ2 H2 σ2 e2 S2 w2 p2 => p2.now S2 w2.1⟩⟩
theorem y_asg {vs : List Nat} {tg : Expr} {g : W → En → Sto → R En} (he : PE X e (rdE C fe)) (hg : PG X tg (rdG C vs g)) (hs : swapsWithSole [tg] e pos.line X.env = pure false := by rfl) (hw : swappedStores [tg] e X.env = pure none := by rfl)
    (h1 : (assignEach [tg] X.env).map (·.2) = [assign tg X.env] := by rfl) : PS X (.Assign [tg] e pos) (rdS C (dAsg fe g)) := PS.imp (ps_asg he hg hs hw h1) fun _ _ _ => t_asg
@[simp] def dSet (i : Nat) (fe : En → Sto → R W) : DS := fun ρ st => (fe ρ st).bind fun w s => .ok (.nx, ρ.set i (some w)) s
theorem t_set {i : Nat} {σ : L2.St} (q : rdS C (dSet i fe) D σ H) : tAsg (rdE C fe) (gName i) D σ H := by
  obtain ⟨Z0, θ, ρ, st, S, N, p⟩ := q
  exact ⟨Z0, θ, ρ, st, S, N, PostS.bindE p fun w st1 θ1 H1 v e1 S1 w1 p1 => p1.now S1 ((N.ext e1).set i w1)⟩
theorem y_set {i : Nat} {st : Stmt} (h : PS X st (tAsg (rdE C fe) (gName i))) : PS X st (rdS C (dSet i fe)) := PS.imp h fun _ _ _ => t_set
@[simp] def dPar (i j : Nat) (fa : En → Sto → R (List W)) : DS := fun ρ st => (fa ρ st).bind fun ws s => match ws with
  | [w, u] => .ok (.nx, (ρ.set i (some w)).set j (some u)) s
  | _ => .bad
theorem y_par {i j : Nat} {st : Stmt} {fa : En → Sto → R (List W)} (h : PS X st (tPar i j (rdA C fa))) : PS X st (rdS C (dPar i j fa)) := PS.imp h fun D σ H q => by
  obtain ⟨Z0, θ, ρ, st, S, N, p⟩ := q
  refine ⟨Z0, θ, ρ, st, S, N, PostS.bindE p fun ws st1 θ1 H1 vs e1 S1 w1 p1 => ?_⟩
  split at p1
  · cases w1 with
    | cons a b =>
      cases b with
      | cons c d =>
        cases d
        exact ⟨_, _, rfl, p1.now S1 (((N.ext e1).set i a).set j c)⟩
  · exact p1.elim
@[simp] def dPar3 (i j l : Nat) (fa : En → Sto → R (List W)) : DS := fun ρ st => (fa ρ st).bind fun ws s => match ws with
  | [w, u, z] => .ok (.nx, ((ρ.set i (some w)).set j (some u)).set l (some z)) s
  | _ => .bad
theorem y_par3 {i j l : Nat} {st : Stmt} {fa : En → Sto → R (List W)} (h : PS X st (tPar3 i j l (rdA C fa))) : PS X st (rdS C (dPar3 i j l fa)) := PS.imp h fun D σ H q => by
  obtain ⟨Z0, θ, ρ, st, S, N, p⟩ := q
  refine ⟨Z0, θ, ρ, st, S, N, PostS.bindE p fun ws st1 θ1 H1 vs e1 S1 w1 p1 => ?_⟩
  split at p1
  · cases w1 with
    | cons a b =>
      cases b with
      | cons c d =>
        cases d with
        | cons c2 d2 =>
          cases d2
          exact ⟨_, _, _, rfl, p1.now S1 ((((N.ext e1).set i a).set j c).set l c2)⟩
  · exact p1.elim
/-- name op= e -/
@[simp] def vIadd : W → W → Sto → R W
  | .d (.int i), .d (.int j), st => .ok (.d (.int (i + j))) st
  | .d (.str x), .d (.str y), st => chk (x.length + y.length ≤ sizeLine) (.ok (.d (.str (x ++ y))) st)
  | _, _, _ => .bad
theorem ipAdd : PIp X .Add (rdO C vIadd) := by
  intro pins s σ H x y v u Q I rx ry h
  obtain ⟨Z0, θ, st, a, b, S, wa, wb, p⟩ := h
  unfold vIadd at p
  split at p
  · cases wa; cases wb
    exact iop_add pins s σ H _ _ v u Q I rx ry ⟨_, _, rfl, rfl, p.now S (show Pd _ _ _ _ _ from .int _)⟩
  · cases wa; cases wb
    exact iop_add_str pins s σ H _ _ v u Q I rx ry ⟨_, _, rfl, rfl, p.chk.1, p.chk.2.now S (show Pd _ _ _ _ _ from .str _)⟩
  · exact p.elim
@[simp] def dAug (i : Nat) (g : W → W → Sto → R W) (fe : En → Sto → R W) : DS := fun ρ st => match ρ[i]? with
  | some (some x) => (fe ρ st).bind fun y s => (g x y s).bind fun z s => .ok (.nx, ρ.set i (some z)) s
  | _ => .bad
theorem y_aug {i : Nat} {st : Stmt} {g : W → W → Sto → R W} (h : PS X st (tAug i (rdE C fe) (rdO C g))) : PS X st (rdS C (dAug i g fe)) := PS.imp h fun D σ H q => by
  obtain ⟨Z0, θ, ρ, st, S, N, p⟩ := q
  unfold dAug at p
  split at p
  · rename_i x hx
    obtain ⟨v, h1, h2⟩ := N.at_ i x hx
    exact ⟨v, h1, Z0, θ, ρ, st, S, N, PostS.bindE p fun w st1 θ1 H1 u e1 S1 w1 p1 => ⟨Z0, θ1, st1, x, w, S1, h2.ext e1, w1, PostS.bindE p1 fun z st2 θ2 H2 zv e2 S2 w2 p2 => p2.now S2 (((N.ext e1).ext e2).set i w2)⟩⟩
  · exact p.elim

/-! ### a change of the store -/
theorem Ext.write {K : PySem.W.Frag} {st : Sto} {n : Nat} {a : Addr} {vs vs' : List V} (S : SR K Z0 θ st H) (h : θ[n]? = some (some a)) (e : H a = some (.lst vs)) : Ext θ H θ (upd H a (.lst vs')) := by
  have hm : some a ∈ θ := List.mem_of_getElem? h
  refine ⟨fun _ _ q => .inl q, fun _ _ q => .inl q, fun b o hb q => ?_, fun b xs q => ?_, fun b o u q => ?_, fun b q => ?_⟩
  · rw [upd_ne (show b ≠ a from fun z => hb (by rw [z]; exact hm))]; exact q
  · rw [upd_ne (show b ≠ a from fun z => by rw [z, e] at q; cases q)]; exact q
  · rw [upd_ne (show b ≠ a from fun z => by rw [z, e] at q; cases q)]; exact q
  · by_cases z : b = a
    · rw [z, upd_same]; simp
    · rw [upd_ne z]; exact q
theorem SR.write {K : PySem.W.Frag} {st : Sto} {n : Nat} {a : Addr} {vs vs' : List V} {ws' : List W} (S : SR K Z0 θ st H) (h : θ[n]? = some (some a)) (e : H a = some (.lst vs)) (r : WRs K (Zs Z0 θ) θ H ws' vs') : SR K Z0 θ (st.set n (.lst ws')) (upd H a (.lst vs')) := by
  have x := Ext.write (vs' := vs') S h e
  refine ⟨by simp [S.len], S.nd, fun m b o h1 h2 => ?_, fun m hm => ?_, fun b hb => x.live b (S.z0 b hb), S.dis⟩
  · by_cases hmn : n = m
    · subst hmn
      rw [h] at h1; cases h1
      have hn : n < st.length := by rw [← S.len]; exact (List.getElem?_eq_some_iff.mp h).1
      rw [List.getElem?_set_self hn] at h2
      cases h2
      exact ⟨vs', upd_same, WRs.ext x r⟩
    · rw [List.getElem?_set_ne hmn] at h2
      exact OR.ext x (upd_ne fun z => hmn (S.nd n m a h (z ▸ h1))) (S.obj m b o h1 h2)
  · rw [List.getElem?_set_ne (fun z => by rw [← z, h] at hm; cases hm)]
    exact S.dd m hm
/-- a place is given up: its list is not to change any more -/
theorem Ext.kill {n : Nat} {a : Addr} (h : θ[n]? = some (some a)) : Ext θ H (θ.set n none) H := by
  refine ⟨fun m b q => ?_, fun m o q => ?_, fun _ _ _ q => q, fun _ _ q => q, fun _ _ _ q => q, fun _ q => q⟩
  · by_cases hm : n = m
    · subst hm
      rw [List.getElem?_set_self (List.getElem?_eq_some_iff.mp h).1] at q; cases q
    · rw [List.getElem?_set_ne hm] at q; exact .inl q
  · by_cases hm : n = m
    · subst hm
      exact .inr (List.getElem?_set_self (List.getElem?_eq_some_iff.mp h).1)
    · exact .inl (by rw [List.getElem?_set_ne hm]; exact q)
theorem SR.kill {K : PySem.W.Frag} {st : Sto} {n : Nat} {a : Addr} (S : SR K Z0 θ st H) (h : θ[n]? = some (some a)) : SR K Z0 (θ.set n none) (st.set n .dead) H := by
  have x := Ext.kill (H := H) h
  have hn : n < st.length := by rw [← S.len]; exact (List.getElem?_eq_some_iff.mp h).1
  have old : ∀ {m : Nat} {b : Addr}, (θ.set n none)[m]? = some (some b) → n ≠ m ∧ θ[m]? = some (some b) := fun {m b} q => by
    by_cases hm : n = m
    · subst hm
      rw [List.getElem?_set_self (List.getElem?_eq_some_iff.mp h).1] at q; cases q
    · rw [List.getElem?_set_ne hm] at q; exact ⟨hm, q⟩
  refine ⟨by simp [S.len], fun m k b h1 h2 => S.nd m k b (old h1).2 (old h2).2, fun m b o h1 h2 => ?_, fun m hm => ?_, S.z0, fun b hb => ?_⟩
  · obtain ⟨q1, q2⟩ := old h1
    rw [List.getElem?_set_ne q1] at h2
    exact OR.ext x rfl (S.obj m b o q2 h2)
  · by_cases hmn : n = m
    · subst hmn; exact List.getElem?_set_self hn
    · rw [List.getElem?_set_ne hmn] at hm ⊢
      exact S.dd m hm
  · obtain ⟨m, hm⟩ := List.getElem?_of_mem hb
    exact S.dis b (List.mem_of_getElem? (old hm).2)
@[simp] def freeze : W → Sto → R W
  | .ref n, st => match st[n]? with
    | some (.lst ws) => match allD ws with
      | some ds => .ok (.d (.list ds)) (st.set n .dead)
      | none => .bad
    | _ => .bad
  | w, st => .ok w st
theorem post_freeze {K : PySem.W.Frag} {st st' : Sto} {w w' : W} {v : V} (S : SR K Z0 θ st H) (r : WR K (Zs Z0 θ) θ H w v) (e : freeze w st = .ok w' st') : ∃ θ', Ext θ H θ' H ∧ SR K Z0 θ' st' H ∧ WR K (Zs Z0 θ') θ' H w' v := by
  cases w with
  | d x => cases e; exact ⟨θ, Ext.refl, S, r⟩
  | scr ns => cases e; exact ⟨θ, Ext.refl, S, r⟩
  | ref n =>
    unfold freeze at e
    dsimp only at e
    split at e
    · rename_i ws hw
      split at e
      · rename_i ds hd
        cases e
        obtain ⟨a, vs, rfl, h2, h3, h4⟩ := S.at_ r hw
        refine ⟨θ.set n none, Ext.kill h2, S.kill h2, show Pd _ _ _ _ _ from .lst ⟨.inl h3, fun z => ?_⟩ (PdAll.ext (Ext.kill h2) (h4.pd hd))⟩
        rcases z with z | z
        · obtain ⟨m, hm⟩ := List.getElem?_of_mem z
          by_cases hmn : n = m
          · subst hmn
            rw [List.getElem?_set_self (List.getElem?_eq_some_iff.mp h2).1] at hm; cases hm
          · rw [List.getElem?_set_ne hmn] at hm
            exact hmn (S.nd n m a h2 hm)
        · exact S.dis a (List.mem_of_getElem? h2) z
      · cases e
    · cases e
theorem freeze_exc {w : W} {st : Sto} {c : Str} {x : PyData} {s : Sto} (h : freeze w st = .exc c x s) : False := by
  unfold freeze at h
  split at h
  · split at h
    · split at h <;> cases h
    · cases h
  · cases h
/-- (unseen by Python) the list at a name is not to change any more -/
@[simp] def dFrz (i : Nat) : DS := fun ρ st => match ρ[i]? with
  | some (some w) => (freeze w st).bind fun w s => .ok (.nx, ρ.set i (some w)) s
  | _ => .bad
theorem y_frz {i : Nat} {sts : List Stmt} (h : PSs X sts (rdS C f)) : PSs X sts (rdS C (dSeq (dFrz i) f)) := PSs.imp h fun D σ H q => by
  obtain ⟨Z0, θ, ρ, st, S, N, p⟩ := q
  unfold dSeq dFrz at p
  split at p
  · rename_i w hw
    obtain ⟨v, h1, h2⟩ := N.at_ i w hw
    cases e : freeze w st with
    | bad => rw [e] at p; exact p.elim
    | exc c x s => exact (freeze_exc e).elim
    | ok w' st' =>
      rw [e] at p
      obtain ⟨θ', x, S', r'⟩ := post_freeze S h2 e
      have N' := (N.ext x).set i r'
      have es : σ.set i (some v) = σ := by
        apply List.ext_getElem?
        intro j
        by_cases hj : i = j
        · subst hj; rw [List.getElem?_set_self (List.getElem?_eq_some_iff.mp h1).1, h1]
        · rw [List.getElem?_set_ne hj]
      rw [es] at N'
      exact ⟨Z0, θ', _, st', S', N', PostS.from x p⟩
  · exact p.elim
/-- return e, the list that it is not to change any more -/
@[simp] def dFz (fe : En → Sto → R W) : En → Sto → R W := fun ρ st => (fe ρ st).bind freeze
theorem y_fz (h : PE X e (rdE C fe)) : PE X e (rdE C (dFz fe)) := PE.imp h fun σ H Q q => by
  obtain ⟨Z0, θ, ρ, st, S, N, p⟩ := q
  refine ⟨Z0, θ, ρ, st, S, N, Post.bind p fun w st1 θ1 H1 v _ e1 S1 w1 p1 => ?_⟩
  cases e : freeze w st1 with
  | bad => rw [e] at p1; exact p1.elim
  | exc c x s => exact (freeze_exc e).elim
  | ok w' st' =>
    rw [e] at p1
    obtain ⟨θ', x, S', r'⟩ := post_freeze S1 w1 e
    exact p1 θ' H1 v x S' r'
end
end Y

namespace Y
open PySem PySem.Spec PyProof.Rows L2
section
variable {X : Cx} {C : Ct} {Z0 : Addr → Prop} {θ θ1 : List (Option Addr)} {H H1 : Hp} {D D' : Ends}
/-! ### methods of lists and texts -/
def isLst (st : Sto) (w : W) : Bool := (items st w).isSome
@[simp] def dMeth (g : W → List W → Sto → R W) (fo : En → Sto → R W) (fa : En → Sto → R (List W)) : En → Sto → R W := fun ρ st => (fo ρ st).bind fun u s => match u with
  | .ref n => match s[n]? with
    | some (.lst _) => (fa ρ s).bind fun ws s => g u ws s
    | _ => .bad
  | _ => .bad
def rdM (C : Ct) (g : W → List W → Sto → R W) : V → List V → Hp → VK → Prop := fun x xs H Q => ∃ Z0 θ st u ws, SR C.K Z0 θ st H ∧ WR C.K (Zs Z0 θ) θ H u x ∧ WRs C.K (Zs Z0 θ) θ H ws xs ∧ Post C Z0 θ H (relW C.K Z0) (g u ws st) Q
theorem t_meth {g : W → List W → Sto → R W} {fo : En → Sto → R W} {fa : En → Sto → R (List W)} {σ : L2.St} {Q : VK} (q : rdE C (dMeth g fo fa) σ H Q) : tBM C.K "list" (rdM C g) (rdE C fo) (rdA C fa) σ H Q := by
  obtain ⟨Z0, θ, ρ, st, S, N, p⟩ := q
  refine ⟨Z0, θ, ρ, st, S, N, Post.bind p fun u st1 θ1 H1 v _ e1 S1 w1 p1 => ?_⟩
  split at p1
  · split at p1
    · rename_i ws' hw
      obtain ⟨a, vs, rfl, h2, h3, h4⟩ := S1.at_ w1 hw
      exact ⟨.inl ⟨rfl, vs, .inl (.inl h3)⟩, Z0, θ1, ρ, st1, S1, N.ext e1, Post.bind p1 fun ws st2 θ2 H2 us _ e2 S2 w2 p2 => ⟨Z0, θ2, st2, _, ws, S2, w1.ext e2, w2, p2⟩⟩
    · exact p1.elim
  · exact p1.elim
@[simp] def dMeth0 (g : W → List W → Sto → R W) (fo : En → Sto → R W) : En → Sto → R W := fun ρ st => (fo ρ st).bind fun u s => match u with
  | .ref n => match s[n]? with
    | some (.lst _) => g u [] s
    | _ => .bad
  | _ => .bad
theorem t_meth0 {g : W → List W → Sto → R W} {fo : En → Sto → R W} {σ : L2.St} {Q : VK} (q : rdE C (dMeth0 g fo) σ H Q) : tBM0 C.K "list" (rdM C g) (rdE C fo) σ H Q := by
  obtain ⟨Z0, θ, ρ, st, S, N, p⟩ := q
  refine ⟨Z0, θ, ρ, st, S, N, Post.bind p fun u st1 θ1 H1 v _ e1 S1 w1 p1 => ?_⟩
  split at p1
  · split at p1
    · rename_i ws' hw
      obtain ⟨a, vs, rfl, h2, h3, h4⟩ := S1.at_ w1 hw
      exact ⟨.inl ⟨rfl, vs, .inl (.inl h3)⟩, Z0, θ1, st1, _, [], S1, w1, .nil, p1⟩
    · exact p1.elim
  · exact p1.elim
@[simp] def mAppend : W → List W → Sto → R W := fun u ws st => match u, ws with
  | .ref n, [w] => match st[n]? with
    | some (.lst xs) => chk (xs.length < sizeLine) (.ok (.d .none) (st.set n (.lst (xs ++ [w]))))
    | _ => .bad
  | _, _ => .bad
theorem paired_snoc {α β : Type} {F : α → β → Prop} {l₁ : List α} {l₂ : List β} {a : α} {b : β} (h : Paired F l₁ l₂) (r : F a b) : Paired F (l₁ ++ [a]) (l₂ ++ [b]) := by
  induction h with
  | nil => exact .cons r .nil
  | cons x _ ih => exact .cons x ih
theorem mtAppend : MtR X "list.append" (rdM C mAppend) := by
  intro pins s σ H x xs v us Q I rx rs h
  obtain ⟨Z0, θ, st, u, ws, S, wu, wws, p⟩ := h
  unfold mAppend at p
  split at p
  · split at p
    · rename_i n w zs hw
      obtain ⟨a, vs, rfl, h2, h3, h4⟩ := S.at_ wu hw
      cases wws with
      | cons r1 r2 =>
        cases r2
        refine mt_append pins s σ H _ _ v us Q I rx rs ⟨_, _, _, rfl, rfl, h3, by rw [← h4.length]; exact p.chk.1, ?_⟩
        exact p.chk.2 θ _ .non (Ext.write S h2 h3) (S.write h2 h3 (paired_snoc h4 r1)) (show Pd _ _ _ _ _ from .non)
    · exact p.elim
  · exact p.elim
@[simp] def mPop : W → List W → Sto → R W := fun u ws st => match u, ws with
  | .ref n, [] => match st[n]? with
    | some (.lst xs) => match xs[xs.length - 1]? with
      | some w => .ok w (st.set n (.lst xs.dropLast))
      | none => .bad
    | _ => .bad
  | _, _ => .bad
theorem paired_dropLast {α β : Type} {F : α → β → Prop} {l₁ : List α} {l₂ : List β} (h : Paired F l₁ l₂) : Paired F l₁.dropLast l₂.dropLast := by
  induction h with
  | nil => exact .nil
  | cons x t ih =>
    cases t with
    | nil => exact .nil
    | cons y t' => exact .cons x ih
theorem mtPop : MtR X "list.pop" (rdM C mPop) := by
  intro pins s σ H x xs v us Q I rx rs h
  obtain ⟨Z0, θ, st, u, ws, S, wu, wws, p⟩ := h
  unfold mPop at p
  split at p
  · split at p
    · rename_i n zs hw
      split at p
      · rename_i w hx
        obtain ⟨a, vs, rfl, h2, h3, h4⟩ := S.at_ wu hw
        cases wws
        obtain ⟨y, hy, ry⟩ := L2.paired_get h4 hx
        rw [h4.length] at hy
        have x := Ext.write (vs' := vs.dropLast) S h2 h3
        refine mt_pop pins s σ H _ _ v us Q I rx rs ⟨_, _, _, rfl, rfl, h3, hy, ?_⟩
        exact p θ _ y x (S.write h2 h3 (paired_dropLast h4)) (WR.ext x ry)
      · exact p.elim
    · exact p.elim
  · exact p.elim
@[simp] def mPopAt : W → List W → Sto → R W := fun u ws st => match u, ws with
  | .ref n, [.d (.int i)] => match st[n]? with
    | some (.lst xs) => match xs[i.toNat]? with
      | some w => chk (0 ≤ i ∧ i < 2 ^ 63) (.ok w (st.set n (.lst (xs.eraseIdx i.toNat))))
      | none => .bad
    | _ => .bad
  | _, _ => .bad
theorem paired_erase {α β : Type} {F : α → β → Prop} {l₁ : List α} {l₂ : List β} (h : Paired F l₁ l₂) : ∀ i, Paired F (l₁.eraseIdx i) (l₂.eraseIdx i) := by
  induction h with
  | nil => intro i; exact .nil
  | cons x t ih =>
    intro i
    cases i with
    | zero => exact t
    | succ i => exact .cons x (ih i)
theorem mtPopAt : MtR X "list.pop" (rdM C mPopAt) := by
  intro pins s σ H x xs v us Q I rx rs h
  obtain ⟨Z0, θ, st, u, ws, S, wu, wws, p⟩ := h
  unfold mPopAt at p
  split at p
  · split at p
    · rename_i i _ zs hw
      split at p
      · rename_i w hx
        obtain ⟨a, vs, rfl, h2, h3, h4⟩ := S.at_ wu hw
        cases wws with
        | cons r1 r2 =>
          cases r2
          cases r1
          obtain ⟨y, hy, ry⟩ := L2.paired_get h4 hx
          obtain ⟨⟨c1, c2⟩, p⟩ := p.chk
          have x := Ext.write (vs' := vs.eraseIdx i.toNat) S h2 h3
          have hl : i.toNat < vs.length := (List.getElem?_eq_some_iff.mp hy).1
          refine mt_popAt pins s σ H _ _ v us Q I rx rs ⟨_, _, _, i.toNat, _, rfl, rfl, h3, by omega, c2, ?_, hy, ?_⟩
          · have := atI_get (xs := vs) (i := i) (v := y) (by have := atI_nat (xs := vs) (j := i.toNat) hy; rwa [show ((i.toNat : Nat) : Int) = i by omega] at this)
            obtain ⟨j, q1, q2, q3, _⟩ := this
            have e : ixN vs.length i = some i.toNat := by
              unfold ixN
              rw [if_pos c1, if_pos (by omega)]
            exact (ixN_seq e).1
          · exact p θ _ y x (S.write h2 h3 (paired_erase h4 _)) (WR.ext x ry)
      · exact p.elim
    · exact p.elim
  · exact p.elim
/-- texts' methods -/
@[simp] def dMethS (g : W → List W → Sto → R W) (fo : En → Sto → R W) (fa : En → Sto → R (List W)) : En → Sto → R W := fun ρ st => (fo ρ st).bind fun u s => match u with
  | .d (.str x) => (fa ρ s).bind fun ws s => g (.d (.str x)) ws s
  | _ => .bad
theorem t_methS {g : W → List W → Sto → R W} {fo : En → Sto → R W} {fa : En → Sto → R (List W)} {σ : L2.St} {Q : VK} (q : rdE C (dMethS g fo fa) σ H Q) : tBM C.K "str" (rdM C g) (rdE C fo) (rdA C fa) σ H Q := by
  obtain ⟨Z0, θ, ρ, st, S, N, p⟩ := q
  refine ⟨Z0, θ, ρ, st, S, N, Post.bind p fun u st1 θ1 H1 v _ e1 S1 w1 p1 => ?_⟩
  split at p1
  · cases w1
    exact ⟨rfl, Z0, θ1, ρ, st1, S1, N.ext e1, Post.bind p1 fun ws st2 θ2 H2 us _ e2 S2 w2 p2 => ⟨Z0, θ2, st2, .d (.str _), ws, S2, Pd.str (K := C.K) (Z := Zs Z0 θ2) (H := H2) _, w2, p2⟩⟩
  · exact p1.elim
def asStrs : List PyData → Option (List Str)
  | [] => some []
  | .str i :: r => (asStrs r).map (i :: ·)
  | _ :: _ => none
theorem asStrs_eq : ∀ {ds : List PyData} {ns : List Str}, asStrs ds = some ns → ds = ns.map .str
  | [], ns, h => by cases h; rfl
  | .str i :: ds, ns, h => by
    simp only [asStrs, Option.map_eq_some_iff] at h
    obtain ⟨es, h1, rfl⟩ := h
    rw [asStrs_eq h1]; rfl
  | .none :: _, _, h => by cases h
  | .int _ :: _, _, h => by cases h
  | .bool _ :: _, _, h => by cases h
  | .list _ :: _, _, h => by cases h
  | .tuple _ :: _, _, h => by cases h
  | .dict _ :: _, _, h => by cases h
theorem asStrs_map (ns : List Str) : asStrs (ns.map .str) = some ns := by
  induction ns with
  | nil => rfl
  | cons n ns ih => simp [asStrs, ih]
theorem PdAll.strsEq {K : PySem.W.Frag} {Z : Addr → Prop} {H : Hp} : ∀ {ns : List Str} {vs : List V}, PdAll K Z H vs (ns.map .str) → vs = ns.map V.str
  | [], _, h => by cases h; rfl
  | n :: ns, _, h => by cases h with | cons a b => cases a; rw [PdAll.strsEq b]; rfl
@[simp] def mFind : W → List W → Sto → R W := fun u ws st => match u, ws with
  | .d (.str x), [.d (.str y), .d (.int i)] => .ok (.d (.int (Txt.find3 x y i))) st
  | _, _ => .bad
theorem mtFind : MtR X "str.find" (rdM C mFind) := by
  intro pins s σ H x xs v us Q I rx rs h
  obtain ⟨Z0, θ, st, u, ws, S, wu, wws, p⟩ := h
  unfold mFind at p
  split at p
  · cases wu
    cases wws with
    | cons r1 r2 =>
      cases r2 with
      | cons r3 r4 =>
        cases r4; cases r1; cases r3
        exact mt_find3 pins s σ H _ _ v us Q I rx rs ⟨_, _, _, rfl, rfl, p.now S (show Pd _ _ _ _ _ from .int _)⟩
  · exact p.elim
@[simp] def mJoin : W → List W → Sto → R W := fun u ws st => match u, ws with
  | .d (.str x), [w] => match asD st w with
    | some (.list ds) => match asStrs ds with
      | some ys => chk ((ys.map (·.length)).sum + ys.length * x.length ≤ 16777216) (.ok (.d (.str (Txt.join x ys))) st)
      | none => .bad
    | some (.tuple ds) => match asStrs ds with
      | some ys => chk ((ys.map (·.length)).sum + ys.length * x.length ≤ 16777216) (.ok (.d (.str (Txt.join x ys))) st)
      | none => .bad
    | _ => .bad
  | _, _ => .bad
theorem mtJoin (hK : C.K = X.K) : MtR X "str.join" (rdM C mJoin) := by
  obtain ⟨K, mg, E⟩ := C
  obtain rfl : K = X.K := hK
  intro pins s σ H x xs v us Q I rx rs h
  obtain ⟨Z0, θ, st, u, ws, S, wu, wws, p⟩ := h
  unfold mJoin at p
  split at p
  · cases wu
    cases wws with
    | cons r1 r2 =>
      cases r2
      split at p
      · rename_i ds hd
        split at p
        · rename_i ys hy
          have := asStrs_eq hy
          subst this
          obtain ⟨a, vs, rfl, hs, r'⟩ := asD_list S r1 hd
          have := r'.strsEq
          subst this
          exact mt_join pins s σ H _ _ v us Q I rx rs ⟨_, _, ys, rfl, rfl, .inl hs, p.chk.1, p.chk.2.now S (show Pd _ _ _ _ _ from .str _)⟩
        · exact p.elim
      · rename_i ds hd
        split at p
        · rename_i ys hy
          have := asStrs_eq hy
          subst this
          obtain ⟨a, vs, rfl, hs, r'⟩ := asD_tup r1 hd
          have := r'.strsEq
          subst this
          exact mt_join pins s σ H _ _ v us Q I rx rs ⟨_, _, ys, rfl, rfl, .inr hs, p.chk.1, p.chk.2.now S (show Pd _ _ _ _ _ from .str _)⟩
        · exact p.elim
      · exact p.elim
  · exact p.elim
/-! ### o[i] = e -/
@[simp] def dSetIx (fe fo fi : En → Sto → R W) : DS := fun ρ st => (fe ρ st).bind fun w s => (fo ρ s).bind fun o s => (fi ρ s).bind fun i s => match o, i with
  | .ref n, .d (.int i) => match s[n]? with
    | some (.lst xs) => match ixN xs.length i with
      | some j => .ok (.nx, ρ) (s.set n (.lst (xs.set j w)))
      | none => .bad
    | _ => .bad
  | _, _ => .bad
theorem paired_set {α β : Type} {F : α → β → Prop} {l₁ : List α} {l₂ : List β} {a : α} {b : β} (h : Paired F l₁ l₂) (r : F a b) : ∀ j, Paired F (l₁.set j a) (l₂.set j b) := by
  induction h with
  | nil => intro j; exact .nil
  | cons x t ih =>
    intro j
    cases j with
    | zero => exact .cons r t
    | succ j => exact .cons x (ih j)
theorem y_setIx {o i e : Expr} {pos ps : Pos} {fe fo fi : En → Sto → R W} (he : PE X e (rdE C fe)) (ho : PE X o (rdE C fo)) (hi : PE X i (rdE C fi))
    (ha : ∀ v, assign (.Subscript o i ps) X.env v = (do
      let ov ← holding [v] (eval o X.env)
      let iv ← holding [v, ov] (eval i X.env)
      standAt ps
      holding [v, ov, iv] (setItem ov iv v)
      release [v, ov, iv] []) := by intro _; rfl)
    (hs : swapsWithSole [.Subscript o i ps] e pos.line X.env = pure false := by rfl) (hw : swappedStores [.Subscript o i ps] e X.env = pure none := by rfl)
    (h1 : (assignEach [.Subscript o i ps] X.env).map (·.2) = [assign (.Subscript o i ps) X.env] := by rfl) : PS X (.Assign [.Subscript o i ps] e pos) (rdS C (dSetIx fe fo fi)) := PS.imp (ps_asg he (pg_sub ho hi set_list ha) hs hw h1) fun D σ H q => by
  obtain ⟨Z0, θ, ρ, st, S, N, p⟩ := q
  refine ⟨Z0, θ, ρ, st, S, N, PostS.bindE p fun w st1 θ1 H1 v e1 S1 w1 p1 => ⟨Z0, θ1, ρ, st1, S1, N.ext e1, PostS.bindE p1 fun ow st2 θ2 H2 ov e2 S2 w2 p2 => ⟨Z0, θ2, ρ, st2, S2, (N.ext e1).ext e2, PostS.bindE p2 fun iw st3 θ3 H3 iv e3 S3 w3 p3 => ?_⟩⟩⟩
  split at p3
  · split at p3
    · rename_i n k xs hx
      split at p3
      · rename_i j hj
        cases w3
        obtain ⟨a, vs, rfl, h2, h3, h4⟩ := S3.at_ (w2.ext e3) hx
        have x := Ext.write (vs' := vs.set j v) S3 h2 h3
        refine ⟨_, _, _, j, rfl, rfl, h3, by rw [← h4.length]; exact hj, ?_⟩
        have r := WR.ext e3 (WR.ext e2 w1)
        exact p3 θ3 _ σ x (S3.write h2 h3 (paired_set h4 r j)) (EnR.ext x (EnR.ext e3 (EnR.ext e2 (N.ext e1))))
      · exact p3.elim
    · exact p3.elim
  · exact p3.elim

/-! ### what is walked -/
/-- from here on J walks through the values ws -/
def ItOk (K : PySem.W.Frag) (Z0 : Addr → Prop) (θ : List (Option Addr)) (H : Hp) (ws : List W) (J : It) : Prop :=
  ∀ (Z1 : Addr → Prop) θ1 H1 st1, (∀ a, Z1 a → Z0 a ∨ H a = none) → Ext θ H θ1 H1 → SR K Z1 θ1 st1 H1 → ∀ i : Nat, (∀ w, ws[i]? = some w → J.go i H1 ∧ ∀ x H2, J.yld i H1 x H2 → Ext θ1 H1 θ1 H2 ∧ SR K Z1 θ1 st1 H2 ∧ WR K (Zs Z1 θ1) θ1 H2 w x ∧ ∀ a, H1 a ≠ none → H2 a = H1 a) ∧ (ws.length ≤ i → J.stop i H1)
def rdI (C : Ct) (f : En → Sto → R (List W)) : TI := fun σ H Q => ∃ Z0 θ ρ st, SR C.K Z0 θ st H ∧ EnR C.K (Zs Z0 θ) θ H ρ σ ∧ Post C Z0 θ H (ItOk C.K Z0) (f ρ st) Q
theorem PI.imp {tg e : Expr} {t t' : TI} (h : PI X tg e t) (k : ∀ σ H Q, t' σ H Q → t σ H Q) : PI X tg e t' := ⟨fun pins s σ H Q I q => h.run pins s σ H Q I (k σ H Q q)⟩
theorem PI.or {tg e : Expr} {t t' : TI} (h : PI X tg e t) (h' : PI X tg e t') : PI X tg e (fun σ H R => t σ H R ∨ t' σ H R) := ⟨fun pins s σ H Q I q => q.elim (h.run pins s σ H Q I) (h'.run pins s σ H Q I)⟩
/-- other forbidden places -/
theorem lstF_zs {Z0 Z1 : Addr → Prop} {a : Addr} {xs : List V} (hz : ∀ a, Z1 a → Z0 a ∨ H a = none) (h : LstF (Zs Z0 θ) H a xs) : LstF (Zs Z1 θ) H a xs := by
  refine ⟨h.1, fun z => ?_⟩
  rcases z with z | z
  · exact h.2 (.inl z)
  · rcases hz a z with q | q
    · exact h.2 (.inr q)
    · rcases h.1 with e | ⟨o, e⟩ <;> (rw [q] at e; cases e)
mutual
theorem pd_zs {K : PySem.W.Frag} {Z0 Z1 : Addr → Prop} (hz : ∀ a, Z1 a → Z0 a ∨ H a = none) : ∀ {d : PyData} {v : V}, Pd K (Zs Z0 θ) H v d → Pd K (Zs Z1 θ) H v d
  | _, _, .non => .non
  | _, _, .bl b => .bl b
  | _, _, .int i => .int i
  | _, _, .str x => .str x
  | _, _, .lst h a => .lst (lstF_zs hz h) (pdAll_zs hz a)
  | _, _, .tup h a => .tup h (pdAll_zs hz a)
theorem pdAll_zs {K : PySem.W.Frag} {Z0 Z1 : Addr → Prop} (hz : ∀ a, Z1 a → Z0 a ∨ H a = none) : ∀ {ds : List PyData} {vs : List V}, PdAll K (Zs Z0 θ) H vs ds → PdAll K (Zs Z1 θ) H vs ds
  | _, _, .nil => .nil
  | _, _, .cons a b => .cons (pd_zs hz a) (pdAll_zs hz b)
end
theorem wr_zs {K : PySem.W.Frag} {Z0 Z1 : Addr → Prop} (hz : ∀ a, Z1 a → Z0 a ∨ H a = none) {w : W} {v : V} (h : WR K (Zs Z0 θ) θ H w v) : WR K (Zs Z1 θ) θ H w v := by
  cases w with
  | d x => exact pd_zs hz h
  | ref n => exact h
  | scr ns =>
    obtain ⟨a, h1, h2⟩ := h
    exact ⟨a, h1, h2.elim (fun q => .inl (lstF_zs hz q)) .inr⟩
theorem wrs_zs {K : PySem.W.Frag} {Z0 Z1 : Addr → Prop} (hz : ∀ a, Z1 a → Z0 a ∨ H a = none) {ws : List W} {vs : List V} (h : WRs K (Zs Z0 θ) θ H ws vs) : WRs K (Zs Z1 θ) θ H ws vs := Paired.imp (fun _ _ => wr_zs hz) h
/-- a walk through data that stands still -/
@[simp] def seqD : PyData → Option (List PyData)
  | .list ds => some ds
  | .tuple ds => some ds
  | .str x => some (x.cps.toList.map fun c => .str ⟨#[c]⟩)
  | _ => none
@[simp] def dIter (fe : En → Sto → R W) : En → Sto → R (List W) := fun ρ st => (fe ρ st).bind fun w s => match w with
  | .d x => match seqD x with
    | some ds => .ok (ds.map .d) s
    | none => .bad
  | .scr ns => .ok (ns.map fun n => .d (.int n)) s
  | _ => .bad
theorem itOk_lst {K : PySem.W.Frag} {a : Addr} {vs : List V} {ds : List PyData} (h1 : LstF (Zs Z0 θ) H a vs) (h2 : PdAll K (Zs Z0 θ) H vs ds) : ItOk K Z0 θ H (ds.map .d) (Itl K a) := fun Z1 θ1 H1 st1 hz e S i => by
  have q : SqL K H1 a vs := .inl (Ext.lstF (Z0 := Z0) e h1).1
  refine ⟨fun w hw => ?_, fun hi => ⟨vs, q, by rw [h2.length]; simpa using hi⟩⟩
  rw [List.getElem?_map, Option.map_eq_some_iff] at hw
  obtain ⟨d, hd, rfl⟩ := hw
  obtain ⟨v, hv, r⟩ := h2.get hd
  refine ⟨⟨vs, v, q, hv⟩, fun x H2 y => ?_⟩
  obtain ⟨rfl, y⟩ := y
  have : x = v := Option.some.inj ((y vs q).symm.trans hv)
  subst this
  exact ⟨Ext.refl, S, show Pd _ _ _ _ _ from Pd.ext e (pd_zs hz r), fun _ _ => rfl⟩
theorem itOk_tup {K : PySem.W.Frag} {a : Addr} {vs : List V} {ds : List PyData} (h1 : SqT K H a vs) (h2 : PdAll K (Zs Z0 θ) H vs ds) : ItOk K Z0 θ H (ds.map .d) (Itt K a) := fun Z1 θ1 H1 st1 hz e S i => by
  have q : SqT K H1 a vs := e.sqT h1
  refine ⟨fun w hw => ?_, fun hi => ⟨vs, q, by rw [h2.length]; simpa using hi⟩⟩
  rw [List.getElem?_map, Option.map_eq_some_iff] at hw
  obtain ⟨d, hd, rfl⟩ := hw
  obtain ⟨v, hv, r⟩ := h2.get hd
  refine ⟨⟨vs, v, q, hv⟩, fun x H2 y => ?_⟩
  obtain ⟨rfl, y⟩ := y
  have : x = v := Option.some.inj ((y vs q).symm.trans hv)
  subst this
  exact ⟨Ext.refl, S, show Pd _ _ _ _ _ from Pd.ext e (pd_zs hz r), fun _ _ => rfl⟩
theorem itOk_str {K : PySem.W.Frag} {x : Str} : ItOk K Z0 θ H ((x.cps.toList.map fun c => PyData.str ⟨#[c]⟩).map .d) (Its x) := fun Z1 θ1 H1 st1 hz e S i => by
  refine ⟨fun w hw => ?_, fun hi => (show x.cps.size ≤ i by simpa using hi)⟩
  rw [List.getElem?_map, List.getElem?_map, Option.map_eq_some_iff] at hw
  obtain ⟨d, hd, rfl⟩ := hw
  rw [Option.map_eq_some_iff] at hd
  obtain ⟨c, hc, rfl⟩ := hd
  have hi : i < x.cps.size := by have := (List.getElem?_eq_some_iff.mp hc).1; simpa using this
  refine ⟨hi, fun v H2 y => ?_⟩
  obtain ⟨rfl, c', h1, rfl⟩ := y
  have : c' = c := by
    have e2 : x.cps[i]? = some c := by simpa using hc
    exact Option.some.inj (h1.symm.trans e2)
  subst this
  exact ⟨Ext.refl, S, show Pd _ _ _ _ _ from .str _, fun _ _ => rfl⟩
theorem y_iter {tg e : Expr} {fe : En → Sto → R W} (hK : C.K = X.K) (h : PE X e (rdE C fe)) : PI X tg e (rdI C (dIter fe)) := by
  obtain ⟨K, mg, E⟩ := C
  obtain rfl : K = X.K := hK
  refine PI.imp (PI.or (pi_list h) (PI.or (pi_tup h) (pi_str h))) fun σ H Q q => ?_
  obtain ⟨Z0, θ, ρ, st, S, N, p⟩ := q
  unfold dIter at p
  cases e : fe ρ st with
  | bad => rw [e] at p; exact p.elim
  | exc c x s => rw [e] at p; exact .inl ⟨Z0, θ, ρ, st, S, N, by rw [e]; exact p⟩
  | ok w st1 =>
    rw [e, R.bind_ok] at p
    split at p
    · rename_i x
      cases x with
      | list ds =>
        refine .inl ⟨Z0, θ, ρ, st, S, N, ?_⟩
        rw [e]
        intro θ1 H1 v e1 S1 w1
        cases w1 with
        | lst h1 h2 => exact ⟨_, rfl, ⟨_, h1.sqL⟩, p θ1 H1 _ e1 S1 (itOk_lst h1 h2)⟩
      | tuple ds =>
        refine .inr (.inl ⟨Z0, θ, ρ, st, S, N, ?_⟩)
        rw [e]
        intro θ1 H1 v e1 S1 w1
        cases w1 with
        | tup h1 h2 => exact ⟨_, rfl, ⟨_, h1⟩, p θ1 H1 _ e1 S1 (itOk_tup h1 h2)⟩
      | str x =>
        refine .inr (.inr ⟨Z0, θ, ρ, st, S, N, ?_⟩)
        rw [e]
        intro θ1 H1 v e1 S1 w1
        cases w1
        exact ⟨_, rfl, p θ1 H1 _ e1 S1 itOk_str⟩
      | none => exact p.elim
      | bool _ => exact p.elim
      | int _ => exact p.elim
      | dict _ => exact p.elim
    · rename_i ns
      refine .inl ⟨Z0, θ, ρ, st, S, N, ?_⟩
      rw [e]
      intro θ1 H1 v e1 S1 w1
      obtain ⟨a, rfl, h1⟩ := w1
      refine ⟨_, rfl, ⟨_, h1.sqL⟩, p θ1 H1 _ e1 S1 ?_⟩
      have e4 : (ns.map fun n => W.d (.int n)) = (ns.map PyData.int).map W.d := by simp
      rcases h1 with h1 | h1
      · rw [e4]; exact itOk_lst h1 (pdAll_ints ns)
      · intro Z1 θ2 H2 st2 hz e2 S2 i
        have q : SqL X.K H2 a (ns.map V.int) := sqL_of_hz h1
        refine ⟨fun w hw => ?_, fun hi => ⟨_, q, by simpa using hi⟩⟩
        rw [List.getElem?_map, Option.map_eq_some_iff] at hw
        obtain ⟨d, hd, rfl⟩ := hw
        have hv : (ns.map V.int)[i]? = some (.int d) := by rw [List.getElem?_map, hd]; rfl
        refine ⟨⟨_, _, q, hv⟩, fun x H3 y => ?_⟩
        obtain ⟨rfl, y⟩ := y
        have : x = .int d := Option.some.inj ((y _ q).symm.trans hv)
        subst this
        exact ⟨Ext.refl, S2, show Pd _ _ _ _ _ from .int _, fun _ _ => rfl⟩
    · exact p.elim
/-- range -/
def rngW (lo : Int) (n : Nat) : List W := (List.range n).map fun (i : Nat) => .d (.int (lo + i))
theorem itOk_rng {K : PySem.W.Frag} {lo : Int} {n : Nat} : ItOk K Z0 θ H (rngW lo n) (Itr lo n) := fun Z1 θ1 H1 st1 hz e S i => by
  refine ⟨fun w hw => ?_, fun hi => (show n ≤ i by simpa [rngW] using hi)⟩
  unfold rngW at hw
  rw [List.getElem?_map, Option.map_eq_some_iff] at hw
  obtain ⟨d, hd, rfl⟩ := hw
  obtain ⟨h1, h2⟩ := List.getElem?_eq_some_iff.mp hd
  have hd' : d = i := by simpa using h2.symm
  subst hd'
  refine ⟨(show d < n by simpa using h1), fun x H2 y => ?_⟩
  obtain ⟨rfl, rfl⟩ := y
  exact ⟨Ext.refl, S, show Pd _ _ _ _ _ from .int _, fun _ _ => rfl⟩
@[simp] def dRng1 (fa : En → Sto → R (List W)) : En → Sto → R (List W) := fun ρ st => (fa ρ st).bind fun ws s => match ws with
  | [.d (.int j)] => chk (-(2 ^ 62) ≤ j ∧ j < 2 ^ 62) (.ok (rngW 0 j.toNat) s)
  | _ => .bad
@[simp] def dRng2 (fa : En → Sto → R (List W)) : En → Sto → R (List W) := fun ρ st => (fa ρ st).bind fun ws s => match ws with
  | [.d (.int i), .d (.int j)] => chk (-(2 ^ 62) ≤ i ∧ i < 2 ^ 62 ∧ -(2 ^ 62) ≤ j ∧ j < 2 ^ 62) (.ok (rngW i (j - i).toNat) s)
  | _ => .bad
theorem y_rng1 {tg a : Expr} {fa : En → Sto → R (List W)} {p pos : Pos} (hg : Gl X "range") (hm : X.mg "range" = none) (ha : PA X [a] (rdA C fa)) (hs : starEach [a] X.env = [(false, eval a X.env)] := by rfl) : PI X tg (.Call (.Name "range" p) [a] [] pos) (rdI C (dRng1 fa)) := by
  refine PI.imp (pi_range1 hg hm ha hs) fun σ H Q q => ?_
  obtain ⟨Z0, θ, ρ, st, S, N, p⟩ := q
  refine ⟨Z0, θ, ρ, st, S, N, Post.bind p fun ws st1 θ1 H1 vs _ e1 S1 w1 p1 => ?_⟩
  split at p1
  · obtain ⟨⟨c1, c2⟩, p1⟩ := p1.chk
    cases w1 with
    | cons r1 r2 =>
      cases r2
      cases r1
      exact ⟨_, rfl, c1, c2, p1 θ1 H1 _ Ext.refl S1 itOk_rng⟩
  · exact p1.elim
theorem y_rng2 {tg a b : Expr} {fa : En → Sto → R (List W)} {p pos : Pos} (hg : Gl X "range") (hm : X.mg "range" = none) (ha : PA X [a, b] (rdA C fa)) (hs : starEach [a, b] X.env = [(false, eval a X.env), (false, eval b X.env)] := by rfl) (hs2 : starEach [b] X.env = [(false, eval b X.env)] := by rfl) :
    PI X tg (.Call (.Name "range" p) [a, b] [] pos) (rdI C (dRng2 fa)) := by
  refine PI.imp (pi_range2 hg hm ha hs hs2) fun σ H Q q => ?_
  obtain ⟨Z0, θ, ρ, st, S, N, p⟩ := q
  refine ⟨Z0, θ, ρ, st, S, N, Post.bind p fun ws st1 θ1 H1 vs _ e1 S1 w1 p1 => ?_⟩
  split at p1
  · obtain ⟨c, p1⟩ := p1.chk
    cases w1 with
    | cons r1 r2 =>
      cases r2 with
      | cons r3 r4 =>
        cases r4
        cases r1
        cases r3
        exact ⟨_, _, rfl, c, p1 θ1 H1 _ Ext.refl S1 itOk_rng⟩
  · exact p1.elim

/-! ### for, while -/
def forL (tg : W → En → Sto → R En) (body : DS) : List W → DS
  | [], ρ, st => .ok (.nx, ρ) st
  | w :: ws, ρ, st => (tg w ρ st).bind fun ρ1 s1 => (body ρ1 s1).bind fun a s2 => match a.1 with
    | .bk => .ok (.nx, a.2) s2
    | .rt w => .ok (.rt w, a.2) s2
    | _ => forL tg body ws a.2 s2
@[simp] def dFor (fi : En → Sto → R (List W)) (tg : W → En → Sto → R En) (body : DS) : DS := fun ρ st => (fi ρ st).bind fun ws s => forL tg body ws ρ s
theorem y_for {vs : List Nat} {tgt iter : Expr} {body : List Stmt} {fi : En → Sto → R (List W)} {tg : W → En → Sto → R En} {f : DS} {pos : Pos} (hp : PassesOwn (model X.prog X.w) X.A X.env X.xe) (hc : X.calm = true) (hi : PI X tgt iter (rdI C fi)) (hg : PG X tgt (rdG C vs tg)) (hb : PSs X body (rdS C f))
    (hs : ∀ x, foldedSetIterable iter X.env x = pure x := by intro _; rfl) : PS X (.For tgt iter body [] pos) (rdS C (dFor fi tg f)) := PS.imp (ps_for hp hc hi hg hb hs) fun D σ H q => by
  obtain ⟨Z0, θ, ρ, st, S, N, p⟩ := q
  refine ⟨Z0, θ, ρ, st, S, N, PostS.bindE p fun ws st1 θ1 H1 J e1 S1 it p1 => ?_⟩
  refine ⟨fun i m σ2 H2 => ∃ θ2 ρ2 st2, Ext θ1 H1 θ2 H2 ∧ SR C.K Z0 θ2 st2 H2 ∧ EnR C.K (Zs Z0 θ2) θ2 H2 ρ2 σ2 ∧ i ≤ ws.length ∧ m = ws.length - i ∧ PostS C Z0 θ2 H2 (forL tg f (ws.drop i) ρ2 st2) D, ⟨ws.length, θ1, ρ, st1, Ext.refl, S1, N.ext e1, Nat.zero_le _, by omega, p1⟩, fun i m σ2 H2 hW => ?_⟩
  obtain ⟨θ2, ρ2, st2, e2, S2, N2, hl, rfl, p2⟩ := hW
  obtain ⟨h1, h2⟩ := it Z0 θ2 H2 st2 (fun a h => .inl h) e2 S2 i
  by_cases hlt : i < ws.length
  · obtain ⟨g1, g2⟩ := h1 ws[i] (List.getElem?_eq_getElem hlt)
    refine .inr ⟨g1, fun σ3 H3 => ∃ θ3 ρ3 st3, Ext θ1 H1 θ3 H3 ∧ SR C.K Z0 θ3 st3 H3 ∧ EnR C.K (Zs Z0 θ3) θ3 H3 ρ3 σ3 ∧ PostS C Z0 θ3 H3 (forL tg f (ws.drop (i + 1)) ρ3 st3) D, fun σ3 H3 h3 => ?_, fun x H3 y => ?_⟩
    · obtain ⟨θ3, ρ3, st3, a1, a2, a3, a4⟩ := h3
      exact ⟨ws.length - (i + 1), by omega, θ3, ρ3, st3, a1, a2, a3, hlt, rfl, a4⟩
    · obtain ⟨e3, S3, w3, _⟩ := g2 x H3 y
      rw [List.drop_eq_getElem_cons hlt] at p2
      have p3 := PostS.from e3 p2
      refine ⟨Z0, θ2, ρ2, st2, ws[i], S3, N2.ext e3, w3, PostS.bindE p3 fun ρ4 st4 θ4 H4 σ4 e4 S4 w4 p4 => ?_⟩
      refine ⟨Z0, θ4, ρ4, st4, S4, w4.1, PostS.bindS p4 fun fl ρ5 st5 θ5 H5 σ5 e5 S5 N5 p5 => ?_⟩
      have ee := ((e2.trans e3).trans e4).trans e5
      cases fl with
      | nx => exact ⟨θ5, ρ5, st5, ee, S5, N5, p5⟩
      | ct => exact ⟨θ5, ρ5, st5, ee, S5, N5, p5⟩
      | bk => exact p5.now S5 N5
      | rt w => exact p5.now S5 N5
  · have : i = ws.length := by omega
    subst this
    rw [List.drop_length] at p2
    exact .inl ⟨h2 (Nat.le_refl _), p2.now S2 N2⟩
def whileN (c : En → Sto → R Bool) (body : DS) : Nat → DS
  | 0, _, _ => .bad
  | n + 1, ρ, st => (c ρ st).bind fun k s => if k = true then (body ρ s).bind fun a s2 => match a.1 with
    | .bk => .ok (.nx, a.2) s2
    | .rt w => .ok (.rt w, a.2) s2
    | _ => whileN c body n a.2 s2
    else .ok (.nx, ρ) s
open Classical in
noncomputable def dWhile (c : En → Sto → R Bool) (body : DS) : DS := fun ρ st => if h : ∃ n, whileN c body n ρ st ≠ .bad then whileN c body (Classical.choose h) ρ st else .bad
theorem R.bind_mono {α β : Type} {r : R α} {f g : α → Sto → R β} (h : ∀ a s, r = .ok a s → f a s ≠ .bad → g a s = f a s) (hb : r.bind f ≠ .bad) : r.bind g = r.bind f := by
  cases r with
  | ok a s => exact h a s rfl hb
  | exc c x s => rfl
  | bad => rfl
theorem whileN_succ {c : En → Sto → R Bool} {body : DS} : ∀ (n : Nat) (ρ : En) (st : Sto), whileN c body n ρ st ≠ .bad → whileN c body (n + 1) ρ st = whileN c body n ρ st
  | 0, _, _, h => absurd rfl h
  | n + 1, ρ, st, h => by
    show (c ρ st).bind _ = (c ρ st).bind _
    refine R.bind_mono (fun k s _ h1 => ?_) h
    cases k with
    | false => rfl
    | true =>
      simp only [if_true] at h1 ⊢
      refine R.bind_mono (fun a s2 _ h2 => ?_) h1
      cases h3 : a.1 with
      | bk => rfl
      | rt w => rfl
      | nx => rw [h3] at h2; exact whileN_succ n a.2 s2 h2
      | ct => rw [h3] at h2; exact whileN_succ n a.2 s2 h2
theorem whileN_le {c : En → Sto → R Bool} {body : DS} {n m : Nat} (hle : n ≤ m) {ρ : En} {st : Sto} (h : whileN c body n ρ st ≠ .bad) : whileN c body m ρ st = whileN c body n ρ st := by
  induction hle with
  | refl => rfl
  | step _ ih => rw [whileN_succ _ _ _ (by rw [ih]; exact h), ih]
theorem dWhile_of {c : En → Sto → R Bool} {body : DS} {n : Nat} {ρ : En} {st : Sto} {r : R (Fl × En)} (h : whileN c body n ρ st = r) (hr : r ≠ .bad) : dWhile c body ρ st = r := by
  have hx : ∃ n, whileN c body n ρ st ≠ .bad := ⟨n, by rw [h]; exact hr⟩
  unfold dWhile
  rw [dif_pos hx]
  have h2 := Classical.choose_spec hx
  rcases Nat.le_total n (Classical.choose hx) with q | q
  · rw [whileN_le q (by rw [h]; exact hr), h]
  · rw [← h, whileN_le q h2]
theorem y_while {cond : Expr} {body : List Stmt} {c : En → Sto → R Bool} {f : DS} {pos : Pos} (hp : PassesOwn (model X.prog X.w) X.A X.env X.xe) (hc : PT X cond (rdT C c)) (hb : PSs X body (rdS C f)) : PS X (.While cond body [] pos) (rdS C (dWhile c f)) := PS.imp (ps_while hp hc hb) fun D σ H q => by
  obtain ⟨Z0, θ, ρ, st, S, N, p⟩ := q
  unfold dWhile at p
  split at p
  · rename_i hx
    refine ⟨fun m σ2 H2 => ∃ θ2 ρ2 st2, SR C.K Z0 θ2 st2 H2 ∧ EnR C.K (Zs Z0 θ2) θ2 H2 ρ2 σ2 ∧ PostS C Z0 θ2 H2 (whileN c f m ρ2 st2) D, ⟨_, θ, ρ, st, S, N, p⟩, fun m σ2 H2 hW => ?_⟩
    obtain ⟨θ2, ρ2, st2, S2, N2, p2⟩ := hW
    cases m with
    | zero => exact p2.elim
    | succ m =>
      refine ⟨Z0, θ2, ρ2, st2, S2, N2, PostS.bindE p2 fun k st3 θ3 H3 k' e3 S3 w3 p3 => ?_⟩
      cases w3
      cases k with
      | false => rw [if_neg (by simp)] at p3 ⊢; exact p3.now S3 (N2.ext e3)
      | true =>
        rw [if_pos rfl] at p3 ⊢
        refine ⟨fun σ4 H4 => ∃ θ4 ρ4 st4, SR C.K Z0 θ4 st4 H4 ∧ EnR C.K (Zs Z0 θ4) θ4 H4 ρ4 σ4 ∧ PostS C Z0 θ4 H4 (whileN c f m ρ4 st4) D, fun σ4 H4 h4 => ⟨m, Nat.lt_succ_self _, h4⟩, Z0, θ3, ρ2, st3, S3, N2.ext e3, PostS.bindS p3 fun fl ρ5 st5 θ5 H5 σ5 e5 S5 N5 p5 => ?_⟩
        cases fl with
        | nx => exact ⟨θ5, ρ5, st5, S5, N5, p5⟩
        | ct => exact ⟨θ5, ρ5, st5, S5, N5, p5⟩
        | bk => exact p5.now S5 N5
        | rt w => exact p5.now S5 N5
  · exact p.elim
end
end Y

namespace Y
open PySem PySem.Spec PyProof.Rows L2
section
variable {X : Cx} {C : Ct} {Z0 : Addr → Prop} {θ θ1 : List (Option Addr)} {H H1 : Hp} {D D' : Ends}
/-! ### list comprehensions -/
@[simp] def R.nox {α : Type} : R α → R α
  | .exc _ _ _ => .bad
  | r => r
abbrev Ct.nx (C : Ct) : Ct := ⟨C.K, C.mg, fun _ _ _ => False⟩
theorem Post.noxBind {α α' β β' : Type} {rel : List (Option Addr) → Hp → α → β → Prop} {rel' : List (Option Addr) → Hp → α' → β' → Prop} {r : R α} {f : α → Sto → R α'} {Q : β' → Hp → Prop} {G : β → Hp → Prop} (h : Post C Z0 θ H rel' (r.nox.bind f) Q)
    (k : ∀ w st1 θ1 H1 v, Ext θ H θ1 H1 → SR C.K Z0 θ1 st1 H1 → rel θ1 H1 w v → Post C Z0 θ1 H1 rel' (f w st1) Q → G v H1) : Post C.nx Z0 θ H rel r G := by
  cases r with
  | ok w st1 => exact fun θ1 H1 v e S p => k w st1 θ1 H1 v e S p (Post.from e h)
  | exc c x st1 => exact h.elim
  | bad => exact h
def lcL (tg : W → En → Sto → R En) (tt : En → Sto → R Bool) (fe : En → Sto → R W) (ρ : En) : List W → Sto → R (List W)
  | [], st => .ok [] st
  | w :: ws, st => (tg w ρ st).nox.bind fun ρ1 s1 => (tt ρ1 s1).nox.bind fun b s2 => if b = true then (fe ρ1 s2).nox.bind fun u s3 => (lcL tg tt fe ρ ws s3).bind fun us s4 => .ok (u :: us) s4
    else lcL tg tt fe ρ ws s2
/-- the values of a comprehension, its names at vs -/
@[simp] def dLc (vs : List Nat) (fi : En → Sto → R (List W)) (tg : W → En → Sto → R En) (tt : En → Sto → R Bool) (fe : En → Sto → R W) : En → Sto → R (List W) := fun ρ st => (fi ρ st).bind fun ws s => (lcL tg tt fe (wipeE ρ vs) ws s).bind fun us s2 => chk (us.length ≤ sizeLine) (.ok us s2)
@[simp] def dLcF (f : En → Sto → R (List W)) : En → Sto → R W := fun ρ st => (f ρ st).bind fun ws s => match allD ws with
  | some ds => .ok (.d (.list ds)) s
  | none => .bad
@[simp] def dLcN (f : En → Sto → R (List W)) : En → Sto → R W := fun ρ st => (f ρ st).bind fun ws s => .ok (.ref s.length) (s ++ [.lst ws])
/-- a place is set apart -/
def Zp (Z0 : Addr → Prop) (D : Addr) : Addr → Prop := fun a => a = D ∨ Z0 a
theorem Ext.mut {D : Addr} {o : HO} (e : Ext θ H θ1 H1) (h : H D = none) : Ext θ H θ1 (upd H1 D o) := by
  have nd : ∀ {a : Addr} {u : HO}, H a = some u → a ≠ D := fun q z => by rw [z, h] at q; cases q
  refine ⟨e.new, e.old, fun a u ha q => ?_, fun a xs q => ?_, fun a u v q => ?_, fun a q => ?_⟩
  · rw [upd_ne (nd q)]; exact e.keep a u ha q
  · rw [upd_ne (nd q)]; exact e.tup a xs q
  · rw [upd_ne (nd q)]; exact e.frz a u v q
  · cases z : H a with
    | none => exact absurd z q
    | some u => rw [upd_ne (nd z)]; exact e.live a q
/-- the list at a place that is set apart may change -/
theorem Ext.apart {D : Addr} {xs ys : List V} (h : H D = some (.lst xs)) : ∀ {K : PySem.W.Frag} {Z : Addr → Prop} (hz : Z D), (∀ {d : PyData} {v : V}, Pd K Z H v d → Pd K Z (upd H D (.lst ys)) v d) := by
  intro K Z hz
  have l : ∀ {a : Addr} {zs : List V}, LstF Z H a zs → LstF Z (upd H D (.lst ys)) a zs := fun {a zs} q => by
    have na : a ≠ D := fun z => q.2 (z ▸ hz)
    refine ⟨?_, q.2⟩
    rcases q.1 with q | ⟨o, q⟩
    · exact .inl (by rw [upd_ne na]; exact q)
    · exact .inr ⟨o, by rw [upd_ne na]; exact q⟩
  have t : ∀ {a : Addr} {zs : List V}, SqT K H a zs → SqT K (upd H D (.lst ys)) a zs := fun {a zs} q => by
    rcases q with (q | ⟨o, q⟩) | q
    · exact .inl (.inl (by rw [upd_ne (show a ≠ D from fun z => by rw [z, h] at q; cases q)]; exact q))
    · exact .inl (.inr ⟨o, by rw [upd_ne (show a ≠ D from fun z => by rw [z, h] at q; cases q)]; exact q⟩)
    · exact .inr q
  intro d v p
  exact Pd.rec (motive_1 := fun v d _ => Pd K Z (upd H D (.lst ys)) v d) (motive_2 := fun vs ds _ => PdAll K Z (upd H D (.lst ys)) vs ds) .non .bl .int .str (fun q _ ih => .lst (l q) ih) (fun q _ ih => .tup (t q) ih) .nil (fun _ _ a b => .cons a b) p
theorem wr_apart {K : PySem.W.Frag} {Z : Addr → Prop} {D : Addr} {xs ys : List V} (h : H D = some (.lst xs)) (hz : Z D) {w : W} {v : V} (r : WR K Z θ H w v) : WR K Z θ (upd H D (.lst ys)) w v := by
  cases w with
  | d x => exact Ext.apart h hz r
  | ref n => exact r
  | scr ns =>
    obtain ⟨a, h1, h2⟩ := r
    refine ⟨a, h1, h2.elim (fun q => .inl ?_) .inr⟩
    have na : a ≠ D := fun z => q.2 (z ▸ hz)
    refine ⟨?_, q.2⟩
    rcases q.1 with q | ⟨o, q⟩
    · exact .inl (by rw [upd_ne na]; exact q)
    · exact .inr ⟨o, by rw [upd_ne na]; exact q⟩
theorem enR_apart {K : PySem.W.Frag} {Z : Addr → Prop} {D : Addr} {xs ys : List V} (h : H D = some (.lst xs)) (hz : Z D) {ρ : En} {σ : L2.St} (N : EnR K Z θ H ρ σ) : EnR K Z θ (upd H D (.lst ys)) ρ σ :=
  ⟨N.len, fun i w q => let ⟨v, h1, h2⟩ := N.at_ i w q; ⟨v, h1, wr_apart h hz h2⟩⟩
theorem sr_apart {K : PySem.W.Frag} {D : Addr} {xs ys : List V} {st : Sto} (h : H D = some (.lst xs)) (hz : Z0 D) (S : SR K Z0 θ st H) : SR K Z0 θ st (upd H D (.lst ys)) := by
  refine ⟨S.len, S.nd, fun n a o h1 h2 => ?_, S.dd, fun a q => ?_, S.dis⟩
  · have na : a ≠ D := fun z => S.dis a (List.mem_of_getElem? h1) (z ▸ hz)
    have q := S.obj n a o h1 h2
    cases o with
    | dead => exact q
    | lst ws =>
      obtain ⟨vs, q1, q2⟩ := q
      exact ⟨vs, by rw [upd_ne na]; exact q1, Paired.imp (fun _ _ => wr_apart h (.inr hz)) q2⟩
  · by_cases z : a = D
    · rw [z, upd_same]; simp
    · rw [upd_ne z]; exact S.z0 a q
/-- a new list's place is set apart -/
theorem sr_zp {K : PySem.W.Frag} {D : Addr} {o : HO} {st : Sto} (h : H D = none) (S : SR K Z0 θ st H) : SR K (Zp Z0 D) θ st (upd H D o) := by
  have S2 := S.alloc (o := o) h
  have hz : ∀ a, Zp Z0 D a → Z0 a ∨ H a = none := fun a q => by
    rcases q with q | q
    · exact .inr (q ▸ h)
    · exact .inl q
  refine ⟨S.len, S.nd, fun n a so h1 h2 => ?_, S.dd, fun a q => ?_, fun a ha q => ?_⟩
  · have q := S.obj n a so h1 h2
    have na : a ≠ D := fun z => S.notZ h (.inl (z ▸ List.mem_of_getElem? h1))
    cases so with
    | dead => exact q
    | lst ws =>
      obtain ⟨vs, q1, q2⟩ := q
      exact ⟨vs, by rw [upd_ne na]; exact q1, WRs.ext (Ext.alloc h) (wrs_zs hz q2)⟩
  · rcases q with q | q
    · rw [q, upd_same]; simp
    · exact S2.z0 a q
  · rcases q with q | q
    · exact S.notZ h (.inl (q ▸ ha))
    · exact S.dis a ha q
theorem enR_zp {K : PySem.W.Frag} {D : Addr} {o : HO} (h : H D = none) {ρ : En} {σ : L2.St} (N : EnR K (Zs Z0 θ) θ H ρ σ) : EnR K (Zs (Zp Z0 D) θ) θ (upd H D o) ρ σ :=
  ⟨N.len, fun i w q => let ⟨v, h1, h2⟩ := N.at_ i w q; ⟨v, h1, WR.ext (Ext.alloc h) (wr_zs (fun a q => q.elim (fun z => .inr (z ▸ h)) .inl) h2)⟩⟩
theorem sr_unzp {K : PySem.W.Frag} {D : Addr} {st : Sto} (S : SR K (Zp Z0 D) θ st H) : SR K Z0 θ st H := by
  refine ⟨S.len, S.nd, fun n a so h1 h2 => ?_, S.dd, fun a q => S.z0 a (.inr q), fun a ha q => S.dis a ha (.inr q)⟩
  have q := S.obj n a so h1 h2
  cases so with
  | dead => exact q
  | lst ws =>
    obtain ⟨vs, q1, q2⟩ := q
    exact ⟨vs, q1, wrs_zs (fun a z => .inl (.inr z)) q2⟩
theorem wipe_wipe (σ : L2.St) : ∀ vs : List Nat, L2.wipe (L2.wipe σ vs) vs = L2.wipe σ vs
  | [] => rfl
  | v :: vs => by
    have key : ∀ (us : List Nat) (τ : L2.St) (i : Nat), L2.wipe (τ.set i none) us = (L2.wipe τ us).set i none := by
      intro us
      induction us with
      | nil => intro τ i; rfl
      | cons u us ih =>
        intro τ i
        show (L2.wipe (τ.set i none) us).set u none = ((L2.wipe τ us).set u none).set i none
        rw [ih]
        by_cases h : i = u
        · rw [h]
        · rw [List.set_comm _ _ h]
    show (L2.wipe ((L2.wipe σ vs).set v none) vs).set v none = (L2.wipe σ vs).set v none
    rw [key, wipe_wipe σ vs, List.set_set]
theorem nox_noexc {α : Type} {r : R α} {c : Str} {x : PyData} {s : Sto} (h : r.nox = .exc c x s) : False := by
  cases r <;> cases h
theorem lcL_noexc {tg : W → En → Sto → R En} {tt : En → Sto → R Bool} {fe : En → Sto → R W} {ρ : En} : ∀ {ws : List W} {st : Sto} {c : Str} {x : PyData} {s : Sto}, lcL tg tt fe ρ ws st = .exc c x s → False
  | [], _, _, _, _, h => by cases h
  | w :: ws, st, c, x, s, h => by
    unfold lcL at h
    cases c1 : (tg w ρ st).nox with
    | bad => rw [c1] at h; cases h
    | exc c x s => exact nox_noexc c1
    | ok ρ1 s1 =>
      rw [c1, R.bind_ok] at h
      cases c2 : (tt ρ1 s1).nox with
      | bad => rw [c2] at h; cases h
      | exc c x s => exact nox_noexc c2
      | ok b s2 =>
        rw [c2, R.bind_ok] at h
        cases b with
        | false => exact lcL_noexc h
        | true =>
          rw [if_pos rfl] at h
          cases c3 : (fe ρ1 s2).nox with
          | bad => rw [c3] at h; cases h
          | exc c x s => exact nox_noexc c3
          | ok u s3 =>
            rw [c3, R.bind_ok] at h
            cases c4 : lcL tg tt fe ρ ws s3 with
            | bad => rw [c4] at h; cases h
            | exc c x s => exact lcL_noexc c4
            | ok us s4 => rw [c4] at h; cases h
/-- the raw reading of a comprehension -/
theorem t_lc {vs : List Nat} {fi : En → Sto → R (List W)} {tg : W → En → Sto → R En} {tt : En → Sto → R Bool} {fe : En → Sto → R W} {σ : L2.St} {Q : VK} {Z0 : Addr → Prop} {θ : List (Option Addr)} {ρ : En} {st : Sto} {k : List W → Sto → R W}
    (S : SR C.K Z0 θ st H) (N : EnR C.K (Zs Z0 θ) θ H ρ σ) (p : Post C Z0 θ H (relW C.K Z0) ((dLc vs fi tg tt fe ρ st).bind k) Q)
    (fin : ∀ us st1 θ1 H1 p ys, Ext θ H θ1 H1 → SR C.K Z0 θ1 st1 H1 → H1 p = some (.lst ys) → H p = none → ¬ Zs Z0 θ1 p → WRs C.K (Zs Z0 θ1) θ1 H1 us ys → Post C Z0 θ1 H1 (relW C.K Z0) (k us st1) Q → Q (.ref p) H1) :
    tLc (rdI C fi) (rdG C.nx vs tg) (rdT C.nx tt) (rdE C.nx fe) vs σ H Q := by
  unfold dLc at p
  rw [R.bind_assoc] at p
  refine ⟨Z0, θ, ρ, st, S, N, Post.bind p fun ws st1 θ1 H1 J _ e1 S1 it p1 => fun D hD => ?_⟩
  -- what is still to be made of the rest of the values
  refine ⟨fun i m H2 => ∃ θ2 st2 acc us, Ext θ1 H1 θ2 H2 ∧ SR C.K (Zp Z0 D) θ2 st2 H2 ∧ EnR C.K (Zs (Zp Z0 D) θ2) θ2 H2 (wipeE ρ vs) (L2.wipe σ vs) ∧ H2 D = some (.lst acc) ∧ some D ∉ θ2 ∧ WRs C.K (Zs (Zp Z0 D) θ2) θ2 H2 us acc ∧ i ≤ ws.length ∧ m = ws.length - i ∧
      Post C Z0 θ1 H1 (relW C.K Z0) ((((lcL tg tt fe (wipeE ρ vs) (ws.drop i) st2).bind fun us' s => .ok (us ++ us') s).bind fun us s => chk (us.length ≤ sizeLine) (.ok us s)).bind k) Q, ⟨ws.length, θ1, st1, [], [], Ext.mut Ext.refl hD, sr_zp hD S1, enR_zp hD ((N.ext e1).wipe vs), upd_same, fun z => S1.notZ hD (.inl z), .nil, Nat.zero_le _, by omega, ?_⟩, fun i m H2 hW => ?_⟩
  · have e : ∀ (r : R (List W)), (r.bind fun us' s => R.ok ([] ++ us') s) = r := fun r => by cases r <;> rfl
    rw [e]; exact p1
  obtain ⟨θ2, st2, acc, us, e2, S2, N2, hA, hN, rA, hl, rfl, p2⟩ := hW
  obtain ⟨h1, h2⟩ := it (Zp Z0 D) θ2 H2 st2 (fun a z => z.elim (fun z => .inr (z ▸ hD)) .inl) e2 S2 i
  by_cases hlt : i < ws.length
  · obtain ⟨g1, g2⟩ := h1 ws[i] (List.getElem?_eq_getElem hlt)
    rw [List.drop_eq_getElem_cons hlt] at p2
    refine .inr ⟨g1, fun H3 => ∃ θ3 st3 acc us, Ext θ1 H1 θ3 H3 ∧ SR C.K (Zp Z0 D) θ3 st3 H3 ∧ EnR C.K (Zs (Zp Z0 D) θ3) θ3 H3 (wipeE ρ vs) (L2.wipe σ vs) ∧ H3 D = some (.lst acc) ∧ some D ∉ θ3 ∧ WRs C.K (Zs (Zp Z0 D) θ3) θ3 H3 us acc ∧
      Post C Z0 θ1 H1 (relW C.K Z0) ((((lcL tg tt fe (wipeE ρ vs) (ws.drop (i + 1)) st3).bind fun us' s => .ok (us ++ us') s).bind fun us s => chk (us.length ≤ sizeLine) (.ok us s)).bind k) Q, fun H3 h3 => ?_, fun x H3 y => ?_⟩
    · obtain ⟨θ3, st3, acc3, us3, a1, a2, a3, a4, a5, a6, a7⟩ := h3
      exact ⟨ws.length - (i + 1), by omega, θ3, st3, acc3, us3, a1, a2, a3, a4, a5, a6, hlt, rfl, a7⟩
    · obtain ⟨e3, S3, w3, k3⟩ := g2 x H3 y
      have keepD : ∀ {θ' : List (Option Addr)} {H' : Hp}, Ext θ2 H3 θ' H' → H' D = some (.lst acc) ∧ some D ∉ θ' := fun {θ' H'} e => by
        have hD3 : H3 D = some (.lst acc) := by rw [k3 D (by rw [hA]; simp)]; exact hA
        refine ⟨e.keep D _ hN hD3, fun z => ?_⟩
        rcases e.mem z with z | z
        · exact hN z
        · rw [hD3] at z; cases z
      unfold lcL at p2
      refine ⟨Zp Z0 D, θ2, wipeE ρ vs, st2, ws[i], S3, N2.ext e3, w3, ?_⟩
      cases c1 : tg ws[i] (wipeE ρ vs) st2 with
      | bad => rw [c1] at p2; exact p2.elim
      | exc c x s => rw [c1] at p2; exact p2.elim
      | ok ρ4 st4 =>
        rw [c1] at p2
        intro θ4 H4 σ4 e4 S4 w4
        refine ⟨w4.2.trans (wipe_wipe σ vs), Zp Z0 D, θ4, ρ4, st4, S4, w4.1, ?_⟩
        replace p2 : Post C Z0 θ1 H1 (relW C.K Z0) ((((((tt ρ4 st4).nox.bind fun b s2 => if b = true then (fe ρ4 s2).nox.bind fun u s3 => (lcL tg tt fe (wipeE ρ vs) (ws.drop (i + 1)) s3).bind fun us s4 => .ok (u :: us) s4 else lcL tg tt fe (wipeE ρ vs) (ws.drop (i + 1)) s2)).bind fun us' s => .ok (us ++ us') s).bind fun us s => chk (us.length ≤ sizeLine) (.ok us s)).bind k) Q := p2
        cases c2 : tt ρ4 st4 with
        | bad => rw [c2] at p2; exact p2.elim
        | exc c x s => rw [c2] at p2; exact p2.elim
        | ok b st5 =>
          rw [c2] at p2
          intro θ5 H5 b' e5 S5 w5
          cases w5
          have E5 := (e3.trans e4).trans e5
          cases b with
          | false =>
            rw [if_neg (by simp)]
            obtain ⟨d1, d2⟩ := keepD (e4.trans e5)
            exact ⟨θ5, st5, acc, us, e2.trans E5, S5, N2.ext E5, d1, d2, rA.ext E5, p2⟩
          | true =>
            rw [if_pos rfl]
            refine ⟨Zp Z0 D, θ5, ρ4, st5, S5, w4.1.ext e5, ?_⟩
            replace p2 : Post C Z0 θ1 H1 (relW C.K Z0) ((((((fe ρ4 st5).nox.bind fun u s3 => (lcL tg tt fe (wipeE ρ vs) (ws.drop (i + 1)) s3).bind fun us s4 => .ok (u :: us) s4)).bind fun us' s => .ok (us ++ us') s).bind fun us s => chk (us.length ≤ sizeLine) (.ok us s)).bind k) Q := p2
            cases c3 : fe ρ4 st5 with
            | bad => rw [c3] at p2; exact p2.elim
            | exc c x s => rw [c3] at p2; exact p2.elim
            | ok u st6 =>
              rw [c3] at p2
              intro θ6 H6 y' e6 S6 w6
              have E6 := E5.trans e6
              obtain ⟨d1, d2⟩ := keepD ((e4.trans e5).trans e6)
              have hzD : Zs (Zp Z0 D) θ6 D := .inr (.inl rfl)
              have eqn : (((((R.ok u st6).nox.bind fun u s3 => (lcL tg tt fe (wipeE ρ vs) (ws.drop (i + 1)) s3).bind fun us s4 => .ok (u :: us) s4)).bind fun us' s => R.ok (us ++ us') s)) = ((lcL tg tt fe (wipeE ρ vs) (ws.drop (i + 1)) st6).bind fun us' s => .ok ((us ++ [u]) ++ us') s) := by
                show (((lcL tg tt fe (wipeE ρ vs) (ws.drop (i + 1)) st6).bind fun us s4 => R.ok (u :: us) s4).bind fun us' s => R.ok (us ++ us') s) = _
                cases lcL tg tt fe (wipeE ρ vs) (ws.drop (i + 1)) st6 <;> simp
              rw [eqn] at p2
              have hlen : us.length < sizeLine := by
                cases c4 : lcL tg tt fe (wipeE ρ vs) (ws.drop (i + 1)) st6 with
                | bad => rw [c4] at p2; exact p2.elim
                | exc c x s => exact (lcL_noexc c4).elim
                | ok us' s =>
                  rw [c4] at p2
                  have p3 : Post C Z0 θ1 H1 (relW C.K Z0) ((chk (((us ++ [u]) ++ us').length ≤ sizeLine) (R.ok ((us ++ [u]) ++ us') s)).bind k) Q := p2
                  by_cases hc : ((us ++ [u]) ++ us').length ≤ sizeLine
                  · simp only [List.length_append, List.length_singleton] at hc; omega
                  · unfold Y.chk at p3; rw [if_neg hc] at p3; exact p3.elim
              refine ⟨acc, d1, by rw [← rA.length]; exact hlen, θ6, st6, acc ++ [y'], us ++ [u], Ext.mut (e2.trans E6) hD, sr_apart d1 (.inl rfl) S6, enR_apart d1 hzD (N2.ext E6), upd_same, d2, ?_, p2⟩
              exact paired_snoc (Paired.imp (fun _ _ => wr_apart d1 hzD) (rA.ext E6)) (wr_apart d1 hzD w6)
  · have hi : i = ws.length := by omega
    subst hi
    rw [List.drop_length] at p2
    refine .inl ⟨h2 (Nat.le_refl _), ?_⟩
    replace p2 : Post C Z0 θ1 H1 (relW C.K Z0) ((chk ((us ++ []).length ≤ sizeLine) (R.ok (us ++ []) st2)).bind k) Q := p2
    rw [List.append_nil] at p2
    by_cases hc : us.length ≤ sizeLine
    · rw [chk_ok hc] at p2
      refine fin us st2 θ2 H2 D acc (e1.trans e2) (sr_unzp S2) hA (e1.fresh hD) (fun z => ?_) (wrs_zs (fun a z => .inl (.inr z)) rA) (Post.from e2 p2)
      rcases z with z | z
      · exact hN z
      · exact S1.z0 D z hD
    · unfold Y.chk at p2; rw [if_neg hc] at p2; exact p2.elim
end
end Y

namespace Y
open PySem PySem.Spec PyProof.Rows L2
section
variable {X : Cx} {C : Ct}
/-! ### comprehensions as values, and stored -/
theorem t_lcF {vs : List Nat} {fi : En → Sto → R (List W)} {tg : W → En → Sto → R En} {tt : En → Sto → R Bool} {fe : En → Sto → R W} {σ : L2.St} {H : Hp} {Q : VK} (q : rdE C (dLcF (dLc vs fi tg tt fe)) σ H Q) : tLc (rdI C fi) (rdG C.nx vs tg) (rdT C.nx tt) (rdE C.nx fe) vs σ H Q := by
  obtain ⟨Z0, θ, ρ, st, S, N, p⟩ := q
  refine t_lc S N p fun us st1 θ1 H1 a ys e1 S1 hp _ nz r p1 => ?_
  split at p1
  · rename_i ds hd
    exact p1 θ1 H1 _ Ext.refl S1 (show Pd _ _ _ _ _ from .lst ⟨.inl hp, nz⟩ (r.pd hd))
  · exact p1.elim
theorem SR.adopt {K : PySem.W.Frag} {Z0 : Addr → Prop} {θ : List (Option Addr)} {st : Sto} {H : Hp} {a : Addr} {ws : List W} {vs : List V} (S : SR K Z0 θ st H) (h : H a = some (.lst vs)) (nz : ¬ Zs Z0 θ a) (x : ∀ {w v}, WR K (Zs Z0 θ) θ H w v → WR K (Zs Z0 (θ ++ [some a])) (θ ++ [some a]) H w v) (r : WRs K (Zs Z0 θ) θ H ws vs) : SR K Z0 (θ ++ [some a]) (st ++ [.lst ws]) H := by
  have np : ∀ (n : Nat) b, θ[n]? = some (some b) → b ≠ a := fun n b h1 e => nz (.inl (e ▸ List.mem_of_getElem? h1))
  refine ⟨by simp [S.len], fun m n b h1 h2 => ?_, fun n b so h1 h2 => ?_, fun n hn => ?_, S.z0, fun b hb => ?_⟩
  · rcases getElem?_snoc h1 with h1 | ⟨e1, h1⟩ <;> rcases getElem?_snoc h2 with h2 | ⟨e2, h2⟩
    · exact S.nd m n b h1 h2
    · cases h2; exact absurd rfl (np _ _ h1)
    · cases h1; exact absurd rfl (np _ _ h2)
    · omega
  · rcases getElem?_snoc h1 with h1 | ⟨e1, h1⟩
    · have hl : n < st.length := by rw [← S.len]; exact (List.getElem?_eq_some_iff.mp h1).1
      rw [List.getElem?_append_left hl] at h2
      have q := S.obj n b so h1 h2
      cases so with
      | dead => exact q
      | lst us => obtain ⟨zs, q1, q2⟩ := q; exact ⟨zs, q1, Paired.imp (fun _ _ => x) q2⟩
    · cases h1
      rw [e1, S.len, List.getElem?_append_right (Nat.le_refl _)] at h2
      have : so = .lst ws := by simpa using h2.symm
      subst this
      exact ⟨vs, h, Paired.imp (fun _ _ => x) r⟩
  · rcases getElem?_snoc hn with hn | ⟨_, hn⟩
    · have e := S.dd n hn
      rw [List.getElem?_append_left (List.getElem?_eq_some_iff.mp e).1]; exact e
    · cases hn
  · rcases List.mem_append.mp hb with hb | hb
    · exact S.dis b hb
    · have e : b = a := by simpa using hb
      subst e
      exact fun z => nz (.inr z)
theorem y_lcF {elt tgt iter : Expr} {ifs : List Expr} {scope : Scope} {own : List (Str × Nat)} {pos : Pos} {fi : En → Sto → R (List W)} {tg : W → En → Sto → R En} {tt : En → Sto → R Bool} {fe : En → Sto → R W} (hc : X.calm = true) (hN : X.N.Nodup) (hi : PI X tgt iter (rdI C fi)) (ok : BlkOk X.N X.env.scope scope own)
    (hg : ∀ (s : Shared) (H : Hp) (A : Addr) (cl : List (Str × Addr)) (fp : List Addr), PG (X.blk s H scope (compEnvC scope cl A X.env) fp) tgt (rdG C.nx (own.map (·.2)) tg))
    (ht : ∀ (s : Shared) (H : Hp) (A : Addr) (cl : List (Str × Addr)) (fp : List Addr), PTs (X.blk s H scope (compEnvC scope cl A X.env) fp) ifs (rdT C.nx tt))
    (he : ∀ (s : Shared) (H : Hp) (A : Addr) (cl : List (Str × Addr)) (fp : List Addr), PE (X.blk s H scope (compEnvC scope cl A X.env) fp) elt (rdE C.nx fe)) (hs : ∀ x, foldedSetIterable iter X.env x = pure x := by intro _; rfl) :
    PE X (.ListComp elt [⟨tgt, iter, ifs, 0⟩] scope pos) (rdE C (dLcF (dLc (own.map (·.2)) fi tg tt fe))) := PE.imp (pe_lc hc hN hi ok hg ht he hs) fun _ _ _ => t_lcF
theorem y_setLcF {i : Nat} {y : Str} {py : Pos} {elt tgt iter : Expr} {ifs : List Expr} {scope : Scope} {own : List (Str × Nat)} {pos spos : Pos} {fi : En → Sto → R (List W)} {tg : W → En → Sto → R En} {tt : En → Sto → R Bool} {fe : En → Sto → R W} (hc : X.calm = true) (hN : X.N.Nodup) (hy : X.N[i]? = some y) (hyl : X.env.scope.names.lookup y = some .local)
    (hsw : swapsWith (.ListComp elt [⟨tgt, iter, ifs, 0⟩] scope pos) (some (.Name y py)) spos.line X.env = pure true) (hi : PI X tgt iter (rdI C fi)) (ok : BlkOk X.N X.env.scope scope own)
    (hg : ∀ (s : Shared) (H : Hp) (A : Addr) (cl : List (Str × Addr)) (fp : List Addr), PG (X.blk s H scope (compEnvC scope cl A X.env) fp) tgt (rdG C.nx (own.map (·.2)) tg))
    (ht : ∀ (s : Shared) (H : Hp) (A : Addr) (cl : List (Str × Addr)) (fp : List Addr), PTs (X.blk s H scope (compEnvC scope cl A X.env) fp) ifs (rdT C.nx tt))
    (he : ∀ (s : Shared) (H : Hp) (A : Addr) (cl : List (Str × Addr)) (fp : List Addr), PE (X.blk s H scope (compEnvC scope cl A X.env) fp) elt (rdE C.nx fe)) (hs : ∀ x, foldedSetIterable iter X.env x = pure x := by intro _; rfl) :
    PS X (.Assign [.Name y py] (.ListComp elt [⟨tgt, iter, ifs, 0⟩] scope pos) spos) (rdS C (dSet i (dLcF (dLc (own.map (·.2)) fi tg tt fe)))) := PS.imp (ps_setLc hc hN hy hyl hsw hi ok hg ht he hs) fun D σ H q => by
  obtain ⟨Z0, θ, ρ, st, S, N, p⟩ := q
  refine t_lcF ⟨Z0, θ, ρ, st, S, N, PostS.bindE p fun w st1 θ1 H1 v e1 S1 w1 p1 => p1.now S1 ((N.ext e1).set i w1)⟩

/-! ### isinstance -/
@[simp] def tyName (st : Sto) : W → Option String
  | .d .none => some "NoneType"
  | .d (.bool _) => some "bool"
  | .d (.int _) => some "int"
  | .d (.str _) => some "str"
  | .d (.list _) => some "list"
  | .d (.tuple _) => some "tuple"
  | .ref n => match st[n]? with
    | some (.lst _) => some "list"
    | _ => none
  | _ => none
theorem tyX_of {K : PySem.W.Frag} {Z0 : Addr → Prop} {θ : List (Option Addr)} {H : Hp} {st : Sto} (S : SR K Z0 θ st H) {w : W} {v : V} {t : String} (r : WR K (Zs Z0 θ) θ H w v) (e : tyName st w = some t) : TyX K H v (.type t) := by
  cases w with
  | d x =>
    cases x with
    | none => cases e; cases r; exact .base .non
    | bool b => cases e; cases r; exact .base (.bl b)
    | int i => cases e; cases r; exact .base (.int i)
    | str x => cases e; cases r; exact .base (.str x)
    | list ds =>
      cases e
      cases r with
      | lst h1 _ =>
        rcases h1.1 with q | ⟨o, q⟩
        · exact .base (.lst q)
        · exact .base (.frz q)
    | tuple ds =>
      cases e
      cases r with
      | tup h1 _ =>
        rcases h1 with (q | ⟨o, q⟩) | ⟨o, its, n, h1, h2, _⟩
        · exact .base (.tup q)
        · exact .fTuple q
        · exact .kTuple h1 h2
    | dict _ => cases e
  | ref n =>
    dsimp only [tyName] at e
    split at e
    · rename_i ws hw
      cases e
      obtain ⟨a, vs, rfl, _, h3, _⟩ := S.at_ r hw
      exact .base (.lst h3)
    · cases e
  | scr ns => cases e
@[simp] def isiB (a : String) : List String → Option Bool
  | [] => some false
  | b :: bs => match kitB a b with
    | some true => some true
    | some false => isiB a bs
    | none => none
@[simp] def dIsi (Ts : List String) (fe : En → Sto → R W) : En → Sto → R W := fun ρ st => (fe ρ st).bind fun w s => match tyName s w with
  | some t => match isiB t Ts with
    | some b => .ok (.d (.bool b)) s
    | none => .bad
  | none => .bad
theorem y_isi1 {e : Expr} {fe : En → Sto → R W} {T : String} {x : Str} {p p1 pos : Pos} (hK : C.K = X.K) (hg : Gl X "isinstance") (hm : X.mg "isinstance" = none) (hgT : Gl X x) (hmT : X.mg x = none) (hv : bootBuiltins x = some (.type T)) (h : PE X e (rdE C fe))
    (hb : bootBuiltins "isinstance" = some (.builtin "isinstance") := by decide +kernel) (hn : x ≠ "__name__" := by decide) (hd : (x == ("__debug__" : Str)) = false := by decide)
    (h1 : starEach [e, .Name x p1] X.env = (false, eval e X.env) :: starEach [.Name x p1] X.env := by rfl) (h2 : (backTo pos (starEach [.Name x p1] X.env)).any (·.1) = false := by rfl) (h3 : starEach [.Name x p1] X.env = (false, eval (.Name x p1) X.env) :: starEach [] X.env := by rfl) :
    PE X (.Call (.Name "isinstance" p) [e, .Name x p1] [] pos) (rdE C (dIsi [T] fe)) := by
  obtain ⟨K, mg, E⟩ := C
  obtain rfl : K = X.K := hK
  refine PE.imp (pe_callB call_isi hg hm hb (pa_cons h (pa_cons (pe_bltn (v := .ty T) hgT hmT hv rfl hn hd) pa_nil h3) h1) (by decide) (by decide) h1 h2) fun σ H Q q => ?_
  obtain ⟨Z0, θ, ρ, st, S, N, p⟩ := q
  refine ⟨Z0, θ, ρ, st, S, N, Post.bind p fun w st1 θ1 H1 v _ e1 S1 w1 p1 => ?_⟩
  split at p1
  · rename_i t ht
    split at p1
    · rename_i b hb'
      refine ⟨v, .ty T, .type t, .type T, b, rfl, .ty T, tyX_of S1 w1 ht, ?_, p1.now S1 (show Pd _ _ _ _ _ from .bl _)⟩
      unfold isiB isiB at hb'
      cases q : kitB t T with
      | none => rw [q] at hb'; cases hb'
      | some c => rw [q] at hb'; cases c <;> (cases hb'; exact kit_ty q)
    · exact p1.elim
  · exact p1.elim
theorem y_isi2 {e : Expr} {fe : En → Sto → R W} {T U : String} {x y : Str} {p p1 p2 pos pt : Pos} {kt} (hK : C.K = X.K) (hg : Gl X "isinstance") (hm : X.mg "isinstance" = none) (hgT : Gl X x) (hmT : X.mg x = none) (hv : bootBuiltins x = some (.type T)) (hgU : Gl X y) (hmU : X.mg y = none) (hvU : bootBuiltins y = some (.type U)) (h : PE X e (rdE C fe))
    (hb : bootBuiltins "isinstance" = some (.builtin "isinstance") := by decide +kernel) (hn : x ≠ "__name__" := by decide) (hd : (x == ("__debug__" : Str)) = false := by decide) (hn' : y ≠ "__name__" := by decide) (hd' : (y == ("__debug__" : Str)) = false := by decide)
    (h1 : starEach [e, .Tuple [.Name x p1, .Name y p2] kt pt] X.env = (false, eval e X.env) :: starEach [.Tuple [.Name x p1, .Name y p2] kt pt] X.env := by rfl) (h2 : (backTo pos (starEach [.Tuple [.Name x p1, .Name y p2] kt pt] X.env)).any (·.1) = false := by rfl)
    (h3 : starEach [.Tuple [.Name x p1, .Name y p2] kt pt] X.env = (false, eval (.Tuple [.Name x p1, .Name y p2] kt pt) X.env) :: starEach [] X.env := by rfl)
    (h4 : starEach [.Name x p1, .Name y p2] X.env = (false, eval (.Name x p1) X.env) :: starEach [.Name y p2] X.env := by rfl) (h5 : starEach [.Name y p2] X.env = (false, eval (.Name y p2) X.env) :: starEach [] X.env := by rfl) :
    PE X (.Call (.Name "isinstance" p) [e, .Tuple [.Name x p1, .Name y p2] kt pt] [] pos) (rdE C (dIsi [T, U] fe)) := by
  obtain ⟨K, mg, E⟩ := C
  obtain rfl : K = X.K := hK
  refine PE.imp (pe_callB call_isiT hg hm hb (pa_cons h (pa_cons (pe_tup (pa_cons (pe_bltn (v := .ty T) hgT hmT hv rfl hn hd) (pa_cons (pe_bltn (v := .ty U) hgU hmU hvU rfl hn' hd') pa_nil h5) h4)) pa_nil h3) h1) (by decide) (by decide) h1 h2) fun σ H Q q => ?_
  obtain ⟨Z0, θ, ρ, st, S, N, p⟩ := q
  refine ⟨Z0, θ, ρ, st, S, N, Post.bind p fun w st1 θ1 H1 v _ e1 S1 w1 p1 => ⟨by show 2 ≤ sizeLine; decide, fun tp htp => ?_⟩⟩
  have x2 := Ext.alloc (θ := θ1) (o := .tup [.ty T, .ty U]) htp
  have S2 := S1.alloc (o := .tup [.ty T, .ty U]) htp
  split at p1
  · rename_i t ht
    split at p1
    · rename_i b hb'
      refine ⟨v, tp, [.ty T, .ty U], .type t, [.type T, .type U], b, rfl, upd_same, .cons (.ty T) (.cons (.ty U) .nil), tyX_of S2 (w1.ext x2) ht, ?_, p1 θ1 _ _ x2 S2 (show Pd _ _ _ _ _ from .bl _)⟩
      unfold isiB isiB isiB at hb'
      cases q : kitB t T with
      | none => rw [q] at hb'; cases hb'
      | some c =>
        rw [q] at hb'
        refine kitAny_cons (kit_ty q) (fun hc => ?_) fun hc => ?_
        · subst hc
          cases q2 : kitB t U with
          | none => rw [q2] at hb'; cases hb'
          | some c2 =>
            rw [q2] at hb'
            refine kitAny_cons (kit_ty q2) (fun hc => ?_) fun hc => ?_
            · subst hc; cases hb'; exact kitAny_nil
            · subst hc; cases hb'; rfl
        · subst hc; cases hb'; rfl
    · exact p1.elim
  · exact p1.elim
end

/-! ### defs -/
/-- a def that keeps its promise where no repr runs -/
structure FnG (P : Program) (w : World) (K : PySem.W.Frag) (mg : Str → Option Value) (base : Heap) (CX : CXT) (k : Nat) (f : Addr) (fd : FuncData) (ps : List Str) (sp : Sp) : Prop where
  len : ∀ vs H Q E, sp vs H Q E → vs.length = ps.length
  go : ∀ (A : Around) (outer : List Env) (s : Shared) (H : Hp) (args : Args) (us : List Value) (vs : List V) (Q : VK) (E : XK), A.guards = some [] → Room k A → Env0 P w K mg base A outer s H → BindsTo s fd args (ps.zip us) → Vals vs us → sp vs H Q E → codeAny (model P w) A (.call (.ref f) args) (CR CX outer P w H s Q E) s
section
variable {P : Program} {w : World} {K : PySem.W.Frag} {mg : Str → Option Value} {base : Heap} {CX : CXT}
theorem FnG.up {j k : Nat} {f : Addr} {fd : FuncData} {ps : List Str} {sp : Sp} (F : FnG P w K mg base CX j f fd ps sp) (h : j ≤ k) : FnG P w K mg base CX k f fd ps sp := ⟨F.len, fun A o s H a us vs Q E g r => F.go A o s H a us vs Q E g (r.mono h)⟩
theorem fnG_of {k : Nat} {x qual : Str} {st : Stmt} {f : Addr} {fd : FuncData} {N ps : List Str} {sp : Sp} (F : C8.Fun K x qual st f fd) (S : FnScope N ps (C8.fnScope st)) (len : ∀ vs H Q E, sp vs H Q E → vs.length = ps.length)
    (body : ∀ (cdv : Value) (A : Around) (outer : List Env) (s : Shared) (H : Hp) (vs : List V) (Q : VK) (E : XK), A.guards = some [] → Room k (A.deeper (envOfC qual (C8.fnScope st) s.heap.objs.size f cdv)) → sp vs H Q E →
      ∃ t, PSs (cxOf CX P w K mg base N qual (C8.fnScope st) f cdv A outer s H E) (C8.fnBody st) t ∧ t { nx := fun _ H' => Q .non H', rt := Q } (start N vs) H) : FnG P w K mg base CX (k + 1) f fd ps sp := by
  obtain ⟨_, _, dV, kV, doc, pm, an, cdv, ct, _, rfl, lk, hcd⟩ := F.ex
  refine ⟨len, ?_⟩
  intro A outer s H args us vs Q E gA room e0 bnd rel pr
  have lenV := len _ _ _ _ pr
  have kin := e0.mod.kin.keeps (h' := s.heap) (fun b o e => (e0.bs b o e).1)
  have nl := e0.mod.nolimit.keeps (h' := s.heap) (fun b o e => (e0.bs b o e).1)
  have knd : ∀ y ∈ ps.zip us, (C8.fnScope st).names.lookup y.1 = some .local ∨ ((C8.fnScope st).names.lookup y.1 = some .cell ∧ ((cellsFrom (s.heap.objs.size + 1) (C8.fnScope st).names []).lookup y.1).isSome = true) := by
    rintro ⟨n, v⟩ hy
    have hp := S.par n (List.of_mem_zip hy).1
    exact hp.imp id fun q => ⟨q, PySem.W.cellsFrom_some _ _ _ (.inl q)⟩
  refine codeAny_call_function room.depth (kin f _ lk) rfl S.co S.gen rfl (PySem.W.codeRec_of kin hcd) (bnd _ _ _ _ ?_)
  refine wpAny_newFunctionEnv_cells S.kind knd (fun env henv s1 inC => ?_)
  cases henv
  obtain ⟨t, ht, ok⟩ := body cdv A outer s H vs Q E gA (room.deeper _) pr
  have inv := inv_start (CX := CX) (E := E) S room.hd e0 lenV rel inC
  refine ⟨nl.keeps inC.toInCall.keep, codeAny_func (wpAny_mono (ht.run [] s1 (start N vs) H _ inv ok) ?_ (fun _ _ z => z))⟩
  intro fl s' fin
  cases fl with
  | ret u => obtain ⟨v, σ', H', J, rv, q⟩ := fin; exact ⟨v, H', J.os, J.bare, J.base, J.hok, rv, q⟩
  | next => obtain ⟨σ', H', J, q⟩ := fin; exact ⟨V.non, H', J.os, J.bare, J.base, J.hok, rfl, q⟩
  | brk => obtain ⟨_, _, _, q⟩ := fin; exact q.elim
  | cont => obtain ⟨_, _, _, q⟩ := fin; exact q.elim
end
end Y

namespace Y
open PySem PySem.Spec PyProof.Rows L2
/-! ### a def as a function of values and store -/
abbrev Fn := List W → Sto → R W
def c0 (K : PySem.W.Frag) (mg : Str → Option Value) : Ct := ⟨K, mg, C8.E0⟩
def spF (K : PySem.W.Frag) (mg : Str → Option Value) (n : Nat) (F : Fn) : Sp := fun vs H Q _ => vs.length = n ∧ ∃ Z0 θ st ws, SR K Z0 θ st H ∧ WRs K (Zs Z0 θ) θ H ws vs ∧ Post (c0 K mg) Z0 θ H (relW K Z0) (F ws st) Q
@[simp] def dDef (n : Nat) (body : DS) : Fn := fun ws st => (body (ws.map some ++ List.replicate (n - ws.length) none) st).bind fun a s => match a.1 with
  | .rt w => .ok w s
  | .nx => .ok (.d .none) s
  | _ => .bad
/-- a def that may be called by its name -/
structure CalG (P : Program) (w : World) (K : PySem.W.Frag) (mg : Str → Option Value) (base : Heap) (k : Nat) (x : Str) (st : Stmt) (ps : List Str) (n : Nat) (F : Fn) : Prop where
  ex : ∃ (f : Addr) (kV doc pm : Value) (an : Option Addr) (cdv ct : Value), FnG P w K mg base C8.CX0 k f (PySem.W.fnOf x x (C8.fnArgs st) (C8.fnBody st) (C8.fnScope st) .none kV doc pm an cdv ct) ps (spF K mg n F) ∧ mg x = some (.ref f) ∧ PySem.W.keepIn K (.ref f) = true ∧ ps.length = n ∧
    (∀ us : List Value, us.length = n → bindArgs (PySem.W.fnOf x x (C8.fnArgs st) (C8.fnBody st) (C8.fnScope st) .none kV doc pm an cdv ct) ⟨us, []⟩ = pure (ps.zip us))
/-- the context of a def's body -/
abbrev BX (P : Program) (w : World) (K : PySem.W.Frag) (mg : Str → Option Value) (base : Heap) (N : List Str) (x : Str) (st : Stmt) (f : Addr) (cdv : Value) (A : Around) (outer : List Env) (s : Shared) (H : Hp) (E : XK) : Cx := (cxOf C8.CX0 P w K mg base N x (C8.fnScope st) f cdv A outer s H E).nox
section
variable {P : Program} {w : World} {K : PySem.W.Frag} {mg : Str → Option Value} {base : Heap}
theorem nopassX {X : Cx} {E : XK} : Passes C8.CX0 X E := C8.pass0
theorem enR_start {Z : Addr → Prop} {θ : List (Option Addr)} {H : Hp} {N : List Str} {ws : List W} {vs : List V} (r : WRs K Z θ H ws vs) : EnR K Z θ H (ws.map some ++ List.replicate (N.length - ws.length) none) (start N vs) := by
  have hl := r.length
  refine ⟨by simp [L2.start, hl], fun i w e => ?_⟩
  by_cases h : i < ws.length
  · rw [List.getElem?_append_left (by simpa using h), List.getElem?_map] at e
    obtain ⟨u, hu, e⟩ := Option.map_eq_some_iff.mp e
    cases e
    obtain ⟨v, hv, rv⟩ := L2.paired_get r hu
    refine ⟨v, ?_, rv⟩
    unfold L2.start
    rw [List.getElem?_append_left (by simp; omega), List.getElem?_map, hv]; rfl
  · rw [List.getElem?_append_right (by simp; omega)] at e
    simp only [List.getElem?_replicate] at e
    split at e <;> cases e
theorem calG_of {k n : Nat} {x : Str} {st : Stmt} {f : Addr} {fd : FuncData} {N ps : List Str} {D : DS} (F : C8.Def K mg x st f fd) (df : fd.defaults = .none) (S : FnScope N ps (C8.fnScope st)) (hn : ps.length = n)
    (hb : ∀ (kV doc pm : Value) (an : Option Addr) (cdv ct : Value) (us : List Value), us.length = n → bindArgs (PySem.W.fnOf x x (C8.fnArgs st) (C8.fnBody st) (C8.fnScope st) .none kV doc pm an cdv ct) ⟨us, []⟩ = pure (ps.zip us))
    (body : ∀ (f : Addr) (cdv : Value) (A : Around) (outer : List Env) (s : Shared) (H : Hp) (E : XK), A.guards = some [] → Room k (A.deeper (envOfC x (C8.fnScope st) s.heap.objs.size f cdv)) → PSs (BX P w K mg base N x st f cdv A outer s H E) (C8.fnBody st) (rdS (c0 K mg) D)) :
    CalG P w K mg base (k + 1) x st ps n (dDef N.length D) := by
  obtain ⟨oc, od, dV, kV, doc, pm, an, cdv, ct, osl, rfl, lk, hcd⟩ := F.fn.ex
  have e : dV = .none := df
  subst e
  refine ⟨f, kV, doc, pm, an, cdv, ct, fnG_of F.fn S (fun vs H Q E h => by rw [h.1, hn]) (fun cdv A outer s H vs Q E g rm h => ?_), F.mgf, F.kp, hn, hb kV doc pm an cdv ct⟩
  obtain ⟨hl, Z0, θ, st', ws, S', r, p⟩ := h
  refine ⟨_, (body f cdv A outer s H E g rm).nox, Z0, θ, _, st', S', enR_start r, ?_⟩
  unfold dDef at p
  rw [r.length] at p ⊢
  cases e : D (ws.map some ++ List.replicate (N.length - vs.length) none) st' with
  | bad => rw [e] at p; exact p.elim
  | exc c x s => rw [e] at p; exact p
  | ok a s1 =>
    rw [e] at p
    obtain ⟨fl, ρ'⟩ := a
    intro θ1 H1 σ1 e1 S1 N1
    cases fl with
    | nx => exact p θ1 H1 _ e1 S1 (show Pd _ _ _ _ _ from .non)
    | rt w => exact fun v rv => p θ1 H1 v e1 S1 rv
    | bk => exact p.elim
    | ct => exact p.elim
/-- another function of values that says the same where it says anything -/
theorem CalG.as {k n : Nat} {x : Str} {st : Stmt} {ps : List Str} {F G : Fn} (c : CalG P w K mg base k x st ps n F) (h : ∀ ws s, ws.length = n → G ws s ≠ .bad → F ws s = G ws s) : CalG P w K mg base k x st ps n G := by
  obtain ⟨f, kV, doc, pm, an, cdv, ct, F', h1, h2, h3, h4⟩ := c.ex
  refine ⟨f, kV, doc, pm, an, cdv, ct, ⟨fun vs H Q E q => by rw [q.1, h3], fun A o s H a us vs Q E g r e0 b rv q => F'.go A o s H a us vs Q E g r e0 b rv ?_⟩, h1, h2, h3, h4⟩
  obtain ⟨hl, Z0, θ, st, ws, S, rr, p⟩ := q
  refine ⟨hl, Z0, θ, st, ws, S, rr, ?_⟩
  rw [h ws st (by rw [rr.length, hl]) (fun z => by rw [z] at p; exact p)]
  exact p
end
section
variable {X : Cx}
theorem run_calG {k : Nat} {f : Addr} {fd : FuncData} {ps : List Str} {n : Nat} {F : Fn} {pins : List (Addr × Obj)} {σ : L2.St} {H : Hp} {s : Shared} {Q : VK} {us : List Value} {vs : List V} {args : Args} (G : FnG X.prog X.w X.K X.mg X.base C8.CX0 k f fd ps (spF X.K X.mg n F)) (hr : Room k X.A) (hg : X.A.guards = some [])
    (I : Inv X pins σ H s) (r : Vals vs us) (hb : BindsTo s fd args (ps.zip us)) (h : spF X.K X.mg n F vs H Q C8.E0) : codeAny (model X.prog X.w) X.A (.call (.ref f) args) (fun r s' => ∃ u, r = .ok (.ret u) ∧ EP X pins σ Q u s') s := by
  refine codeAny_mono (G.go X.A X.stack s H args us vs Q C8.E0 hg hr I.env0 hb r h) fun r s' hq => ?_
  cases r with
  | error e => exact hq.elim
  | ok fl =>
    cases fl with
    | ret u => exact ⟨u, rfl, I.after hq⟩
    | next => exact hq.elim
    | brk => exact hq.elim
    | cont => exact hq.elim
/-- f(..): the callee sees the store -/
@[simp] def dCal (n : Nat) (F : Fn) (fa : En → Sto → R (List W)) : En → Sto → R W := fun ρ st => (fa ρ st).bind fun ws s => chk (ws.length = n) (F ws s)
/-- f(..): all that is handed over and handed back is data; the callee sees an empty store -/
@[simp] def pureW : W → Bool
  | .ref _ => false
  | _ => true
@[simp] def callP (F : Fn) (ws : List W) (s : Sto) : R W := match F ws [] with
  | .ok (.d x) _ => .ok (.d x) s
  | _ => .bad
@[simp] def dCalP (n : Nat) (F : Fn) (fa : En → Sto → R (List W)) : En → Sto → R W := fun ρ st => (fa ρ st).bind fun ws s => chk (ws.length = n ∧ ws.all pureW = true) (callP F ws s)
theorem wr_pure {K : PySem.W.Frag} {Z : Addr → Prop} {θ θ' : List (Option Addr)} {H : Hp} {w : W} {v : V} (h : pureW w = true) (r : WR K Z θ H w v) : WR K Z θ' H w v := by
  cases w with
  | d x => exact r
  | ref n => cases h
  | scr ns => exact r
theorem wrs_pure {K : PySem.W.Frag} {Z : Addr → Prop} {θ θ' : List (Option Addr)} {H : Hp} : ∀ {ws : List W} {vs : List V}, ws.all pureW = true → WRs K Z θ H ws vs → WRs K Z θ' H ws vs
  | [], _, _, h => by cases h; exact .nil
  | w :: ws, _, hp, h => by
    simp only [List.all_cons, Bool.and_eq_true] at hp
    cases h with | cons a b => exact .cons (wr_pure hp.1 a) (wrs_pure hp.2 b)
theorem zs_nil {Z : Addr → Prop} : Zs Z [] = Z := by
  funext a
  simp [Zs]
/-- what a callee wants of a pure call -/
theorem callP_sp {K : PySem.W.Frag} {mg : Str → Option Value} {n : Nat} {F : Fn} {Z0 : Addr → Prop} {θ : List (Option Addr)} {H : Hp} {st : Sto} {ws : List W} {vs : List V} {Q : VK} {E : XK} (S : SR K Z0 θ st H) (r : WRs K (Zs Z0 θ) θ H ws vs) (hn : ws.length = n) (hp : ws.all pureW = true)
    (p : Post (c0 K mg) Z0 θ H (relW K Z0) (callP F ws st) Q) : spF K mg n F vs H Q E := by
  refine ⟨by rw [← r.length, hn], Zs Z0 θ, [], [], ws, ?_, ?_, ?_⟩
  · refine ⟨rfl, fun m n a h => by simp at h, fun n a o h => by simp at h, fun n h => by simp at h, fun a h => ?_, fun a h => by simp at h⟩
    intro z
    exact S.notZ z h
  · rw [zs_nil]; exact wrs_pure hp r
  · unfold callP at p
    cases e : F ws [] with
    | bad => rw [e] at p; exact p.elim
    | exc c x s => rw [e] at p; exact p.elim
    | ok w s' =>
      rw [e] at p
      cases w with
      | ref m => exact p.elim
      | scr ns => exact p.elim
      | d x =>
        intro θ1 H1 v e1 S1 rv
        have keep : ∀ a o, H a = some o → H1 a = some o := fun a o h => e1.keep a o (by simp) h
        have x1 : Ext θ H θ H1 := ⟨fun _ _ h => .inl h, fun _ _ h => .inl h, fun a o _ h => keep a o h, e1.tup, e1.frz, e1.live⟩
        refine p θ H1 v x1 ⟨S.len, S.nd, fun n a o h1 h2 => ?_, S.dd, fun a h => e1.live a (S.z0 a h), S.dis⟩ ?_
        · have q := S.obj n a o h1 h2
          cases o with
          | dead => exact q
          | lst us => obtain ⟨zs, q1, q2⟩ := q; exact ⟨zs, keep a _ q1, WRs.ext x1 q2⟩
        · exact Pd.less (fun a h => .inr h) rv
def relC : List (Option Addr) → Hp → Unit → Unit → Prop := fun _ _ _ _ => True
variable {x : Str} {p pos : Pos} {e : Expr} {es : List Expr} {fa : En → Sto → R (List W)} {n k j : Nat} {F : Fn} {st : Stmt} {ps : List Str}
theorem bindsTo_eq {s : Shared} {fd : FuncData} {args : Args} {b : List (Str × Value)} (h : bindArgs fd args = pure b) : BindsTo s fd args b := .of_eq h
theorem pe_calG (c : CalG X.prog X.w X.K X.mg X.base k x st ps n F) (hr : Room j X.A) (hj : k ≤ j) (hgd : X.A.guards = some []) (hg : Gl X x) {t : TA} (ha : PA X (e :: es) t)
    (nd : (x == ("__debug__" : Str)) = false := by decide) (he : starEach (e :: es) X.env = (false, eval e X.env) :: starEach es X.env := by rfl)
    (nst : (backTo pos (starEach es X.env)).any (·.1) = false := by rfl) :
    PE X (.Call (.Name x p) (e :: es) [] pos) (fun σ H Q => t σ H fun vs H1 => spF X.K X.mg n F vs H1 Q C8.E0) := by
  obtain ⟨f, kV, doc, pm', an, cdv, ct, G, hm, kp, hl, hb⟩ := c.ex
  refine ⟨fun pins s σ H Q I h => wpAny_Call_Name_kw (ld_glob I hg hm (PySem.W.callWith_K (h₀ := X.base) I.ok.mod.kin kp (thn (ha.run pos pins s σ H _ I h) fun us s1 q => ?_) he nst) nd)⟩
  obtain ⟨vs, H1, I1, r, q⟩ := q
  refine ⟨I1.kIn, wpAny_call (codeAny_mono (run_calG G (hr.mono hj) hgd I1 r (bindsTo_eq (hb us (by rw [← r.length, q.1]))) q) fun r' s' hq => ?_)⟩
  obtain ⟨u, rfl, hq⟩ := hq
  exact hq
theorem y_cal {C : Ct} (hC : C = c0 X.K X.mg) (c : CalG X.prog X.w X.K X.mg X.base k x st ps n F) (hr : Room j X.A) (hj : k ≤ j) (hgd : X.A.guards = some []) (hg : Gl X x) (ha : PA X (e :: es) (rdA C fa))
    (nd : (x == ("__debug__" : Str)) = false := by decide) (he : starEach (e :: es) X.env = (false, eval e X.env) :: starEach es X.env := by rfl)
    (nst : (backTo pos (starEach es X.env)).any (·.1) = false := by rfl) :
    PE X (.Call (.Name x p) (e :: es) [] pos) (rdE C (dCal n F fa)) := by
  subst hC
  refine PE.imp (pe_calG c hr hj hgd hg ha nd he nst) fun σ H Q q => ?_
  obtain ⟨Z0, θ, ρ, st, S, N, q⟩ := q
  refine ⟨Z0, θ, ρ, st, S, N, Post.bind q fun ws st1 θ1 H1 vs _ e1 S1 r1 p1 => ?_⟩
  exact ⟨by rw [← r1.length]; exact p1.chk.1, Z0, θ1, st1, ws, S1, r1, p1.chk.2⟩
theorem y_calP {C : Ct} (hC : C = c0 X.K X.mg) (c : CalG X.prog X.w X.K X.mg X.base k x st ps n F) (hr : Room j X.A) (hj : k ≤ j) (hgd : X.A.guards = some []) (hg : Gl X x) (ha : PA X (e :: es) (rdA C fa))
    (nd : (x == ("__debug__" : Str)) = false := by decide) (he : starEach (e :: es) X.env = (false, eval e X.env) :: starEach es X.env := by rfl)
    (nst : (backTo pos (starEach es X.env)).any (·.1) = false := by rfl) :
    PE X (.Call (.Name x p) (e :: es) [] pos) (rdE C (dCalP n F fa)) := by
  subst hC
  refine PE.imp (pe_calG c hr hj hgd hg ha nd he nst) fun σ H Q q => ?_
  obtain ⟨Z0, θ, ρ, st, S, N, q⟩ := q
  refine ⟨Z0, θ, ρ, st, S, N, Post.bind q fun ws st1 θ1 H1 vs _ e1 S1 r1 p1 => ?_⟩
  exact callP_sp S1 r1 p1.chk.1.1 p1.chk.1.2 p1.chk.2

/-! ### keywords -/
/-- f(.., k = v): the parameters' order is pm's -/
def pick {α : Type} (pm : List Nat) (l : List α) : List α := pm.filterMap fun i => l[i]?
theorem pick_rel {α β : Type} {F : α → β → Prop} {l₁ : List α} {l₂ : List β} (h : Paired F l₁ l₂) : ∀ pm : List Nat, Paired F (pick pm l₁) (pick pm l₂)
  | [] => .nil
  | i :: pm => by
    have ih := pick_rel h pm
    unfold pick at ih ⊢
    rw [List.filterMap_cons, List.filterMap_cons]
    cases e : l₁[i]? with
    | none =>
      have : l₂[i]? = none := by
        rw [List.getElem?_eq_none_iff] at e ⊢
        rw [← Paired.length h]; exact e
      rw [this]; exact ih
    | some a =>
      obtain ⟨b, hb, r⟩ := L2.paired_get h e
      rw [hb]; exact .cons r ih
theorem paired_app {α β : Type} {F : α → β → Prop} {l₁ l₃ : List α} {l₂ l₄ : List β} (h : Paired F l₁ l₂) (g : Paired F l₃ l₄) : Paired F (l₁ ++ l₃) (l₂ ++ l₄) := by
  induction h with
  | nil => exact g
  | cons x _ ih => exact .cons x ih
/-- the values of keywords, from the left -/
theorem PK.imp {kws : List Keyword} {t t' : TA} (h : PK X kws t) (k : ∀ σ H Q, t' σ H Q → t σ H Q) : PK X kws t' := ⟨fun pos pins s σ H Q I q => h.run pos pins s σ H Q I (k σ H Q q)⟩
theorem y_knil {C : Ct} : PK X [] (rdA C dNil) := PK.imp pk_nil fun _ _ _ => t_nil
theorem y_kcons {C : Ct} {kws : List Keyword} {nm : Option Str} {kpos : Pos} {f : En → Sto → R W} {g : En → Sto → R (List W)} (h : PE X e (rdE C f)) (hr : PK X kws (rdA C g)) : PK X (⟨nm, e, kpos⟩ :: kws) (rdA C (dCons f g)) := PK.imp (pk_cons h hr) fun _ _ _ => t_cons
/-- only keywords -/
theorem y_calK {C : Ct} {kws : List Keyword} {ks : List Str} {pm : List Nat} (hC : C = c0 X.K X.mg) (c : CalG X.prog X.w X.K X.mg X.base k x st ps n F) (hr : Room j X.A) (hj : k ≤ j) (hgd : X.A.guards = some []) (hg : Gl X x) (ha : PK X kws (rdA C fa))
    (hkb : ∀ (kV doc pm' : Value) (an : Option Addr) (cdv ct : Value) (us : List Value), us.length = n → bindArgs (PySem.W.fnOf x x (C8.fnArgs st) (C8.fnBody st) (C8.fnScope st) .none kV doc pm' an cdv ct) ⟨[], ks.zip us⟩ = pure (ps.zip (pick pm us)))
    (hpm : ∀ ws : List W, ws.length = n → (pick pm ws).length = n)
    (hall : (backToKw pos (keywordEach kws X.env)).all (·.1.isSome) = true := by rfl) (hks : (backToKw pos (keywordEach kws X.env)).filterMap (·.1) = ks := by rfl)
    (hdb : (x == ("__debug__" : Str)) = false := by decide)
    (nst : ((backTo pos (starEach [] X.env)).any (·.1) || (backToKw pos (keywordEach kws X.env)).any (·.1.isNone)) = false := by rfl) : PE X (.Call (.Name x p) [] kws pos) (rdE C (dCalP n (fun ws => F (pick pm ws)) fa)) := by
  subst hC
  obtain ⟨f, kV, doc, pm', an, cdv, ct, G, hm, kp, hl, hb⟩ := c.ex
  refine ⟨fun pins s σ H Q I q => wpAny_Call_Name_kw (ld_glob I hg hm (PySem.W.callWith_KW0 (h₀ := X.base) I.ok.mod.kin kp hall ?_ nst) hdb)⟩
  obtain ⟨Z0, θ, ρ, st, S, N, q⟩ := q
  have q2 : rdA (c0 X.K X.mg) fa σ H (fun vs H1 => vs.length = n ∧ spF X.K X.mg n F (pick pm vs) H1 Q C8.E0) := by
    refine ⟨Z0, θ, ρ, st, S, N, Post.bind q fun ws st1 θ1 H1 vs _ e1 S1 r1 p1 => ?_⟩
    obtain ⟨⟨c1, c2⟩, p1⟩ := p1.chk
    refine ⟨by rw [← r1.length]; exact c1, callP_sp (F := F) S1 (pick_rel r1 pm) (hpm ws c1) ?_ p1⟩
    rw [List.all_eq_true] at c2 ⊢
    intro u hu
    unfold pick at hu
    obtain ⟨i, _, hi⟩ := List.mem_filterMap.mp hu
    exact c2 u (List.mem_of_getElem? hi)
  refine thn (ha.run pos pins s σ H _ I q2) fun us s1 ⟨vs, H1, I1, r, q3⟩ => ⟨I1.kIn, ?_⟩
  rw [hks]
  refine wpAny_call (codeAny_mono (run_calG G (hr.mono hj) hgd I1 (pick_rel r pm) (bindsTo_eq (hkb kV doc pm' an cdv ct us (by rw [← r.length, q3.1]))) q3.2) fun r' s' hq => ?_)
  obtain ⟨u, rfl, hq⟩ := hq
  exact hq
end

/-! ### the law's end -/
section
variable {P : Program} {w : World} {K : PySem.W.Frag} {mg : Str → Option Value}
theorem law_end {mb : Str → Option Value} {k : Nat} {fa a : Addr} {x : Str} {st : Stmt} {ps : List Str} {F : Fn} {s₁ : Shared} {vs : List Value} {ns : List Int}
    (kin : K.In s₁.heap) (gl : s₁.heap.Ns mainGlobals mg) (bl : s₁.heap.Ns builtinsNs mb) (bls : ∀ y : Str, y ≠ "__name__" → mb y = bootBuiltins y) (nl : s₁.heap.NoLimit) (gens : s₁.gens = #[])
    (script : s₁.heap.get? a = some { cls := .type "list", data := .seq vs.toArray }) (are : IntsAre vs ns) (few : ns.length ≤ 63) (room : Room k callerA) (hx : mg x = some (.ref fa))
    (cal : ∀ base : Heap, K.In base → base.Ns mainGlobals mg → CalG P w K mg base k x st ps 1 F) (holds : ∃ st, F [.scr ns] [] = .ok (.d (.bool true)) st) :
    codeAny (model P w) callerA (.call (.ref fa) ⟨[.ref a], []⟩)
      (fun r s' => r = .ok (.ret (.bool true)) ∧ OldK s₁.heap s'.heap ∧ s'.os = s₁.os ∧ AllBare s'.gens) s₁ := by
  have rel := vals_ints are
  have few' : (ns.map V.int).length ≤ sizeLine := by rw [List.length_map, sizeLine_eq]; omega
  -- what is known at the start: the script alone
  suffices start : ∀ H : Hp, Only H → SqL K H a (ns.map V.int) → HOk P w H s₁.heap → (∀ b, H b ≠ none → b = a ∧ K.lookup a = none) →
      codeAny (model P w) callerA (.call (.ref fa) ⟨[.ref a], []⟩) (fun r s' => r = .ok (.ret (.bool true)) ∧ OldK s₁.heap s'.heap ∧ s'.os = s₁.os ∧ AllBare s'.gens) s₁ by
    cases hk : K.lookup a with
    | some o =>
      have e := kin a o hk
      rw [script] at e
      cases e
      refine start (fun _ => none) (fun _ => .inl rfl) (.inr ⟨_, vs.toArray, _, hk, rfl, rfl, rfl, ?_, by simpa using rel⟩) (fun b u z => nomatch z) (fun b z => absurd rfl z)
      rw [List.size_toArray, ← rel.length]; exact few'
    | none =>
      have at_ : ∀ b u, (if b = a then some (HO.frz { cls := .type "list", data := .seq vs.toArray } (.lst (ns.map V.int))) else none) = some u → b = a ∧ u = HO.frz { cls := .type "list", data := .seq vs.toArray } (.lst (ns.map V.int)) := by
        intro b u z
        by_cases hb : b = a
        · rw [if_pos hb] at z; cases z; exact ⟨hb, rfl⟩
        · rw [if_neg hb] at z; cases z
      refine start (fun b => if b = a then some (.frz { cls := .type "list", data := .seq vs.toArray } (.lst (ns.map V.int))) else none) (fun b => ?_) (.inl (.inr ⟨_, if_pos rfl⟩)) (fun b u z => ?_) (fun b z => ?_)
      · by_cases hb : b = a
        · exact .inr ⟨_, _, if_pos hb⟩
        · exact .inl (if_neg hb)
      · obtain ⟨rfl, rfl⟩ := at_ b u z
        exact ⟨script, few', vs, _, rel, script⟩
      · refine ⟨?_, hk⟩
        by_cases hb : b = a
        · exact hb
        · exact absurd (if_neg hb) z
  intro H only sq ok alone
  have out : ∀ {b : Addr} {o : Obj}, s₁.heap.get? b = some o → (b = a → False) → (hidT s₁.heap H).get? b = some o := fun {b o} e nb => hidT_get e (by
    cases q : H b with
    | none => rfl
    | some u => exact (nb (alone b (by rw [q]; simp)).1).elim)
  have nspace : ∀ {b : Addr} {m : Str → Option Value}, s₁.heap.Ns b m → (hidT s₁.heap H).Ns b m := by
    rintro b m ⟨o, es, ep, e, d, r⟩
    refine ⟨o, es, ep, out e (fun z => ?_), d, r⟩
    rw [z, script] at e
    cases e
    cases (show Data.seq vs.toArray _ = Data.dict es ep from d)
  have kin' : K.In (hidT s₁.heap H) := fun b o e => hidT_get (kin b o e) (by
    cases q : H b with
    | none => rfl
    | some u =>
      obtain ⟨z1, z2⟩ := alone b (by rw [q]; simp)
      rw [z1, z2] at e; cases e)
  obtain ⟨f, kV, doc, pm', an, cdv, ct, G, hm, _, hps, bind⟩ := (cal _ kin' (nspace gl)).ex
  rw [hx] at hm
  cases hm
  have env : Env0 P w K mg (hidT s₁.heap H) callerA [] s₁ H := {
    frames := rfl
    mod := ⟨kin', nspace gl, ⟨mb, nspace bl, bls⟩, by obtain ⟨mc, h1, h2⟩ := nl; exact ⟨mc, nspace h1, h2⟩⟩
    bs := fun b o e => of_hidT e
    bsz := Nat.le_of_eq (hidT_size _ _)
    funs := trivial
    frf := fun b hb => nomatch hb
    hok := ok
    bare := .of_eq gens }
  obtain ⟨st, hst⟩ := holds
  have pr : spF K mg 1 F [.ref a] H (fun v _ => v = .bl true) C8.E0 := by
    refine ⟨rfl, fun _ => False, [], [], [.scr ns], ?_, .cons ⟨a, rfl, ?_⟩ .nil, ?_⟩
    · exact ⟨rfl, fun m n a h => by simp at h, fun n a o h => by simp at h, fun n h => by simp at h, fun a h => h.elim, fun a h => by simp at h⟩
    · rcases sq with q | q
      · exact .inl ⟨q, fun z => by rcases z with z | z; · simp at z
                                   · exact z⟩
      · exact .inr (.inr q)
    · rw [hst]
      intro θ' H' v _ _ r
      cases r
      rfl
  refine codeAny_mono (G.go callerA [] s₁ H ⟨[.ref a], []⟩ [.ref a] [.ref a] _ C8.E0 rfl room env (.of_eq (bind [.ref a] rfl)) (.cons rfl .nil) pr) fun r s' fin => ?_
  cases r with
  | error e => exact fin.elim
  | ok fl =>
    cases fl with
    | ret u =>
      obtain ⟨v, H', os, bare, un, ok', rv, rfl⟩ := fin
      cases rv
      refine ⟨rfl, OldK.of_keep ?_, os, bare⟩
      intro b o e
      rcases only b with z | ⟨ob, xs, z⟩
      · exact un.keep b o e z (by intro h; exact nomatch h) (by simp)
      · have e1 := (ok b _ z).1
        have e2 := (ok' b _ (un.frzs b ob _ z)).1
        rw [e] at e1; cases e1
        exact e2
    | next => exact fin.elim
    | brk => exact fin.elim
    | cont => exact fin.elim
open Att in
theorem walk_end {l : PySem.W.OpenLaw} {k : Nat} {q : Program} {loose : List Str} {XP : (Str → Option Value) → Heap → Prop} {YP : World → Heap → Prop} {d : DefRec} {K : Params → PySem.W.Frag} {st : Stmt} {ps : List Str} {F : Fn}
    (few : l.most = some 63) (nodf : d.params.defaults = []) (room : Room k callerA) (kin : ∀ (w : World) (h : Heap), YP w h → (K w.params).In h)
    (cal : ∀ (w : World) (mg : Str → Option Value) (h : Heap), (K w.params).In h → h.Ns mainGlobals mg → ∀ base : Heap, (K w.params).In base → base.Ns mainGlobals mg → CalG l.prog w (K w.params) mg base k d.name st ps 1 F)
    (holds : ∀ ns : List Int, ns.length ≤ 63 → ∃ st, F [.scr ns] [] = .ok (.d (.bool true)) st) : PySem.W.WalkO q loose XP YP l.row.toRowW d [] (fun f vs => PySem.call f vs) :=
  attach_call few nodf fun w s₀ s₁ mg mb fa o pm cd doc a vs ns G Y ho hd hcd hmg hobj hints hlen hg =>
    law_end (kin w _ Y) G.T.g G.T.b G.T.builtins G.T.nolimit hg hobj hints hlen room hmg (cal w mg _ (kin w _ Y) G.T.g) (holds ns hlen)
end
end Y

namespace Y
open PySem PySem.Spec PyProof.Rows L2
theorem u65 {k : Nat} {A : Around} (r : Room k A) : A.units + 65 < cLine := by have := r.un; omega
theorem u66 {k : Nat} {A : Around} (r : Room k A) : A.units + 66 < cLine := by have := r.un; omega
section
variable {X : Cx} {C : Ct} {x : Str} {p pos apos : Pos} {e o : Expr} {es : List Expr} {fa : En → Sto → R (List W)} {fo : En → Sto → R W} {id T : String} {g : List W → Sto → R W}
theorem y_callB (hc : CallR X (.builtin id) (rdC C g)) (hg : Gl X x) (hm : X.mg x = none) (hv : bootBuiltins x = some (.builtin id)) (ha : PA X (e :: es) (rdA C fa)) (hn : x ≠ "__name__" := by decide) (hdb : (x == ("__debug__" : Str)) = false := by decide)
    (he : starEach (e :: es) X.env = (false, eval e X.env) :: starEach es X.env := by rfl) (hpl : (backTo pos (starEach es X.env)).any (·.1) = false := by rfl) : PE X (.Call (.Name x p) (e :: es) [] pos) (rdE C (dCall g fa)) := PE.imp (pe_callB hc hg hm hv ha hn hdb he hpl) fun _ _ _ => t_callB
theorem y_callTy (hc : CallR X (.type T) (rdC C g)) (hg : Gl X x) (hm : X.mg x = none) (hv : bootBuiltins x = some (.type T)) (ha : PA X (e :: es) (rdA C fa)) (hn : x ≠ "__name__" := by decide) (hdb : (x == ("__debug__" : Str)) = false := by decide)
    (he : starEach (e :: es) X.env = (false, eval e X.env) :: starEach es X.env := by rfl) (hpl : (backTo pos (starEach es X.env)).any (·.1) = false := by rfl) : PE X (.Call (.Name x p) (e :: es) [] pos) (rdE C (dCall g fa)) := PE.imp (pe_callTy hc hg hm hv ha hn hdb he hpl) fun _ _ _ => t_callB
/-- xs[::-1], a list of the store -/
@[simp] def dRevN (fe : En → Sto → R W) : En → Sto → R W := fun ρ st => (fe ρ st).bind fun w s => match items s w with
  | some ws => match w with
    | .d (.tuple _) => .bad
    | _ => .ok (.ref s.length) (s ++ [.lst ws.reverse])
  | _ => .bad
theorem paired_rev {α β : Type} {F : α → β → Prop} {l₁ : List α} {l₂ : List β} (h : Paired F l₁ l₂) : Paired F l₁.reverse l₂.reverse := by
  induction h with
  | nil => exact .nil
  | cons x _ ih => rw [List.reverse_cons, List.reverse_cons]; exact paired_snoc ih x
theorem y_revN {k : Nat} {p1 p2 p3 : Pos} {fe : En → Sto → R W} (hK : C.K = X.K) (he : PE X e (rdE C fe)) : PE X (.Subscript e (.Slice none none (some (.UnaryOp .USub (.Constant (.int 1) k p1) p2)) p3) pos) (rdE C (dRevN fe)) := by
  obtain ⟨K, mg, E⟩ := C
  obtain rfl : K = X.K := hK
  refine PE.imp (pe_revL he) fun σ H Q q => ?_
  obtain ⟨Z0, θ, ρ, st, S, N, p⟩ := q
  refine ⟨Z0, θ, ρ, st, S, N, Post.bind p fun w st1 θ1 H1 v _ e1 S1 w1 p1 => ?_⟩
  split at p1
  · rename_i ws hw
    split at p1
    · exact p1.elim
    · rename_i nt
      obtain ⟨a, vs, rfl, hs, r⟩ := items_sq S1 w1 hw
      rcases hs with hs | hs
      · exact ⟨a, vs, rfl, hs, fun t ht => p1.newRef S1 ht (paired_rev r)⟩
      · cases w with
        | d y =>
          cases y with
          | tuple ds => exact (nt ds rfl).elim
          | list ds =>
            cases w1 with
            | lst h1 h2 =>
              refine ⟨a, _, rfl, h1.sqL, fun t ht => p1.newRef S1 ht ?_⟩
              have : ws = ds.map W.d := by cases hw; rfl
              subst this
              exact paired_rev h2.toWRs
          | none => cases hw
          | bool _ => cases hw
          | int _ => cases hw
          | str _ => cases hw
          | dict _ => cases hw
        | ref n =>
          dsimp only [items] at hw
          split at hw
          · rename_i us hu
            cases hw
            obtain ⟨b, zs, e2, _, h3, h4⟩ := S1.at_ w1 hu
            cases e2
            exact ⟨_, zs, rfl, .inl (.inl h3), fun t ht => p1.newRef S1 ht (paired_rev h4)⟩
          · cases hw
        | scr ns =>
          obtain ⟨b, e2, h1⟩ := w1
          cases e2
          refine ⟨_, _, rfl, h1.sqL, fun t ht => p1.newRef S1 ht ?_⟩
          have : ws = ns.map fun n => .d (.int n) := by cases hw; rfl
          subst this
          have := (pdAll_ints (K := X.K) (Z := Zs Z0 θ1) (H := H1) ns).toWRs (θ := θ1)
          rw [List.map_map] at this
          exact paired_rev this
  · exact p1.elim
/-- a module's constant -/
theorem y_glob {v : V} {u : Value} {d : PyData} (hg : Gl X x) (hm : X.mg x = some u) (r : RelV v u) (hp : ∀ K Z H, Pd K Z H v d) (hd : (x == ("__debug__" : Str)) = false := by decide) : PE X (.Name x pos) (rdE C (dLit d)) := y_lit (pe_glob hg hm r hd) hp
theorem y_meth {g : W → List W → Sto → R W} {name : Str} (hK : C.K = X.K) (pa : PlainAttrs "list") (slot : Slot "list" name id) (hty : typeOf (.builtin id) = pure (.type "method_descriptor")) (hm : MtR X id (rdM C g)) (ho : PE X o (rdE C fo)) (ha : PA X (e :: es) (rdA C fa))
    (hbase : attributeBase o name X.env (eval o X.env) = eval o X.env := by rfl)
    (hfew : ((backTo pos (starEach (e :: es) X.env)).all (fun x => !x.1) && (backToKw pos (keywordEach [] X.env)).all (fun x => x.1.isSome)
      && decide ((e :: es).length + ([] : List Keyword).length + (if ([] : List Keyword).isEmpty then 0 else 1) < 30)) = true := by rfl) (hline : (apos.endLine == pos.line) = true := by rfl) (hs : starEach (e :: es) X.env = (false, eval e X.env) :: starEach es X.env := by rfl) (hplain : (backTo pos (starEach es X.env)).any (·.1) = false := by rfl) :
    PE X (.Call (.Attribute o name apos) (e :: es) [] pos) (rdE C (dMeth g fo fa)) := by
  obtain ⟨K, mg, E⟩ := C
  obtain rfl : K = X.K := hK
  exact PE.imp (pe_bm pa slot hty hm ho ha hbase hfew hline hs hplain) fun _ _ _ => t_meth
theorem y_meth0 {g : W → List W → Sto → R W} {name : Str} (hK : C.K = X.K) (pa : PlainAttrs "list") (slot : Slot "list" name id) (hty : typeOf (.builtin id) = pure (.type "method_descriptor")) (hm : MtR X id (rdM C g)) (ho : PE X o (rdE C fo))
    (hbase : attributeBase o name X.env (eval o X.env) = eval o X.env := by rfl) (hline : (apos.endLine == pos.line) = true := by rfl) :
    PE X (.Call (.Attribute o name apos) [] [] pos) (rdE C (dMeth0 g fo)) := by
  obtain ⟨K, mg, E⟩ := C
  obtain rfl : K = X.K := hK
  exact PE.imp (pe_bm0 pa slot hty hm ho hbase hline) fun _ _ _ => t_meth0
theorem y_methS {g : W → List W → Sto → R W} {name : Str} (hK : C.K = X.K) (pa : PlainAttrs "str") (slot : Slot "str" name id) (hty : typeOf (.builtin id) = pure (.type "method_descriptor")) (hm : MtR X id (rdM C g)) (ho : PE X o (rdE C fo)) (ha : PA X (e :: es) (rdA C fa))
    (hbase : attributeBase o name X.env (eval o X.env) = eval o X.env := by rfl)
    (hfew : ((backTo pos (starEach (e :: es) X.env)).all (fun x => !x.1) && (backToKw pos (keywordEach [] X.env)).all (fun x => x.1.isSome)
      && decide ((e :: es).length + ([] : List Keyword).length + (if ([] : List Keyword).isEmpty then 0 else 1) < 30)) = true := by rfl) (hline : (apos.endLine == pos.line) = true := by rfl) (hs : starEach (e :: es) X.env = (false, eval e X.env) :: starEach es X.env := by rfl) (hplain : (backTo pos (starEach es X.env)).any (·.1) = false := by rfl) :
    PE X (.Call (.Attribute o name apos) (e :: es) [] pos) (rdE C (dMethS g fo fa)) := by
  obtain ⟨K, mg, E⟩ := C
  obtain rfl : K = X.K := hK
  exact PE.imp (pe_bm pa slot hty hm ho ha hbase hfew hline hs hplain) fun _ _ _ => t_methS
end

/-! ### enumerate -/
/-- a text's signs with their places, each in a new pair -/
def ItES (z : Str) : It := ⟨fun i _ => i < z.cps.size, fun i H v H' => ∃ T c, v = .ref T ∧ H T = none ∧ H' = upd H T (.tup [.int (i : Nat), .str ⟨#[c]⟩]) ∧ z.cps[i]? = some c, fun i _ => z.cps.size ≤ i⟩
theorem draws_str {prog : Program} {w : World} {A : Around} (hh : A.handled = none) (it : Addr) (z : Str) (t : Tok) :
    Draws prog w A it [it] z.cps.size (fun i v => ∃ c u, z.cps[i]? = some c ∧ v = .str ⟨#[c]⟩ u) (fun i h => h.IsStrIter it (strIterType z) z t i) := by
  unfold strIterType
  split
  · have D := Draws.strAscii (prog := prog) (w := w) hh it z t
    exact ⟨D.live, D.frame, fun i s Q E hi st hQ => D.item i s Q E hi st fun x h' tk a => hQ x h' tk (by obtain ⟨c, u, h1, h2⟩ := a; exact ⟨c, u, h1, h2⟩), D.done⟩
  · have D := Draws.strWide (prog := prog) (w := w) hh it z t
    exact ⟨D.live, D.frame, fun i s Q E hi st hQ => D.item i s Q E hi st fun x h' tk a => hQ x h' tk (by obtain ⟨c, u, h1, h2⟩ := a; exact ⟨c, u, h1, h2⟩), D.done⟩
theorem turn_ES {P : Program} {w : World} {K : PySem.W.Frag} {elts : List Expr} {kk : Nat} {tpos : Pos} (z : Str) (t : Tok) (e it : Addr) :
    Turn P w K (.Tuple elts kk tpos) (ItES z) [e, it] e (fun i h => (∃ old, IsEnum h e it ((i : Nat) : Int) old) ∧ h.IsStrIter it (strIterType z) z t i ∧ e ≠ it ∧ i ≤ z.cps.size) where
  mem := List.mem_cons_self
  obj := fun i h st b hb => by
    obtain ⟨⟨old, he⟩, ⟨o, ho, hc, hd⟩, _⟩ := st
    rcases List.mem_cons.mp hb with rfl | hb
    · exact ⟨_, he, fun v q => nomatch q⟩
    · cases List.mem_singleton.mp hb
      exact ⟨o, ho, fun v q => by rw [hd] at q; cases q⟩
  keep := fun i h h' st k => by
    obtain ⟨⟨old, he⟩, ⟨o, ho, r⟩, ne, le⟩ := st
    exact ⟨⟨old, k e (by simp) _ he⟩, ⟨o, k it (by simp) o ho, r⟩, ne, le⟩
  item := by
    intro X hP hw hK hc i pins s σ H E I hf st hg
    cases hP; cases hw; cases hK
    obtain ⟨⟨old, he⟩, hit, ne, le⟩ := st
    have hel : e < s.heap.objs.size := Heap.lt_size he
    have hil : it < s.heap.objs.size := by
      obtain ⟨_, q, _⟩ := hit
      exact Heap.lt_size q
    refine wpAny_pyNext_enum_itemD (draws_str (A := X.A.in1) (I.ok.hd hc) it z t) he hit hg ne (by simpa using ne) ?_
    intro x h' tk hx ho hit' hT hsz hk
    obtain ⟨c, u, hc1, rfl⟩ := hx
    refine ⟨.ref s.heap.objs.size, rfl, wpAny_letOwnedTupleGo_enum (s := { s with heap := h', toks := tk + 1 }) ho ?_⟩
    intro h2 he' sb
    have hT2 : h2.get? s.heap.objs.size = some { cls := .type "tuple", data := .seq #[.int i tk, .str ⟨#[c]⟩ u] } := (sb.2 _ (Nat.ne_of_gt hel)).trans hT
    have free := I.hok.fresh (Nat.le_refl s.heap.objs.size)
    have laid : ObjOk X.prog X.w (upd H s.heap.objs.size (.tup [.int (i : Nat), .str ⟨#[c]⟩])) h2 s.heap.objs.size (.tup [.int (i : Nat), .str ⟨#[c]⟩]) := by
      refine ⟨by show 2 ≤ sizeLine; decide, [.int i tk, .str ⟨#[c]⟩ u], .cons ⟨tk, rfl⟩ (.cons ⟨u, rfl⟩ .nil), _, hT2, rfl, _, rfl⟩
    have kept : ∀ b o, b ∉ [e, it] → s.heap.get? b = some o → h2.get? b = some o := fun b o hb q => by
      simp only [List.mem_cons, List.not_mem_nil, or_false, not_or] at hb
      exact (sb.2 b hb.1).trans (hk b o hb.1 hb.2 q)
    have I1 := I.turnedNew (t' := tk + 1) kept hf (Nat.le_refl _) laid
    refine ⟨.ref s.heap.objs.size, _, I1, rfl, ⟨_, c, rfl, free, rfl, hc1⟩, ⟨⟨.str ⟨#[c]⟩ u, ?_⟩, ?_, ne, hg⟩, fun b hb => ?_⟩
    · rw [Int.natCast_succ]; exact he'
    · obtain ⟨o, ho, r⟩ := hit'
      exact ⟨o, (sb.2 it (Ne.symm ne)).trans ho, r⟩
    · rw [upd_ne, (hf b hb).1]
      rcases List.mem_cons.mp hb with rfl | hb
      · exact Nat.ne_of_lt hel
      · cases List.mem_singleton.mp hb; exact Nat.ne_of_lt hil
  done := by
    intro X hP hw hK hc i pins s σ H E I hf st hg
    cases hP; cases hw; cases hK
    obtain ⟨⟨old, he⟩, hit, ne, le⟩ := st
    obtain ⟨f0, f1, f2, f3, f4, f5⟩ := hf it (by simp)
    have hi : i = z.cps.size := Nat.le_antisymm le hg
    subst hi
    exact wpAny_pyNext_enum_endD (draws_str (A := X.A.in1) (I.ok.hd hc) it z t) he hit fun h' eb => ⟨rfl, I.turned (t' := s.toks) (fun b o hb q => eb b o hb q) f0 f1 f3 f4 f5⟩
  self := fun A i s Q E st h => by
    obtain ⟨⟨_, he⟩, _⟩ := st
    exact wpAny_pyIter_enum he h
section
variable {X : Cx} {C : Ct}
/-- what enumerate walks: a list, a text -/
def iES (te : TE) : TI := fun σ H R => te σ H fun v H1 => ∃ z, v = .str z ∧ R (ItES z) H1
theorem pi_ES {e : Expr} {te : TE} {p pos tpos : Pos} {elts : List Expr} {kk : Nat} (hg : Gl X "enumerate") (hm : X.mg "enumerate" = none) (he : PE X e te) (hs : starEach [e] X.env = [(false, eval e X.env)] := by rfl) :
    PI X (.Tuple elts kk tpos) (.Call (.Name "enumerate" p) [e] [] pos) (iES te) := by
  refine ⟨fun pins s σ H R I q => Call_ (ld_blt I hg hm boot_enumerate (PyProof.Rows.callWith_type1 ?_ hs rfl))⟩
  refine thn ((pa_cons he pa_nil hs).run pos pins s σ H (fun vs H1 => ∃ z, vs = [.str z] ∧ R (ItES z) H1) I ?_) fun us s1 out => ?_
  · have q2 : te σ H fun v H1 => ∃ z, v = .str z ∧ R (ItES z) H1 := q
    exact (show tCons te tNil σ H _ from by
      unfold tCons tNil
      have m := q2
      exact (by
        have e : (fun (x : V) (H1 : Hp) => ∃ z, [x] = [V.str z] ∧ R (ItES z) H1) = fun x H1 => ∃ z, x = V.str z ∧ R (ItES z) H1 := by
          funext x H1; simp
        rw [e]; exact m))
  · obtain ⟨vs, H1, I1, r1, z, rfl, q1⟩ := out
    obtain ⟨u, rfl, ru⟩ := vals1 r1
    obtain ⟨t, rfl⟩ := ru
    refine call_enumerate_str fun h' he' hit hsz hk => wpAny_pyIter_enum he' ?_
    refine ⟨s1.heap.objs.size + 1, [s1.heap.objs.size + 1, s1.heap.objs.size], _, _, H1, rfl, I1.kept (t' := s1.toks) hk, turn_ES z t (s1.heap.objs.size + 1) s1.heap.objs.size, ⟨⟨.none, he'⟩, hit, Nat.succ_ne_self _, Nat.zero_le _⟩, fun b hb => ?_, q1⟩
    have big : s1.heap.objs.size ≤ b := by
      rcases List.mem_cons.mp hb with rfl | hb
      · exact Nat.le_succ _
      · cases List.mem_singleton.mp hb; exact Nat.le_refl _
    exact I1.fpOk big (I1.hok.fresh big)
def pairs (i : Nat) : List PyData → List W
  | [] => []
  | d :: ds => .d (.tuple [.int i, d]) :: pairs (i + 1) ds
theorem pairs_length (ds : List PyData) : ∀ i, (pairs i ds).length = ds.length := by
  induction ds with
  | nil => intro i; rfl
  | cons d ds ih => intro i; simp [pairs, ih]
theorem pairs_get (ds : List PyData) : ∀ (i j : Nat), (pairs i ds)[j]? = ds[j]?.map fun d => W.d (.tuple [.int ((i + j : Nat)), d]) := by
  induction ds with
  | nil => intro i j; simp [pairs]
  | cons d ds ih =>
    intro i j
    cases j with
    | zero => simp [pairs]
    | succ j =>
      simp only [pairs, List.getElem?_cons_succ]
      rw [ih (i + 1) j, show i + 1 + j = i + (j + 1) by omega]
@[simp] def dEnum (fe : En → Sto → R W) : En → Sto → R (List W) := fun ρ st => (fe ρ st).bind fun w s => match w with
  | .d (.list ds) => .ok (pairs 0 ds) s
  | .d (.str z) => .ok (pairs 0 (z.cps.toList.map fun c => .str ⟨#[c]⟩)) s
  | _ => .bad
theorem newPair {K : PySem.W.Frag} {Z0 : Addr → Prop} {θ : List (Option Addr)} {H : Hp} {st : Sto} {T : Addr} {x y : V} {a b : PyData} (S : SR K Z0 θ st H) (hT : H T = none) (ra : Pd K (Zs Z0 θ) H x a) (rb : Pd K (Zs Z0 θ) H y b) :
    Ext θ H θ (upd H T (.tup [x, y])) ∧ SR K Z0 θ st (upd H T (.tup [x, y])) ∧ WR K (Zs Z0 θ) θ (upd H T (.tup [x, y])) (.d (.tuple [a, b])) (.ref T) ∧ ∀ c, H c ≠ none → upd H T (.tup [x, y]) c = H c :=
  ⟨Ext.alloc hT, S.alloc hT, show Pd _ _ _ _ _ from .tup (.inl (.inl upd_same)) (.cons (Pd.ext (Ext.alloc hT) ra) (.cons (Pd.ext (Ext.alloc hT) rb) .nil)), fun c hc => upd_ne fun z => hc (z ▸ hT)⟩
theorem itOk_ES {K : PySem.W.Frag} {Z0 : Addr → Prop} {θ : List (Option Addr)} {H : Hp} {z : Str} : ItOk K Z0 θ H (pairs 0 (z.cps.toList.map fun c => .str ⟨#[c]⟩)) (ItES z) := fun Z1 θ1 H1 st1 hz e S i => by
  refine ⟨fun w hw => ?_, fun hi => (show z.cps.size ≤ i by rw [pairs_length] at hi; simpa using hi)⟩
  rw [pairs_get, List.getElem?_map] at hw
  cases hc : z.cps.toList[i]? with
  | none => rw [hc] at hw; cases hw
  | some c =>
    rw [hc] at hw
    cases hw
    have hi : i < z.cps.size := by have := (List.getElem?_eq_some_iff.mp hc).1; simpa using this
    refine ⟨hi, fun v H2 y => ?_⟩
    obtain ⟨T, c', rfl, hT, rfl, h1⟩ := y
    have : c' = c := by
      have e2 : z.cps[i]? = some c := by simpa using hc
      exact Option.some.inj (h1.symm.trans e2)
    subst this
    have := newPair S hT (.int (i : Nat)) (.str ⟨#[c']⟩)
    simpa using this
theorem itOk_EL {K : PySem.W.Frag} {Z0 : Addr → Prop} {θ : List (Option Addr)} {H : Hp} {a : Addr} {vs : List V} {ds : List PyData} (h1 : LstF (Zs Z0 θ) H a vs) (h2 : PdAll K (Zs Z0 θ) H vs ds) : ItOk K Z0 θ H (pairs 0 ds) (Ite K a) := fun Z1 θ1 H1 st1 hz e S i => by
  have q : SqL K H1 a vs := .inl (Ext.lstF (Z0 := Z0) e h1).1
  refine ⟨fun w hw => ?_, fun hi => ⟨vs, q, by rw [h2.length]; rw [pairs_length] at hi; exact hi⟩⟩
  rw [pairs_get] at hw
  cases hd : ds[i]? with
  | none => rw [hd] at hw; cases hw
  | some d =>
    rw [hd] at hw
    cases hw
    obtain ⟨v, hv, r⟩ := h2.get hd
    refine ⟨⟨vs, v, q, hv⟩, fun x H2 y => ?_⟩
    obtain ⟨T, u, rfl, hT, rfl, y⟩ := y
    have : u = v := Option.some.inj ((y vs q).symm.trans hv)
    subst this
    have := newPair S hT (.int (i : Nat)) (Pd.ext e (pd_zs hz r))
    simpa using this
theorem y_enum {e : Expr} {fe : En → Sto → R W} {p pos tpos : Pos} {elts : List Expr} {kk : Nat} (hK : C.K = X.K) (hg : Gl X "enumerate") (hm : X.mg "enumerate" = none) (h : PE X e (rdE C fe)) (hs : starEach [e] X.env = [(false, eval e X.env)] := by rfl) :
    PI X (.Tuple elts kk tpos) (.Call (.Name "enumerate" p) [e] [] pos) (rdI C (dEnum fe)) := by
  obtain ⟨K, mg, E⟩ := C
  obtain rfl : K = X.K := hK
  refine PI.imp (PI.or (pi_enum hg hm (pa_cons h pa_nil hs) hs) (pi_ES hg hm h hs)) fun σ H Q q => ?_
  obtain ⟨Z0, θ, ρ, st, S, N, p⟩ := q
  unfold dEnum at p
  cases e : fe ρ st with
  | bad => rw [e] at p; exact p.elim
  | exc c x s => rw [e] at p; exact .inl ⟨Z0, θ, ρ, st, S, N, by rw [e]; exact p⟩
  | ok w st1 =>
    rw [e, R.bind_ok] at p
    split at p
    · refine .inl ⟨Z0, θ, ρ, st, S, N, ?_⟩
      rw [e]
      intro θ1 H1 v e1 S1 w1
      cases w1 with
      | lst h1 h2 => exact ⟨_, _, rfl, h1.sqL, p θ1 H1 _ e1 S1 (itOk_EL h1 h2)⟩
    · refine .inr ⟨Z0, θ, ρ, st, S, N, ?_⟩
      rw [e]
      intro θ1 H1 v e1 S1 w1
      cases w1
      exact ⟨_, rfl, p θ1 H1 _ e1 S1 itOk_ES⟩
    · exact p.elim
end
end Y
namespace Y
open PySem PySem.Spec PyProof.Rows L2
theorem y_yes {X : Cx} {C : Ct} : PTs X [] (rdT C fun _ st => .ok true st) := ⟨fun pins s σ H Q I q => pts_nil.run pins s σ H Q I (by
  obtain ⟨Z0, θ, ρ, st, S, N, p⟩ := q
  exact p.now S rfl)⟩
end Y

namespace Y
open PySem PySem.Spec PyProof.Rows L2
/-! ### reckoning with defs as functions -/
theorem R.bind_congr {α β : Type} {r r' : R α} {f : α → Sto → R β} (h : r = r') : r.bind f = r'.bind f := by rw [h]
theorem lcL_congr {tg : W → En → Sto → R En} {tt : En → Sto → R Bool} {fe : En → Sto → R W} {ρ ρ' : En} {ws ws' : List W} {st st' : Sto} (h1 : ρ = ρ') (h2 : ws = ws') (h3 : st = st') : lcL tg tt fe ρ ws st = lcL tg tt fe ρ' ws' st' := by rw [h1, h2, h3]
theorem forL_congr {tg : W → En → Sto → R En} {f : DS} {ρ ρ' : En} {ws ws' : List W} {st st' : Sto} (h1 : ws = ws') (h2 : ρ = ρ') (h3 : st = st') : forL tg f ws ρ st = forL tg f ws' ρ' st' := by rw [h1, h2, h3]
theorem dWhile_congr {c : En → Sto → R Bool} {f : DS} {ρ ρ' : En} {st st' : Sto} (h2 : ρ = ρ') (h3 : st = st') : dWhile c f ρ st = dWhile c f ρ' st' := by rw [h2, h3]
@[simp] theorem chk_true {α : Type} {r : R α} : chk True r = r := chk_ok trivial
abbrev I (i : Int) : W := .d (.int i)
@[simp high] theorem map_I (cs : List Int) : List.map W.d (List.map PyData.int cs) = List.map I cs := by simp
theorem vMulR {i j : Int} {st : Sto} (h : j.natAbs < 2 ^ 64) : vMul (.d (.int i)) (.d (.int j)) st = .ok (.d (.int (i * j))) st := by
  simp only [vMul, vIntC]
  refine chk_ok ?_
  simp only [cMul, Bool.or_eq_true, Bool.and_eq_true, decide_eq_true_eq]
  omega
theorem vDivP {i j : Int} {st : Sto} (h : 0 < j) (h2 : j < 1073741824) : vDiv (.d (.int i)) (.d (.int j)) st = .ok (.d (.int (i / j))) st := by
  simp only [vDiv, vIntC]
  rw [chk_ok (by simp only [cDiv, Bool.and_eq_true, decide_eq_true_eq]; omega), Int.fdiv_eq_ediv_of_nonneg _ (by omega)]
theorem vModP {i j : Int} {st : Sto} (h : 0 < j) : vMod (.d (.int i)) (.d (.int j)) st = .ok (.d (.int (i % j))) st := by
  simp only [vMod, vIntC]
  rw [chk_ok (by simp only [cMod, decide_eq_true_eq]; omega), Int.fmod_eq_emod_of_nonneg _ (by omega)]
theorem asInts_I (cs : List Int) : allD (cs.map I) = some (cs.map .int) := by
  induction cs with
  | nil => rfl
  | cons c cs ih => simp [allD, I, ih]
theorem canLay_ints (cs : List Int) : PyData.canLayAll0 (cs.map .int) = true := by
  induction cs with
  | nil => rfl
  | cons c cs ih => simp [PyData.canLayAll0, PyData.canLay0, ih]
theorem depth_ints (cs : List Int) : PyData.depthAll (cs.map .int) ≤ 1 := by
  induction cs with
  | nil => simp [PyData.depthAll]
  | cons c cs ih => simp [PyData.depthAll, PyData.depth]; omega
theorem shaped_ints (cs : List Int) : SeqAt.shaped (.list (cs.map .int)) = true := by
  unfold SeqAt.shaped
  rw [Bool.and_eq_true]
  refine ⟨by simp [PyData.canLay0, canLay_ints], ?_⟩
  have := depth_ints cs
  simp [PyData.depth]; omega
theorem shaped_int (i : Int) : SeqAt.shaped (.int i) = true := by simp [SeqAt.shaped, PyData.canLay0, PyData.depth]
theorem shaped_nil : SeqAt.shaped (.list []) = true := shaped_ints []
/-- a deal: a list of the rest to draw from, and a number -/
def DealIs (st : Sto) (n c : Nat) (cs : List Int) (b : Int) : Prop := st[n]? = some (.lst [.ref c, .d (.int b)]) ∧ st[c]? = some (.lst (cs.map I)) ∧ n ≠ c ∧ (∀ x ∈ cs, 0 ≤ x) ∧ cs.length ≤ 63
def DealOk (st : Sto) (n c : Nat) : Prop := ∃ cs b, DealIs st n c cs b
/-- what a draw leaves as it was -/
structure Dealt (n c : Nat) (st st' : Sto) : Prop where
  le : st.length ≤ st'.length
  keep : ∀ j, j < st.length → j ≠ n → j ≠ c → st'[j]? = st[j]?
  ok : DealOk st' n c
theorem Dealt.trans {n c : Nat} {s1 s2 s3 : Sto} (a : Dealt n c s1 s2) (b : Dealt n c s2 s3) : Dealt n c s1 s3 :=
  ⟨Nat.le_trans a.le b.le, fun j h h1 h2 => (b.keep j (Nat.lt_of_lt_of_le h a.le) h1 h2).trans (a.keep j h h1 h2), b.ok⟩
theorem Dealt.refl {n c : Nat} {st : Sto} (h : DealOk st n c) : Dealt n c st st := ⟨Nat.le_refl _, fun _ _ _ _ => rfl, h⟩
noncomputable def wAny : DS := (dWhile (dAnd (fun ρ st => asB (dBin (vEq true) (dBin vIx (dVar 0) (dLit (.int 0))) (dLst dNil) ρ st)) (fun ρ st => asB (dBin (vEq false) (dBin vIx (dBin vIx (dVar 0) (dLit (.int 0))) (dUn vNeg (dLit (.int 1)))) (dLit (.int 0)) ρ st)))
    (dExpr (dMeth0 mPop (dBin vIx (dVar 0) (dLit (.int 0))))))
noncomputable def B_any : DS :=
  (dSeq wAny
    (dSeq (dIfS (fun ρ st => asB (dBin (vEq true) (dBin vIx (dVar 0) (dLit (.int 0))) (dLst dNil) ρ st))
    (dSeq (dSet 2 (dCall gInt (dCons (dMeth0 mPop (dBin vIx (dVar 0) (dLit (.int 0)))) dNil)))
    (dSeq (dExpr (dMeth mAppend (dBin vIx (dVar 0) (dLit (.int 0))) (dCons (dBin vDiv (dVar 2) (dVar 1)) dNil)))
    (dRet (dBin vMod (dVar 2) (dVar 1)))))
    dEnd)
    (dSeq (dSetIx (dBin vMod (dCall gInt (dCons (dBin vAdd (dBin vMul (dBin vIx (dVar 0) (dLit (.int 1))) (dLit (.int 40693))) (dLit (.int 71))) dNil)) (dLit (.int 2147483647))) (dVar 0) (dLit (.int 1)))
    (dRet (dBin vMod (dCall gInt (dCons (dBin vDiv (dBin vIx (dVar 0) (dLit (.int 1))) (dLit (.int 64))) dNil)) (dVar 1))))))
noncomputable def F_any : Fn := dDef 3 B_any
theorem atI_zero {α : Type} (x : α) (xs : List α) : atI (x :: xs) 0 = some x := atI_nat (j := 0) rfl
theorem atI_one {α : Type} (x y : α) (xs : List α) : atI (x :: y :: xs) 1 = some y := atI_nat (j := 1) rfl
theorem atI_end {α : Type} (xs : List α) (v : α) : atI (xs ++ [v]) (-1) = some v := atI_last xs v
theorem DealIs.set {st : Sto} {n c : Nat} {cs ds : List Int} {b : Int} (h : DealIs st n c cs b) (hd : ∀ x ∈ ds, 0 ≤ x) (hl : ds.length ≤ 63) : DealIs (st.set c (.lst (ds.map I))) n c ds b := by
  obtain ⟨h1, h2, h3, h4, h5⟩ := h
  refine ⟨by rw [List.getElem?_set_ne (Ne.symm h3)]; exact h1, ?_, h3, hd, hl⟩
  rw [List.getElem?_set_self (List.getElem?_eq_some_iff.mp h2).1]
theorem DealIs.num {st : Sto} {n c : Nat} {cs : List Int} {b b' : Int} (h : DealIs st n c cs b) : DealIs (st.set n (.lst [.ref c, .d (.int b')])) n c cs b' := by
  obtain ⟨h1, h2, h3, h4, h5⟩ := h
  refine ⟨?_, by rw [List.getElem?_set_ne h3]; exact h2, h3, h4, h5⟩
  rw [List.getElem?_set_self (List.getElem?_eq_some_iff.mp h1).1]
theorem shaped_strOk {x : Str} (h : PyData.strOk x = true) : SeqAt.shaped (.str x) = true := by simp [SeqAt.shaped, PyData.canLay0, PyData.depth, h]
abbrev cAny : En → Sto → R Bool := dAnd (fun ρ st => asB (dBin (vEq true) (dBin vIx (dVar 0) (dLit (.int 0))) (dLst dNil) ρ st)) (fun ρ st => asB (dBin (vEq false) (dBin vIx (dBin vIx (dVar 0) (dLit (.int 0))) (dUn vNeg (dLit (.int 1)))) (dLit (.int 0)) ρ st))
abbrev tAny : DS := dExpr (dMeth0 mPop (dBin vIx (dVar 0) (dLit (.int 0))))
section
variable {st : Sto} {n c : Nat} {cs : List Int} {b k y : Int} {e : Option W}
theorem any_empty (h : DealIs st n c cs b) : asB (dBin (vEq true) (dBin vIx (dVar 0) (dLit (.int 0))) (dLst dNil) [some (.ref n), some (.d (.int k)), e] st) = .ok (!cs.isEmpty) st := by
  obtain ⟨h1, h2, h3, h4, h5⟩ := h
  simp [h1, h2, atI_zero, asInts_I, shaped_ints, shaped_nil]
  cases cs <;> simp [PyData.eqv, PyData.eqvAll]
theorem any_nil (h : DealIs st n c [] b) : cAny [some (.ref n), some (.d (.int k)), e] st = .ok false st := by
  have := any_empty (k := k) (e := e) h
  dsimp only [cAny, dAnd]
  rw [this]; rfl
theorem any_snoc (h : DealIs st n c (cs ++ [y]) b) : cAny [some (.ref n), some (.d (.int k)), e] st = .ok (decide (y = 0)) st := by
  have := any_empty (k := k) (e := e) h
  dsimp only [cAny, dAnd]
  rw [this]
  obtain ⟨h1, h2, h3, h4, h5⟩ := h
  have e1 : (cs ++ [y]).isEmpty = false := by cases cs <;> rfl
  simp [h1, h2, e1, atI_zero, atI_end, shaped_int, PyData.eqv]
  by_cases hy : y = 0 <;> simp [hy]
theorem any_pop (h : DealIs st n c (cs ++ [y]) b) : tAny [some (.ref n), some (.d (.int k)), e] st = .ok (.nx, [some (.ref n), some (.d (.int k)), e]) (st.set c (.lst (cs.map I))) := by
  obtain ⟨h1, h2, h3, h4, h5⟩ := h
  simp [h1, h2, atI_zero]
theorem DealIs.pop (h : DealIs st n c (cs ++ [y]) b) : DealIs (st.set c (.lst (cs.map I))) n c cs b :=
  h.set (fun x hx => h.2.2.2.1 x (List.mem_append_left _ hx)) (by have := h.2.2.2.2; simp at this; omega)
theorem any_loop : ∀ (m : Nat) (st : Sto) (cs : List Int), cs.length = m → DealIs st n c cs b → ∃ ds st', whileN cAny tAny (m + 1) [some (.ref n), some (.d (.int k)), e] st = .ok (.nx, [some (.ref n), some (.d (.int k)), e]) st' ∧ DealIs st' n c ds b ∧ st'.length = st.length ∧ ∀ j, j ≠ c → st'[j]? = st[j]? := by
  intro m
  induction m with
  | zero =>
    intro st cs hm h
    have : cs = [] := List.length_eq_zero_iff.mp hm
    subst this
    exact ⟨[], st, by unfold whileN; rw [any_nil h]; rfl, h, rfl, fun _ _ => rfl⟩
  | succ m ih =>
    intro st cs hm h
    have hne : cs ≠ [] := by intro z; rw [z] at hm; cases hm
    rw [← List.dropLast_concat_getLast hne] at h
    by_cases hy : cs.getLast hne = 0
    · obtain ⟨ds, st', h1, h2, h3, h4⟩ := ih _ _ (by simp; omega) h.pop
      refine ⟨ds, st', ?_, h2, by rw [h3]; simp, fun j hj => by rw [h4 j hj, List.getElem?_set_ne (Ne.symm hj)]⟩
      show (cAny _ st).bind _ = _
      rw [any_snoc h, R.bind_ok, if_pos (by simp [hy]), any_pop h, R.bind_ok]
      exact h1
    · refine ⟨_, st, ?_, h, rfl, fun _ _ => rfl⟩
      show (cAny _ st).bind _ = _
      rw [any_snoc h, R.bind_ok, if_neg (by simp [hy])]
theorem any_while (h : DealIs st n c cs b) : ∃ ds st', wAny [some (.ref n), some (.d (.int k)), e] st = .ok (.nx, [some (.ref n), some (.d (.int k)), e]) st' ∧ DealIs st' n c ds b ∧ st'.length = st.length ∧ ∀ j, j ≠ c → st'[j]? = st[j]? := by
  obtain ⟨ds, st', h1, h2⟩ := any_loop (k := k) (e := e) _ st cs rfl h
  exact ⟨ds, st', dWhile_of h1 (by simp), h2⟩
/-- a draw below k -/
theorem F_any_ok (h : DealOk st n c) (h0 : 0 < k) (h1 : k < 1073741824) : ∃ r st', F_any [.ref n, .d (.int k)] st = .ok (.d (.int r)) st' ∧ 0 ≤ r ∧ r < k ∧ Dealt n c st st' ∧ st'.length = st.length := by
  obtain ⟨cs, b, h⟩ := h
  obtain ⟨ds, s1, e1, hd, l1, k1⟩ := any_while (k := k) (e := none) h
  have e0 : F_any [.ref n, .d (.int k)] st = (B_any [some (.ref n), some (.d (.int k)), none] st).bind fun a s => match a.1 with
      | .rt w => .ok w s
      | .nx => .ok (.d .none) s
      | _ => .bad := rfl
  have em := any_empty (k := k) (e := none) hd
  by_cases hds : ds = []
  · subst hds
    refine ⟨(b * 40693 + 71) % 2147483647 / 64 % k, s1.set n (.lst [.ref c, .d (.int ((b * 40693 + 71) % 2147483647))]), ?_, Int.emod_nonneg _ (by omega), Int.emod_lt_of_pos _ h0, ⟨by simp [l1], fun j hj a1 a2 => by rw [List.getElem?_set_ne (Ne.symm a1), k1 j a2], ⟨[], _, hd.num⟩⟩, by simp [l1]⟩
    obtain ⟨g1, g2, g3, g4, g5⟩ := hd
    have gs : ∀ o, (s1.set n o)[n]? = some o := fun o => List.getElem?_set_self (List.getElem?_eq_some_iff.mp g1).1
    rw [e0]
    unfold B_any
    rw [dSeq, e1, R.bind_ok]
    simp only [dSeq, dIfS]
    rw [em]
    have q : ixN 2 1 = some 1 := by decide
    simp [g1, g2, atI_zero, atI_one, q]
    rw [vMulR (by decide)]
    simp
    rw [vModP (by decide)]
    simp only [g1, List.length_cons, List.length_nil, q, R.bind_ok, List.getElem?_cons_zero, List.getElem?_cons_succ, List.set_cons_succ, List.set_cons_zero, gs, atI_one, Nat.reduceAdd]
    rw [vDivP (by decide) (by decide)]
    simp
    rw [vModP h0]
    simp
  · have hne := hds
    rw [← List.dropLast_concat_getLast hne] at hd em
    generalize hy : ds.getLast hne = y at hd em
    generalize hz : ds.dropLast = zs at hd em
    have y0 : 0 ≤ y := hd.2.2.2.1 y (by simp)
    have hp := hd.pop
    have fin : DealIs (s1.set c (.lst ((zs ++ [y / k]).map I))) n c (zs ++ [y / k]) b := hd.set (fun x hx => by
      rcases List.mem_append.mp hx with hx | hx
      · exact hd.2.2.2.1 x (List.mem_append_left _ hx)
      · have : x = y / k := by simpa using hx
        rw [this]; exact Int.ediv_nonneg y0 (by omega)) (by have := hd.2.2.2.2; simpa using this)
    refine ⟨y % k, s1.set c (.lst ((zs ++ [y / k]).map I)), ?_, Int.emod_nonneg _ (by omega), Int.emod_lt_of_pos _ h0, ⟨by simp [l1], fun j hj a1 a2 => by rw [List.getElem?_set_ne (Ne.symm a2), k1 j a2], ⟨_, _, fin⟩⟩, by simp [l1]⟩
    obtain ⟨g1, g2, g3, g4, g5⟩ := hd
    have hc : c < s1.length := (List.getElem?_eq_some_iff.mp g2).1
    have g1' : (s1.set c (.lst (zs.map I)))[n]? = some (.lst [.ref c, .d (.int b)]) := by rw [List.getElem?_set_ne (Ne.symm g3)]; exact g1
    have g2' : (s1.set c (.lst (zs.map I)))[c]? = some (.lst (zs.map I)) := List.getElem?_set_self hc
    have e2 : (zs ++ [y]).isEmpty = false := by cases zs <;> rfl
    have room : (zs.map I).length < sizeLine := by
      simp only [List.length_append, List.length_map, List.length_singleton] at g5 ⊢
      rw [sizeLine_eq]; omega
    rw [e0]
    unfold B_any
    rw [dSeq, e1, R.bind_ok]
    simp only [dSeq, dIfS]
    rw [em]
    simp [g1, g2, g1', g2', e2, atI_zero]
    rw [vDivP h0 h1]
    simp at room
    simp [g1', g2', atI_zero, room, chk_ok]
    rw [vModP h0]
    simp
end
end Y

namespace Y
open PySem PySem.Spec PyProof.Rows L2
/-! ### loops and comprehensions, by what each turn does -/
theorem lcL_yes {tg : W → En → Sto → R En} {tt : En → Sto → R Bool} {fe : En → Sto → R W} {ρ ρ1 : En} {w u : W} {ws : List W} {st s1 s2 s3 : Sto} (h1 : tg w ρ st = .ok ρ1 s1) (h2 : tt ρ1 s1 = .ok true s2) (h3 : fe ρ1 s2 = .ok u s3) :
    lcL tg tt fe ρ (w :: ws) st = (lcL tg tt fe ρ ws s3).bind fun us s4 => .ok (u :: us) s4 := by
  simp [lcL, h1, h2, h3]
theorem lcL_no {tg : W → En → Sto → R En} {tt : En → Sto → R Bool} {fe : En → Sto → R W} {ρ ρ1 : En} {w : W} {ws : List W} {st s1 s2 : Sto} (h1 : tg w ρ st = .ok ρ1 s1) (h2 : tt ρ1 s1 = .ok false s2) :
    lcL tg tt fe ρ (w :: ws) st = lcL tg tt fe ρ ws s2 := by
  simp [lcL, h1, h2]
theorem lcL_map {α : Type} {tg : W → En → Sto → R En} {fe : En → Sto → R W} {ρ : En} {s : Sto} {emb g : α → W} : ∀ (ws : List α), (∀ a ∈ ws, ∃ ρ1, tg (emb a) ρ s = .ok ρ1 s ∧ fe ρ1 s = .ok (g a) s) → lcL tg (fun _ st => .ok true st) fe ρ (ws.map emb) s = .ok (ws.map g) s
  | [], _ => rfl
  | a :: ws, h => by
    obtain ⟨ρ1, h1, h2⟩ := h a List.mem_cons_self
    rw [List.map_cons, lcL_yes h1 rfl h2, lcL_map ws fun b hb => h b (List.mem_cons_of_mem _ hb)]
    rfl
theorem lcL_filter {α : Type} {tg : W → En → Sto → R En} {tt : En → Sto → R Bool} {fe : En → Sto → R W} {ρ : En} {s : Sto} {emb g : α → W} {p : α → Bool} : ∀ (ws : List α), (∀ a ∈ ws, ∃ ρ1, tg (emb a) ρ s = .ok ρ1 s ∧ tt ρ1 s = .ok (p a) s ∧ (p a = true → fe ρ1 s = .ok (g a) s)) → lcL tg tt fe ρ (ws.map emb) s = .ok ((ws.filter p).map g) s
  | [], _ => rfl
  | a :: ws, h => by
    obtain ⟨ρ1, h1, h2, h3⟩ := h a List.mem_cons_self
    have ih := lcL_filter ws fun b hb => h b (List.mem_cons_of_mem _ hb)
    cases hp : p a with
    | true =>
      rw [hp] at h2
      rw [List.map_cons, lcL_yes h1 h2 (h3 hp), ih, List.filter_cons_of_pos hp]
      rfl
    | false =>
      rw [hp] at h2
      rw [List.map_cons, lcL_no h1 h2, ih, List.filter_cons_of_neg (by simp [hp])]
/-- each turn may change the store -/
theorem lcL_inv {α : Type} {tg : W → En → Sto → R En} {fe : En → Sto → R W} {ρ : En} {emb : α → W} {P : Sto → Prop} {Q : W → Prop} : ∀ (ws : List α) (s : Sto), P s → (∀ a ∈ ws, ∀ s, P s → ∃ ρ1 u s', tg (emb a) ρ s = .ok ρ1 s ∧ fe ρ1 s = .ok u s' ∧ Q u ∧ P s') → ∃ us s', lcL tg (fun _ st => .ok true st) fe ρ (ws.map emb) s = .ok us s' ∧ us.length = ws.length ∧ (∀ u ∈ us, Q u) ∧ P s'
  | [], s, h, _ => ⟨[], s, rfl, rfl, (fun _ z => nomatch z), h⟩
  | a :: ws, s, h, t => by
    obtain ⟨ρ1, u, s1, h1, h2, h3, h4⟩ := t a List.mem_cons_self s h
    obtain ⟨us, s2, g1, g2, g3, g4⟩ := lcL_inv ws s1 h4 fun b hb => t b (List.mem_cons_of_mem _ hb)
    refine ⟨u :: us, s2, ?_, by simp [g2], fun v hv => ?_, g4⟩
    · rw [List.map_cons, lcL_yes h1 rfl h2, g1]
      rfl
    · rcases List.mem_cons.mp hv with rfl | hv
      · exact h3
      · exact g3 v hv
theorem forL_inv {α : Type} {tg : W → En → Sto → R En} {body : DS} {emb : α → W} {P : List α → En → Sto → Prop} (all : List α)
    (step : ∀ pre a post ρ s, all = pre ++ a :: post → P pre ρ s → ∃ ρ1 s1 ρ2 s2, tg (emb a) ρ s = .ok ρ1 s1 ∧ body ρ1 s1 = .ok (.nx, ρ2) s2 ∧ P (pre ++ [a]) ρ2 s2) :
    ∀ (post pre : List α) (ρ : En) (s : Sto), all = pre ++ post → P pre ρ s → ∃ ρ' s', forL tg body (post.map emb) ρ s = .ok (.nx, ρ') s' ∧ P all ρ' s'
  | [], pre, ρ, s, h, p => ⟨ρ, s, rfl, by rw [h, List.append_nil]; exact p⟩
  | a :: post, pre, ρ, s, h, p => by
    obtain ⟨ρ1, s1, ρ2, s2, h1, h2, h3⟩ := step pre a post ρ s h p
    obtain ⟨ρ', s', g1, g2⟩ := forL_inv all step post (pre ++ [a]) ρ2 s2 (by rw [h]; simp) h3
    refine ⟨ρ', s', ?_, g2⟩
    show (tg (emb a) ρ s).bind _ = _
    rw [h1, R.bind_ok, h2]
    exact g1
theorem cut_map {α β : Type} (f : α → β) (xs : List α) (lo hi : Option Int) : cut (xs.map f) lo hi = (cut xs lo hi).map f := by
  unfold cut
  simp [List.map_drop, List.map_take]
theorem cut_len {α : Type} (xs : List α) (lo hi : Option Int) : (cut xs lo hi).length ≤ xs.length := by
  unfold cut
  rw [List.length_take, List.length_drop]; omega
noncomputable def B_draw : DS :=
  (dSeq (dSet 2 (dLcF (dLc [4] (dIter (dSl (dVar 0) dNoP (dPart (dLit (.int 48))))) (tName 4) (fun _ st => .ok true st) (dCall gAbs (dCons (dCall gInt (dCons (dVar 4) dNil)) dNil)))))
    (dSeq (dSet 3 (dBin vAdd (dLit (.int 7919)) (dBin vMul (dLit (.int 104729)) (dVar 1))))
    (dSeq (dFor (dIter (dVar 2)) (tName 4)
    (dSet 3 (dBin vMod (dCall gInt (dCons (dBin vAdd (dBin vAdd (dBin vMul (dVar 3) (dLit (.int 48271))) (dBin vMod (dVar 4) (dLit (.int 2147483549)))) (dLit (.int 11))) dNil)) (dLit (.int 2147483647)))))
    (dRet (dNew (dCons (dRevN (dLcF (dLc [4] (dIter (dVar 2)) (tName 4) (fun ρ st => asB (dBin vGe (dVar 4) (dBin vPow (dLit (.int 10)) (dLit (.int 18))) ρ st)) (dVar 4)))) (dCons (dVar 3) dNil)))))))
noncomputable def F_draw : Fn := dDef 5 B_draw
theorem dSeq_nx {f g : DS} {ρ ρ' : En} {s s' : Sto} (h : f ρ s = .ok (.nx, ρ') s') : dSeq f g ρ s = g ρ' s' := by
  unfold dSeq; rw [h]; rfl
theorem dSeq_rt {f g : DS} {ρ ρ' : En} {s s' : Sto} {w : W} (h : f ρ s = .ok (.rt w, ρ') s') : dSeq f g ρ s = .ok (.rt w, ρ') s' := by
  unfold dSeq; rw [h]; rfl
theorem dDef_rt {n : Nat} {B : DS} {ws : List W} {s s' : Sto} {w : W} {ρ' : En} (h : B (ws.map some ++ List.replicate (n - ws.length) none) s = .ok (.rt w, ρ') s') : dDef n B ws s = .ok w s' := by
  unfold dDef; rw [h]; rfl
theorem F_draw_ok (ns : List Int) (k : Int) (hns : ns.length ≤ 63) (hk : k.natAbs < 2 ^ 64) : ∃ st, F_draw [.scr ns, .d (.int k)] [] = .ok (.ref 1) st ∧ DealOk st 1 0 := by
  have hcell : (dSet 2 (dLcF (dLc [4] (dIter (dSl (dVar 0) dNoP (dPart (dLit (.int 48))))) (tName 4) (fun _ st => .ok true st) (dCall gAbs (dCons (dCall gInt (dCons (dVar 4) dNil)) dNil))))) [some (.scr ns), some (.d (.int k)), none, none, none] [] =
      .ok (.nx, [some (.scr ns), some (.d (.int k)), some (.d (.list (((cut ns none (some 48)).map fun i => if i < 0 then -i else i).map .int))), none, none]) [] := by
    have e1 : lcL (tName 4) (fun _ st => .ok true st) (dCall gAbs (dCons (dCall gInt (dCons (dVar 4) dNil)) dNil)) [some (.scr ns), some (.d (.int k)), none, none, none] ((cut ns none (some 48)).map I) [] = .ok ((cut ns none (some 48)).map fun i => I (if i < 0 then -i else i)) [] :=
      lcL_map _ fun a _ => ⟨[some (.scr ns), some (.d (.int k)), none, none, some (I a)], by simp, by simp [I]⟩
    have e2 : ((cut ns none (some 48)).map fun i => I (if i < 0 then -i else i)) = (((cut ns none (some 48)).map fun i => if i < 0 then -i else i).map I) := by simp
    have hl := cut_len ns none (some 48)
    simp only [dSet, dLcF, dLc, dIter, dSl, dVar, dNoP, dPart, dLit, vSl, asD, seqD, wipeE, R.bind_ok, List.getElem?_cons_zero, cut_map, map_I, List.set_cons_succ, List.set_cons_zero]
    rw [e1, R.bind_ok, chk_ok (by rw [List.length_map, sizeLine_eq]; omega)]
    rw [R.bind_ok, e2, asInts_I]
    simp
  generalize hcs : (cut ns none (some 48)).map (fun i => if i < 0 then -i else i) = cs at hcell
  have hpos : ∀ x ∈ cs, 0 ≤ x := by
    intro x hx
    rw [← hcs] at hx
    obtain ⟨y, _, rfl⟩ := List.mem_map.mp hx
    split <;> omega
  have hlen : cs.length ≤ 63 := by
    rw [← hcs, List.length_map]
    have := cut_len ns none (some 48)
    omega
  have hset : (dSet 3 (dBin vAdd (dLit (.int 7919)) (dBin vMul (dLit (.int 104729)) (dVar 1)))) [some (.scr ns), some (.d (.int k)), some (.d (.list (cs.map .int))), none, none] [] = .ok (.nx, [some (.scr ns), some (.d (.int k)), some (.d (.list (cs.map .int))), some (I (7919 + 104729 * k)), none]) [] := by
    simp
    rw [vMulR hk]
    simp
  obtain ⟨ρ, s, hfor, x, y, hρ, hs⟩ := forL_inv (tg := tName 4) (emb := I) (body := dSet 3 (dBin vMod (dCall gInt (dCons (dBin vAdd (dBin vAdd (dBin vMul (dVar 3) (dLit (.int 48271))) (dBin vMod (dVar 4) (dLit (.int 2147483549)))) (dLit (.int 11))) dNil)) (dLit (.int 2147483647))))
    (P := fun pre ρ s => ∃ b x, ρ = [some (.scr ns), some (.d (.int k)), some (.d (.list (cs.map .int))), some (I b), x] ∧ s = []) cs
    (fun pre a post ρ s e p => by
      obtain ⟨b, x, rfl, rfl⟩ := p
      refine ⟨_, [], [some (.scr ns), some (.d (.int k)), some (.d (.list (cs.map .int))), some (I ((b * 48271 + a % 2147483549 + 11) % 2147483647)), some (I a)], [], rfl, ?_, _, _, rfl, rfl⟩
      · simp (disch := decide) [vMulR, vModP, List.getElem?_cons_zero]) cs [] _ [] rfl ⟨7919 + 104729 * k, none, rfl, rfl⟩
  subst hρ hs
  have hfor' : (dFor (dIter (dVar 2)) (tName 4) (dSet 3 (dBin vMod (dCall gInt (dCons (dBin vAdd (dBin vAdd (dBin vMul (dVar 3) (dLit (.int 48271))) (dBin vMod (dVar 4) (dLit (.int 2147483549)))) (dLit (.int 11))) dNil)) (dLit (.int 2147483647))))) [some (.scr ns), some (.d (.int k)), some (.d (.list (cs.map .int))), some (I (7919 + 104729 * k)), none] [] = .ok (.nx, [some (.scr ns), some (.d (.int k)), some (.d (.list (cs.map .int))), some (I x), y]) [] := by
    rw [← hfor]
    simp
  have hret : (dRet (dNew (dCons (dRevN (dLcF (dLc [4] (dIter (dVar 2)) (tName 4) (fun ρ st => asB (dBin vGe (dVar 4) (dBin vPow (dLit (.int 10)) (dLit (.int 18))) ρ st)) (dVar 4)))) (dCons (dVar 3) dNil)))) [some (.scr ns), some (.d (.int k)), some (.d (.list (cs.map .int))), some (I x), y] [] =
      .ok (.rt (.ref 1), [some (.scr ns), some (.d (.int k)), some (.d (.list (cs.map .int))), some (I x), y]) [.lst ((cs.filter fun c => decide ((10 : Int) ^ 18 ≤ c)).reverse.map I), .lst [.ref 0, I x]] := by
    have e1 : lcL (tName 4) (fun ρ st => asB (dBin vGe (dVar 4) (dBin vPow (dLit (.int 10)) (dLit (.int 18))) ρ st)) (dVar 4) [some (.scr ns), some (.d (.int k)), some (.d (.list (cs.map .int))), some (I x), none] (cs.map I) [] = .ok ((cs.filter fun c => decide ((10 : Int) ^ 18 ≤ c)).map I) [] :=
      lcL_filter _ fun a _ => ⟨[some (.scr ns), some (.d (.int k)), some (.d (.list (cs.map .int))), some (I x), some (I a)], by simp, by simp [vIntC, cPow, I, chk_ok], by simp⟩
    have hl : (cs.filter fun c => decide ((10 : Int) ^ 18 ≤ c)).length ≤ cs.length := List.length_filter_le _ _
    simp only [dRet, dNew, dCons, dNil, dRevN, dLcF, dLc, dIter, dVar, seqD, wipeE, R.bind_ok, List.getElem?_cons_zero, List.getElem?_cons_succ, map_I, List.set_cons_succ, List.set_cons_zero]
    rw [e1, R.bind_ok, chk_ok (by rw [List.length_map, sizeLine_eq]; omega), R.bind_ok, asInts_I]
    simp only [R.bind_ok, items, List.length_cons, List.length_nil, List.length_append, List.nil_append, map_I]
    rw [chk_ok (by rw [sizeLine_eq]; omega)]
    simp
  refine ⟨_, dDef_rt (by
    show B_draw [some (.scr ns), some (.d (.int k)), none, none, none] [] = _
    unfold B_draw
    rw [dSeq_nx hcell, dSeq_nx hset, dSeq_nx hfor', hret]), (cs.filter fun c => decide ((10 : Int) ^ 18 ≤ c)).reverse, x, by simp, by simp, by decide, fun c hc => hpos c (List.mem_filter.mp (List.mem_reverse.mp hc)).1, ?_⟩
  rw [List.length_reverse]
  exact Nat.le_trans (List.length_filter_le _ _) hlen
end Y

namespace Y
open PySem PySem.Spec PyProof.Rows L2
/-! ### data that stands as it is laid -/
theorem canLayAll_of {xs : List PyData} (h : ∀ x ∈ xs, x.canLay0 = true) : PyData.canLayAll0 xs = true := by
  induction xs with
  | nil => rfl
  | cons x xs ih =>
    rw [PyData.canLayAll0, h x List.mem_cons_self, ih fun y hy => h y (List.mem_cons_of_mem _ hy)]
    rfl
theorem depthAll_of {xs : List PyData} {k : Nat} (h : ∀ x ∈ xs, x.depth ≤ k) : PyData.depthAll xs ≤ k := by
  induction xs with
  | nil => exact Nat.zero_le _
  | cons x xs ih =>
    rw [PyData.depthAll]
    exact Nat.max_le.mpr ⟨h x List.mem_cons_self, ih fun y hy => h y (List.mem_cons_of_mem _ hy)⟩
/-- data that can be laid, at most k deep -/
def Dk (k : Nat) (d : PyData) : Prop := d.canLay0 = true ∧ d.depth ≤ k
theorem Dk.int {k : Nat} (i : Int) : Dk k (.int i) := ⟨rfl, Nat.zero_le _⟩
theorem Dk.bl {k : Nat} (i : Bool) : Dk k (.bool i) := ⟨rfl, Nat.zero_le _⟩
theorem Dk.non {k : Nat} : Dk k .none := ⟨rfl, Nat.zero_le _⟩
theorem Dk.str {k : Nat} {x : Str} (h : PyData.strOk x = true) : Dk k (.str x) := ⟨by rw [PyData.canLay0]; exact h, Nat.zero_le _⟩
theorem Dk.lst {k : Nat} {xs : List PyData} (h : ∀ x ∈ xs, Dk k x) : Dk (k + 1) (.list xs) :=
  ⟨by rw [PyData.canLay0]; exact canLayAll_of fun x hx => (h x hx).1, by rw [PyData.depth]; exact Nat.succ_le_succ (depthAll_of fun x hx => (h x hx).2)⟩
theorem Dk.tup {k : Nat} {xs : List PyData} (h : ∀ x ∈ xs, Dk k x) : Dk (k + 1) (.tuple xs) :=
  ⟨by rw [PyData.canLay0]; exact canLayAll_of fun x hx => (h x hx).1, by rw [PyData.depth]; exact Nat.succ_le_succ (depthAll_of fun x hx => (h x hx).2)⟩
theorem Dk.shaped {k : Nat} {d : PyData} (h : Dk k d) (hk : k ≤ 64) : SeqAt.shaped d = true := by
  unfold SeqAt.shaped
  rw [Bool.and_eq_true, decide_eq_true_eq]
  exact ⟨h.1, Nat.le_trans h.2 hk⟩
theorem eqv_refl {d : PyData} (h : SeqAt.shaped d = true) : PyData.eqv d d = true := SeqAt.eqv_refl d (SeqAt.canLay_of_shaped h)
theorem ne_same {d : PyData} {st : Sto} (h : SeqAt.shaped d = true) : vEq true (.d d) (.d d) st = .ok (.d (.bool false)) st := by
  have e := eqv_refl h
  cases d with
  | str x => simp [vEq]
  | _ => simp [vEq, h, e]
theorem eq_same {d : PyData} {st : Sto} (h : SeqAt.shaped d = true) : vEq false (.d d) (.d d) st = .ok (.d (.bool true)) st := by
  have e := eqv_refl h
  cases d with
  | str x => simp [vEq]
  | _ => simp [vEq, h, e]
theorem cut_from {α : Type} (xs : List α) {k : Nat} (h : k ≤ xs.length) : cut xs (some (k : Int)) none = xs.drop k := by
  unfold cut
  rw [HT.sIx_nat, HT.sIx_none, Nat.min_eq_left h, List.take_of_length_le (by rw [List.length_drop] <;> omega)]
theorem cut_to {α : Type} (xs : List α) {k : Nat} (h : k ≤ xs.length) : cut xs none (some (k : Int)) = xs.take k := by
  unfold cut
  rw [HT.sIx_nat, HT.sIx_none, Nat.min_eq_left h, List.drop_zero, Nat.sub_zero]
/-- repr of data -/
theorem repr_ok {d : PyData} {st : Sto} {k w : Nat} (h : Dk k d) (hk : k ≤ 64) (hs : d.showable = true) (hi : d.intsShort 13 = true) (hw : d.weight ≤ w) (h1 : w ≤ 2 ^ 20) : gRepr [.d d] st = .ok (.d (.str d.shown)) st := by
  have hl : PyData.layable0 d = true := by
    unfold PyData.layable0
    rw [Bool.and_eq_true, Bool.and_eq_true, decide_eq_true_eq, decide_eq_true_eq]
    exact ⟨⟨h.1, Nat.le_trans h.2 hk⟩, Nat.le_trans hw h1⟩
  have h2 := shown_le13 hl hi
  have h3 : d.shown.length ≤ sizeLine := by rw [sizeLine_eq]; omega
  have h4 : d.hasDict = false := PyData.hasDict_of_canLay d h.1
  have h5 : d.depth ≤ 64 := Nat.le_trans h.2 hk
  unfold gRepr
  simp only [asD]
  exact chk_ok ⟨hs, h4, h5, h3⟩
/-! ### one step after another -/
section
variable {ρ ρ' : En} {s s1 s2 s3 : Sto} {w u v : W} {ws us : List W} {f g k : En → Sto → R W} {fa ga : En → Sto → R (List W)} {t t' : En → Sto → R Bool} {b b' : Bool}
theorem dCons_ok (h1 : f ρ s = .ok w s1) (h2 : fa ρ s1 = .ok ws s2) : dCons f fa ρ s = .ok (w :: ws) s2 := by unfold dCons; rw [h1, R.bind_ok, h2]; rfl
theorem dCons1_ok (h1 : f ρ s = .ok w s1) : dCons f dNil ρ s = .ok [w] s1 := dCons_ok h1 rfl
theorem dTup_ok {ds : List PyData} (h1 : fa ρ s = .ok (ds.map W.d) s1) (h2 : ds.length ≤ sizeLine) : dTup fa ρ s = .ok (.d (.tuple ds)) s1 := by
  unfold dTup; rw [h1, R.bind_ok, allD_map]; exact chk_ok h2
theorem dLst_ok {ds : List PyData} (h1 : fa ρ s = .ok (ds.map W.d) s1) (h2 : ds.length ≤ sizeLine) : dLst fa ρ s = .ok (.d (.list ds)) s1 := by
  unfold dLst; rw [h1, R.bind_ok, allD_map]; exact chk_ok h2
theorem dCall_ok {G : List W → Sto → R W} {r : R W} (h1 : fa ρ s = .ok ws s1) (h2 : G ws s1 = r) : dCall G fa ρ s = r := by unfold dCall; rw [h1, R.bind_ok, h2]
theorem dBin_ok {G : W → W → Sto → R W} {r : R W} (h1 : f ρ s = .ok w s1) (h2 : g ρ s1 = .ok u s2) (h3 : G w u s2 = r) : dBin G f g ρ s = r := by unfold dBin; rw [h1, R.bind_ok, h2, R.bind_ok, h3]
theorem dUn_ok {G : W → Sto → R W} {r : R W} (h1 : f ρ s = .ok w s1) (h3 : G w s1 = r) : dUn G f ρ s = r := by unfold dUn; rw [h1, R.bind_ok, h3]
theorem asB_ok {r : R W} (h : r = .ok (.d (.bool b)) s) : asB r = .ok b s := by rw [h]; rfl
theorem dAnd_t (h1 : t ρ s = .ok true s1) (h2 : t' ρ s1 = .ok b s2) : dAnd t t' ρ s = .ok b s2 := by unfold dAnd; rw [h1, R.bind_ok, if_pos rfl, h2]
theorem dAnd_f (h1 : t ρ s = .ok false s1) : dAnd t t' ρ s = .ok false s1 := by unfold dAnd; rw [h1]; rfl
theorem dOr_f (h1 : t ρ s = .ok false s1) (h2 : t' ρ s1 = .ok b s2) : dOr t t' ρ s = .ok b s2 := by unfold dOr; rw [h1, R.bind_ok, if_neg (by simp), h2]
theorem dOr_t (h1 : t ρ s = .ok true s1) : dOr t t' ρ s = .ok true s1 := by unfold dOr; rw [h1]; rfl
theorem dNot_ok (h1 : t ρ s = .ok b s1) : dNot t ρ s = .ok (!b) s1 := by unfold dNot; rw [h1]; rfl
theorem dAndV_t {r : R W} (h1 : f ρ s = .ok (.d (.bool true)) s1) (h2 : g ρ s1 = r) : dAndV f g ρ s = r := by unfold dAndV; rw [asB_ok h1, R.bind_ok, if_pos rfl, h2]
theorem dAndV_f (h1 : f ρ s = .ok (.d (.bool false)) s1) : dAndV f g ρ s = .ok (.d (.bool false)) s1 := by unfold dAndV; rw [asB_ok h1]; rfl
theorem dIf_t {r : R W} (h1 : t ρ s = .ok true s1) (h2 : f ρ s1 = r) : dIf t f g ρ s = r := by unfold dIf; rw [h1, R.bind_ok, if_pos rfl, h2]
theorem dIf_f {r : R W} (h1 : t ρ s = .ok false s1) (h2 : g ρ s1 = r) : dIf t f g ρ s = r := by unfold dIf; rw [h1, R.bind_ok, if_neg (by simp), h2]
theorem dIfS_t {F G : DS} {r : R (Fl × En)} (h1 : t ρ s = .ok true s1) (h2 : F ρ s1 = r) : dIfS t F G ρ s = r := by unfold dIfS; rw [h1, R.bind_ok, if_pos rfl, h2]
theorem dIfS_f {F G : DS} {r : R (Fl × En)} (h1 : t ρ s = .ok false s1) (h2 : G ρ s1 = r) : dIfS t F G ρ s = r := by unfold dIfS; rw [h1, R.bind_ok, if_neg (by simp), h2]
theorem dSet_ok {i : Nat} (h1 : f ρ s = .ok w s1) : dSet i f ρ s = .ok (.nx, ρ.set i (some w)) s1 := by unfold dSet; rw [h1]; rfl
theorem dExpr_ok (h1 : f ρ s = .ok w s1) : dExpr f ρ s = .ok (.nx, ρ) s1 := by unfold dExpr; rw [h1]; rfl
theorem dRet_ok (h1 : f ρ s = .ok w s1) : dRet f ρ s = .ok (.rt w, ρ) s1 := by unfold dRet; rw [h1]; rfl
theorem dAsg_ok {G : W → En → Sto → R En} (h1 : f ρ s = .ok w s1) (h2 : G w ρ s1 = .ok ρ' s2) : dAsg f G ρ s = .ok (.nx, ρ') s2 := by unfold dAsg; rw [h1, R.bind_ok, h2]; rfl
theorem dFor_ok {G : W → En → Sto → R En} {B : DS} {r : R (Fl × En)} (h1 : fa ρ s = .ok ws s1) (h2 : forL G B ws ρ s1 = r) : dFor fa G B ρ s = r := by unfold dFor; rw [h1, R.bind_ok, h2]
theorem dMethS_ok {G : W → List W → Sto → R W} {r : R W} {x : Str} (h1 : f ρ s = .ok (.d (.str x)) s1) (h2 : fa ρ s1 = .ok ws s2) (h3 : G (.d (.str x)) ws s2 = r) : dMethS G f fa ρ s = r := by unfold dMethS; rw [h1, R.bind_ok]; show (fa ρ s1).bind _ = _; rw [h2, R.bind_ok, h3]
theorem dSl_ok {o p : En → Sto → R (Option Int)} {lo hi : Option Int} {r : R W} (h1 : f ρ s = .ok w s1) (h2 : o ρ s1 = .ok lo s2) (h3 : p ρ s2 = .ok hi s3) (h4 : vSl w lo hi s3 = r) : dSl f o p ρ s = r := by unfold dSl; rw [h1, R.bind_ok, h2, R.bind_ok, h3, R.bind_ok, h4]
theorem dPart_ok {i : Int} (h1 : f ρ s = .ok (.d (.int i)) s1) : dPart f ρ s = .ok (some i) s1 := by unfold dPart; rw [h1]; rfl
theorem dCal_ok {n : Nat} {F : Fn} {r : R W} (h1 : fa ρ s = .ok ws s1) (h2 : ws.length = n) (h3 : F ws s1 = r) : dCal n F fa ρ s = r := by unfold dCal; rw [h1, R.bind_ok, chk_ok h2, h3]
theorem dCalP_ok {n : Nat} {F : Fn} {x : PyData} (h1 : fa ρ s = .ok ws s1) (h2 : ws.length = n) (h3 : ws.all pureW = true) (h4 : F ws [] = .ok (.d x) s2) : dCalP n F fa ρ s = .ok (.d x) s1 := by unfold dCalP; rw [h1, R.bind_ok, chk_ok ⟨h2, h3⟩]; unfold callP; rw [h4]
theorem dLcF_ok {ds : List PyData} (h1 : fa ρ s = .ok (ds.map W.d) s1) : dLcF fa ρ s = .ok (.d (.list ds)) s1 := by unfold dLcF; rw [h1, R.bind_ok, allD_map]
theorem dLc_ok {vs : List Nat} {G : W → En → Sto → R En} {fe : En → Sto → R W} (h1 : fa ρ s = .ok ws s1) (h2 : lcL G t fe (wipeE ρ vs) ws s1 = .ok us s2) (h3 : us.length ≤ sizeLine) : dLc vs fa G t fe ρ s = .ok us s2 := by unfold dLc; rw [h1, R.bind_ok, h2, R.bind_ok, chk_ok h3]
theorem dIter_ok {x : PyData} {ds : List PyData} (h1 : f ρ s = .ok (.d x) s1) (h2 : seqD x = some ds) : dIter f ρ s = .ok (ds.map W.d) s1 := by unfold dIter; rw [h1, R.bind_ok]; dsimp only; rw [h2]
theorem dRng1_ok {j : Nat} (h1 : fa ρ s = .ok [.d (.int j)] s1) (h2 : j < 2 ^ 62) : dRng1 fa ρ s = .ok ((List.range j).map fun i : Nat => W.d (.int i)) s1 := by
  unfold dRng1; rw [h1, R.bind_ok]
  show chk _ _ = _
  rw [chk_ok ⟨by omega, by omega⟩]
  simp [rngW]
theorem dDef_of {n : Nat} {B : DS} (h : B (ws.map some ++ List.replicate (n - ws.length) none) s = .ok (.rt w, ρ') s1) : dDef n B ws s = .ok w s1 := dDef_rt h
theorem dVar_ok {i : Nat} (h : ρ[i]? = some (some w)) : dVar i ρ s = .ok w s := by unfold dVar; rw [h]
theorem map_d {α : Type} (g : α → PyData) (L : List α) : (L.map g).map W.d = L.map fun t => W.d (g t) := by rw [List.map_map]; rfl
theorem vIx_list {ds : List PyData} {j : Nat} {x : PyData} (h : ds[j]? = some x) : vIx (.d (.list ds)) (I j) s = .ok (.d x) s := by
  have e : atI (ds.map W.d) (j : Int) = some (W.d x) := atI_nat (by rw [List.getElem?_map, h]; rfl)
  simp [vIx, e]
theorem vIx_tup {ds : List PyData} {j : Nat} {x : PyData} (h : ds[j]? = some x) : vIx (.d (.tuple ds)) (I j) s = .ok (.d x) s := by
  have e : atI (ds.map W.d) (j : Int) = some (W.d x) := atI_nat (by rw [List.getElem?_map, h]; rfl)
  simp [vIx, e]
end
end Y

namespace Lx
/-! ### the tokens of a text, sign by sign -/
def ws (c : Nat) : Bool := c == 32 || c == 10
def letter (c : Nat) : Bool := c == 95 || (decide (97 ≤ c) && decide (c ≤ 122)) || (decide (65 ≤ c) && decide (c ≤ 90)) || (decide (48 ≤ c) && decide (c ≤ 57))
abbrev Tok := Nat × List Nat
inductive Mode where
  | gap | rem
  | word (j : Nat) (w : List Nat)
def close : Mode → List Tok
  | .word j w => [(j, w)]
  | _ => []
/-- one sign: what is closed by it, and how it goes on -/
def next (m : Mode) (i c : Nat) : List Tok × Mode :=
  match m with
  | .rem => ([], if c = 10 then .gap else .rem)
  | .gap => if c = 35 then ([], .rem) else if ws c then ([], .gap) else if letter c then ([], .word i [c]) else ([(i, [c])], .gap)
  | .word j w => if c = 35 then ([(j, w)], .rem) else if ws c then ([(j, w)], .gap) else if letter c then ([], .word j (w ++ [c])) else ([(j, w), (i, [c])], .gap)
def run : Mode → Nat → List Nat → List Tok × Mode
  | m, _, [] => ([], m)
  | m, i, c :: l => let (a, m1) := next m i c; let (b, m2) := run m1 (i + 1) l; (a ++ b, m2)
def lex (m : Mode) (i : Nat) (l : List Nat) : List Tok := (run m i l).1 ++ close (run m i l).2
theorem run_cons (m : Mode) (i c : Nat) (l : List Nat) : run m i (c :: l) = ((next m i c).1 ++ (run (next m i c).2 (i + 1) l).1, (run (next m i c).2 (i + 1) l).2) := rfl
theorem lex_nil (m : Mode) (i : Nat) : lex m i [] = close m := rfl
theorem lex_cons (m : Mode) (i c : Nat) (l : List Nat) : lex m i (c :: l) = (next m i c).1 ++ lex (next m i c).2 (i + 1) l := by
  simp [lex, run_cons]
theorem run_app : ∀ (p q : List Nat) (m : Mode) (i : Nat), run m i (p ++ q) = ((run m i p).1 ++ (run (run m i p).2 (i + p.length) q).1, (run (run m i p).2 (i + p.length) q).2)
  | [], q, m, i => by simp [run]
  | c :: p, q, m, i => by
    rw [List.cons_append, run_cons, run_app p q, run_cons]
    have : i + 1 + p.length = i + (c :: p).length := by simp; omega
    simp [this]
theorem lex_app (p q : List Nat) (m : Mode) (i : Nat) : lex m i (p ++ q) = (run m i p).1 ++ lex (run m i p).2 (i + p.length) q := by
  simp [lex, run_app]
def shiftM (k : Nat) : Mode → Mode
  | .word j w => .word (j + k) w
  | m => m
def shiftT (k : Nat) (t : Tok) : Tok := (t.1 + k, t.2)
theorem next_shift (k : Nat) (m : Mode) (i c : Nat) : next (shiftM k m) (i + k) c = ((next m i c).1.map (shiftT k), shiftM k (next m i c).2) := by
  cases m with
  | rem => by_cases h1 : c = 10 <;> simp [next, shiftM, h1]
  | gap =>
    by_cases h1 : c = 35
    · simp [next, shiftM, h1]
    · cases h2 : ws c <;> cases h3 : letter c <;> simp [next, shiftM, shiftT, h1, h2, h3]
  | word j w =>
    by_cases h1 : c = 35
    · simp [next, shiftM, shiftT, h1]
    · cases h2 : ws c <;> cases h3 : letter c <;> simp [next, shiftM, shiftT, h1, h2, h3]
theorem lex_shift (k : Nat) : ∀ (l : List Nat) (m : Mode) (i : Nat), lex (shiftM k m) (i + k) l = (lex m i l).map (shiftT k)
  | [], m, i => by cases m <;> rfl
  | c :: l, m, i => by
    rw [lex_cons, lex_cons, next_shift, List.map_append, ← lex_shift k l]
    have : i + k + 1 = i + 1 + k := by omega
    rw [this]
/-- the signs of a token -/
def Good (w : List Nat) : Prop := (w ≠ [] ∧ ∀ c ∈ w, letter c = true) ∨ ∃ c, w = [c] ∧ letter c = false ∧ ws c = false ∧ c ≠ 35
def GoodM : Mode → Prop
  | .word _ w => w ≠ [] ∧ ∀ c ∈ w, letter c = true
  | _ => True
theorem next_good {m : Mode} {i c : Nat} (h : GoodM m) : (∀ t ∈ (next m i c).1, Good t.2) ∧ GoodM (next m i c).2 := by
  cases m with
  | rem => simp only [next]; split <;> exact ⟨by simp, trivial⟩
  | gap =>
    simp only [next]
    by_cases h1 : c = 35
    · rw [if_pos h1]; exact ⟨by simp, trivial⟩
    · rw [if_neg h1]
      cases h2 : ws c with
      | true => simp only [if_true]; exact ⟨by simp, trivial⟩
      | false =>
        cases h3 : letter c with
        | true => simp only [if_true, Bool.false_eq_true, if_false]; exact ⟨by simp, by simp, by simpa using h3⟩
        | false => simp only [Bool.false_eq_true, if_false]; exact ⟨fun t ht => by simp at ht; subst ht; exact .inr ⟨c, rfl, h3, h2, h1⟩, trivial⟩
  | word j w =>
    simp only [next]
    by_cases h1 : c = 35
    · rw [if_pos h1]; exact ⟨fun t ht => by simp at ht; subst ht; exact .inl h, trivial⟩
    · rw [if_neg h1]
      cases h2 : ws c with
      | true => simp only [if_true]; exact ⟨fun t ht => by simp at ht; subst ht; exact .inl h, trivial⟩
      | false =>
        cases h3 : letter c with
        | true =>
          simp only [if_true, Bool.false_eq_true, if_false]
          refine ⟨by simp, by simp, fun d hd => ?_⟩
          rcases List.mem_append.mp hd with hd | hd
          · exact h.2 d hd
          · have : d = c := by simpa using hd
            rw [this]; exact h3
        | false =>
          simp only [Bool.false_eq_true, if_false]
          refine ⟨fun t ht => ?_, trivial⟩
          simp at ht
          rcases ht with rfl | rfl
          · exact .inl h
          · exact .inr ⟨c, rfl, h3, h2, h1⟩
theorem lex_good : ∀ (l : List Nat) (m : Mode) (i : Nat), GoodM m → ∀ t ∈ lex m i l, Good t.2
  | [], m, i, h, t, ht => by
    cases m with
    | word j w => simp [lex_nil, close] at ht; subst ht; exact .inl h
    | gap => simp [lex_nil, close] at ht
    | rem => simp [lex_nil, close] at ht
  | c :: l, m, i, h, t, ht => by
    rw [lex_cons] at ht
    rcases List.mem_append.mp ht with ht | ht
    · exact (next_good h).1 t ht
    · exact lex_good l _ _ (next_good h).2 t ht
/-- letters from a gap, from within a word -/
theorem letter_ws {c : Nat} (h : letter c = true) : ws c = false ∧ c ≠ 35 := by
  simp only [letter, Bool.or_eq_true, Bool.and_eq_true, beq_iff_eq, decide_eq_true_eq] at h
  refine ⟨?_, by omega⟩
  simp only [ws, Bool.or_eq_false_iff, beq_eq_false_iff_ne]
  omega
theorem next_word {j i c : Nat} {w : List Nat} (h : letter c = true) : next (.word j w) i c = ([], .word j (w ++ [c])) := by
  simp [next, letter_ws h, h]
theorem next_gap {i c : Nat} (h : letter c = true) : next .gap i c = ([], .word i [c]) := by
  simp [next, letter_ws h, h]
theorem run_word : ∀ (v w : List Nat) (j i : Nat), (∀ c ∈ v, letter c = true) → run (.word j w) i v = ([], .word j (w ++ v))
  | [], w, j, i, _ => by simp [run]
  | c :: v, w, j, i, h => by
    rw [run_cons, next_word (h c List.mem_cons_self), run_word v _ j (i + 1) fun d hd => h d (List.mem_cons_of_mem _ hd)]
    simp
theorem run_good {w : List Nat} (h : Good w) (i : Nat) : run .gap i w = ([], .word i w) ∨ run .gap i w = ([(i, w)], .gap) := by
  rcases h with ⟨h1, h2⟩ | ⟨c, rfl, h1, h2, h3⟩
  · cases w with
    | nil => exact absurd rfl h1
    | cons c v =>
      left
      rw [run_cons, next_gap (h2 c List.mem_cons_self), run_word v [c] i (i + 1) fun d hd => h2 d (List.mem_cons_of_mem _ hd)]
      simp
  · right
    simp [run, next, h1, h2, h3]
/-- a token and a space -/
theorem lex_sep {w : List Nat} (h : Good w) (i s : Nat) (hs : s = 32 ∨ s = 10) (r : List Nat) : lex .gap i (w ++ s :: r) = (i, w) :: lex .gap (i + w.length + 1) r := by
  have e : ws s = true ∧ s ≠ 35 := by rcases hs with rfl | rfl <;> decide
  rcases run_good h i with q | q
  · rw [lex_app, q, lex_cons]; simp [next, e]
  · rw [lex_app, q, lex_cons]; simp [next, e]
theorem lex_one {w : List Nat} (h : Good w) (i : Nat) : lex .gap i w = [(i, w)] := by
  rcases run_good h i with q | q <;> simp [lex, q, close]
def glue (s : Nat) : List (List Nat) → List Nat
  | [] => []
  | [p] => p
  | p :: q :: r => p ++ s :: glue s (q :: r)
def places : Nat → List (List Nat) → List Tok
  | _, [] => []
  | i, p :: r => (i, p) :: places (i + p.length + 1) r
theorem lex_glue (s : Nat) (hs : s = 32 ∨ s = 10) : ∀ (ps : List (List Nat)) (i : Nat), (∀ p ∈ ps, Good p) → lex .gap i (glue s ps) = places i ps
  | [], i, _ => rfl
  | [p], i, h => lex_one (h p List.mem_cons_self) i
  | p :: q :: r, i, h => by
    rw [glue, lex_sep (h p List.mem_cons_self) i s hs, lex_glue s hs (q :: r) _ fun d hd => h d (List.mem_cons_of_mem _ hd)]
    rfl
/-- a word that began ends where it ends -/
def Fits : Mode → Nat → Prop
  | .word j w, i => j + w.length = i
  | _, _ => True
theorem next_fits {m : Mode} {i c : Nat} (h : Fits m i) : Fits (next m i c).2 (i + 1) := by
  cases m with
  | rem => simp only [next]; split <;> trivial
  | gap => simp only [next]; repeat' split
           all_goals simp [Fits]
  | word j w =>
    have h : j + w.length = i := h
    simp only [next]; repeat' split
    all_goals simp [Fits]
    omega
/-- a token in the midst: what lies ahead of its end, what behind -/
theorem lex_split : ∀ (l : List Nat) (m : Mode) (i : Nat) (A B : List Tok) (t : Tok), Fits m i → lex m i l = A ++ t :: B →
    ∃ p q, l = p ++ q ∧ i + p.length = t.1 + t.2.length ∧ (run m i p).1 ++ close (run m i p).2 = A ++ [t] ∧ (run m i p).2 ≠ .rem ∧ lex .gap (t.1 + t.2.length) q = B := by
  intro l
  induction l with
  | nil =>
    intro m i A B t hf h
    cases m with
    | word j w =>
      simp only [lex_nil, close] at h
      cases A with
      | nil =>
        simp at h
        obtain ⟨rfl, rfl⟩ := h
        exact ⟨[], [], rfl, by simpa [Fits] using hf.symm, by simp [run, close], by simp [run], rfl⟩
      | cons a A => simp at h
    | gap => simp [lex_nil, close] at h
    | rem => simp [lex_nil, close] at h
  | cons c l ih =>
    intro m i A B t hf h
    -- does the token end ahead of this sign?
    by_cases hw : ∃ j w, m = .word j w ∧ A = [] ∧ letter c = false
    · obtain ⟨j, w, rfl, rfl, hl⟩ := hw
      have hf : j + w.length = i := hf
      have key : lex (.word j w) i (c :: l) = (j, w) :: lex .gap i (c :: l) := by
        rw [lex_cons, lex_cons]
        simp only [next]
        by_cases h1 : c = 35
        · simp [h1]
        · cases h2 : ws c <;> simp [h1, hl]
      rw [key] at h
      simp at h
      obtain ⟨rfl, rfl⟩ := h
      refine ⟨[], c :: l, rfl, by simp [hf], by simp [run, close], by simp [run], by simp [hf]⟩
    · rw [lex_cons] at h
      -- the signs' own closed tokens
      have hn : (next m i c).1 = [] ∨ (∃ j w, m = .word j w ∧ letter c = false) ∨ (m = .gap ∧ (next m i c) = ([(i, [c])], .gap)) := by
        cases m with
        | rem => left; simp [next]
        | gap =>
          by_cases h1 : c = 35
          · left; simp [next, h1]
          · cases h2 : ws c with
            | true => left; simp [next, h1, h2]
            | false =>
              cases h3 : letter c with
              | true => left; simp [next, h1, h2, h3]
              | false => right; right; simp [next, h1, h2, h3]
        | word j w =>
          cases h3 : letter c with
          | true => left; simp [next_word h3]
          | false => right; left; exact ⟨j, w, rfl, rfl⟩
      rcases hn with hn | ⟨j, w, rfl, hl⟩ | ⟨rfl, hn⟩
      · rw [hn, List.nil_append] at h
        obtain ⟨p, q, rfl, h1, h2, h3, h4⟩ := ih _ _ A B t (next_fits hf) h
        refine ⟨c :: p, q, rfl, by simp; omega, ?_, ?_, h4⟩
        · rw [run_cons, hn]; exact h2
        · rw [run_cons]; exact h3
      · -- a word is closed, and the token lies behind it
        have hA : A ≠ [] := fun z => hw ⟨j, w, rfl, z, hl⟩
        obtain ⟨a, A', rfl⟩ := List.exists_cons_of_ne_nil hA
        by_cases h1 : c = 35
        · have e : next (.word j w) i c = ([(j, w)], .rem) := by simp [next, h1]
          rw [e] at h
          simp at h
          obtain ⟨rfl, h⟩ := h
          obtain ⟨p, q, rfl, g1, g2, g3, g4⟩ := ih .rem (i + 1) A' B t trivial h
          exact ⟨c :: p, q, rfl, by simp; omega, by rw [run_cons, e]; simpa using g2, by rw [run_cons, e]; exact g3, g4⟩
        · cases h2 : ws c with
          | true =>
            have e : next (.word j w) i c = ([(j, w)], .gap) := by simp [next, h1, h2]
            rw [e] at h
            simp at h
            obtain ⟨rfl, h⟩ := h
            obtain ⟨p, q, rfl, g1, g2, g3, g4⟩ := ih .gap (i + 1) A' B t trivial h
            exact ⟨c :: p, q, rfl, by simp; omega, by rw [run_cons, e]; simpa using g2, by rw [run_cons, e]; exact g3, g4⟩
          | false =>
            have e : next (.word j w) i c = ([(j, w), (i, [c])], .gap) := by simp [next, h1, h2, hl]
            rw [e] at h
            simp at h
            obtain ⟨rfl, h⟩ := h
            cases A' with
            | nil =>
              simp at h
              obtain ⟨rfl, rfl⟩ := h
              exact ⟨[c], l, rfl, by simp, by simp [run, e, close], by simp [run, e], rfl⟩
            | cons b A' =>
              simp at h
              obtain ⟨rfl, h⟩ := h
              obtain ⟨p, q, rfl, g1, g2, g3, g4⟩ := ih .gap (i + 1) A' B t trivial h
              exact ⟨c :: p, q, rfl, by simp; omega, by rw [run_cons, e]; simpa using g2, by rw [run_cons, e]; exact g3, g4⟩
      · rw [hn] at h
        cases A with
        | nil =>
          simp at h
          obtain ⟨rfl, rfl⟩ := h
          exact ⟨[c], l, rfl, by simp, by simp [run, hn, close], by simp [run, hn], rfl⟩
        | cons a A =>
          simp at h
          obtain ⟨rfl, h⟩ := h
          obtain ⟨p, q, rfl, g1, g2, g3, g4⟩ := ih .gap (i + 1) A B t trivial h
          exact ⟨c :: p, q, rfl, by simp; omega, by rw [run_cons, hn]; simpa using g2, by rw [run_cons, hn]; exact g3, g4⟩
/-- within a remark -/
theorem lex_rem : ∀ (r : List Nat) (i : Nat) (q : List Nat), 10 ∉ r → lex .rem i (r ++ 10 :: q) = lex .gap (i + r.length + 1) q
  | [], i, q, _ => by rw [List.nil_append, lex_cons]; simp [next]
  | c :: r, i, q, h => by
    have hc : c ≠ 10 := fun z => h (by simp [z])
    rw [List.cons_append, lex_cons]
    have : next .rem i c = ([], .rem) := by simp [next, hc]
    rw [this, List.nil_append, lex_rem r (i + 1) q fun z => h (List.mem_cons_of_mem _ z)]
    congr 1; simp; omega
theorem lex_rem_end : ∀ (r : List Nat) (i : Nat), 10 ∉ r → lex .rem i r = []
  | [], i, _ => rfl
  | c :: r, i, h => by
    have hc : c ≠ 10 := fun z => h (by simp [z])
    rw [lex_cons]
    have : next .rem i c = ([], .rem) := by simp [next, hc]
    rw [this, List.nil_append, lex_rem_end r (i + 1) fun z => h (List.mem_cons_of_mem _ z)]
/-- a remark behind a token turns nothing but the places -/
theorem lex_remark {p q r : List Nat} {m : Mode} {i e : Nat} (hm : (run m i p).2 ≠ .rem) (he : i + p.length = e) (hr : 10 ∉ r) :
    lex m i (p ++ (35 :: r ++ 10 :: q)) = ((run m i p).1 ++ close (run m i p).2) ++ (lex .gap e q).map (shiftT (r.length + 2)) := by
  rw [lex_app, List.cons_append, lex_cons]
  have hn : next (run m i p).2 (i + p.length) 35 = (close (run m i p).2, .rem) := by
    cases h : (run m i p).2 with
    | rem => exact absurd h hm
    | gap => simp [next, close]
    | word j w => simp [next, close]
  rw [hn, lex_rem r _ q hr, ← lex_shift]
  simp only [shiftM, List.append_assoc]
  congr 3; omega
theorem word_off {j i : Nat} {w : List Nat} {c : Nat} {l : List Nat} (h : letter c = false) : lex (.word j w) i (c :: l) = (j, w) :: lex .gap i (c :: l) := by
  rw [lex_cons, lex_cons]
  simp only [next]
  by_cases h1 : c = 35
  · simp [h1]
  · cases h2 : ws c <;> simp [h1, h]
theorem lex_word {w r : List Nat} {i : Nat} (hn : w ≠ []) (hw : ∀ c ∈ w, letter c = true) (hr : ∀ c q, r = c :: q → letter c = false) : lex .gap i (w ++ r) = (i, w) :: lex .gap (i + w.length) r := by
  cases w with
  | nil => exact absurd rfl hn
  | cons c v =>
    have e : run .gap i (c :: v) = ([], .word i (c :: v)) := by
      rw [run_cons, next_gap (hw c List.mem_cons_self), run_word v [c] i (i + 1) fun d hd => hw d (List.mem_cons_of_mem _ hd)]
      simp
    rw [lex_app, e, List.nil_append]
    cases r with
    | nil => rfl
    | cons d r => rw [word_off (hr d r rfl)]
theorem lex_ws {c : Nat} {q : List Nat} {i : Nat} (h : ws c = true) : lex .gap i (c :: q) = lex .gap (i + 1) q := by
  rw [lex_cons]
  have h1 : c ≠ 35 := by intro z; subst z; revert h; decide
  simp [next, h, h1]
theorem lex_sign {c : Nat} {q : List Nat} {i : Nat} (h1 : c ≠ 35) (h2 : ws c = false) (h3 : letter c = false) : lex .gap i (c :: q) = (i, [c]) :: lex .gap (i + 1) q := by
  rw [lex_cons]
  simp [next, h1, h2, h3]
theorem lex_hash {r q : List Nat} {i : Nat} (h : 10 ∉ r) : lex .gap i (35 :: r ++ 10 :: q) = lex .gap (i + (35 :: r).length) (10 :: q) := by
  rw [List.cons_append, lex_cons]
  have : next .gap i 35 = ([], .rem) := by simp [next]
  rw [this, List.nil_append, lex_rem r (i + 1) q h, lex_ws (by decide)]
  congr 1; simp; omega
theorem lex_hash_end {r : List Nat} {i : Nat} (h : 10 ∉ r) : lex .gap i (35 :: r) = [] := by
  rw [lex_cons]
  have : next .gap i 35 = ([], .rem) := by simp [next]
  rw [this, List.nil_append, lex_rem_end r (i + 1) h]
/-- a token stands in the text -/
def InT (l : List Nat) (t : Tok) : Prop := ∃ p r, l = p ++ (t.2 ++ r) ∧ p.length = t.1
def AtM (p : List Nat) : Mode → Prop
  | .word j w => ∃ p0, p = p0 ++ w ∧ p0.length = j
  | _ => True
theorem lex_in {l : List Nat} : ∀ (q p : List Nat) (m : Mode) (i : Nat), l = p ++ q → p.length = i → AtM p m → ∀ t ∈ lex m i q, InT l t := by
  have atw : ∀ {p q : List Nat} {j : Nat} {w : List Nat}, l = p ++ q → AtM p (.word j w) → InT l (j, w) := by
    intro p q j w e ⟨p0, h1, h2⟩
    exact ⟨p0, q, by rw [e, h1]; simp, h2⟩
  intro q
  induction q with
  | nil =>
    intro p m i e hi hm t ht
    cases m with
    | word j w =>
      simp [lex_nil, close] at ht
      subst ht
      exact atw e hm
    | gap => simp [lex_nil, close] at ht
    | rem => simp [lex_nil, close] at ht
  | cons c q ih =>
    intro p m i e hi hm t ht
    have e' : l = (p ++ [c]) ++ q := by rw [e]; simp
    have hi' : (p ++ [c]).length = i + 1 := by simp [hi]
    have here : InT l (i, [c]) := ⟨p, q, by rw [e]; simp, hi⟩
    rw [lex_cons] at ht
    rcases List.mem_append.mp ht with ht | ht
    · cases m with
      | rem => simp [next] at ht
      | gap =>
        simp only [next] at ht
        by_cases h1 : c = 35
        · simp [h1] at ht
        · cases h2 : ws c <;> cases h3 : letter c <;> simp [h1, h2, h3] at ht
          subst ht; exact here
      | word j w =>
        simp only [next] at ht
        by_cases h1 : c = 35
        · simp [h1] at ht; subst ht; exact atw e hm
        · cases h2 : ws c <;> cases h3 : letter c <;> simp [h1, h2, h3] at ht
          · rcases ht with rfl | rfl
            · exact atw e hm
            · exact here
          · subst ht; exact atw e hm
          · subst ht; exact atw e hm
    · refine ih (p ++ [c]) _ _ e' hi' ?_ t ht
      cases m with
      | rem => simp only [next]; split <;> trivial
      | gap =>
        simp only [next]
        by_cases h1 : c = 35
        · simp [h1, AtM]
        · cases h2 : ws c <;> cases h3 : letter c <;> simp [h1, AtM]
          exact hi
      | word j w =>
        simp only [next]
        by_cases h1 : c = 35
        · simp [h1, AtM]
        · cases h2 : ws c <;> cases h3 : letter c <;> simp [h1, AtM]
          obtain ⟨p0, g1, g2⟩ := hm
          exact ⟨p0, by rw [g1]; simp, g2⟩
theorem InT.cut {l : List Nat} {t : Tok} (h : InT l t) : t.1 + t.2.length ≤ l.length ∧ (l.drop t.1).take t.2.length = t.2 := by
  obtain ⟨p, r, rfl, h⟩ := h
  refine ⟨by simp; omega, ?_⟩
  rw [← h, List.drop_left, List.take_left]
theorem next_len (m : Mode) (i c : Nat) : (next m i c).1.length + (close (next m i c).2).length ≤ (close m).length + 1 := by
  cases m with
  | rem => simp only [next]; split <;> simp [close]
  | gap =>
    simp only [next]
    by_cases h1 : c = 35
    · simp [h1, close]
    · cases h2 : ws c <;> cases h3 : letter c <;> simp [h1, close]
  | word j w =>
    simp only [next]
    by_cases h1 : c = 35
    · simp [h1, close]
    · cases h2 : ws c <;> cases h3 : letter c <;> simp [h1, close]
theorem lex_len : ∀ (l : List Nat) (m : Mode) (i : Nat), (lex m i l).length ≤ (close m).length + l.length
  | [], m, i => by simp [lex_nil]
  | c :: l, m, i => by
    rw [lex_cons, List.length_append]
    have h1 := next_len m i c
    have h2 := lex_len l (next m i c).2 (i + 1)
    simp; omega
def toks (ts : List Tok) : Nat := (ts.map fun t => t.2.length).sum
theorem toks_app (a b : List Tok) : toks (a ++ b) = toks a + toks b := by simp [toks]
theorem next_sum (m : Mode) (i c : Nat) : toks (next m i c).1 + toks (close (next m i c).2) ≤ toks (close m) + 1 := by
  cases m with
  | rem => simp only [next]; split <;> simp [close, toks]
  | gap =>
    simp only [next]
    by_cases h1 : c = 35
    · simp [h1, close, toks]
    · cases h2 : ws c <;> cases h3 : letter c <;> simp [h1, close, toks]
  | word j w =>
    simp only [next]
    by_cases h1 : c = 35
    · simp [h1, close, toks]
    · cases h2 : ws c <;> cases h3 : letter c <;> simp [h1, close, toks]
theorem lex_sum : ∀ (l : List Nat) (m : Mode) (i : Nat), toks (lex m i l) ≤ toks (close m) + l.length
  | [], m, i => by simp [lex_nil]
  | c :: l, m, i => by
    rw [lex_cons, toks_app]
    have h1 := next_sum m i c
    have h2 := lex_sum l (next m i c).2 (i + 1)
    simp; omega
end Lx

set_option maxHeartbeats 4000000
namespace G
open PySem PySem.Spec PyProof.Rows L2 Y

def topS (i : Nat) : Stmt := PySem.Challenge.pw_givesifgets_k05_tokens_and_their_places.main.body.getD i (.Pass ⟨0, 0, 0, 0⟩)

/-! ### _line_end -/
abbrev s_line_end : Stmt := topS 2
theorem sc_line_end : FnScope ["text", "at", "end"] ["text", "at"] (C8.fnScope s_line_end) := C8.fnScope_by (by decide +kernel)
noncomputable def B_line_end : DS :=
  (dSeq (dSet 2 (dMethS mFind (dVar 0) (dCons (dLit (.str "\n")) (dCons (dVar 1) dNil))))
    (dRet (dIf (fun ρ st => asB (dBin vLt (dVar 2) (dLit (.int 0)) ρ st)) (dCall gLen (dCons (dVar 0) dNil)) (dVar 2))))
noncomputable def F_line_end : Fn := dDef 3 B_line_end
theorem ok_line_end {P : Program} {w : World} {K : PySem.W.Frag} {mg : Str → Option Value} {base : Heap} {f : Addr} {fd : FuncData} (F : C8.Def K mg "_line_end" s_line_end f fd) (df : fd.defaults = .none) (z_len : mg "len" = none) : CalG P w K mg base 1 "_line_end" s_line_end ["text", "at"] 2 F_line_end := by
  have sc := sc_line_end
  refine calG_of (k := 0) (N := ["text", "at", "end"]) (D := B_line_end) F df sc rfl (fun _ _ _ _ _ _ us hl => match us, hl with | [_, _], _ => rfl) (fun f cdv A outer s H E hg hr => ?_)
  exact (y_seq (y_set (ps_set (i := 2) sc.nd rfl (.inl rfl) (y_methS rfl PySem.F.plainAttrs_str PySem.F.slot_str_find PySem.F.type_str_find mtFind (y_var (pv 0)) (y_cons y_str (y_cons (y_var (pv 1)) y_nil)))))
    (y_last (y_ret (y_if (y_tcmp (opLt rfl hr.units0) (y_var (pv 2)) y_int (nomark _)) (y_callB (cLen rfl) (by rfl) z_len (by decide +kernel) (y_cons (y_var (pv 0)) y_nil)) (y_var (pv 2))))))
/-! ### _token_end -/
abbrev s_token_end : Stmt := topS 3
theorem sc_token_end : FnScope ["text", "at", "end"] ["text", "at"] (C8.fnScope s_token_end) := C8.fnScope_by (by decide +kernel)
noncomputable def B_token_end : DS :=
  (dSeq (dSet 2 (dVar 1))
    (dSeq (dWhile (dAnd (fun ρ st => asB (dBin vLt (dVar 2) (dCall gLen (dCons (dVar 0) dNil)) ρ st)) (fun ρ st => asB (dBin (vIn false) (dBin vIx (dVar 0) (dVar 2)) (dLit (.str "abcdefghijklmnopqrstuvwxyzABCDEFGHIJKLMNOPQRSTUVWXYZ0123456789_")) ρ st)))
    (dAug 2 vIadd (dLit (.int 1))))
    (dRet (dCall gMax2 (dCons (dVar 2) (dCons (dBin vAdd (dVar 1) (dLit (.int 1))) dNil))))))
noncomputable def F_token_end : Fn := dDef 3 B_token_end
theorem ok_token_end {P : Program} {w : World} {K : PySem.W.Frag} {mg : Str → Option Value} {base : Heap} {f : Addr} {fd : FuncData} (F : C8.Def K mg "_token_end" s_token_end f fd) (df : fd.defaults = .none) (z_len : mg "len" = none) (z_max : mg "max" = none) {tk_WORD_SIGNS : Tok} (g_WORD_SIGNS : mg "WORD_SIGNS" = some (.str "abcdefghijklmnopqrstuvwxyzABCDEFGHIJKLMNOPQRSTUVWXYZ0123456789_" tk_WORD_SIGNS)) : CalG P w K mg base 1 "_token_end" s_token_end ["text", "at"] 2 F_token_end := by
  have sc := sc_token_end
  refine calG_of (k := 0) (N := ["text", "at", "end"]) (D := B_token_end) F df sc rfl (fun _ _ _ _ _ _ us hl => match us, hl with | [_, _], _ => rfl) (fun f cdv A outer s H E hg hr => ?_)
  exact (y_seq (y_set (ps_set (i := 2) sc.nd rfl (.inl rfl) (y_var (pv 1))))
    (y_seq (y_while PassesOwn.never (y_and (y_tcmp (opLt rfl hr.units0) (y_var (pv 2)) (y_callB (cLen rfl) (by rfl) z_len (by decide +kernel) (y_cons (y_var (pv 0)) y_nil)) (nomark _)) (y_pw1 (y_tcmp (opIn rfl (u65 hr)) (y_ix rfl (y_var (pv 0)) (y_var (pv 2))) (y_glob (by rfl) g_WORD_SIGNS (show RelV (.str _) _ from ⟨_, rfl⟩) (fun _ _ _ => .str _)) (by rfl)))).pt
    (y_last (y_aug (ps_aug (i := 2) sc.nd rfl (.inl rfl) y_int ipAdd))))
    (y_last (y_ret (y_callB (cMax2 rfl) (by rfl) z_max (by decide +kernel) (y_cons (y_var (pv 2)) (y_cons (y_op (opAdd rfl) (y_var (pv 1)) y_int) y_nil)))))))
/-! ### _spans -/
abbrev s_spans : Stmt := topS 4
theorem sc_spans : FnScope ["text", "spans", "at"] ["text"] (C8.fnScope s_spans) := C8.fnScope_by (by decide +kernel)
noncomputable def B_spans : DS :=
  (dSeq (dSet 1 (dNew dNil))
    (dSeq (dSet 2 (dLit (.int 0)))
    (dSeq (dWhile (fun ρ st => asB (dBin vLt (dVar 2) (dCall gLen (dCons (dVar 0) dNil)) ρ st))
    (dIfS (fun ρ st => asB (dBin (vIn false) (dBin vIx (dVar 0) (dVar 2)) (dLit (.str " \n")) ρ st))
    (dAug 2 vIadd (dLit (.int 1)))
    (dIfS (fun ρ st => asB (dBin (vEq false) (dBin vIx (dVar 0) (dVar 2)) (dLit (.str "#")) ρ st))
    (dSet 2 (dCalP 2 F_line_end (dCons (dVar 0) (dCons (dVar 2) dNil))))
    (dSeq (dExpr (dMeth mAppend (dVar 1) (dCons (dTup (dCons (dVar 2) (dCons (dCalP 2 F_token_end (dCons (dVar 0) (dCons (dVar 2) dNil))) dNil))) dNil)))
    (dSet 2 (dBin vIx (dBin vIx (dVar 1) (dUn vNeg (dLit (.int 1)))) (dLit (.int 1))))))))
    (dRet (dFz (dVar 1))))))
noncomputable def F_spans : Fn := dDef 3 B_spans
theorem ok_spans {P : Program} {w : World} {K : PySem.W.Frag} {mg : Str → Option Value} {base : Heap} {f : Addr} {fd : FuncData} (F : C8.Def K mg "_spans" s_spans f fd) (df : fd.defaults = .none) (z_len : mg "len" = none) (c_line_end : CalG P w K mg base 1 "_line_end" s_line_end ["text", "at"] 2 F_line_end) (c_token_end : CalG P w K mg base 1 "_token_end" s_token_end ["text", "at"] 2 F_token_end) : CalG P w K mg base 2 "_spans" s_spans ["text"] 1 F_spans := by
  have sc := sc_spans
  refine calG_of (k := 1) (N := ["text", "spans", "at"]) (D := B_spans) F df sc rfl (fun _ _ _ _ _ _ us hl => match us, hl with | [_], _ => rfl) (fun f cdv A outer s H E hg hr => ?_)
  exact (y_seq (y_set (ps_set (i := 1) sc.nd rfl (.inl rfl) (y_new y_nil)))
    (y_seq (y_set (ps_set (i := 2) sc.nd rfl (.inl rfl) y_int))
    (y_seq (y_while PassesOwn.never (y_tcmp (opLt rfl hr.units0) (y_var (pv 2)) (y_callB (cLen rfl) (by rfl) z_len (by decide +kernel) (y_cons (y_var (pv 0)) y_nil)) (nomark _))
    (y_last (y_ifS (y_tcmp (opIn rfl (u65 hr)) (y_ix rfl (y_var (pv 0)) (y_var (pv 2))) y_str (by rfl))
    (y_last (y_aug (ps_aug (i := 2) sc.nd rfl (.inl rfl) y_int ipAdd)))
    (y_last (y_ifS (y_tcmp (opEq rfl hr.units) (y_ix rfl (y_var (pv 0)) (y_var (pv 2))) y_str (nomark _))
    (y_last (y_set (ps_set (i := 2) sc.nd rfl (.inl rfl) (y_calP rfl c_line_end hr (by decide) hg (by rfl) (y_cons (y_var (pv 0)) (y_cons (y_var (pv 2)) y_nil))))))
    (y_seq (y_expr (y_meth rfl PySem.F.plainAttrs_list PySem.F.slot_list_append PySem.F.type_list_append mtAppend (y_var (pv 1)) (y_cons (y_tup (y_cons (y_var (pv 2)) (y_cons (y_calP rfl c_token_end hr (by decide) hg (by rfl) (y_cons (y_var (pv 0)) (y_cons (y_var (pv 2)) y_nil))) y_nil))) y_nil)))
    (y_last (y_set (ps_set (i := 2) sc.nd rfl (.inl rfl) (y_ix rfl (y_ix rfl (y_var (pv 1)) (y_un unNeg y_int)) y_int))))))))))
    (y_last (y_ret (y_fz (y_var (pv 1))))))))
/-! ### tokens_of -/
abbrev s_tokens_of : Stmt := topS 5
theorem sc_tokens_of : FnScope ["text", "start", "end"] ["text"] (C8.fnScope s_tokens_of) := C8.fnScope_by (by decide +kernel)
noncomputable def B_tokens_of : DS :=
  (dRet (dCall gTupleOf (dCons (dLcF (dLc [1, 2] (dIter (dCalP 1 F_spans (dCons (dVar 0) dNil))) (tTup' 2 (tCons' (tName 1) (tCons' (tName 2) tNil'))) (fun _ st => .ok true st) (dSl (dVar 0) (dPart (dVar 1)) (dPart (dVar 2))))) dNil)))
noncomputable def F_tokens_of : Fn := dDef 3 B_tokens_of
theorem ok_tokens_of {P : Program} {w : World} {K : PySem.W.Frag} {mg : Str → Option Value} {base : Heap} {f : Addr} {fd : FuncData} (F : C8.Def K mg "tokens_of" s_tokens_of f fd) (df : fd.defaults = .none) (z_tuple : mg "tuple" = none) (c_spans : CalG P w K mg base 2 "_spans" s_spans ["text"] 1 F_spans) : CalG P w K mg base 3 "tokens_of" s_tokens_of ["text"] 1 F_tokens_of := by
  have sc := sc_tokens_of
  refine calG_of (k := 2) (N := ["text", "start", "end"]) (D := B_tokens_of) F df sc rfl (fun _ _ _ _ _ _ us hl => match us, hl with | [_], _ => rfl) (fun f cdv A outer s H E hg hr => ?_)
  exact (y_last (y_ret (y_callTy (cTupleOf rfl) (by rfl) z_tuple (by decide +kernel) (y_cons (y_lcF rfl sc.nd (y_iter rfl (y_calP rfl c_spans hr (by decide) hg (by rfl) (y_cons (y_var (pv 0)) y_nil))) (blkOk_by (own := [("start", 1), ("end", 2)]) (by first | decide +kernel | kernel_rfl | rfl)) (fun _ _ _ _ _ => (y_gtup rfl rfl (y_gcons (y_gname (vs := [1, 2]) (pg_name (i := 1) sc.nd rfl (.inl rfl)) (by decide)) (y_gcons (y_gname (vs := [1, 2]) (pg_name (i := 2) sc.nd rfl (.inl rfl)) (by decide)) y_gnil)))) (fun _ _ _ _ _ => y_yes) (fun _ _ _ _ _ => (y_sl rfl (y_var (pv 0)) (y_part (y_var (pv 1))) (y_part (y_var (pv 2)))))) y_nil))))
/-! ### token_places -/
abbrev s_token_places : Stmt := topS 6
theorem sc_token_places : FnScope ["text", "start", "_"] ["text"] (C8.fnScope s_token_places) := C8.fnScope_by (by decide +kernel)
noncomputable def B_token_places : DS :=
  (dRet (dCall gTupleOf (dCons (dLcF (dLc [1, 2] (dIter (dCalP 1 F_spans (dCons (dVar 0) dNil))) (tTup' 2 (tCons' (tName 1) (tCons' (tName 2) tNil'))) (fun _ st => .ok true st) (dVar 1))) dNil)))
noncomputable def F_token_places : Fn := dDef 3 B_token_places
theorem ok_token_places {P : Program} {w : World} {K : PySem.W.Frag} {mg : Str → Option Value} {base : Heap} {f : Addr} {fd : FuncData} (F : C8.Def K mg "token_places" s_token_places f fd) (df : fd.defaults = .none) (z_tuple : mg "tuple" = none) (c_spans : CalG P w K mg base 2 "_spans" s_spans ["text"] 1 F_spans) : CalG P w K mg base 3 "token_places" s_token_places ["text"] 1 F_token_places := by
  have sc := sc_token_places
  refine calG_of (k := 2) (N := ["text", "start", "_"]) (D := B_token_places) F df sc rfl (fun _ _ _ _ _ _ us hl => match us, hl with | [_], _ => rfl) (fun f cdv A outer s H E hg hr => ?_)
  exact (y_last (y_ret (y_callTy (cTupleOf rfl) (by rfl) z_tuple (by decide +kernel) (y_cons (y_lcF rfl sc.nd (y_iter rfl (y_calP rfl c_spans hr (by decide) hg (by rfl) (y_cons (y_var (pv 0)) y_nil))) (blkOk_by (own := [("start", 1), ("_", 2)]) (by first | decide +kernel | kernel_rfl | rfl)) (fun _ _ _ _ _ => (y_gtup rfl rfl (y_gcons (y_gname (vs := [1, 2]) (pg_name (i := 1) sc.nd rfl (.inl rfl)) (by decide)) (y_gcons (y_gname (vs := [1, 2]) (pg_name (i := 2) sc.nd rfl (.inl rfl)) (by decide)) y_gnil)))) (fun _ _ _ _ _ => y_yes) (fun _ _ _ _ _ => (y_var (pv 1)))) y_nil))))
/-! ### _law_draw -/
abbrev s_l_draw : Stmt := topS 8
theorem sc_l_draw : FnScope ["script", "salt", "cells", "blend", "cell"] ["script", "salt"] (C8.fnScope s_l_draw) := C8.fnScope_by (by decide +kernel)
noncomputable def B_l_draw : DS :=
  (dSeq (dSet 2 (dLcF (dLc [4] (dIter (dSl (dVar 0) dNoP (dPart (dLit (.int 48))))) (tName 4) (fun _ st => .ok true st) (dCall gAbs (dCons (dCall gInt (dCons (dVar 4) dNil)) dNil)))))
    (dSeq (dSet 3 (dBin vAdd (dLit (.int 7919)) (dBin vMul (dLit (.int 104729)) (dVar 1))))
    (dSeq (dFor (dIter (dVar 2)) (tName 4)
    (dSet 3 (dBin vMod (dCall gInt (dCons (dBin vAdd (dBin vAdd (dBin vMul (dVar 3) (dLit (.int 48271))) (dBin vMod (dVar 4) (dLit (.int 2147483549)))) (dLit (.int 11))) dNil)) (dLit (.int 2147483647)))))
    (dRet (dNew (dCons (dRevN (dLcF (dLc [4] (dIter (dVar 2)) (tName 4) (fun ρ st => asB (dBin vGe (dVar 4) (dBin vPow (dLit (.int 10)) (dLit (.int 18))) ρ st)) (dVar 4)))) (dCons (dVar 3) dNil)))))))
noncomputable def F_l_draw : Fn := dDef 5 B_l_draw
theorem ok_l_draw {P : Program} {w : World} {K : PySem.W.Frag} {mg : Str → Option Value} {base : Heap} {f : Addr} {fd : FuncData} (F : C8.Def K mg "_law_draw" s_l_draw f fd) (df : fd.defaults = .none) (z_abs : mg "abs" = none) (z_int : mg "int" = none) : CalG P w K mg base 1 "_law_draw" s_l_draw ["script", "salt"] 2 F_l_draw := by
  have sc := sc_l_draw
  refine calG_of (k := 0) (N := ["script", "salt", "cells", "blend", "cell"]) (D := B_l_draw) F df sc rfl (fun _ _ _ _ _ _ us hl => match us, hl with | [_, _], _ => rfl) (fun f cdv A outer s H E hg hr => ?_)
  exact (y_seq (y_setLcF (i := 2) rfl sc.nd rfl rfl (sw_true rfl rfl rfl (by decide +kernel)) (y_iter rfl (y_sl rfl (y_var (pv 0)) y_noP (y_part y_int))) (blkOk_by (own := [("cell", 4)]) (by first | decide +kernel | kernel_rfl | rfl)) (fun _ _ _ _ _ => (y_gname (vs := [4]) (pg_name (i := 4) sc.nd rfl (.inl rfl)) (by decide))) (fun _ _ _ _ _ => y_yes) (fun _ _ _ _ _ => (y_callB cAbs (by rfl) z_abs (by decide +kernel) (y_cons (y_callTy cInt (by rfl) z_int (by decide +kernel) (y_cons (y_var (pv 4)) y_nil)) y_nil))))
    (y_seq (y_set (ps_set (i := 3) sc.nd rfl (.inl rfl) (y_op (opAdd rfl) y_int (y_op opMul y_int (y_var (pv 1))))))
    (y_seq (y_for (vs := [4]) PassesOwn.never rfl (y_iter rfl (y_var (pv 2))) (y_gname (vs := [4]) (pg_name (i := 4) sc.nd rfl (.inl rfl)) (by decide))
    (y_last (y_set (ps_set (i := 3) sc.nd rfl (.inl rfl) (y_op opMod (y_callTy cInt (by rfl) z_int (by decide +kernel) (y_cons (y_op (opAdd rfl) (y_op (opAdd rfl) (y_op opMul (y_var (pv 3)) y_int) (y_op opMod (y_var (pv 4)) y_int)) y_int) y_nil)) y_int)))))
    (y_last (y_ret (y_new (y_cons (y_revN rfl (y_lcF rfl sc.nd (y_iter rfl (y_var (pv 2))) (blkOk_by (own := [("cell", 4)]) (by first | decide +kernel | kernel_rfl | rfl)) (fun _ _ _ _ _ => (y_gname (vs := [4]) (pg_name (i := 4) sc.nd rfl (.inl rfl)) (by decide))) (fun _ _ _ _ _ => pts_one (y_tcmp opGe (y_var (pv 4)) (y_op opPow y_int y_int) (nomark _))) (fun _ _ _ _ _ => (y_var (pv 4))))) (y_cons (y_var (pv 3)) y_nil))))))))
/-! ### _law_any -/
abbrev s_l_any : Stmt := topS 9
theorem sc_l_any : FnScope ["deal", "bound", "rest"] ["deal", "bound"] (C8.fnScope s_l_any) := C8.fnScope_by (by decide +kernel)
noncomputable def B_l_any : DS :=
  (dSeq (dWhile (dAnd (fun ρ st => asB (dBin (vEq true) (dBin vIx (dVar 0) (dLit (.int 0))) (dLst dNil) ρ st)) (fun ρ st => asB (dBin (vEq false) (dBin vIx (dBin vIx (dVar 0) (dLit (.int 0))) (dUn vNeg (dLit (.int 1)))) (dLit (.int 0)) ρ st)))
    (dExpr (dMeth0 mPop (dBin vIx (dVar 0) (dLit (.int 0))))))
    (dSeq (dIfS (fun ρ st => asB (dBin (vEq true) (dBin vIx (dVar 0) (dLit (.int 0))) (dLst dNil) ρ st))
    (dSeq (dSet 2 (dCall gInt (dCons (dMeth0 mPop (dBin vIx (dVar 0) (dLit (.int 0)))) dNil)))
    (dSeq (dExpr (dMeth mAppend (dBin vIx (dVar 0) (dLit (.int 0))) (dCons (dBin vDiv (dVar 2) (dVar 1)) dNil)))
    (dRet (dBin vMod (dVar 2) (dVar 1)))))
    dEnd)
    (dSeq (dSetIx (dBin vMod (dCall gInt (dCons (dBin vAdd (dBin vMul (dBin vIx (dVar 0) (dLit (.int 1))) (dLit (.int 40693))) (dLit (.int 71))) dNil)) (dLit (.int 2147483647))) (dVar 0) (dLit (.int 1)))
    (dRet (dBin vMod (dCall gInt (dCons (dBin vDiv (dBin vIx (dVar 0) (dLit (.int 1))) (dLit (.int 64))) dNil)) (dVar 1))))))
noncomputable def F_l_any : Fn := dDef 3 B_l_any
theorem ok_l_any {P : Program} {w : World} {K : PySem.W.Frag} {mg : Str → Option Value} {base : Heap} {f : Addr} {fd : FuncData} (F : C8.Def K mg "_law_any" s_l_any f fd) (df : fd.defaults = .none) (z_int : mg "int" = none) : CalG P w K mg base 1 "_law_any" s_l_any ["deal", "bound"] 2 F_l_any := by
  have sc := sc_l_any
  refine calG_of (k := 0) (N := ["deal", "bound", "rest"]) (D := B_l_any) F df sc rfl (fun _ _ _ _ _ _ us hl => match us, hl with | [_, _], _ => rfl) (fun f cdv A outer s H E hg hr => ?_)
  exact (y_seq (y_while PassesOwn.never (y_and (y_tcmp (opNe rfl hr.units) (y_ix rfl (y_var (pv 0)) y_int) (y_lst y_nil) (nomark _)) (y_pw1 (y_tcmp (opEq rfl hr.units) (y_ix rfl (y_ix rfl (y_var (pv 0)) y_int) (y_un unNeg y_int)) y_int (nomark _)))).pt
    (y_last (y_expr (y_meth0 rfl PySem.F.plainAttrs_list PySem.F.slot_list_pop PySem.F.type_list_pop mtPop (y_ix rfl (y_var (pv 0)) y_int)))))
    (y_seq (y_ifS (y_tcmp (opNe rfl hr.units) (y_ix rfl (y_var (pv 0)) y_int) (y_lst y_nil) (nomark _))
    (y_seq (y_set (ps_set (i := 2) sc.nd rfl (.inl rfl) (y_callTy cInt (by rfl) z_int (by decide +kernel) (y_cons (y_meth0 rfl PySem.F.plainAttrs_list PySem.F.slot_list_pop PySem.F.type_list_pop mtPop (y_ix rfl (y_var (pv 0)) y_int)) y_nil))))
    (y_seq (y_expr (y_meth rfl PySem.F.plainAttrs_list PySem.F.slot_list_append PySem.F.type_list_append mtAppend (y_ix rfl (y_var (pv 0)) y_int) (y_cons (y_op opDiv (y_var (pv 2)) (y_var (pv 1))) y_nil)))
    (y_last (y_ret (y_op opMod (y_var (pv 2)) (y_var (pv 1)))))))
    y_end)
    (y_seq (y_setIx (y_op opMod (y_callTy cInt (by rfl) z_int (by decide +kernel) (y_cons (y_op (opAdd rfl) (y_op opMul (y_ix rfl (y_var (pv 0)) y_int) y_int) y_int) y_nil)) y_int) (y_var (pv 0)) y_int)
    (y_last (y_ret (y_op opMod (y_callTy cInt (by rfl) z_int (by decide +kernel) (y_cons (y_op opDiv (y_ix rfl (y_var (pv 0)) y_int) y_int) y_nil)) (y_var (pv 1))))))))
/-! ### _law_of -/
abbrev s_l_of : Stmt := topS 10
theorem sc_l_of : FnScope ["deal", "some"] ["deal", "some"] (C8.fnScope s_l_of) := C8.fnScope_by (by decide +kernel)
noncomputable def B_l_of : DS :=
  (dRet (dBin vIx (dVar 1) (dCal 2 F_l_any (dCons (dVar 0) (dCons (dCall gLen (dCons (dVar 1) dNil)) dNil)))))
noncomputable def F_l_of : Fn := dDef 2 B_l_of
theorem ok_l_of {P : Program} {w : World} {K : PySem.W.Frag} {mg : Str → Option Value} {base : Heap} {f : Addr} {fd : FuncData} (F : C8.Def K mg "_law_of" s_l_of f fd) (df : fd.defaults = .none) (z_len : mg "len" = none) (c_l_any : CalG P w K mg base 1 "_law_any" s_l_any ["deal", "bound"] 2 F_l_any) : CalG P w K mg base 2 "_law_of" s_l_of ["deal", "some"] 2 F_l_of := by
  have sc := sc_l_of
  refine calG_of (k := 1) (N := ["deal", "some"]) (D := B_l_of) F df sc rfl (fun _ _ _ _ _ _ us hl => match us, hl with | [_, _], _ => rfl) (fun f cdv A outer s H E hg hr => ?_)
  exact (y_last (y_ret (y_ix rfl (y_var (pv 1)) (y_cal rfl c_l_any hr (by decide) hg (by rfl) (y_cons (y_var (pv 0)) (y_cons (y_callB (cLen rfl) (by rfl) z_len (by decide +kernel) (y_cons (y_var (pv 1)) y_nil)) y_nil))))))
/-! ### _law_mixed -/
abbrev s_l_mixed : Stmt := topS 11
theorem sc_l_mixed : FnScope ["deal", "some", "left", "found"] ["deal", "some"] (C8.fnScope s_l_mixed) := C8.fnScope_by (by decide +kernel)
noncomputable def B_l_mixed : DS :=
  (dSeq (dPar 2 3 (dCons (dCall gListNew (dCons (dVar 1) dNil)) (dCons (dNew dNil) dNil)))
    (dSeq (dWhile (fun ρ st => asB (dBin (vEq true) (dVar 2) (dLst dNil) ρ st))
    (dExpr (dMeth mAppend (dVar 3) (dCons (dMeth mPopAt (dVar 2) (dCons (dCal 2 F_l_any (dCons (dVar 0) (dCons (dCall gLen (dCons (dVar 2) dNil)) dNil))) dNil)) dNil))))
    (dRet (dFz (dVar 3)))))
noncomputable def F_l_mixed : Fn := dDef 4 B_l_mixed
theorem ok_l_mixed {P : Program} {w : World} {K : PySem.W.Frag} {mg : Str → Option Value} {base : Heap} {f : Addr} {fd : FuncData} (F : C8.Def K mg "_law_mixed" s_l_mixed f fd) (df : fd.defaults = .none) (z_len : mg "len" = none) (z_list : mg "list" = none) (c_l_any : CalG P w K mg base 1 "_law_any" s_l_any ["deal", "bound"] 2 F_l_any) : CalG P w K mg base 2 "_law_mixed" s_l_mixed ["deal", "some"] 2 F_l_mixed := by
  have sc := sc_l_mixed
  refine calG_of (k := 1) (N := ["deal", "some", "left", "found"]) (D := B_l_mixed) F df sc rfl (fun _ _ _ _ _ _ us hl => match us, hl with | [_, _], _ => rfl) (fun f cdv A outer s H E hg hr => ?_)
  exact (y_seq (y_par (ps_par (i := 2) (j := 3) rfl sc.nd rfl rfl (by decide) rfl rfl (y_cons (y_callTy (cListNew rfl) (by rfl) z_list (by decide +kernel) (y_cons (y_var (pv 1)) y_nil)) (y_cons (y_new y_nil) y_nil)) (by rfl)))
    (y_seq (y_while PassesOwn.never (y_tcmp (opNe rfl hr.units) (y_var (pv 2)) (y_lst y_nil) (nomark _))
    (y_last (y_expr (y_meth rfl PySem.F.plainAttrs_list PySem.F.slot_list_append PySem.F.type_list_append mtAppend (y_var (pv 3)) (y_cons (y_meth rfl PySem.F.plainAttrs_list PySem.F.slot_list_pop PySem.F.type_list_pop mtPopAt (y_var (pv 2)) (y_cons (y_cal rfl c_l_any hr (by decide) hg (by rfl) (y_cons (y_var (pv 0)) (y_cons (y_callB (cLen rfl) (by rfl) z_len (by decide +kernel) (y_cons (y_var (pv 2)) y_nil)) y_nil))) y_nil)) y_nil)))))
    (y_last (y_ret (y_fz (y_var (pv 3)))))))
/-! ### _law_text -/
abbrev s_l_text : Stmt := topS 12
theorem sc_l_text : FnScope ["deal", "some", "turn"] ["deal"] (C8.fnScope s_l_text) := C8.fnScope_by (by decide +kernel)
noncomputable def B_l_text : DS :=
  (dSeq (dSet 1 (dLst (dCons (dLit (.str "a")) (dCons (dLit (.str "B_7")) (dCons (dLit (.str "kind")) (dCons (dLit (.str "0")) (dCons (dLit (.str "12")) (dCons (dLit (.str "007")) (dCons (dLit (.str "9x")) (dCons (dLit (.str "_")) (dCons (dLit (.str "-")) (dCons (dLit (.str ">")) (dCons (dLit (.str "=")) (dCons (dLit (.str ";")) (dCons (dLit (.str ":")) (dCons (dLit (.str "{")) (dCons (dLit (.str "}")) (dCons (dLit (.str "[")) (dCons (dLit (.str "(")) (dCons (dLit (.str "'")) (dCons (dLit (.str "free")) (dCons (dLit (.str "to")) dNil))))))))))))))))))))))
    (dSeq (dSet 1 (dBin vAdd (dVar 1) (dLst (dCons (dLit (.str ",")) (dCons (dLit (.str "?")) (dCons (dLit (.str "*")) (dCons (dLit (.str "$")) (dCons (dLit (.str "~")) (dCons (dLit (.str "!")) (dCons (dLit (.str "zZ09")) (dCons (dLit (.str "order:")) (dCons (dLit (.str "::")) (dCons (dLit (.str ";;")) (dCons (dLit (.str " ")) (dCons (dLit (.str " ")) (dCons (dLit (.str "  ")) (dCons (dLit (.str "\n")) (dCons (dLit (.str "\n ")) (dCons (dLit (.str "#")) (dCons (dLit (.str "##\n")) dNil))))))))))))))))))))
    (dSeq (dSet 1 (dBin vAdd (dVar 1) (dLst (dCons (dLit (.str "# so : it is")) (dCons (dLit (.str " # a ; 3\n")) (dCons (dLit (.str "#\n#")) (dCons (dLit (.str "|")) (dCons (dLit (.str "&")) (dCons (dLit (.str "+")) dNil)))))))))
    (dRet (dMethS mJoin (dLit (.str "")) (dCons (dLcF (dLc [2] (dRng1 (dCons (dCal 2 F_l_any (dCons (dVar 0) (dCons (dLit (.int 24)) dNil))) dNil)) (tName 2) (fun _ st => .ok true st) (dCal 2 F_l_of (dCons (dVar 0) (dCons (dVar 1) dNil))))) dNil))))))
noncomputable def F_l_text : Fn := dDef 3 B_l_text
theorem ok_l_text {P : Program} {w : World} {K : PySem.W.Frag} {mg : Str → Option Value} {base : Heap} {f : Addr} {fd : FuncData} (F : C8.Def K mg "_law_text" s_l_text f fd) (df : fd.defaults = .none) (z_range : mg "range" = none) (c_l_any : CalG P w K mg base 1 "_law_any" s_l_any ["deal", "bound"] 2 F_l_any) (c_l_of : CalG P w K mg base 2 "_law_of" s_l_of ["deal", "some"] 2 F_l_of) : CalG P w K mg base 3 "_law_text" s_l_text ["deal"] 1 F_l_text := by
  have sc := sc_l_text
  refine calG_of (k := 2) (N := ["deal", "some", "turn"]) (D := B_l_text) F df sc rfl (fun _ _ _ _ _ _ us hl => match us, hl with | [_], _ => rfl) (fun f cdv A outer s H E hg hr => ?_)
  exact (y_seq (y_set (ps_set (i := 1) sc.nd rfl (.inr rfl) (y_lst (y_cons y_str (y_cons y_str (y_cons y_str (y_cons y_str (y_cons y_str (y_cons y_str (y_cons y_str (y_cons y_str (y_cons y_str (y_cons y_str (y_cons y_str (y_cons y_str (y_cons y_str (y_cons y_str (y_cons y_str (y_cons y_str (y_cons y_str (y_cons y_str (y_cons y_str (y_cons y_str y_nil)))))))))))))))))))))))
    (y_seq (y_set (ps_set (i := 1) sc.nd rfl (.inr rfl) (y_op (opAdd rfl) (y_var (pv 1)) (y_lst (y_cons y_str (y_cons y_str (y_cons y_str (y_cons y_str (y_cons y_str (y_cons y_str (y_cons y_str (y_cons y_str (y_cons y_str (y_cons y_str (y_cons y_str (y_cons y_str (y_cons y_str (y_cons y_str (y_cons y_str (y_cons y_str (y_cons y_str y_nil)))))))))))))))))))))
    (y_seq (y_set (ps_set (i := 1) sc.nd rfl (.inr rfl) (y_op (opAdd rfl) (y_var (pv 1)) (y_lst (y_cons y_str (y_cons y_str (y_cons y_str (y_cons y_str (y_cons y_str (y_cons y_str y_nil))))))))))
    (y_last (y_ret (y_methS rfl PySem.F.plainAttrs_str PySem.F.slot_str_join PySem.F.type_str_join (mtJoin rfl) y_str (y_cons (y_lcF rfl sc.nd (y_rng1 (by rfl) z_range (y_cons (y_cal rfl c_l_any hr (by decide) hg (by rfl) (y_cons (y_var (pv 0)) (y_cons y_int y_nil))) y_nil)) (blkOk_by (own := [("turn", 2)]) (by first | decide +kernel | kernel_rfl | rfl)) (fun _ _ _ _ _ => (y_gname (vs := [2]) (pg_name (i := 2) sc.nd rfl (.inl rfl)) (by decide))) (fun _ _ _ _ _ => y_yes) (fun _ _ _ _ _ => (y_cal rfl c_l_of hr (by decide) hg (by rfl) (y_cons (y_var (pv 0)) (y_cons (y_var (pv 1)) y_nil))))) y_nil)))))))
/-! ### _law_is_letter -/
abbrev s_l_is_letter : Stmt := topS 13
theorem sc_l_is_letter : FnScope ["sign"] ["sign"] (C8.fnScope s_l_is_letter) := C8.fnScope_by (by decide +kernel)
noncomputable def B_l_is_letter : DS :=
  (dRet (dOrV (dBin (vEq false) (dVar 0) (dLit (.str "_"))) (dOrV (dChain vLe vLe (dLit (.str "a")) (dVar 0) (dLit (.str "z"))) (dOrV (dChain vLe vLe (dLit (.str "A")) (dVar 0) (dLit (.str "Z"))) (dChain vLe vLe (dLit (.str "0")) (dVar 0) (dLit (.str "9")))))))
noncomputable def F_l_is_letter : Fn := dDef 1 B_l_is_letter
theorem ok_l_is_letter {P : Program} {w : World} {K : PySem.W.Frag} {mg : Str → Option Value} {base : Heap} {f : Addr} {fd : FuncData} (F : C8.Def K mg "_law_is_letter" s_l_is_letter f fd) (df : fd.defaults = .none) : CalG P w K mg base 1 "_law_is_letter" s_l_is_letter ["sign"] 1 F_l_is_letter := by
  have sc := sc_l_is_letter
  refine calG_of (k := 0) (N := ["sign"]) (D := B_l_is_letter) F df sc rfl (fun _ _ _ _ _ _ us hl => match us, hl with | [_], _ => rfl) (fun f cdv A outer s H E hg hr => ?_)
  exact (y_last (y_ret (y_orV (y_cmp (opEq rfl hr.units) (y_var (pv 0)) y_str (nomark _)) (y_orV (y_chain opLe opLe y_str (y_var (pv 0)) y_str) (y_orV (y_chain opLe opLe y_str (y_var (pv 0)) y_str) (y_one (y_chain opLe opLe y_str (y_var (pv 0)) y_str)))))))
/-! ### _law_walk -/
abbrev s_l_walk : Stmt := topS 14
theorem sc_l_walk : FnScope ["text", "found", "state", "at", "sign"] ["text"] (C8.fnScope s_l_walk) := C8.fnScope_by (by decide +kernel)
noncomputable def B_l_walk : DS :=
  (dSeq (dPar 1 2 (dCons (dNew dNil) (dCons (dLit (.str "gap")) dNil)))
    (dSeq (dFor (dEnum (dVar 0)) (tTup' 2 (tCons' (tName 3) (tCons' (tName 4) tNil')))
    (dIfS (fun ρ st => asB (dBin (vEq false) (dVar 2) (dLit (.str "remark")) ρ st))
    (dSet 2 (dIf (fun ρ st => asB (dBin (vEq false) (dVar 4) (dLit (.str "\n")) ρ st)) (dLit (.str "gap")) (dLit (.str "remark"))))
    (dIfS (fun ρ st => asB (dBin (vEq false) (dVar 4) (dLit (.str "#")) ρ st))
    (dSet 2 (dLit (.str "remark")))
    (dIfS (fun ρ st => asB (dBin (vIn false) (dVar 4) (dLst (dCons (dLit (.str " ")) (dCons (dLit (.str "\n")) dNil))) ρ st))
    (dSet 2 (dLit (.str "gap")))
    (dIfS (dAnd (fun ρ st => asB ((dCalP 1 F_l_is_letter (dCons (dVar 4) dNil)) ρ st)) (fun ρ st => asB (dBin (vEq false) (dVar 2) (dLit (.str "word")) ρ st)))
    (dSetIx (dTup (dCons (dBin vIx (dBin vIx (dVar 1) (dUn vNeg (dLit (.int 1)))) (dLit (.int 0))) (dCons (dBin vAdd (dBin vIx (dBin vIx (dVar 1) (dUn vNeg (dLit (.int 1)))) (dLit (.int 1))) (dVar 4)) dNil))) (dVar 1) (dUn vNeg (dLit (.int 1))))
    (dSeq (dExpr (dMeth mAppend (dVar 1) (dCons (dTup (dCons (dVar 3) (dCons (dVar 4) dNil))) dNil)))
    (dSet 2 (dIf (fun ρ st => asB ((dCalP 1 F_l_is_letter (dCons (dVar 4) dNil)) ρ st)) (dLit (.str "word")) (dLit (.str "sign"))))))))))
    (dRet (dFz (dVar 1)))))
noncomputable def F_l_walk : Fn := dDef 5 B_l_walk
theorem ok_l_walk {P : Program} {w : World} {K : PySem.W.Frag} {mg : Str → Option Value} {base : Heap} {f : Addr} {fd : FuncData} (F : C8.Def K mg "_law_walk" s_l_walk f fd) (df : fd.defaults = .none) (z_enumerate : mg "enumerate" = none) (c_l_is_letter : CalG P w K mg base 1 "_law_is_letter" s_l_is_letter ["sign"] 1 F_l_is_letter) : CalG P w K mg base 2 "_law_walk" s_l_walk ["text"] 1 F_l_walk := by
  have sc := sc_l_walk
  refine calG_of (k := 1) (N := ["text", "found", "state", "at", "sign"]) (D := B_l_walk) F df sc rfl (fun _ _ _ _ _ _ us hl => match us, hl with | [_], _ => rfl) (fun f cdv A outer s H E hg hr => ?_)
  exact (y_seq (y_par (ps_par (i := 1) (j := 2) rfl sc.nd rfl rfl (by decide) rfl rfl (y_cons (y_new y_nil) (y_cons y_str y_nil)) (by rfl)))
    (y_seq (y_for (vs := [3, 4]) PassesOwn.never rfl (y_enum rfl (by rfl) z_enumerate (y_var (pv 0))) (y_gtup rfl rfl (y_gcons (y_gname (vs := [3, 4]) (pg_name (i := 3) sc.nd rfl (.inl rfl)) (by decide)) (y_gcons (y_gname (vs := [3, 4]) (pg_name (i := 4) sc.nd rfl (.inl rfl)) (by decide)) y_gnil)))
    (y_last (y_ifS (y_tcmp (opEq rfl hr.units) (y_var (pv 2)) y_str (nomark _))
    (y_last (y_set (ps_set (i := 2) sc.nd rfl (.inl rfl) (y_if (y_tcmp (opEq rfl hr.units) (y_var (pv 4)) y_str (nomark _)) y_str y_str))))
    (y_last (y_ifS (y_tcmp (opEq rfl hr.units) (y_var (pv 4)) y_str (nomark _))
    (y_last (y_set (ps_set (i := 2) sc.nd rfl (.inl rfl) y_str)))
    (y_last (y_ifS (y_tcmp (opIn rfl (u65 hr)) (y_var (pv 4)) (y_lst (y_cons y_str (y_cons y_str y_nil))) (by rfl))
    (y_last (y_set (ps_set (i := 2) sc.nd rfl (.inl rfl) y_str)))
    (y_last (y_ifS (y_and (y_tval (y_calP rfl c_l_is_letter hr (by decide) hg (by rfl) (y_cons (y_var (pv 4)) y_nil))) (y_pw1 (y_tcmp (opEq rfl hr.units) (y_var (pv 2)) y_str (nomark _)))).pt
    (y_last (y_setIx (y_tup (y_cons (y_ix rfl (y_ix rfl (y_var (pv 1)) (y_un unNeg y_int)) y_int) (y_cons (y_op (opAdd rfl) (y_ix rfl (y_ix rfl (y_var (pv 1)) (y_un unNeg y_int)) y_int) (y_var (pv 4))) y_nil))) (y_var (pv 1)) (y_un unNeg y_int)))
    (y_seq (y_expr (y_meth rfl PySem.F.plainAttrs_list PySem.F.slot_list_append PySem.F.type_list_append mtAppend (y_var (pv 1)) (y_cons (y_tup (y_cons (y_var (pv 3)) (y_cons (y_var (pv 4)) y_nil))) y_nil)))
    (y_last (y_set (ps_set (i := 2) sc.nd rfl (.inl rfl) (y_if (y_tval (y_calP rfl c_l_is_letter hr (by decide) hg (by rfl) (y_cons (y_var (pv 4)) y_nil))) y_str y_str))))))))))))))
    (y_last (y_ret (y_fz (y_var (pv 1)))))))
/-! ### law -/
abbrev s_law : Stmt := topS 15
theorem sc_law : FnScope ["script", "deal", "text", "due", "tokens", "places", "turn", "at", "end", "more", "token", "place"] ["script"] (C8.fnScope s_law) := C8.fnScope_by (by decide +kernel)
noncomputable def B_law : DS :=
  (dSeq (dSet 1 (dCal 2 F_l_draw (dCons (dVar 0) (dCons (dLit (.int 5)) dNil))))
    (dSeq (dSet 2 (dCal 1 F_l_text (dCons (dVar 1) dNil)))
    (dSeq (dSet 3 (dCalP 1 F_l_walk (dCons (dVar 2) dNil)))
    (dSeq (dAsg (dTup (dCons (dCall gTupleOf (dCons (dLcF (dLc [7, 10] (dIter (dVar 3)) (tTup' 2 (tCons' (tName 7) (tCons' (tName 10) tNil'))) (fun _ st => .ok true st) (dVar 10))) dNil)) (dCons (dCall gTupleOf (dCons (dLcF (dLc [7, 10] (dIter (dVar 3)) (tTup' 2 (tCons' (tName 7) (tCons' (tName 10) tNil'))) (fun _ st => .ok true st) (dVar 7))) dNil)) dNil))) (tTup' 2 (tCons' (tName 4) (tCons' (tName 5) tNil'))))
    (dSeq (dFor (dRng1 (dCons (dLit (.int 2)) dNil)) (tName 6)
    (dIfS (dOr (fun ρ st => asB (dBin (vEq true) (dCall gRepr (dCons (dCalP 1 (fun ws => F_tokens_of (pick [0] ws)) (dCons (dVar 2) dNil)) dNil)) (dCall gRepr (dCons (dVar 4) dNil)) ρ st)) (fun ρ st => asB (dBin (vEq true) (dCall gRepr (dCons (dCalP 1 (fun ws => F_token_places (pick [0] ws)) (dCons (dVar 2) dNil)) dNil)) (dCall gRepr (dCons (dVar 5) dNil)) ρ st)))
    (dRet (dLit (.bool false)))
    dEnd))
    (dSeq (dIfS (dOr (fun ρ st => asB (dBin (vEq true) (dCalP 1 F_tokens_of (dCons (dMethS mJoin (dLit (.str " ")) (dCons (dVar 4) dNil)) dNil)) (dVar 4) ρ st)) (fun ρ st => asB (dBin (vEq true) (dCalP 1 F_tokens_of (dCons (dMethS mJoin (dLit (.str "\n")) (dCons (dVar 4) dNil)) dNil)) (dVar 4) ρ st)))
    (dRet (dLit (.bool false)))
    dEnd)
    (dSeq (dIfS (fun ρ st => asB (dBin (vEq true) (dCalP 1 F_token_places (dCons (dMethS mJoin (dLit (.str " ")) (dCons (dVar 4) dNil)) dNil)) (dCall gTupleOf (dCons (dLcF (dLc [7] (dRng1 (dCons (dCall gLen (dCons (dVar 4) dNil)) dNil)) (tName 7) (fun _ st => .ok true st) (dCall gSum (dCons (dLcF (dLc [10] (dIter (dSl (dVar 4) dNoP (dPart (dVar 7)))) (tName 10) (fun _ st => .ok true st) (dBin vAdd (dCall gLen (dCons (dVar 10) dNil)) (dLit (.int 1))))) dNil)))) dNil)) ρ st))
    (dRet (dLit (.bool false)))
    dEnd)
    (dSeq (dIfS (fun ρ st => asB (dBin (vEq true) (dVar 3) (dLst dNil) ρ st))
    (dSeq (dSet 7 (dCal 2 F_l_any (dCons (dVar 1) (dCons (dCall gLen (dCons (dVar 3) dNil)) dNil))))
    (dSeq (dSet 8 (dBin vAdd (dBin vIx (dBin vIx (dVar 3) (dVar 7)) (dLit (.int 0))) (dCall gLen (dCons (dBin vIx (dBin vIx (dVar 3) (dVar 7)) (dLit (.int 1))) dNil))))
    (dSeq (dSet 9 (dBin vAdd (dBin vAdd (dSl (dVar 2) dNoP (dPart (dVar 8))) (dLit (.str "# : 3 ; xy\n"))) (dSl (dVar 2) (dPart (dVar 8)) dNoP)))
    (dIfS (dOr (fun ρ st => asB (dBin (vEq true) (dCalP 1 F_tokens_of (dCons (dVar 9) dNil)) (dVar 4) ρ st)) (fun ρ st => asB (dBin (vEq true) (dSl (dCalP 1 F_token_places (dCons (dVar 9) dNil)) (dPart (dBin vAdd (dVar 7) (dLit (.int 1)))) dNoP) (dCall gTupleOf (dCons (dLcF (dLc [11] (dIter (dSl (dVar 5) (dPart (dBin vAdd (dVar 7) (dLit (.int 1)))) dNoP)) (tName 11) (fun _ st => .ok true st) (dBin vAdd (dVar 11) (dLit (.int 11))))) dNil)) ρ st)))
    (dRet (dLit (.bool false)))
    dEnd))))
    dEnd)
    (dRet (dAndV (dBin (vEq false) (dCalP 1 F_tokens_of (dCons (dLit (.str "")) dNil)) (dTup dNil)) (dBin (vEq false) (dCalP 1 F_token_places (dCons (dLit (.str "# a")) dNil)) (dTup dNil))))))))))))
noncomputable def F_law : Fn := dDef 12 B_law
theorem ok_law {P : Program} {w : World} {K : PySem.W.Frag} {mg : Str → Option Value} {base : Heap} {f : Addr} {fd : FuncData} (F : C8.Def K mg "law" s_law f fd) (df : fd.defaults = .none) (z_len : mg "len" = none) (z_range : mg "range" = none) (z_repr : mg "repr" = none) (z_sum : mg "sum" = none) (z_tuple : mg "tuple" = none) (c_l_draw : CalG P w K mg base 1 "_law_draw" s_l_draw ["script", "salt"] 2 F_l_draw) (c_l_text : CalG P w K mg base 3 "_law_text" s_l_text ["deal"] 1 F_l_text) (c_l_walk : CalG P w K mg base 2 "_law_walk" s_l_walk ["text"] 1 F_l_walk) (c_tokens_of : CalG P w K mg base 3 "tokens_of" s_tokens_of ["text"] 1 F_tokens_of) (c_token_places : CalG P w K mg base 3 "token_places" s_token_places ["text"] 1 F_token_places) (c_l_any : CalG P w K mg base 1 "_law_any" s_l_any ["deal", "bound"] 2 F_l_any) : CalG P w K mg base 4 "law" s_law ["script"] 1 F_law := by
  have sc := sc_law
  refine calG_of (k := 3) (N := ["script", "deal", "text", "due", "tokens", "places", "turn", "at", "end", "more", "token", "place"]) (D := B_law) F df sc rfl (fun _ _ _ _ _ _ us hl => match us, hl with | [_], _ => rfl) (fun f cdv A outer s H E hg hr => ?_)
  exact (y_seq (y_set (ps_set (i := 1) sc.nd rfl (.inl rfl) (y_cal rfl c_l_draw hr (by decide) hg (by rfl) (y_cons (y_var (pv 0)) (y_cons y_int y_nil)))))
    (y_seq (y_set (ps_set (i := 2) sc.nd rfl (.inl rfl) (y_cal rfl c_l_text hr (by decide) hg (by rfl) (y_cons (y_var (pv 1)) y_nil))))
    (y_seq (y_set (ps_set (i := 3) sc.nd rfl (.inl rfl) (y_calP rfl c_l_walk hr (by decide) hg (by rfl) (y_cons (y_var (pv 2)) y_nil))))
    (y_seq (y_asg (vs := [4, 5]) (y_tup (y_cons (y_callTy (cTupleOf rfl) (by rfl) z_tuple (by decide +kernel) (y_cons (y_lcF rfl sc.nd (y_iter rfl (y_var (pv 3))) (blkOk_by (own := [("at", 7), ("token", 10)]) (by first | decide +kernel | kernel_rfl | rfl)) (fun _ _ _ _ _ => (y_gtup rfl rfl (y_gcons (y_gname (vs := [7, 10]) (pg_name (i := 7) sc.nd rfl (.inl rfl)) (by decide)) (y_gcons (y_gname (vs := [7, 10]) (pg_name (i := 10) sc.nd rfl (.inl rfl)) (by decide)) y_gnil)))) (fun _ _ _ _ _ => y_yes) (fun _ _ _ _ _ => (y_var (pv 10)))) y_nil)) (y_cons (y_callTy (cTupleOf rfl) (by rfl) z_tuple (by decide +kernel) (y_cons (y_lcF rfl sc.nd (y_iter rfl (y_var (pv 3))) (blkOk_by (own := [("at", 7), ("token", 10)]) (by first | decide +kernel | kernel_rfl | rfl)) (fun _ _ _ _ _ => (y_gtup rfl rfl (y_gcons (y_gname (vs := [7, 10]) (pg_name (i := 7) sc.nd rfl (.inl rfl)) (by decide)) (y_gcons (y_gname (vs := [7, 10]) (pg_name (i := 10) sc.nd rfl (.inl rfl)) (by decide)) y_gnil)))) (fun _ _ _ _ _ => y_yes) (fun _ _ _ _ _ => (y_var (pv 7)))) y_nil)) y_nil))) (y_gtup rfl rfl (y_gcons (y_gname (vs := [4, 5]) (pg_name (i := 4) sc.nd rfl (.inr rfl)) (by decide)) (y_gcons (y_gname (vs := [4, 5]) (pg_name (i := 5) sc.nd rfl (.inl rfl)) (by decide)) y_gnil))))
    (y_seq (y_for (vs := [6]) PassesOwn.never rfl (y_rng1 (by rfl) z_range (y_cons y_int y_nil)) (y_gname (vs := [6]) (pg_name (i := 6) sc.nd rfl (.inl rfl)) (by decide))
    (y_last (y_ifS (y_or (y_tcmp (opNe rfl hr.units) (y_callB (cRepr rfl hg (u66 hr)) (by rfl) z_repr (by decide +kernel) (y_cons (y_calK (pm := [0]) rfl c_tokens_of hr (by decide) hg (by rfl) (y_kcons (y_var (pv 2)) y_knil) (fun _ _ _ _ _ _ us hl => match us, hl with | [_], _ => rfl) (fun ws hl => match ws, hl with | [_], _ => rfl)) y_nil)) (y_callB (cRepr rfl hg (u66 hr)) (by rfl) z_repr (by decide +kernel) (y_cons (y_var (pv 4)) y_nil)) (nomark _)) (y_pw1 (y_tcmp (opNe rfl hr.units) (y_callB (cRepr rfl hg (u66 hr)) (by rfl) z_repr (by decide +kernel) (y_cons (y_calK (pm := [0]) rfl c_token_places hr (by decide) hg (by rfl) (y_kcons (y_var (pv 2)) y_knil) (fun _ _ _ _ _ _ us hl => match us, hl with | [_], _ => rfl) (fun ws hl => match ws, hl with | [_], _ => rfl)) y_nil)) (y_callB (cRepr rfl hg (u66 hr)) (by rfl) z_repr (by decide +kernel) (y_cons (y_var (pv 5)) y_nil)) (nomark _)))).pt
    (y_last (y_ret y_bl))
    y_end)))
    (y_seq (y_ifS (y_or (y_tcmp (opNe rfl hr.units) (y_calP rfl c_tokens_of hr (by decide) hg (by rfl) (y_cons (y_methS rfl PySem.F.plainAttrs_str PySem.F.slot_str_join PySem.F.type_str_join (mtJoin rfl) y_str (y_cons (y_var (pv 4)) y_nil)) y_nil)) (y_var (pv 4)) (nomark _)) (y_pw1 (y_tcmp (opNe rfl hr.units) (y_calP rfl c_tokens_of hr (by decide) hg (by rfl) (y_cons (y_methS rfl PySem.F.plainAttrs_str PySem.F.slot_str_join PySem.F.type_str_join (mtJoin rfl) y_str (y_cons (y_var (pv 4)) y_nil)) y_nil)) (y_var (pv 4)) (nomark _)))).pt
    (y_last (y_ret y_bl))
    y_end)
    (y_seq (y_ifS (y_tcmp (opNe rfl hr.units) (y_calP rfl c_token_places hr (by decide) hg (by rfl) (y_cons (y_methS rfl PySem.F.plainAttrs_str PySem.F.slot_str_join PySem.F.type_str_join (mtJoin rfl) y_str (y_cons (y_var (pv 4)) y_nil)) y_nil)) (y_callTy (cTupleOf rfl) (by rfl) z_tuple (by decide +kernel) (y_cons (y_lcF rfl sc.nd (y_rng1 (by rfl) z_range (y_cons (y_callB (cLen rfl) (by rfl) z_len (by decide +kernel) (y_cons (y_var (pv 4)) y_nil)) y_nil)) (blkOk_by (own := [("at", 7)]) (by first | decide +kernel | kernel_rfl | rfl)) (fun _ _ _ _ _ => (y_gname (vs := [7]) (pg_name (i := 7) sc.nd rfl (.inl rfl)) (by decide))) (fun _ _ _ _ _ => y_yes) (fun _ _ _ _ _ => (y_callB (cSum rfl rfl) (by rfl) z_sum (by decide +kernel) (y_cons (y_lcF rfl sc.nd (y_iter rfl (y_sl rfl (y_var (pv 4)) y_noP (y_part (y_var (pv 7))))) (blkOk_by (own := [("token", 10)]) (by first | decide +kernel | kernel_rfl | rfl)) (fun _ _ _ _ _ => (y_gname (vs := [10]) (pg_name (i := 10) sc.nd rfl (.inl rfl)) (by decide))) (fun _ _ _ _ _ => y_yes) (fun _ _ _ _ _ => (y_op (opAdd rfl) (y_callB (cLen rfl) (by rfl) z_len (by decide +kernel) (y_cons (y_var (pv 10)) y_nil)) y_int))) y_nil)))) y_nil)) (nomark _))
    (y_last (y_ret y_bl))
    y_end)
    (y_seq (y_ifS (y_tcmp (opNe rfl hr.units) (y_var (pv 3)) (y_lst y_nil) (nomark _))
    (y_seq (y_set (ps_set (i := 7) sc.nd rfl (.inl rfl) (y_cal rfl c_l_any hr (by decide) hg (by rfl) (y_cons (y_var (pv 1)) (y_cons (y_callB (cLen rfl) (by rfl) z_len (by decide +kernel) (y_cons (y_var (pv 3)) y_nil)) y_nil)))))
    (y_seq (y_set (ps_set (i := 8) sc.nd rfl (.inl rfl) (y_op (opAdd rfl) (y_ix rfl (y_ix rfl (y_var (pv 3)) (y_var (pv 7))) y_int) (y_callB (cLen rfl) (by rfl) z_len (by decide +kernel) (y_cons (y_ix rfl (y_ix rfl (y_var (pv 3)) (y_var (pv 7))) y_int) y_nil)))))
    (y_seq (y_set (ps_set (i := 9) sc.nd rfl (.inl rfl) (y_op (opAdd rfl) (y_op (opAdd rfl) (y_sl rfl (y_var (pv 2)) y_noP (y_part (y_var (pv 8)))) y_str) (y_sl rfl (y_var (pv 2)) (y_part (y_var (pv 8))) y_noP))))
    (y_last (y_ifS (y_or (y_tcmp (opNe rfl hr.units) (y_calP rfl c_tokens_of hr (by decide) hg (by rfl) (y_cons (y_var (pv 9)) y_nil)) (y_var (pv 4)) (nomark _)) (y_pw1 (y_tcmp (opNe rfl hr.units) (y_sl rfl (y_calP rfl c_token_places hr (by decide) hg (by rfl) (y_cons (y_var (pv 9)) y_nil)) (y_part (y_op (opAdd rfl) (y_var (pv 7)) y_int)) y_noP) (y_callTy (cTupleOf rfl) (by rfl) z_tuple (by decide +kernel) (y_cons (y_lcF rfl sc.nd (y_iter rfl (y_sl rfl (y_var (pv 5)) (y_part (y_op (opAdd rfl) (y_var (pv 7)) y_int)) y_noP)) (blkOk_by (own := [("place", 11)]) (by first | decide +kernel | kernel_rfl | rfl)) (fun _ _ _ _ _ => (y_gname (vs := [11]) (pg_name (i := 11) sc.nd rfl (.inl rfl)) (by decide))) (fun _ _ _ _ _ => y_yes) (fun _ _ _ _ _ => (y_op (opAdd rfl) (y_var (pv 11)) y_int))) y_nil)) (nomark _)))).pt
    (y_last (y_ret y_bl))
    y_end)))))
    y_end)
    (y_last (y_ret (y_andV (y_cmp (opEq rfl hr.units) (y_calP rfl c_tokens_of hr (by decide) hg (by rfl) (y_cons y_str y_nil)) (y_tup y_nil) (nomark _)) (y_one (y_cmp (opEq rfl hr.units) (y_calP rfl c_token_places hr (by decide) hg (by rfl) (y_cons y_str y_nil)) (y_tup y_nil) (nomark _))))))))))))))
end G

namespace G
open PySem PySem.Spec PyProof.Rows L2 Y
/-! ### texts as lists of codes -/
abbrev sT (l : List Nat) : Str := ⟨l.toArray⟩
abbrev T (l : List Nat) : W := .d (.str (sT l))
theorem sT_len (l : List Nat) : (sT l).length = l.length := by simp [Str.length]
theorem sT_toList (l : List Nat) : (sT l).cps.toList = l := rfl
theorem sT_inj {l m : List Nat} : (sT l = sT m) ↔ l = m := by
  constructor
  · intro h
    have := congrArg (fun s : Str => s.cps.toList) h
    simpa using this
  · intro h; rw [h]
theorem lit_a : (("a" : String) : Str) = sT [97] := by decide +kernel
theorem lit_z : (("z" : String) : Str) = sT [122] := by decide +kernel
theorem lit_A : (("A" : String) : Str) = sT [65] := by decide +kernel
theorem lit_Z : (("Z" : String) : Str) = sT [90] := by decide +kernel
theorem lit_0 : (("0" : String) : Str) = sT [48] := by decide +kernel
theorem lit_9 : (("9" : String) : Str) = sT [57] := by decide +kernel
theorem lit_us : (("_" : String) : Str) = sT [95] := by decide +kernel
theorem lit_nl : (("\n" : String) : Str) = sT [10] := by decide +kernel
theorem lit_sp : ((" " : String) : Str) = sT [32] := by decide +kernel
theorem lit_ha : (("#" : String) : Str) = sT [35] := by decide +kernel
theorem lit_rem : (("remark" : String) : Str) = sT [114, 101, 109, 97, 114, 107] := by decide +kernel
theorem lit_gap : (("gap" : String) : Str) = sT [103, 97, 112] := by decide +kernel
theorem lit_wd : (("word" : String) : Str) = sT [119, 111, 114, 100] := by decide +kernel
theorem lit_sign : (("sign" : String) : Str) = sT [115, 105, 103, 110] := by decide +kernel
theorem lit_spnl : ((" \n" : String) : Str) = sT [32, 10] := by decide +kernel
theorem lt1 (a b : Nat) : ([a] < [b]) ↔ a < b := by simp [List.cons_lt_cons_iff]
theorem F_is_letter_ok (c : Nat) (st : Sto) : F_l_is_letter [.d (.str (sT [c]))] st = .ok (.d (.bool (Lx.letter c))) st := by
  unfold F_l_is_letter B_l_is_letter
  simp [lit_a, lit_z, lit_A, lit_Z, lit_0, lit_9, lit_us, lt1]
  by_cases h1 : c = 95 <;> by_cases h2 : 97 ≤ c <;> by_cases h3 : 122 < c <;> by_cases h4 : 65 ≤ c <;> by_cases h5 : 90 < c <;> by_cases h6 : 48 ≤ c <;> by_cases h7 : 57 < c <;> first | (exfalso; omega) | skip
  all_goals simp [*, Lx.letter]
  all_goals omega
theorem getD_mid {p q : List Nat} (j : Nat) : (sT (p ++ q)).cps.getD (p.length + j) 0 = q.getD j 0 := by
  simp [List.getElem?_append_right]
theorem find_nl {l p q : List Nat} (c : Nat) (e : l = p ++ q) : (c ∉ q ∧ Txt.find3 (sT l) (sT [c]) p.length = -1) ∨ ∃ r q', q = r ++ c :: q' ∧ c ∉ r ∧ Txt.find3 (sT l) (sT [c]) p.length = (p.length : Int) + r.length := by
  have f0 : fromIndex (sT l).length (p.length : Int) = p.length := by unfold fromIndex; rw [if_neg (by omega), Int.max_eq_right (by omega)]; omega
  have hl : (sT l).length = p.length + q.length := by rw [sT_len, e, List.length_append]
  rcases StrLaws.find3_spec (sT l) c p.length with ⟨h1, h2⟩ | ⟨k, h1, h2, h3, h4, h5⟩
  · left
    refine ⟨fun hm => ?_, h1⟩
    obtain ⟨j, hj⟩ := List.mem_iff_getElem?.mp hm
    have hjl := (List.getElem?_eq_some_iff.mp hj).1
    refine h2 (p.length + j) (by omega) (by omega) ?_
    rw [e, getD_mid, List.getD_eq_getElem?_getD, hj]; rfl
  · right
    rw [f0] at h2 h5
    obtain ⟨j, rfl⟩ := Nat.exists_eq_add_of_le h2
    have hj : j < q.length := by omega
    rw [e, getD_mid, List.getD_eq_getElem?_getD, List.getElem?_eq_getElem hj] at h4
    have h4 : q[j] = c := h4
    refine ⟨q.take j, q.drop (j + 1), ?_, fun hm => ?_, ?_⟩
    · rw [← h4, List.getElem_cons_drop, List.take_append_drop]
    · obtain ⟨i, hi⟩ := List.mem_iff_getElem?.mp hm
      have hil := (List.getElem?_eq_some_iff.mp hi).1
      rw [List.length_take] at hil
      refine h5 (p.length + i) (by omega) (by omega) ?_
      rw [e, getD_mid, List.getD_eq_getElem?_getD]
      rw [List.getElem?_take_of_lt (by omega)] at hi
      rw [hi]; rfl
    · rw [h1, List.length_take, Nat.min_eq_left (by omega)]; omega
/-- the end of a line -/
theorem F_line_end_ok {l p q : List Nat} (e : l = p ++ q) (hl : (sT l).length ≤ sizeLine) : (10 ∉ q ∧ F_line_end [T l, I p.length] [] = .ok (I (p.length + q.length)) []) ∨ ∃ r q', q = r ++ 10 :: q' ∧ 10 ∉ r ∧ F_line_end [T l, I p.length] [] = .ok (I (p.length + r.length)) [] := by
  have ln : ((sT l).length : Int) = p.length + q.length := by rw [sT_len, e, List.length_append]; omega
  rcases find_nl 10 e with ⟨h1, h2⟩ | ⟨r, q', h1, h2, h3⟩
  · left
    refine ⟨h1, ?_⟩
    unfold F_line_end B_line_end
    simp [lit_nl, h2, hl, ln]
  · right
    refine ⟨r, q', h1, h2, ?_⟩
    have : ¬ ((p.length : Int) + r.length < 0) := by omega
    unfold F_line_end B_line_end
    simp [lit_nl, h3, this]
theorem lit_word : ((("abcdefghijklmnopqrstuvwxyzABCDEFGHIJKLMNOPQRSTUVWXYZ0123456789_" : String) : Str)) = sT [97,98,99,100,101,102,103,104,105,106,107,108,109,110,111,112,113,114,115,116,117,118,119,120,121,122,65,66,67,68,69,70,71,72,73,74,75,76,77,78,79,80,81,82,83,84,85,86,87,88,89,90,48,49,50,51,52,53,54,55,56,57,95] := by decide +kernel
theorem in_word (c : Nat) : (!(Builtin.Str.occurrences ((("abcdefghijklmnopqrstuvwxyzABCDEFGHIJKLMNOPQRSTUVWXYZ0123456789_" : String) : Str)) (sT [c]) 0 ((("abcdefghijklmnopqrstuvwxyzABCDEFGHIJKLMNOPQRSTUVWXYZ0123456789_" : String) : Str)).length 1).isEmpty) = Lx.letter c := by
  rw [StrLaws.found_one, lit_word, Bool.eq_iff_iff, decide_eq_true_eq]
  simp only [List.mem_cons, List.not_mem_nil, or_false, Lx.letter, Bool.or_eq_true, Bool.and_eq_true, beq_iff_eq, decide_eq_true_eq]
  omega
theorem in_spnl (c : Nat) : (!(Builtin.Str.occurrences ((" \n" : String) : Str) (sT [c]) 0 ((" \n" : String) : Str).length 1).isEmpty) = Lx.ws c := by
  rw [StrLaws.found_one, lit_spnl, Bool.eq_iff_iff, decide_eq_true_eq]
  simp [Lx.ws]
theorem atI_mid {p q : List Nat} {c : Nat} : atI (p ++ c :: q) (p.length : Int) = some c := by
  exact atI_nat (by simp)
abbrev cTok : En → Sto → R Bool := (dAnd (fun ρ st => asB (dBin vLt (dVar 2) (dCall gLen (dCons (dVar 0) dNil)) ρ st)) (fun ρ st => asB (dBin (vIn false) (dBin vIx (dVar 0) (dVar 2)) (dLit (.str "abcdefghijklmnopqrstuvwxyzABCDEFGHIJKLMNOPQRSTUVWXYZ0123456789_")) ρ st)))
theorem tok_end_end {l : List Nat} {a : Option W} (hl : l.length ≤ sizeLine) : cTok [some (T l), a, some (I l.length)] [] = .ok false [] := by
  simp [cTok, hl, sT_len]
theorem tok_end_at {p q : List Nat} {c : Nat} {a : Option W} (hl : (p ++ c :: q).length ≤ sizeLine) : cTok [some (T (p ++ c :: q)), a, some (I p.length)] [] = .ok (Lx.letter c) [] := by
  have h : (p.length : Int) < p.length + (q.length + 1) := by omega
  have hl : p.length + (q.length + 1) ≤ sizeLine := by simpa using hl
  simp [cTok, hl, sT_len, h, atI_mid, in_word]
/-- r begins with no letter -/
def Off (r : List Nat) : Prop := ∀ c q, r = c :: q → Lx.letter c = false
theorem tok_loop : ∀ (w p r : List Nat) (a : Option W), (p ++ (w ++ r)).length ≤ sizeLine → (∀ c ∈ w, Lx.letter c = true) → Off r →
    whileN cTok (dAug 2 vIadd (dLit (.int 1))) (w.length + 1) [some (T (p ++ (w ++ r))), a, some (I p.length)] [] = .ok (.nx, [some (T (p ++ (w ++ r))), a, some (I (p.length + w.length))]) [] := by
  intro w
  induction w with
  | nil =>
    intro p r a hl hw hr
    have : cTok [some (T (p ++ ([] ++ r))), a, some (I p.length)] [] = .ok false [] := by
      cases r with
      | nil => simpa using tok_end_end (l := p) (a := a) (by simpa using hl)
      | cons c q => rw [List.nil_append, tok_end_at hl, hr c q rfl]
    unfold whileN
    rw [this]; simp
  | cons c w ih =>
    intro p r a hl hw hr
    have h1 := tok_end_at (p := p) (q := w ++ r) (c := c) (a := a) hl
    rw [hw c List.mem_cons_self] at h1
    have e : p ++ (c :: w ++ r) = (p ++ [c]) ++ (w ++ r) := by simp
    have h2 := ih (p ++ [c]) r a (by rw [← e]; exact hl) (fun d hd => hw d (List.mem_cons_of_mem _ hd)) hr
    rw [← e] at h2
    show (cTok [some (T (p ++ (c :: (w ++ r)))), a, some (I p.length)] []).bind _ = _
    rw [h1, R.bind_ok, if_pos rfl]
    have e2 : (dAug 2 vIadd (dLit (.int 1))) [some (T (p ++ (c :: w ++ r))), a, some (I p.length)] [] = .ok (.nx, [some (T (p ++ (c :: w ++ r))), a, some (I ((p ++ [c]).length))]) [] := by simp
    rw [e2, R.bind_ok]
    have e3 : (((p ++ [c]).length : Nat) : Int) + (w.length : Int) = (p.length : Int) + ((c :: w).length : Nat) := by simp; omega
    rw [e3] at h2
    exact h2
/-- the end of a token -/
theorem F_token_end_ok {p w r : List Nat} (hl : (p ++ (w ++ r)).length ≤ sizeLine) (hw : ∀ c ∈ w, Lx.letter c = true) (hr : Off r) :
    F_token_end [T (p ++ (w ++ r)), I p.length] [] = .ok (I (p.length + (max w.length 1 : Nat))) [] := by
  have h := dWhile_of (tok_loop w p r (some (I p.length)) hl hw hr) (by simp)
  have h0 : (dSet 2 (dVar 1)) [some (T (p ++ (w ++ r))), some (I p.length), none] [] = .ok (.nx, [some (T (p ++ (w ++ r))), some (I p.length), some (I p.length)]) [] := by simp
  refine dDef_rt (ρ' := [some (T (p ++ (w ++ r))), some (I p.length), some (I (p.length + w.length))]) ?_
  show B_token_end [some (T (p ++ (w ++ r))), some (I p.length), none] [] = _
  unfold B_token_end
  rw [dSeq_nx h0, dSeq_nx h]
  have e : (if (p.length : Int) + 1 > p.length + w.length then (p.length : Int) + 1 else p.length + w.length) = p.length + ((max w.length 1 : Nat) : Int) := by
    split <;> omega
  simp [← e]
def spD (t : Lx.Tok) : PyData := .tuple [.int t.1, .int (t.1 + t.2.length : Nat)]
abbrev cSp : En → Sto → R Bool := fun ρ st => asB (dBin vLt (dVar 2) (dCall gLen (dCons (dVar 0) dNil)) ρ st)
noncomputable abbrev bSp : DS :=
    (dIfS (fun ρ st => asB (dBin (vIn false) (dBin vIx (dVar 0) (dVar 2)) (dLit (.str " \n")) ρ st))
    (dAug 2 vIadd (dLit (.int 1)))
    (dIfS (fun ρ st => asB (dBin (vEq false) (dBin vIx (dVar 0) (dVar 2)) (dLit (.str "#")) ρ st))
    (dSet 2 (dCalP 2 F_line_end (dCons (dVar 0) (dCons (dVar 2) dNil))))
    (dSeq (dExpr (dMeth mAppend (dVar 1) (dCons (dTup (dCons (dVar 2) (dCons (dCalP 2 F_token_end (dCons (dVar 0) (dCons (dVar 2) dNil))) dNil))) dNil)))
    (dSet 2 (dBin vIx (dBin vIx (dVar 1) (dUn vNeg (dLit (.int 1)))) (dLit (.int 1)))))))
theorem sp_end {l : List Nat} {F : List W} (hl : l.length ≤ sizeLine) : cSp [some (T l), some (.ref 0), some (I l.length)] [.lst F] = .ok false [.lst F] := by
  simp [cSp, hl, sT_len]
theorem sp_at {p q : List Nat} {c : Nat} {F : List W} (hl : (p ++ c :: q).length ≤ sizeLine) : cSp [some (T (p ++ c :: q)), some (.ref 0), some (I p.length)] [.lst F] = .ok true [.lst F] := by
  have h : (p.length : Int) < p.length + (q.length + 1) := by omega
  have hl : p.length + (q.length + 1) ≤ sizeLine := by simpa using hl
  simp [cSp, hl, sT_len, h]
theorem sp_ws {p q : List Nat} {c : Nat} {F : List W} (hl : (p ++ c :: q).length ≤ sizeLine) (h : Lx.ws c = true) : bSp [some (T (p ++ c :: q)), some (.ref 0), some (I p.length)] [.lst F] = .ok (.nx, [some (T (p ++ c :: q)), some (.ref 0), some (I ((p ++ [c]).length))]) [.lst F] := by
  have hl : p.length + (q.length + 1) ≤ sizeLine := by simpa using hl
  simp [bSp, hl, sT_len, atI_mid, in_spnl, h]
theorem sp_hash {p q : List Nat} {F : List W} {k : Nat} (hl : (p ++ 35 :: q).length ≤ sizeLine) (h : F_line_end [T (p ++ 35 :: q), I p.length] [] = .ok (I k) []) : bSp [some (T (p ++ 35 :: q)), some (.ref 0), some (I p.length)] [.lst F] = .ok (.nx, [some (T (p ++ 35 :: q)), some (.ref 0), some (I k)]) [.lst F] := by
  have hl : p.length + (q.length + 1) ≤ sizeLine := by simpa using hl
  have w0 : Lx.ws 35 = false := by decide
  simp [bSp, hl, sT_len, atI_mid, in_spnl, w0, lit_ha, h]
theorem sp_tok {p q : List Nat} {c : Nat} {F : List W} {k : Nat} (hl : (p ++ c :: q).length ≤ sizeLine) (hF : F.length < sizeLine) (h1 : Lx.ws c = false) (h2 : c ≠ 35) (h : F_token_end [T (p ++ c :: q), I p.length] [] = .ok (I k) []) : bSp [some (T (p ++ c :: q)), some (.ref 0), some (I p.length)] [.lst F] = .ok (.nx, [some (T (p ++ c :: q)), some (.ref 0), some (I k)]) [.lst (F ++ [.d (.tuple [.int p.length, .int k])])] := by
  have hl : p.length + (q.length + 1) ≤ sizeLine := by simpa using hl
  have s2 : 2 ≤ sizeLine := by rw [sizeLine_eq]; decide
  simp [bSp, hl, sT_len, atI_mid, in_spnl, h1, h2, lit_ha, h, sT_inj, hF, atI_one, atI_end, s2]
theorem take_drop_letters (q : List Nat) : ∃ w r, q = w ++ r ∧ (∀ c ∈ w, Lx.letter c = true) ∧ Off r := by
  induction q with
  | nil => exact ⟨[], [], rfl, by simp, by intro c q h; cases h⟩
  | cons c q ih =>
    cases h : Lx.letter c with
    | false => exact ⟨[], c :: q, rfl, by simp, by intro d q' e; cases e; exact h⟩
    | true =>
      obtain ⟨w, r, e, h1, h2⟩ := ih
      exact ⟨c :: w, r, by rw [e]; rfl, by intro d hd; rcases List.mem_cons.mp hd with rfl | hd; exact h; exact h1 d hd, h2⟩
theorem sp_loop : ∀ (k : Nat) (p q : List Nat) (F : List W), q.length ≤ k → (p ++ q).length ≤ sizeLine → F.length + q.length ≤ sizeLine →
    whileN cSp bSp (k + 1) [some (T (p ++ q)), some (.ref 0), some (I p.length)] [.lst F] = .ok (.nx, [some (T (p ++ q)), some (.ref 0), some (I ((p ++ q).length))]) [.lst (F ++ (Lx.lex .gap p.length q).map fun t => .d (spD t))] := by
  intro k
  induction k with
  | zero =>
    intro p q F hk hl hF
    have : q = [] := List.length_eq_zero_iff.mp (by omega)
    subst this
    rw [List.append_nil]
    show (cSp _ _).bind _ = _
    rw [sp_end (by simpa using hl)]
    simp [Lx.lex_nil, Lx.close]
  | succ k ih =>
    intro p q F hk hl hF
    cases q with
    | nil =>
      rw [List.append_nil]
      show (cSp _ _).bind _ = _
      rw [sp_end (by simpa using hl)]
      simp [Lx.lex_nil, Lx.close]
    | cons c q =>
      have hk' : q.length ≤ k := by simpa using hk
      have hF' : F.length + q.length + 1 ≤ sizeLine := by simpa [Nat.add_assoc] using hF
      -- one turn, and the rest
      have go : ∀ (p2 q2 : List Nat) (G : List W), p ++ c :: q = p2 ++ q2 → q2.length ≤ k → G.length + q2.length ≤ sizeLine → bSp [some (T (p ++ c :: q)), some (.ref 0), some (I p.length)] [.lst F] = .ok (.nx, [some (T (p ++ c :: q)), some (.ref 0), some (I p2.length)]) [.lst G] →
          F ++ (Lx.lex .gap p.length (c :: q)).map (fun t => W.d (spD t)) = G ++ (Lx.lex .gap p2.length q2).map (fun t => W.d (spD t)) →
          whileN cSp bSp (k + 1 + 1) [some (T (p ++ c :: q)), some (.ref 0), some (I p.length)] [.lst F] = .ok (.nx, [some (T (p ++ c :: q)), some (.ref 0), some (I ((p ++ c :: q).length))]) [.lst (F ++ (Lx.lex .gap p.length (c :: q)).map fun t => .d (spD t))] := by
        intro p2 q2 G e h2 h3 hb hx
        show (cSp _ _).bind _ = _
        rw [sp_at hl, R.bind_ok, if_pos rfl, hb, R.bind_ok, hx]
        have := ih p2 q2 G h2 (by rw [← e]; exact hl) h3
        rw [← e] at this
        exact this
      cases h1 : Lx.ws c with
      | true => exact go (p ++ [c]) q F (by simp) hk' (by omega) (sp_ws hl h1) (by rw [Lx.lex_ws h1]; simp)
      | false =>
        by_cases h2 : c = 35
        · subst h2
          rcases F_line_end_ok (l := p ++ 35 :: q) (p := p) (q := 35 :: q) rfl (by rw [sT_len]; exact hl) with ⟨g1, g2⟩ | ⟨r, q', g1, g2, g3⟩
          · refine go (p ++ 35 :: q) [] F (by simp) (by simp) (by simp; omega) (by have := sp_hash (F := F) (k := p.length + (35 :: q).length) hl (by simpa using g2); simpa using this) ?_
            rw [Lx.lex_hash_end fun z => g1 (List.mem_cons_of_mem _ z)]
            simp [Lx.lex_nil, Lx.close]
          · cases r with
            | nil => simp at g1
            | cons d r =>
              simp at g1
              obtain ⟨rfl, rfl⟩ := g1
              refine go (p ++ 35 :: r) (10 :: q') F (by simp) (by simp at hk' ⊢; omega) (by simp at hF' ⊢; omega) (by have := sp_hash (F := F) (k := p.length + (35 :: r).length) hl (by simpa using g3); simpa using this) ?_
              have := Lx.lex_hash (r := r) (q := q') (i := p.length) fun z => g2 (List.mem_cons_of_mem _ z)
              rw [List.cons_append] at this
              rw [this, List.length_append]
        · cases h3 : Lx.letter c with
          | true =>
            obtain ⟨w, r, e, hw, hr⟩ := take_drop_letters (c :: q)
            have hn : w ≠ [] := by
              intro z; subst z
              have := hr c q (by simpa using e.symm)
              rw [h3] at this; cases this
            have wl : 1 ≤ w.length := by cases w with | nil => exact absurd rfl hn | cons => simp
            have hm : max w.length 1 = w.length := by omega
            have hT := F_token_end_ok (p := p) (w := w) (r := r) (by rw [← e]; exact hl) hw hr
            rw [← e, hm] at hT
            have el : q.length + 1 = w.length + r.length := by have := congrArg List.length e; simpa using this
            refine go (p ++ w) r (F ++ [.d (.tuple [.int p.length, .int (p.length + w.length : Nat)])]) (by rw [e]; simp) (by omega) (by simp; omega) (by have := sp_tok (F := F) (k := p.length + w.length) hl (by omega) h1 h2 (by simpa using hT); simpa using this) ?_
            rw [e, Lx.lex_word hn hw hr]
            simp [spD]
          | false =>
            have hr : Off (c :: q) := by intro d q' z; cases z; exact h3
            have hT := F_token_end_ok (p := p) (w := []) (r := c :: q) hl (by simp) hr
            refine go (p ++ [c]) q (F ++ [.d (.tuple [.int p.length, .int (p.length + 1 : Nat)])]) (by simp) hk' (by simp; omega) (by have := sp_tok (F := F) (k := p.length + 1) hl (by omega) h1 h2 (by simpa using hT); simpa using this) ?_
            rw [Lx.lex_sign h2 h1 h3]
            simp [spD]
theorem allD_sp (ts : List Lx.Tok) : allD (ts.map fun t => W.d (spD t)) = some (ts.map spD) := by
  have : (ts.map fun t => W.d (spD t)) = (ts.map spD).map W.d := by simp
  rw [this, allD_map]
theorem F_spans_ok {l : List Nat} (hl : l.length ≤ sizeLine) : F_spans [T l] [] = .ok (.d (.list ((Lx.lex .gap 0 l).map spD))) [.dead] := by
  have h := dWhile_of (sp_loop l.length [] l [] (Nat.le_refl _) hl (by simpa using hl)) (by simp)
  rw [List.nil_append, List.nil_append] at h
  have h1 : (dSet 1 (dNew dNil)) [some (T l), none, none] [] = .ok (.nx, [some (T l), some (.ref 0), none]) [.lst []] := by simp
  have h2 : (dSet 2 (dLit (.int 0))) [some (T l), some (.ref 0), none] [.lst []] = .ok (.nx, [some (T l), some (.ref 0), some (I 0)]) [.lst []] := by simp
  refine dDef_rt (ρ' := [some (T l), some (.ref 0), some (I l.length)]) ?_
  show B_spans [some (T l), none, none] [] = _
  unfold B_spans
  rw [dSeq_nx h1, dSeq_nx h2]
  refine (dSeq_nx h).trans ?_
  simp [allD_sp]
theorem slice_T {l : List Nat} {a b : Nat} (h1 : a ≤ b) (h2 : b ≤ l.length) : Txt.slice (sT l) (some (a : Int)) (some (b : Int)) = sT ((l.drop a).take (b - a)) := by
  rw [← C8.cutS_slice]
  unfold L2.cutS
  rw [HT.sIx_nat, HT.sIx_nat, sT_len, sT_toList, Nat.min_eq_left h2, Nat.min_eq_left (by omega)]
abbrev tkD (t : Lx.Tok) : PyData := .str (sT t.2)
abbrev plD (t : Lx.Tok) : PyData := .int t.1
theorem lex_in0 {l : List Nat} : ∀ t ∈ Lx.lex .gap 0 l, Lx.InT l t := Lx.lex_in l [] .gap 0 rfl rfl trivial
theorem lex_len0 (l : List Nat) : (Lx.lex .gap 0 l).length ≤ l.length := by simpa [Lx.close] using Lx.lex_len l .gap 0
theorem allD_tk (ts : List Lx.Tok) : allD (ts.map fun t => W.d (tkD t)) = some (ts.map tkD) := by
  have : (ts.map fun t => W.d (tkD t)) = (ts.map tkD).map W.d := by simp
  rw [this, allD_map]
theorem allD_pl (ts : List Lx.Tok) : allD (ts.map fun t => W.d (plD t)) = some (ts.map plD) := by
  have : (ts.map fun t => W.d (plD t)) = (ts.map plD).map W.d := by simp
  rw [this, allD_map]
theorem map_sp (ts : List Lx.Tok) : (ts.map spD).map W.d = ts.map fun t => W.d (spD t) := by simp
theorem F_tokens_of_ok {l : List Nat} (hl : l.length ≤ sizeLine) : F_tokens_of [T l] [] = .ok (.d (.tuple ((Lx.lex .gap 0 l).map tkD))) [] := by
  have h := F_spans_ok hl
  have hn := lex_len0 l
  refine dDef_rt (ρ' := [some (T l), none, none]) ?_
  show B_tokens_of [some (T l), none, none] [] = _
  unfold B_tokens_of
  have e := lcL_map (tg := tTup' 2 (tCons' (tName 1) (tCons' (tName 2) tNil'))) (fe := dSl (dVar 0) (dPart (dVar 1)) (dPart (dVar 2))) (ρ := [some (T l), none, none]) (s := []) (emb := fun t => W.d (spD t)) (g := fun t => W.d (tkD t)) (Lx.lex .gap 0 l) (fun t ht => by
    obtain ⟨c1, c2⟩ := (lex_in0 t ht).cut
    refine ⟨[some (T l), some (I t.1), some (I (t.1 + t.2.length : Nat))], by simp [spD], ?_⟩
    have := slice_T (l := l) (a := t.1) (b := t.1 + t.2.length) (by omega) c1
    rw [Nat.add_sub_cancel_left, c2] at this
    simp only [dSl, dVar, dPart, vSl, R.bind_ok, List.getElem?_cons_zero, List.getElem?_cons_succ]
    rw [chk_ok (by rw [sT_len]; exact hl), this])
  have hm : (Lx.lex .gap 0 l).length ≤ sizeLine := by omega
  simp [h, map_sp, e, allD_tk, hm, -List.map_map]
theorem F_token_places_ok {l : List Nat} (hl : l.length ≤ sizeLine) : F_token_places [T l] [] = .ok (.d (.tuple ((Lx.lex .gap 0 l).map plD))) [] := by
  have h := F_spans_ok hl
  have hn := lex_len0 l
  refine dDef_rt (ρ' := [some (T l), none, none]) ?_
  show B_token_places [some (T l), none, none] [] = _
  unfold B_token_places
  have e := lcL_map (tg := tTup' 2 (tCons' (tName 1) (tCons' (tName 2) tNil'))) (fe := dVar 1) (ρ := [some (T l), none, none]) (s := []) (emb := fun t => W.d (spD t)) (g := fun t => W.d (plD t)) (Lx.lex .gap 0 l) (fun t ht => ⟨[some (T l), some (I t.1), some (I (t.1 + t.2.length : Nat))], by simp [spD], by simp⟩)
  have hm : (Lx.lex .gap 0 l).length ≤ sizeLine := by omega
  simp [h, map_sp, e, allD_pl, hm, -List.map_map]
/-! ### the law's own walk -/
def tpD (t : Lx.Tok) : PyData := .tuple [.int t.1, .str (sT t.2)]
/-- what the walk's state tells -/
def StIs : Lx.Mode → Str → Prop
  | .rem, x => x = ("remark" : String)
  | .word _ _, x => x = ("word" : String)
  | .gap, x => x = ("gap" : String) ∨ x = ("sign" : String)
noncomputable abbrev bWk : DS :=
    (dIfS (fun ρ st => asB (dBin (vEq false) (dVar 2) (dLit (.str "remark")) ρ st))
    (dSet 2 (dIf (fun ρ st => asB (dBin (vEq false) (dVar 4) (dLit (.str "\n")) ρ st)) (dLit (.str "gap")) (dLit (.str "remark"))))
    (dIfS (fun ρ st => asB (dBin (vEq false) (dVar 4) (dLit (.str "#")) ρ st))
    (dSet 2 (dLit (.str "remark")))
    (dIfS (fun ρ st => asB (dBin (vIn false) (dVar 4) (dLst (dCons (dLit (.str " ")) (dCons (dLit (.str "\n")) dNil))) ρ st))
    (dSet 2 (dLit (.str "gap")))
    (dIfS (dAnd (fun ρ st => asB ((dCalP 1 F_l_is_letter (dCons (dVar 4) dNil)) ρ st)) (fun ρ st => asB (dBin (vEq false) (dVar 2) (dLit (.str "word")) ρ st)))
    (dSetIx (dTup (dCons (dBin vIx (dBin vIx (dVar 1) (dUn vNeg (dLit (.int 1)))) (dLit (.int 0))) (dCons (dBin vAdd (dBin vIx (dBin vIx (dVar 1) (dUn vNeg (dLit (.int 1)))) (dLit (.int 1))) (dVar 4)) dNil))) (dVar 1) (dUn vNeg (dLit (.int 1))))
    (dSeq (dExpr (dMeth mAppend (dVar 1) (dCons (dTup (dCons (dVar 3) (dCons (dVar 4) dNil))) dNil)))
    (dSet 2 (dIf (fun ρ st => asB ((dCalP 1 F_l_is_letter (dCons (dVar 4) dNil)) ρ st)) (dLit (.str "word")) (dLit (.str "sign")))))))))
theorem eqv_str (x y : Str) : PyData.eqv (.str x) (.str y) = decide (x = y) := by
  simp [PyData.eqv]; rw [Bool.eq_iff_iff]; simp
theorem ok_code {c : Nat} (h : c < 0x110000) : SeqAt.shaped (.str (sT [c])) = true := by
  simp [SeqAt.shaped, PyData.canLay0, PyData.strOk, PyData.depth, h]
theorem wk_rem {t : W} {i c : Nat} {F : List W} {x : Str} (hs : StIs .rem x) : ∃ y, bWk [some t, some (.ref 0), some (.d (.str x)), some (I i), some (T [c])] [.lst F] = .ok (.nx, [some t, some (.ref 0), some (.d (.str y)), some (I i), some (T [c])]) [.lst F] ∧ StIs (Lx.next .rem i c).2 y := by
  subst hs
  by_cases h : c = 10
  · exact ⟨_, by simp [bWk, lit_nl, sT_inj, h]; rfl, by simp [Lx.next, h, StIs]⟩
  · exact ⟨_, by simp [bWk, lit_nl, sT_inj, h]; rfl, by simp [Lx.next, h, StIs]⟩
theorem ne_rem {m : Lx.Mode} {x : Str} (hm : m ≠ .rem) (hs : StIs m x) : x ≠ ("remark" : String) := by
  cases m with
  | rem => exact absurd rfl hm
  | word j w => rw [show x = _ from hs]; decide +kernel
  | gap => rcases hs with rfl | rfl <;> decide +kernel
theorem wk_hash {t : W} {i : Nat} {F : List W} {x : Str} (hx : x ≠ ("remark" : String)) : bWk [some t, some (.ref 0), some (.d (.str x)), some (I i), some (T [35])] [.lst F] = .ok (.nx, [some t, some (.ref 0), some (.d (.str ("remark" : String))), some (I i), some (T [35])]) [.lst F] := by
  simp [bWk, lit_ha, hx]
theorem sT_app (a b : List Nat) : sT a ++ sT b = sT (a ++ b) := by
  show Str.append _ _ = _
  simp [Str.append]
theorem ixN_last (n : Nat) : ixN (n + 1) (-1) = some n := by
  unfold ixN; rw [if_neg (by omega), if_pos (by omega)]; congr 1; omega
theorem two_le : 2 ≤ sizeLine := by rw [sizeLine_eq]; decide
theorem sh_wsl : SeqAt.shaped (.list [.str (sT [32]), .str (sT [10])]) = true := by decide +kernel
theorem ifT {t : En → Sto → R Bool} {f g : DS} {ρ : En} {s s' : Sto} (h : t ρ s = .ok true s') : dIfS t f g ρ s = f ρ s' := by unfold dIfS; rw [h]; rfl
theorem ifF {t : En → Sto → R Bool} {f g : DS} {ρ : En} {s s' : Sto} (h : t ρ s = .ok false s') : dIfS t f g ρ s = g ρ s' := by unfold dIfS; rw [h]; rfl
theorem wk_in {t x : Option W} {i c : Nat} {F : List W} (hc : c < 0x110000) : asB (dBin (vIn false) (dVar 4) (dLst (dCons (dLit (.str ((" " : String) : Str))) (dCons (dLit (.str (("\n" : String) : Str))) dNil))) [t, some (.ref 0), x, some (I i), some (T [c])] [.lst F]) = .ok (Lx.ws c) [.lst F] := by
  simp [lit_sp, lit_nl, two_le, sh_wsl, ok_code hc, eqv_str, sT_inj]
  unfold Lx.ws
  by_cases h1 : c = 32
  · subst h1; decide
  · by_cases h2 : c = 10
    · subst h2; decide
    · simp [h1, h2, Ne.symm h1, Ne.symm h2]
section
variable {t : Option W} {i c : Nat} {F : List W} {x : Str}
theorem wk_t1 (hx : x ≠ ("remark" : String)) : asB (dBin (vEq false) (dVar 2) (dLit (.str (("remark" : String) : Str))) [t, some (.ref 0), some (.d (.str x)), some (I i), some (T [c])] [.lst F]) = .ok false [.lst F] := by simp [hx]
theorem wk_t2 {y : Option W} (h : c ≠ 35) : asB (dBin (vEq false) (dVar 4) (dLit (.str (("#" : String) : Str))) [t, some (.ref 0), y, some (I i), some (T [c])] [.lst F]) = .ok false [.lst F] := by simp [lit_ha, h, sT_inj]
theorem wk_t4 {y : Option W} : asB ((dCalP 1 F_l_is_letter (dCons (dVar 4) dNil)) [t, some (.ref 0), y, some (I i), some (T [c])] [.lst F]) = .ok (Lx.letter c) [.lst F] := by simp [F_is_letter_ok]
theorem wk_ws (hc : c < 0x110000) (hx : x ≠ ("remark" : String)) (h1 : c ≠ 35) (h2 : Lx.ws c = true) : bWk [t, some (.ref 0), some (.d (.str x)), some (I i), some (T [c])] [.lst F] = .ok (.nx, [t, some (.ref 0), some (.d (.str ("gap" : String))), some (I i), some (T [c])]) [.lst F] := by
  have h3 := wk_in (t := t) (x := some (.d (.str x))) (i := i) (F := F) hc
  rw [h2] at h3
  exact (ifF (wk_t1 hx)).trans ((ifF (wk_t2 h1)).trans ((ifT h3).trans (by simp)))
theorem wk_new (hc : c < 0x110000) (hx : x ≠ ("remark" : String)) (h1 : c ≠ 35) (h2 : Lx.ws c = false) (h3 : Lx.letter c = false ∨ x ≠ ("word" : String)) (hF : F.length < sizeLine) : bWk [t, some (.ref 0), some (.d (.str x)), some (I i), some (T [c])] [.lst F] = .ok (.nx, [t, some (.ref 0), some (.d (.str (if Lx.letter c = true then (("word" : String) : Str) else (("sign" : String) : Str)))), some (I i), some (T [c])]) [.lst (F ++ [.d (tpD (i, [c]))])] := by
  have h5 := wk_in (t := t) (x := some (.d (.str x))) (i := i) (F := F) hc
  rw [h2] at h5
  refine (ifF (wk_t1 hx)).trans ((ifF (wk_t2 h1)).trans ((ifF h5).trans ?_))
  cases h4 : Lx.letter c with
  | false => 
    refine (ifF (s' := [.lst F]) (by simp [F_is_letter_ok, h4])).trans ?_
    simp [F_is_letter_ok, h4, two_le, hF, tpD]
  | true =>
    have h3 : x ≠ ("word" : String) := h3.resolve_left (by rw [h4]; simp)
    refine (ifF (s' := [.lst F]) (by simp [F_is_letter_ok, h4, h3])).trans ?_
    simp [F_is_letter_ok, h4, two_le, hF, tpD]
theorem wk_more {j : Nat} {w : List Nat} (hc : c < 0x110000) (h3 : Lx.letter c = true) (hw : w.length + 1 ≤ sizeLine) : bWk [t, some (.ref 0), some (.d (.str ("word" : String))), some (I i), some (T [c])] [.lst (F ++ [.d (tpD (j, w))])] = .ok (.nx, [t, some (.ref 0), some (.d (.str ("word" : String))), some (I i), some (T [c])]) [.lst (F ++ [.d (tpD (j, w ++ [c]))])] := by
  have hx : (("word" : String) : Str) ≠ ("remark" : String) := by decide +kernel
  have h := Lx.letter_ws h3
  have h5 := wk_in (t := t) (x := some (.d (.str ("word" : String)))) (i := i) (F := F ++ [.d (tpD (j, w))]) hc
  rw [h.1] at h5
  refine (ifF (wk_t1 hx)).trans ((ifF (wk_t2 h.2)).trans ((ifF h5).trans ?_))
  refine (ifT (s' := [.lst (F ++ [.d (tpD (j, w))])]) (by simp [F_is_letter_ok, h3])).trans ?_
  have e1 : (sT w).length + (sT [c]).length ≤ sizeLine := by rw [sT_len, sT_len]; exact hw
  have e2 : ixN (F.length + 1) (-1) = some F.length := ixN_last _
  simp [two_le, tpD, atI_end, atI_zero, atI_one, chk_ok e1, sT_app, e2]
end
def fT (t : Lx.Tok) : W := .d (tpD t)
def wl : Lx.Mode → Nat
  | .word _ w => w.length
  | _ => 0
theorem wk_step {t : Option W} {A : List Lx.Tok} {m : Lx.Mode} {i c : Nat} {x : Str} (hc : c < 0x110000) (hs : StIs m x) (hA : (A ++ Lx.close m).length < sizeLine) (hw : wl m + 1 ≤ sizeLine) :
    ∃ y, bWk [t, some (.ref 0), some (.d (.str x)), some (I i), some (T [c])] [.lst ((A ++ Lx.close m).map fT)] = .ok (.nx, [t, some (.ref 0), some (.d (.str y)), some (I i), some (T [c])]) [.lst ((A ++ (Lx.next m i c).1 ++ Lx.close (Lx.next m i c).2).map fT)] ∧ StIs (Lx.next m i c).2 y := by
  have hF : ((A ++ Lx.close m).map fT).length < sizeLine := by rw [List.length_map]; exact hA
  cases m with
  | rem =>
    by_cases h : c = 10
    · subst hs
      refine ⟨("gap" : String), ?_, ?_⟩
      · simp [bWk, lit_nl, sT_inj, h, Lx.next, Lx.close]
      · simp [Lx.next, h, StIs]
    · subst hs
      refine ⟨("remark" : String), ?_, ?_⟩
      · simp [bWk, lit_nl, sT_inj, h, Lx.next, Lx.close]
      · simp [Lx.next, h, StIs]
  | gap =>
    have hx : x ≠ ("remark" : String) := ne_rem (by simp) hs
    have hx2 : x ≠ ("word" : String) := by rcases hs with rfl | rfl <;> decide +kernel
    by_cases h1 : c = 35
    · subst h1
      refine ⟨("remark" : String), ?_, ?_⟩
      · simp [bWk, lit_ha, hx, Lx.next, Lx.close]
      · simp [Lx.next, StIs]
    · cases h2 : Lx.ws c with
      | true =>
        refine ⟨(("gap" : String) : Str), (wk_ws hc hx h1 h2).trans ?_, ?_⟩
        · simp [Lx.next, h1, h2, Lx.close]
        · simp [Lx.next, h1, h2, StIs]
      | false =>
        refine ⟨if Lx.letter c = true then (("word" : String) : Str) else (("sign" : String) : Str), (wk_new hc hx h1 h2 (.inr hx2) hF).trans ?_, ?_⟩
        · cases h3 : Lx.letter c <;> simp [Lx.next, h1, h2, h3, Lx.close, fT]
        · cases h3 : Lx.letter c <;> simp [Lx.next, h1, h2, h3, StIs]
  | word j w =>
    have hx : x ≠ ("remark" : String) := ne_rem (by simp) hs
    by_cases h1 : c = 35
    · subst h1
      refine ⟨("remark" : String), ?_, ?_⟩
      · simp [bWk, lit_ha, hx, Lx.next, Lx.close]
      · simp [Lx.next, StIs]
    · cases h2 : Lx.ws c with
      | true =>
        refine ⟨(("gap" : String) : Str), (wk_ws hc hx h1 h2).trans ?_, ?_⟩
        · simp [Lx.next, h1, h2, Lx.close]
        · simp [Lx.next, h1, h2, StIs]
      | false =>
        cases h3 : Lx.letter c with
        | false =>
          refine ⟨if Lx.letter c = true then (("word" : String) : Str) else (("sign" : String) : Str), (wk_new hc hx h1 h2 (.inl h3) hF).trans ?_, ?_⟩
          · simp [Lx.next, h1, h2, h3, Lx.close, fT]
          · simp [Lx.next, h1, h2, h3, StIs]
        | true =>
          have hs : x = ("word" : String) := hs
          subst hs
          have e : (A ++ Lx.close (.word j w)).map fT = A.map fT ++ [.d (tpD (j, w))] := by simp [Lx.close, fT]
          rw [e]
          refine ⟨(("word" : String) : Str), (wk_more hc h3 hw).trans ?_, ?_⟩
          · simp [Lx.next, h1, h2, h3, Lx.close, fT]
          · simp [Lx.next, h1, h2, h3, StIs]
theorem wl_next (m : Lx.Mode) (i c : Nat) : wl (Lx.next m i c).2 ≤ wl m + 1 := by
  cases m with
  | rem => simp only [Lx.next]; split <;> simp [wl]
  | gap =>
    simp only [Lx.next]
    by_cases h1 : c = 35
    · simp [h1, wl]
    · cases h2 : Lx.ws c <;> cases h3 : Lx.letter c <;> simp [h1, wl]
  | word j w =>
    simp only [Lx.next]
    by_cases h1 : c = 35
    · simp [h1, wl]
    · cases h2 : Lx.ws c <;> cases h3 : Lx.letter c <;> simp [h1, wl]
abbrev tgWk : W → En → Sto → R En := (tTup' 2 (tCons' (tName 3) (tCons' (tName 4) tNil')))
theorem wk_loop {t : Option W} : ∀ (q : List Nat) (i : Nat) (m : Lx.Mode) (A : List Lx.Tok) (x : Str) (e3 e4 : Option W), (∀ c ∈ q, c < 0x110000) → StIs m x → (A ++ Lx.close m).length + q.length ≤ sizeLine → wl m + q.length ≤ sizeLine →
    ∃ ρ, forL tgWk bWk (pairs i (q.map fun c => .str ⟨#[c]⟩)) [t, some (.ref 0), some (.d (.str x)), e3, e4] [.lst ((A ++ Lx.close m).map fT)] = .ok (.nx, t :: some (.ref 0) :: ρ) [.lst ((A ++ Lx.lex m i q).map fT)] := by
  intro q
  induction q with
  | nil => intro i m A x e3 e4 hc hs hA hw; exact ⟨_, rfl⟩
  | cons c q ih =>
    intro i m A x e3 e4 hc hs hA hw
    have hA' : (A ++ Lx.close m).length + q.length + 1 ≤ sizeLine := by simpa [Nat.add_assoc] using hA
    have hw' : wl m + q.length + 1 ≤ sizeLine := by simpa [Nat.add_assoc] using hw
    obtain ⟨y, h1, h2⟩ := wk_step (t := t) (A := A) (m := m) (i := i) (x := x) (hc c List.mem_cons_self) hs (by omega) (by omega)
    have h3 := Lx.next_len m i c
    have h4 := wl_next m i c
    obtain ⟨ρ, h5⟩ := ih (i + 1) (Lx.next m i c).2 (A ++ (Lx.next m i c).1) y (some (I i)) (some (T [c])) (fun d hd => hc d (List.mem_cons_of_mem _ hd)) h2 (by simp at hA' h3 ⊢; omega) (by omega)
    refine ⟨ρ, ?_⟩
    show (tgWk (.d (.tuple [.int i, .str ⟨#[c]⟩])) _ _).bind _ = _
    have e1 : tgWk (.d (.tuple [.int i, .str ⟨#[c]⟩])) [t, some (.ref 0), some (.d (.str x)), e3, e4] [.lst ((A ++ Lx.close m).map fT)] = .ok [t, some (.ref 0), some (.d (.str x)), some (I i), some (T [c])] [.lst ((A ++ Lx.close m).map fT)] := by simp
    rw [e1, R.bind_ok, h1, R.bind_ok, Lx.lex_cons, ← List.append_assoc]
    exact h5
theorem allD_tp (ts : List Lx.Tok) : allD (ts.map fT) = some (ts.map tpD) := by
  have : ts.map fT = (ts.map tpD).map W.d := by rw [List.map_map]; rfl
  rw [this, allD_map]
theorem F_walk_ok {l : List Nat} (hl : l.length ≤ sizeLine) (hc : ∀ c ∈ l, c < 0x110000) : F_l_walk [T l] [] = .ok (.d (.list ((Lx.lex .gap 0 l).map tpD))) [.dead] := by
  obtain ⟨ρ, h⟩ := wk_loop (t := some (T l)) l 0 .gap [] ("gap" : String) none none hc (.inl rfl) (by simpa [Lx.close] using hl) (by simpa [wl] using hl)
  have h1 : (dPar 1 2 (dCons (dNew dNil) (dCons (dLit (.str (("gap" : String) : Str))) dNil))) [some (T l), none, none, none, none] [] = .ok (.nx, [some (T l), some (.ref 0), some (.d (.str ("gap" : String))), none, none]) [.lst []] := by simp
  have h2 : (dFor (dEnum (dVar 0)) tgWk bWk) [some (T l), some (.ref 0), some (.d (.str ("gap" : String))), none, none] [.lst []] = .ok (.nx, some (T l) :: some (.ref 0) :: ρ) [.lst ((Lx.lex .gap 0 l).map fT)] := by
    simp only [dFor, dEnum, dVar, R.bind_ok, List.getElem?_cons_zero]
    exact h
  refine dDef_rt (ρ' := some (T l) :: some (.ref 0) :: ρ) ?_
  show B_l_walk [some (T l), none, none, none, none] [] = _
  unfold B_l_walk
  rw [dSeq_nx h1]
  refine (dSeq_nx h2).trans ?_
  simp [allD_tp]
end G

namespace G
open PySem PySem.Spec PyProof.Rows L2 Y
/-! ### draws -/
theorem any_eq : F_l_any = F_any := rfl
theorem draw_eq : F_l_draw = F_draw := rfl
theorem F_of_ok {n c : Nat} {st : Sto} {ds : List PyData} (h : DealOk st n c) (h0 : ds ≠ []) (h1 : ds.length < 1073741824) : ∃ d st', F_l_of [.ref n, .d (.list ds)] st = .ok (.d d) st' ∧ d ∈ ds ∧ Dealt n c st st' := by
  have hp : 0 < ds.length := List.length_pos_iff.mpr h0
  obtain ⟨r, st', e, g1, g2, g3, g4⟩ := F_any_ok (k := ds.length) h (by omega) (by omega)
  obtain ⟨j, rfl⟩ := Int.eq_ofNat_of_zero_le g1
  have hj : j < ds.length := by omega
  refine ⟨ds[j], st', ?_, List.getElem_mem hj, g3⟩
  have ha : atI (ds.map W.d) (j : Int) = some (W.d ds[j]) := by
    exact atI_nat (by simp [hj])
  refine dDef_rt (ρ' := [some (.ref n), some (.d (.list ds))]) ?_
  show B_l_of [some (.ref n), some (.d (.list ds))] st = _
  unfold B_l_of
  simp [any_eq, e, ha]
def some1 : List (List Nat) := [[97],[66,95,55],[107,105,110,100],[48],[49,50],[48,48,55],[57,120],[95],[45],[62],[61],[59],[58],[123],[125],[91],[40],[39],[102,114,101,101],[116,111]]
def some2 : List (List Nat) := [[44],[63],[42],[36],[126],[33],[122,90,48,57],[111,114,100,101,114,58],[58,58],[59,59],[32],[32],[32,32],[10],[10,32],[35],[35,35,10]]
def some3 : List (List Nat) := [[35,32,115,111,32,58,32,105,116,32,105,115],[32,35,32,97,32,59,32,51,10],[35,10,35],[124],[38],[43]]
abbrev stL (l : List (List Nat)) : List PyData := l.map fun x => .str (sT x)
theorem set1 {ρ : En} {st : Sto} : (dSet 1 (dLst (dCons (dLit (.str "a")) (dCons (dLit (.str "B_7")) (dCons (dLit (.str "kind")) (dCons (dLit (.str "0")) (dCons (dLit (.str "12")) (dCons (dLit (.str "007")) (dCons (dLit (.str "9x")) (dCons (dLit (.str "_")) (dCons (dLit (.str "-")) (dCons (dLit (.str ">")) (dCons (dLit (.str "=")) (dCons (dLit (.str ";")) (dCons (dLit (.str ":")) (dCons (dLit (.str "{")) (dCons (dLit (.str "}")) (dCons (dLit (.str "[")) (dCons (dLit (.str "(")) (dCons (dLit (.str "'")) (dCons (dLit (.str "free")) (dCons (dLit (.str "to")) dNil)))))))))))))))))))))) ρ st = .ok (.nx, ρ.set 1 (some (.d (.list (stL some1))))) st := by
  have e : (stL some1) = [.str "a", .str "B_7", .str "kind", .str "0", .str "12", .str "007", .str "9x", .str "_", .str "-", .str ">", .str "=", .str ";", .str ":", .str "{", .str "}", .str "[", .str "(", .str "'", .str "free", .str "to"] := by
    have : some1.map sT = [("a" : String), "B_7", "kind", "0", "12", "007", "9x", "_", "-", ">", "=", ";", ":", "{", "}", "[", "(", "'", "free", "to"].map Str.ofString := by decide +kernel
    have h2 : stL some1 = (some1.map sT).map .str := by simp [stL]
    rw [h2, this]; rfl
  have s20 : 20 ≤ sizeLine := by rw [sizeLine_eq]; decide
  simp [e, s20]
theorem set2 {ρ : En} {st : Sto} (h : ρ[1]? = some (some (.d (.list (stL some1))))) : (dSet 1 (dBin vAdd (dVar 1) (dLst (dCons (dLit (.str ",")) (dCons (dLit (.str "?")) (dCons (dLit (.str "*")) (dCons (dLit (.str "$")) (dCons (dLit (.str "~")) (dCons (dLit (.str "!")) (dCons (dLit (.str "zZ09")) (dCons (dLit (.str "order:")) (dCons (dLit (.str "::")) (dCons (dLit (.str ";;")) (dCons (dLit (.str " ")) (dCons (dLit (.str " ")) (dCons (dLit (.str "  ")) (dCons (dLit (.str "\n")) (dCons (dLit (.str "\n ")) (dCons (dLit (.str "#")) (dCons (dLit (.str "##\n")) dNil)))))))))))))))))))) ρ st = .ok (.nx, ρ.set 1 (some (.d (.list (stL (some1 ++ some2)))))) st := by
  have e : (stL some2) = [.str ",", .str "?", .str "*", .str "$", .str "~", .str "!", .str "zZ09", .str "order:", .str "::", .str ";;", .str " ", .str " ", .str "  ", .str "\n", .str "\n ", .str "#", .str "##\n"] := by
    have : some2.map sT = [(",": String), "?", "*", "$", "~", "!", "zZ09", "order:", "::", ";;", " ", " ", "  ", "\n", "\n ", "#", "##\n"].map Str.ofString := by decide +kernel
    have h2 : stL some2 = (some2.map sT).map .str := by simp [stL]
    rw [h2, this]; rfl
  have s17 : 17 ≤ sizeLine := by rw [sizeLine_eq]; decide
  have s37 : (stL some1).length + 17 ≤ sizeLine := by rw [sizeLine_eq]; decide
  have e2 : stL (some1 ++ some2) = stL some1 ++ stL some2 := by simp [stL]
  rw [e2, e]
  generalize stL some1 = A at h s37
  simp [h, s17, s37]
theorem set3 {ρ : En} {st : Sto} (h : ρ[1]? = some (some (.d (.list (stL (some1 ++ some2)))))) : (dSet 1 (dBin vAdd (dVar 1) (dLst (dCons (dLit (.str "# so : it is")) (dCons (dLit (.str " # a ; 3\n")) (dCons (dLit (.str "#\n#")) (dCons (dLit (.str "|")) (dCons (dLit (.str "&")) (dCons (dLit (.str "+")) dNil))))))))) ρ st = .ok (.nx, ρ.set 1 (some (.d (.list (stL (some1 ++ some2 ++ some3)))))) st := by
  have e : (stL some3) = [.str "# so : it is", .str " # a ; 3\n", .str "#\n#", .str "|", .str "&", .str "+"] := by
    have : some3.map sT = [("# so : it is": String), " # a ; 3\n", "#\n#", "|", "&", "+"].map Str.ofString := by decide +kernel
    have h2 : stL some3 = (some3.map sT).map .str := by simp [stL]
    rw [h2, this]; rfl
  have s6 : 6 ≤ sizeLine := by rw [sizeLine_eq]; decide
  have s37 : (stL (some1 ++ some2)).length + 6 ≤ sizeLine := by rw [sizeLine_eq]; decide
  have e2 : stL (some1 ++ some2 ++ some3) = stL (some1 ++ some2) ++ stL some3 := by simp [stL]
  rw [e2, e]
  generalize stL (some1 ++ some2) = A at h s37
  simp [h, s6, s37]
theorem some_all : (some1 ++ some2 ++ some3).all (fun x => decide (x.length ≤ 12) && x.all fun c => decide (c < 0x110000)) = true := by decide +kernel
theorem joinL_nil : ∀ ys : List (List Nat), TL.joinL [] ys = ys.flatten
  | [] => rfl
  | [p] => by simp [TL.joinL]
  | p :: q :: r => by
    have := joinL_nil (q :: r)
    simp only [TL.joinL, List.nil_append] at this ⊢
    rw [this]; simp
theorem strsOf : ∀ us : List W, (∀ u ∈ us, ∃ x, x ∈ some1 ++ some2 ++ some3 ∧ u = T x) → ∃ ys : List (List Nat), us = ys.map T ∧ ∀ y ∈ ys, y ∈ some1 ++ some2 ++ some3
  | [], _ => ⟨[], rfl, by simp⟩
  | u :: us, h => by
    obtain ⟨x, h1, rfl⟩ := h u List.mem_cons_self
    obtain ⟨ys, rfl, h2⟩ := strsOf us fun v hv => h v (List.mem_cons_of_mem _ hv)
    exact ⟨x :: ys, rfl, by intro y hy; rcases List.mem_cons.mp hy with rfl | hy; exact h1; exact h2 y hy⟩
theorem allD_T (ys : List (List Nat)) : allD (ys.map T) = some (stL ys) := by
  have : ys.map T = (stL ys).map W.d := by simp [stL]
  rw [this, allD_map]
theorem asStrs_T (ys : List (List Nat)) : asStrs (stL ys) = some (ys.map sT) := by
  have : stL ys = (ys.map sT).map .str := by simp [stL]
  rw [this, asStrs_map]
theorem flat_len {ys : List (List Nat)} {k : Nat} (h : ∀ y ∈ ys, y.length ≤ k) : ys.flatten.length ≤ ys.length * k := by
  induction ys with
  | nil => simp
  | cons y ys ih =>
    have h1 := h y List.mem_cons_self
    have h2 := ih fun z hz => h z (List.mem_cons_of_mem _ hz)
    simp only [List.flatten_cons, List.length_append, List.length_cons, Nat.add_mul]
    omega
theorem sum_sT (ys : List (List Nat)) : ((ys.map sT).map (·.length)).sum = ys.flatten.length := by
  induction ys with
  | nil => rfl
  | cons y ys ih => simp only [List.map_cons, List.sum_cons, ih, sT_len, List.flatten_cons, List.length_append]
theorem F_text_ok {n c : Nat} {st : Sto} (h : DealOk st n c) : ∃ l st', F_l_text [.ref n] st = .ok (T l) st' ∧ l.length ≤ 276 ∧ (∀ x ∈ l, x < 0x110000) ∧ DealOk st' n c := by
  obtain ⟨r, s1, e1, g1, g2, g3, _⟩ := F_any_ok (k := 24) h (by decide) (by decide)
  obtain ⟨us, s2, e2, hl, hu, hd⟩ := lcL_inv (tg := tName 2) (fe := dCal 2 F_l_of (dCons (dVar 0) (dCons (dVar 1) dNil))) (ρ := [some (.ref n), some (.d (.list (stL (some1 ++ some2 ++ some3)))), none]) (emb := fun i : Nat => W.d (.int (0 + i))) (P := fun s => DealOk s n c) (Q := fun u => ∃ x, x ∈ some1 ++ some2 ++ some3 ∧ u = T x) (List.range r.toNat) s1 g3.ok (fun a _ s hs => by
    obtain ⟨d, s', f1, f2, f3⟩ := F_of_ok (ds := stL (some1 ++ some2 ++ some3)) hs (by decide) (by decide)
    obtain ⟨x, f4, f5⟩ := List.mem_map.mp f2
    refine ⟨[some (.ref n), some (.d (.list (stL (some1 ++ some2 ++ some3)))), some (.d (.int (0 + a)))], .d d, s', by simp, ?_, ⟨x, f4, by rw [← f5]⟩, f3.ok⟩
    generalize stL (some1 ++ some2 ++ some3) = A at f1
    simp [f1])
  obtain ⟨ys, rfl, hy⟩ := strsOf us hu
  rw [List.length_map, List.length_range] at hl
  have hall : ∀ y ∈ ys, y.length ≤ 12 ∧ ∀ c ∈ y, c < 0x110000 := by
    intro y hy'
    have := List.all_eq_true.mp some_all y (hy y hy')
    simpa using this
  have hf := flat_len (k := 12) fun y hy' => (hall y hy').1
  refine ⟨ys.flatten, s2, ?_, by omega, fun x hx => ?_, hd⟩
  · have hj := SX.join_S [] ys
    rw [joinL_nil] at hj
    refine dDef_rt (ρ' := [some (.ref n), some (.d (.list (stL (some1 ++ some2 ++ some3)))), none]) ?_
    show B_l_text [some (.ref n), none, none] st = _
    unfold B_l_text
    rw [dSeq_nx set1, dSeq_nx (set2 rfl), dSeq_nx (set3 rfl)]
    have le : (("" : String) : Str) = sT [] := by decide +kernel
    have er : dRng1 (dCons (dCal 2 F_l_any (dCons (dVar 0) (dCons (dLit (.int 24)) dNil))) dNil) [some (.ref n), some (.d (.list (stL (some1 ++ some2 ++ some3)))), none] st = .ok ((List.range r.toNat).map fun i : Nat => W.d (.int (0 + i))) s1 := by
      generalize stL (some1 ++ some2 ++ some3) = A
      have : -(2 ^ 62) ≤ r ∧ r < 2 ^ 62 := by omega
      simp [any_eq, e1, rngW]
      exact chk_ok (by omega)
    simp only [dRet, dMethS, dLit, dLcF, dLc, dCons, dNil, R.bind_ok]
    simp only [List.set_cons_succ, List.set_cons_zero, wipeE]
    rw [er, R.bind_ok, e2, R.bind_ok, chk_ok (by rw [List.length_map, sizeLine_eq]; omega), R.bind_ok, allD_T]
    simp only [R.bind_ok, mJoin, asD, asStrs_T]
    rw [chk_ok (by rw [sum_sT, List.length_map, le, sT_len, List.length_nil]; omega), R.bind_ok, le]
    rw [show Txt.join (sT []) (ys.map sT) = sT ys.flatten from hj]
  · obtain ⟨y, h1, h2⟩ := List.mem_flatten.mp hx
    exact (hall y h1).2 x h2
end G

namespace G
open PySem PySem.Spec PyProof.Rows L2 Y
/-! ### the law -/
abbrev wds (L : List Lx.Tok) : List (List Nat) := L.map (·.2)
theorem glue_joinL (s : Nat) : ∀ ps : List (List Nat), Lx.glue s ps = TL.joinL [s] ps
  | [] => rfl
  | [p] => rfl
  | p :: q :: r => by
    rw [Lx.glue, TL.joinL, glue_joinL s (q :: r)]; rfl
theorem glue_len (s : Nat) : ∀ ps : List (List Nat), (Lx.glue s ps).length ≤ ps.flatten.length + ps.length
  | [] => Nat.le_refl _
  | [p] => by simp [Lx.glue]
  | p :: q :: r => by
    have := glue_len s (q :: r)
    simp [Lx.glue] at this ⊢
    omega
theorem places_snd : ∀ (ps : List (List Nat)) (i : Nat), (Lx.places i ps).map (·.2) = ps
  | [], _ => rfl
  | p :: r, i => by simp [Lx.places, places_snd r]
def upto (ps : List (List Nat)) (k : Nat) : Nat := ((ps.take k).map fun p => p.length + 1).sum
theorem places_fst : ∀ (ps : List (List Nat)) (i : Nat), (Lx.places i ps).map (·.1) = (List.range ps.length).map fun k => i + upto ps k
  | [], _ => rfl
  | p :: r, i => by
    rw [Lx.places, List.map_cons, places_fst r, List.length_cons, List.range_succ_eq_map, List.map_cons, List.map_map]
    congr 1
    refine List.map_congr_left fun k _ => ?_
    simp [upto]; omega
theorem toks_flat (L : List Lx.Tok) : (wds L).flatten.length = Lx.toks L := by
  simp [Lx.toks, List.length_flatten, Function.comp_def]
theorem log9 {n : Nat} (h : n ≤ 276) : n.log2 < 9 := by
  by_cases h0 : n = 0
  · rw [h0]; decide
  · rw [Nat.log2_lt h0]; omega
/-- what holds of the tokens of a text -/
structure Tks (l : List Nat) (L : List Lx.Tok) : Prop where
  eq : L = Lx.lex .gap 0 l
  ln : l.length ≤ 276
  ok : ∀ c ∈ l, c < 0x110000
section
variable {l : List Nat} {L : List Lx.Tok} (h : Tks l L)
include h
theorem Tks.len : L.length ≤ 276 := by
  have := lex_len0 l
  rw [← h.eq] at this
  have := h.ln
  omega
theorem Tks.sum : (wds L).flatten.length ≤ 276 := by
  rw [toks_flat, h.eq]
  have h1 := Lx.lex_sum l .gap 0
  have h2 := h.ln
  simp [Lx.close, Lx.toks] at h1 ⊢
  omega
theorem Tks.good : ∀ p ∈ wds L, Lx.Good p := by
  intro p hp
  obtain ⟨t, h1, rfl⟩ := List.mem_map.mp hp
  rw [h.eq] at h1
  exact Lx.lex_good l .gap 0 trivial t h1
theorem Tks.code : ∀ t ∈ L, ∀ c ∈ t.2, c < 0x110000 := by
  intro t ht c hc
  rw [h.eq] at ht
  obtain ⟨p, r, e, _⟩ := lex_in0 t ht
  exact h.ok c (by rw [e]; simp [hc])
theorem Tks.strOk : ∀ t ∈ L, PyData.strOk (sT t.2) = true := by
  intro t ht
  have := h.code t ht
  simpa [PyData.strOk] using this
theorem Tks.dk1 : Dk 1 (.tuple (L.map tkD)) := Dk.tup (k := 0) fun x hx => by
  obtain ⟨t, h1, rfl⟩ := List.mem_map.mp hx
  exact Dk.str (h.strOk t h1)
omit h in
theorem dkpl (is : List Int) : Dk 1 (.tuple (is.map .int)) := Dk.tup (k := 0) fun x hx => by
  obtain ⟨t, h1, rfl⟩ := List.mem_map.mp hx
  exact Dk.int _
theorem Tks.dk2 : Dk 1 (.tuple (L.map plD)) := Dk.tup (k := 0) fun x hx => by
  obtain ⟨t, h1, rfl⟩ := List.mem_map.mp hx
  exact Dk.int _
theorem Tks.dk3 : Dk 2 (.list (L.map tpD)) := Dk.lst (k := 1) fun x hx => by
  obtain ⟨t, h1, rfl⟩ := List.mem_map.mp hx
  refine Dk.tup (k := 0) fun y hy => ?_
  rcases List.mem_cons.mp hy with rfl | hy
  · exact Dk.int _
  · have : y = .str (sT t.2) := by simpa using hy
    rw [this]; exact Dk.str (h.strOk t h1)
theorem Tks.place : ∀ t ∈ L, t.1 + t.2.length ≤ l.length := by
  intro t ht
  rw [h.eq] at ht
  exact (lex_in0 t ht).cut.1
theorem Tks.repr1 {st : Sto} : gRepr [.d (.tuple (L.map tkD))] st = .ok (.d (.str (PyData.tuple (L.map tkD)).shown)) st := by
  have e : L.map tkD = ((wds L).map sT).map .str := by simp
  have h1 := h.len
  have h2 := h.sum
  refine repr_ok (w := 1000) h.dk1 (by decide) ?_ ?_ ?_ (by decide)
  · rw [e, PyData.showable]; exact PyData.showableAll_strs _
  · rw [e, PyData.intsShort]; exact PyData.intsShortAll_strs _ _
  · rw [e, PyData.weight, weightAll_strs, sum_sT, List.length_map, List.length_map]
    omega
theorem Tks.repr2 {st : Sto} : gRepr [.d (.tuple (L.map plD))] st = .ok (.d (.str (PyData.tuple (L.map plD)).shown)) st := by
  have e : L.map plD = (L.map fun t => (t.1 : Int)).map .int := by simp
  have h1 := h.len
  have hp : ∀ n ∈ L.map fun t => (t.1 : Int), 0 ≤ n ∧ n ≤ 276 := by
    intro n hn
    obtain ⟨t, ht, rfl⟩ := List.mem_map.mp hn
    have := h.place t ht
    have := h.ln
    omega
  have hw : ∀ ns : List Int, (∀ n ∈ ns, 0 ≤ n ∧ n ≤ 276) → PyData.weightAll (ns.map .int) ≤ 10 * ns.length := by
    intro ns
    induction ns with
    | nil => intro _; simp [PyData.weightAll]
    | cons n ns ih =>
      intro q
      have q1 := q n List.mem_cons_self
      have q2 := ih fun m hm => q m (List.mem_cons_of_mem _ hm)
      have q3 : n.natAbs.log2 < 9 := log9 (by omega)
      simp only [List.map_cons, PyData.weightAll, PyData.weight, List.length_cons]
      split <;> omega
  refine repr_ok (w := 10 * 276) h.dk2 (by decide) ?_ ?_ ?_ (by decide)
  · rw [e, PyData.showable]
    refine PyData.showableAll_ints _ fun n hn => ?_
    have := hp n hn
    exact Nat.lt_of_lt_of_le (log9 (by omega)) (by decide)
  · rw [e, PyData.intsShort]
    refine PyData.intsShortAll_ints _ fun n hn => ?_
    have := hp n hn
    omega
  · rw [e, PyData.weight]
    have := hw _ hp
    rw [List.length_map] at this
    omega
theorem Tks.asStr : asStrs (L.map tkD) = some ((wds L).map sT) := by
  have e : L.map tkD = ((wds L).map sT).map .str := by simp
  rw [e, asStrs_map]
/-- put together by a sign -/
theorem Tks.join {st : Sto} {s : Nat} : mJoin (.d (.str (sT [s]))) [.d (.tuple (L.map tkD))] st = .ok (T (Lx.glue s (wds L))) st := by
  have h1 := h.len
  have h2 := h.sum
  simp only [mJoin, asD, h.asStr]
  rw [chk_ok (by rw [sum_sT, List.length_map, List.length_map, sT_len, List.length_singleton]; omega), glue_joinL]
  rw [show Txt.join (sT [s]) ((wds L).map sT) = sT (TL.joinL [s] (wds L)) from SX.join_S [s] (wds L)]
theorem Tks.glued {s : Nat} (hs : s = 32 ∨ s = 10) : (Lx.glue s (wds L)).length ≤ sizeLine ∧ Lx.lex .gap 0 (Lx.glue s (wds L)) = Lx.places 0 (wds L) := by
  have h1 := h.len
  have h2 := h.sum
  have h3 := glue_len s (wds L)
  rw [List.length_map] at h3
  exact ⟨by rw [sizeLine_eq]; omega, Lx.lex_glue s hs (wds L) 0 h.good⟩
theorem Tks.tokens {s : Nat} (hs : s = 32 ∨ s = 10) : F_tokens_of [T (Lx.glue s (wds L))] [] = .ok (.d (.tuple (L.map tkD))) [] := by
  obtain ⟨g1, g2⟩ := h.glued hs
  rw [F_tokens_of_ok g1, g2]
  have : (Lx.places 0 (wds L)).map tkD = L.map tkD := by
    have e := congrArg (List.map fun p => PyData.str (sT p)) (places_snd (wds L) 0)
    rw [List.map_map, List.map_map] at e
    exact e
  rw [this]
theorem Tks.placed {s : Nat} (hs : s = 32 ∨ s = 10) : F_token_places [T (Lx.glue s (wds L))] [] = .ok (.d (.tuple (((List.range L.length).map fun k => ((upto (wds L) k : Nat) : Int)).map .int))) [] := by
  obtain ⟨g1, g2⟩ := h.glued hs
  rw [F_token_places_ok g1, g2]
  have : (Lx.places 0 (wds L)).map plD = ((List.range L.length).map fun k => ((upto (wds L) k : Nat) : Int)).map .int := by
    have e := congrArg (List.map fun p : Nat => PyData.int p) (places_fst (wds L) 0)
    simp only [Nat.zero_add, List.length_map, List.map_map] at e ⊢
    exact e
  rw [this]
end
end G

namespace G
open PySem PySem.Spec PyProof.Rows L2 Y
section
variable {l : List Nat} {L : List Lx.Tok} (h : Tks l L) {st : Sto} {a b c : W} {e3 e4 e5 e6 e7 e8 e9 e10 e11 : Option W}
include h
omit h in
theorem gLen_T {x : List Nat} {st : Sto} (hx : x.length ≤ sizeLine) : gLen [T x] st = .ok (I x.length) st := by
  unfold gLen
  dsimp only
  rw [chk_ok (by rw [sT_len]; exact hx), sT_len]
theorem Tks.size : L.length ≤ sizeLine := by have := h.len; rw [sizeLine_eq]; omega
theorem lw_asg : (dAsg (dTup (dCons (dCall gTupleOf (dCons (dLcF (dLc [7, 10] (dIter (dVar 3)) (tTup' 2 (tCons' (tName 7) (tCons' (tName 10) tNil'))) (fun _ st => .ok true st) (dVar 10))) dNil)) (dCons (dCall gTupleOf (dCons (dLcF (dLc [7, 10] (dIter (dVar 3)) (tTup' 2 (tCons' (tName 7) (tCons' (tName 10) tNil'))) (fun _ st => .ok true st) (dVar 7))) dNil)) dNil))) (tTup' 2 (tCons' (tName 4) (tCons' (tName 5) tNil')))) [some a, some b, some c, some (.d (.list (L.map tpD))), e4, e5, e6, e7, e8, e9, e10, e11] st =
    .ok (.nx, [some a, some b, some c, some (.d (.list (L.map tpD))), some (.d (.tuple (L.map tkD))), some (.d (.tuple (L.map plD))), e6, e7, e8, e9, e10, e11]) st := by
  have i1 : ∀ (fe : En → Sto → R W) (g : Lx.Tok → PyData), (∀ t ∈ L, fe [some a, some b, some c, some (.d (.list (L.map tpD))), e4, e5, e6, some (I t.1), e8, e9, some (T t.2), e11] st = .ok (.d (g t)) st) →
      dCall gTupleOf (dCons (dLcF (dLc [7, 10] (dIter (dVar 3)) (tTup' 2 (tCons' (tName 7) (tCons' (tName 10) tNil'))) (fun _ st => .ok true st) fe)) dNil) [some a, some b, some c, some (.d (.list (L.map tpD))), e4, e5, e6, e7, e8, e9, e10, e11] st = .ok (.d (.tuple (L.map g))) st := by
    intro fe g hg
    have e := lcL_map (tg := tTup' 2 (tCons' (tName 7) (tCons' (tName 10) tNil'))) (fe := fe) (ρ := [some a, some b, some c, some (.d (.list (L.map tpD))), e4, e5, e6, none, e8, e9, none, e11]) (s := st) (emb := fun t => W.d (tpD t)) (g := fun t => W.d (g t)) L (fun t ht => ⟨[some a, some b, some c, some (.d (.list (L.map tpD))), e4, e5, e6, some (I t.1), e8, e9, some (T t.2), e11], by simp [tpD], hg t ht⟩)
    rw [← map_d tpD, ← map_d g] at e
    exact dCall_ok (dCons1_ok (dLcF_ok (dLc_ok (dIter_ok (dVar_ok rfl) rfl) e (by rw [List.length_map, List.length_map]; exact h.size)))) rfl
  have j1 := i1 (dVar 10) tkD (fun t _ => rfl)
  have j2 := i1 (dVar 7) plD (fun t _ => rfl)
  exact dAsg_ok (dTup_ok (ds := [.tuple (L.map tkD), .tuple (L.map plD)]) (dCons_ok j1 (dCons1_ok j2)) two_le) rfl
abbrev Env (ns : List Int) (l : List Nat) (L : List Lx.Tok) (e6 e7 e8 e9 e10 e11 : Option W) : En := [some (.scr ns), some (.ref 1), some (T l), some (.d (.list (L.map tpD))), some (.d (.tuple (L.map tkD))), some (.d (.tuple (L.map plD))), e6, e7, e8, e9, e10, e11]
variable {ns : List Int}
theorem Tks.self : F_tokens_of [T l] [] = .ok (.d (.tuple (L.map tkD))) [] := by
  rw [h.eq]; exact F_tokens_of_ok (by have := h.ln; rw [sizeLine_eq]; omega)
theorem Tks.selfP : F_token_places [T l] [] = .ok (.d (.tuple (L.map plD))) [] := by
  rw [h.eq]; exact F_token_places_ok (by have := h.ln; rw [sizeLine_eq]; omega)
theorem lw_turn : (dIfS (dOr (fun ρ st => asB (dBin (vEq true) (dCall gRepr (dCons (dCalP 1 (fun ws => F_tokens_of (pick [0] ws)) (dCons (dVar 2) dNil)) dNil)) (dCall gRepr (dCons (dVar 4) dNil)) ρ st)) (fun ρ st => asB (dBin (vEq true) (dCall gRepr (dCons (dCalP 1 (fun ws => F_token_places (pick [0] ws)) (dCons (dVar 2) dNil)) dNil)) (dCall gRepr (dCons (dVar 5) dNil)) ρ st)))
    (dRet (dLit (.bool false)))
    dEnd) (Env ns l L e6 e7 e8 e9 e10 e11) st = .ok (.nx, Env ns l L e6 e7 e8 e9 e10 e11) st := by
  have q : ∀ x : Str, vEq true (.d (.str x)) (.d (.str x)) st = .ok (.d (.bool false)) st := by intro x; simp
  exact dIfS_f (dOr_f
    (asB_ok (dBin_ok (dCall_ok (dCons1_ok (dCalP_ok (dCons1_ok (dVar_ok rfl)) rfl rfl h.self)) h.repr1) (dCall_ok (dCons1_ok (dVar_ok rfl)) h.repr1) (q _)))
    (asB_ok (dBin_ok (dCall_ok (dCons1_ok (dCalP_ok (dCons1_ok (dVar_ok rfl)) rfl rfl h.selfP)) h.repr2) (dCall_ok (dCons1_ok (dVar_ok rfl)) h.repr2) (q _)))) rfl
theorem lw_turns : (dFor (dRng1 (dCons (dLit (.int 2)) dNil)) (tName 6)
    (dIfS (dOr (fun ρ st => asB (dBin (vEq true) (dCall gRepr (dCons (dCalP 1 (fun ws => F_tokens_of (pick [0] ws)) (dCons (dVar 2) dNil)) dNil)) (dCall gRepr (dCons (dVar 4) dNil)) ρ st)) (fun ρ st => asB (dBin (vEq true) (dCall gRepr (dCons (dCalP 1 (fun ws => F_token_places (pick [0] ws)) (dCons (dVar 2) dNil)) dNil)) (dCall gRepr (dCons (dVar 5) dNil)) ρ st)))
    (dRet (dLit (.bool false)))
    dEnd)) (Env ns l L e6 e7 e8 e9 e10 e11) st = .ok (.nx, Env ns l L (some (I 1)) e7 e8 e9 e10 e11) st := by
  refine dFor_ok (dRng1_ok (j := 2) rfl (by decide)) ?_
  show (R.ok (Env ns l L (some (I 0)) e7 e8 e9 e10 e11) st).bind _ = _
  rw [R.bind_ok, lw_turn h, R.bind_ok]
  show (R.ok (Env ns l L (some (I 1)) e7 e8 e9 e10 e11) st).bind _ = _
  rw [R.bind_ok, lw_turn h]
  rfl
theorem lw_join : (dIfS (dOr (fun ρ st => asB (dBin (vEq true) (dCalP 1 F_tokens_of (dCons (dMethS mJoin (dLit (.str " ")) (dCons (dVar 4) dNil)) dNil)) (dVar 4) ρ st)) (fun ρ st => asB (dBin (vEq true) (dCalP 1 F_tokens_of (dCons (dMethS mJoin (dLit (.str "\n")) (dCons (dVar 4) dNil)) dNil)) (dVar 4) ρ st)))
    (dRet (dLit (.bool false)))
    dEnd) (Env ns l L e6 e7 e8 e9 e10 e11) st = .ok (.nx, Env ns l L e6 e7 e8 e9 e10 e11) st := by
  have q := ne_same (st := st) (h.dk1.shaped (by decide))
  refine dIfS_f (dOr_f
    (asB_ok (dBin_ok (dCalP_ok (dCons1_ok (dMethS_ok (x := ((" " : String) : Str)) rfl (dCons1_ok (dVar_ok rfl)) ?_)) rfl rfl (h.tokens (.inl rfl))) (dVar_ok rfl) q))
    (asB_ok (dBin_ok (dCalP_ok (dCons1_ok (dMethS_ok (x := (("\n" : String) : Str)) rfl (dCons1_ok (dVar_ok rfl)) ?_)) rfl rfl (h.tokens (.inr rfl))) (dVar_ok rfl) q))) rfl
  · rw [lit_sp]; exact h.join
  · rw [lit_nl]; exact h.join
theorem lw_places : (dIfS (fun ρ st => asB (dBin (vEq true) (dCalP 1 F_token_places (dCons (dMethS mJoin (dLit (.str " ")) (dCons (dVar 4) dNil)) dNil)) (dCall gTupleOf (dCons (dLcF (dLc [7] (dRng1 (dCons (dCall gLen (dCons (dVar 4) dNil)) dNil)) (tName 7) (fun _ st => .ok true st) (dCall gSum (dCons (dLcF (dLc [10] (dIter (dSl (dVar 4) dNoP (dPart (dVar 7)))) (tName 10) (fun _ st => .ok true st) (dBin vAdd (dCall gLen (dCons (dVar 10) dNil)) (dLit (.int 1))))) dNil)))) dNil)) ρ st))
    (dRet (dLit (.bool false)))
    dEnd) (Env ns l L e6 e7 e8 e9 e10 e11) st = .ok (.nx, Env ns l L e6 e7 e8 e9 e10 e11) st := by
  have hlen := h.len
  have q := ne_same (st := st) ((dkpl ((List.range L.length).map fun k => ((upto (wds L) k : Nat) : Int))).shaped (by decide))
  have inner : ∀ k, k < L.length → dCall gSum (dCons (dLcF (dLc [10] (dIter (dSl (dVar 4) dNoP (dPart (dVar 7)))) (tName 10) (fun _ st => .ok true st) (dBin vAdd (dCall gLen (dCons (dVar 10) dNil)) (dLit (.int 1))))) dNil) (Env ns l L e6 (some (I k)) e8 e9 e10 e11) st = .ok (I (upto (wds L) k : Nat)) st := by
    intro k hk
    have e := lcL_map (tg := tName 10) (fe := dBin vAdd (dCall gLen (dCons (dVar 10) dNil)) (dLit (.int 1))) (ρ := Env ns l L e6 (some (I k)) e8 e9 none e11) (s := st) (emb := fun t => W.d (tkD t)) (g := fun t => W.d (.int ((t.2.length + 1 : Nat) : Int))) (L.take k) (fun t ht => ⟨Env ns l L e6 (some (I k)) e8 e9 (some (T t.2)) e11, rfl, by
      have hp := h.place t (List.mem_of_mem_take ht)
      have hl := h.ln
      exact dBin_ok (dCall_ok (dCons1_ok (dVar_ok rfl)) (gLen_T (by rw [sizeLine_eq]; omega))) rfl (by simp)⟩)
    rw [← map_d tkD, ← map_d (fun t : Lx.Tok => PyData.int ((t.2.length + 1 : Nat) : Int))] at e
    refine dCall_ok (dCons1_ok (dLcF_ok (dLc_ok (dIter_ok (x := .tuple ((L.take k).map tkD)) (dSl_ok (dVar_ok rfl) rfl (dPart_ok (dVar_ok rfl)) ?_) rfl) e (by rw [List.length_map, List.length_map, List.length_take, sizeLine_eq]; omega)))) ?_
    · simp only [vSl]
      rw [cut_to _ (by rw [List.length_map]; omega), List.map_take]
    · have ei : asInts ((L.take k).map fun t => PyData.int ((t.2.length + 1 : Nat) : Int)) = some ((L.take k).map fun t => ((t.2.length + 1 : Nat) : Int)) := by
        have := asInts_map ((L.take k).map fun t => ((t.2.length + 1 : Nat) : Int))
        rw [List.map_map] at this
        exact this
      simp only [gSum, asD, ei]
      congr 3
      unfold upto
      rw [← List.map_take, List.map_map]
      induction L.take k with
      | nil => rfl
      | cons t r ih => simp only [List.map_cons, List.sum_cons, ih, Function.comp]; omega
  have e := lcL_map (tg := tName 7) (fe := dCall gSum (dCons (dLcF (dLc [10] (dIter (dSl (dVar 4) dNoP (dPart (dVar 7)))) (tName 10) (fun _ st => .ok true st) (dBin vAdd (dCall gLen (dCons (dVar 10) dNil)) (dLit (.int 1))))) dNil)) (ρ := Env ns l L e6 none e8 e9 e10 e11) (s := st) (emb := fun i : Nat => W.d (.int (i : Int))) (g := fun k => W.d (.int ((upto (wds L) k : Nat) : Int))) (List.range L.length) (fun k hk => ⟨Env ns l L e6 (some (I k)) e8 e9 e10 e11, rfl, inner k (List.mem_range.mp hk)⟩)
  rw [← map_d (fun k => PyData.int ((upto (wds L) k : Nat) : Int))] at e
  refine dIfS_f (asB_ok (dBin_ok (dCalP_ok (dCons1_ok (dMethS_ok (x := ((" " : String) : Str)) rfl (dCons1_ok (dVar_ok rfl)) (by rw [lit_sp]; exact h.join))) rfl rfl (h.placed (.inl rfl))) (dCall_ok (dCons1_ok (dLcF_ok (dLc_ok (dRng1_ok (j := L.length) (dCons1_ok (dCall_ok (dCons1_ok (dVar_ok rfl)) ?_)) (by omega)) e (by rw [List.length_map, List.length_map, List.length_range, sizeLine_eq]; omega)))) rfl) ?_)) rfl
  · simp
  · have q2 := q
    rw [List.map_map] at q2
    rw [List.map_map]
    exact q2
end
end G

namespace G
open PySem PySem.Spec PyProof.Rows L2 Y
theorem sl_to {p q : List Nat} {st : Sto} (h : (p ++ q).length ≤ sizeLine) : vSl (T (p ++ q)) none (some (p.length : Int)) st = .ok (T p) st := by
  simp only [vSl]
  rw [chk_ok (by rw [sT_len]; exact h), ← C8.cutS_slice]
  unfold L2.cutS
  rw [HT.sIx_nat, HT.sIx_none, sT_len, sT_toList, Nat.min_eq_left (by simp), Nat.sub_zero, List.drop_zero, List.take_left]
theorem sl_from {p q : List Nat} {st : Sto} (h : (p ++ q).length ≤ sizeLine) : vSl (T (p ++ q)) (some (p.length : Int)) none st = .ok (T q) st := by
  simp only [vSl]
  rw [chk_ok (by rw [sT_len]; exact h), ← C8.cutS_slice]
  unfold L2.cutS
  rw [HT.sIx_nat, HT.sIx_none, sT_len, sT_toList, Nat.min_eq_left (by simp), List.drop_left, List.take_of_length_le (by simp)]
theorem add_T {a b : List Nat} {st : Sto} (h : a.length + b.length ≤ sizeLine) : vAdd (T a) (T b) st = .ok (T (a ++ b)) st := by
  simp only [vAdd]
  rw [chk_ok (by rw [sT_len, sT_len]; exact h), sT_app]
theorem lit_more : (("# : 3 ; xy\n" : String) : Str) = sT (35 :: [32, 58, 32, 51, 32, 59, 32, 120, 121] ++ [10]) := by decide +kernel
theorem ne_nil {ds : List PyData} {st : Sto} (h : SeqAt.shaped (.list ds) = true) : vEq true (.d (.list ds)) (.d (.list [])) st = .ok (.d (.bool (!ds.isEmpty))) st := by
  cases ds <;> simp [vEq, h, shaped_nil, PyData.eqv, PyData.eqvAll]
section
variable {l : List Nat} {L : List Lx.Tok} (h : Tks l L) {st : Sto} {e6 e7 e8 e9 e10 e11 : Option W} {ns : List Int}
include h
theorem lw_none (hL : L = []) : asB (dBin (vEq true) (dVar 3) (dLst dNil) (Env ns l L e6 e7 e8 e9 e10 e11) st) = .ok false st :=
  asB_ok (dBin_ok (dVar_ok rfl) (dLst_ok (ds := []) rfl (by decide)) (by rw [ne_nil (h.dk3.shaped (by decide)), hL]; rfl))
theorem lw_some (hL : L ≠ []) : asB (dBin (vEq true) (dVar 3) (dLst dNil) (Env ns l L e6 e7 e8 e9 e10 e11) st) = .ok true st :=
  asB_ok (dBin_ok (dVar_ok rfl) (dLst_ok (ds := []) rfl (by decide)) (by
    rw [ne_nil (h.dk3.shaped (by decide))]
    cases L with
    | nil => exact absurd rfl hL
    | cons => rfl))
theorem lw_more {A B : List Lx.Tok} {t : Lx.Tok} (hs : L = A ++ t :: B) {p q : List Nat} (hp : l = p ++ q) (hlen : p.length = t.1 + t.2.length) : (dSeq (dSet 8 (dBin vAdd (dBin vIx (dBin vIx (dVar 3) (dVar 7)) (dLit (.int 0))) (dCall gLen (dCons (dBin vIx (dBin vIx (dVar 3) (dVar 7)) (dLit (.int 1))) dNil))))
    (dSet 9 (dBin vAdd (dBin vAdd (dSl (dVar 2) dNoP (dPart (dVar 8))) (dLit (.str "# : 3 ; xy\n"))) (dSl (dVar 2) (dPart (dVar 8)) dNoP)))) (Env ns l L e6 (some (I A.length)) e8 e9 e10 e11) st =
    .ok (.nx, Env ns l L e6 (some (I A.length)) (some (I p.length)) (some (T (p ++ (35 :: [32, 58, 32, 51, 32, 59, 32, 120, 121] ++ 10 :: q)))) e10 e11) st := by
  have hln := h.ln
  have hg : (L.map tpD)[A.length]? = some (tpD t) := by rw [hs]; simp
  have htl : t.2.length ≤ sizeLine := by rw [sizeLine_eq]; have := congrArg List.length hp; simp at this; omega
  have hx : dBin vIx (dVar 3) (dVar 7) (Env ns l L e6 (some (I A.length)) e8 e9 e10 e11) st = .ok (.d (tpD t)) st := dBin_ok (dVar_ok rfl) (dVar_ok rfl) (vIx_list hg)
  have hlp : (p ++ q).length ≤ sizeLine := by rw [← hp, sizeLine_eq]; omega
  have e0 : ((t.1 : Int) + (t.2.length : Int)) = (p.length : Int) := by omega
  have h8 : (dSet 8 (dBin vAdd (dBin vIx (dBin vIx (dVar 3) (dVar 7)) (dLit (.int 0))) (dCall gLen (dCons (dBin vIx (dBin vIx (dVar 3) (dVar 7)) (dLit (.int 1))) dNil)))) (Env ns l L e6 (some (I A.length)) e8 e9 e10 e11) st = .ok (.nx, Env ns l L e6 (some (I A.length)) (some (I p.length)) e9 e10 e11) st := by
    have hv : vAdd (.d (.int t.1)) (I t.2.length) st = .ok (I p.length) st := by simp only [vAdd, e0]
    exact dSet_ok (dBin_ok (dBin_ok hx rfl (vIx_tup (j := 0) rfl)) (dCall_ok (dCons1_ok (dBin_ok hx rfl (vIx_tup (j := 1) rfl))) (gLen_T htl)) hv)
  refine (dSeq_nx h8).trans ?_
  refine dSet_ok (w := T (p ++ (35 :: [32, 58, 32, 51, 32, 59, 32, 120, 121] ++ 10 :: q))) (dBin_ok (dBin_ok (dSl_ok (w := T (p ++ q)) (dVar_ok (by rw [← hp]; rfl)) rfl (dPart_ok (dVar_ok rfl)) (sl_to hlp)) rfl (by rw [lit_more]; exact add_T (by simp at hlp ⊢; rw [sizeLine_eq] at *; have := congrArg List.length hp; simp at this; omega))) (dSl_ok (w := T (p ++ q)) (dVar_ok (by rw [← hp]; rfl)) (dPart_ok (dVar_ok rfl)) rfl (sl_from hlp)) ?_)
  rw [add_T (by simp; rw [sizeLine_eq] at *; have := congrArg List.length hp; simp at this; omega)]
  simp
theorem lw_same {A B : List Lx.Tok} {t : Lx.Tok} (hs : L = A ++ t :: B) {m : List Nat} (hm : m.length ≤ 1000) (hx : Lx.lex .gap 0 m = A ++ [t] ++ B.map (Lx.shiftT 11)) : (dIfS (dOr (fun ρ st => asB (dBin (vEq true) (dCalP 1 F_tokens_of (dCons (dVar 9) dNil)) (dVar 4) ρ st)) (fun ρ st => asB (dBin (vEq true) (dSl (dCalP 1 F_token_places (dCons (dVar 9) dNil)) (dPart (dBin vAdd (dVar 7) (dLit (.int 1)))) dNoP) (dCall gTupleOf (dCons (dLcF (dLc [11] (dIter (dSl (dVar 5) (dPart (dBin vAdd (dVar 7) (dLit (.int 1)))) dNoP)) (tName 11) (fun _ st => .ok true st) (dBin vAdd (dVar 11) (dLit (.int 11))))) dNil)) ρ st)))
    (dRet (dLit (.bool false)))
    dEnd) (Env ns l L e6 (some (I A.length)) e8 (some (T m)) e10 e11) st = .ok (.nx, Env ns l L e6 (some (I A.length)) e8 (some (T m)) e10 e11) st := by
  have hlen := h.len
  have q := ne_same (st := st) (h.dk1.shaped (by decide))
  have hm' : m.length ≤ sizeLine := by rw [sizeLine_eq]; omega
  have c1 : F_tokens_of [T m] [] = .ok (.d (.tuple (L.map tkD))) [] := by
    rw [F_tokens_of_ok hm', hx, hs]
    simp [Lx.shiftT, Function.comp_def]
  have c2 : F_token_places [T m] [] = .ok (.d (.tuple ((A ++ [t]).map plD ++ B.map fun t => .int (t.1 + 11 : Nat)))) [] := by
    rw [F_token_places_ok hm', hx]
    simp [Lx.shiftT, Function.comp_def]
  have hB : B.length ≤ 276 := by rw [hs] at hlen; simp at hlen; omega
  have ix : dBin vAdd (dVar 7) (dLit (.int 1)) (Env ns l L e6 (some (I A.length)) e8 (some (T m)) e10 e11) st = .ok (.d (.int ((A.length + 1 : Nat) : Int))) st := dBin_ok (dVar_ok rfl) rfl (by simp)
  have q2 := ne_same (st := st) (d := .tuple (B.map fun t => PyData.int (t.1 + 11 : Nat))) ((Dk.tup (k := 0) fun x hx => by
    obtain ⟨t, h1, rfl⟩ := List.mem_map.mp hx
    exact Dk.int _).shaped (by decide))
  have e := lcL_map (tg := tName 11) (fe := dBin vAdd (dVar 11) (dLit (.int 11))) (ρ := Env ns l L e6 (some (I A.length)) e8 (some (T m)) e10 none) (s := st) (emb := fun t => W.d (plD t)) (g := fun t => W.d (.int ((t.1 + 11 : Nat) : Int))) B (fun t ht => ⟨Env ns l L e6 (some (I A.length)) e8 (some (T m)) e10 (some (I t.1)), rfl, dBin_ok (dVar_ok rfl) rfl (by simp)⟩)
  rw [← map_d plD, ← map_d (fun t : Lx.Tok => PyData.int ((t.1 + 11 : Nat) : Int))] at e
  refine dIfS_f (dOr_f (asB_ok (dBin_ok (dCalP_ok (dCons1_ok (dVar_ok rfl)) rfl rfl c1) (dVar_ok rfl) q))
    (asB_ok (dBin_ok (dSl_ok (dCalP_ok (dCons1_ok (dVar_ok rfl)) rfl rfl c2) (dPart_ok ix) rfl (?_ : _ = R.ok (.d (.tuple (B.map fun t => PyData.int (t.1 + 11 : Nat)))) st)) (dCall_ok (dCons1_ok (dLcF_ok (dLc_ok (dIter_ok (x := .tuple (B.map plD)) (dSl_ok (dVar_ok rfl) (dPart_ok ix) rfl ?_) rfl) e (by rw [List.length_map, List.length_map, sizeLine_eq]; omega)))) rfl) q2))) rfl
  · simp only [vSl]
    rw [cut_from _ (by simp)]
    have : A.length + 1 = ((A ++ [t]).map plD).length := by simp
    rw [this, List.drop_left]
  · simp only [vSl]
    rw [hs, cut_from _ (by simp)]
    have e1 : A ++ t :: B = (A ++ [t]) ++ B := by simp
    have : A.length + 1 = ((A ++ [t]).map plD).length := by simp
    rw [e1, List.map_append, this, List.drop_left]
end
theorem lw_ret {ρ : En} {st : Sto} : (dRet (dAndV (dBin (vEq false) (dCalP 1 F_tokens_of (dCons (dLit (.str "")) dNil)) (dTup dNil)) (dBin (vEq false) (dCalP 1 F_token_places (dCons (dLit (.str "# a")) dNil)) (dTup dNil)))) ρ st = .ok (.rt (.d (.bool true)), ρ) st := by
  have l1 : (("" : String) : Str) = sT [] := by decide +kernel
  have l2 : (("# a" : String) : Str) = sT [35, 32, 97] := by decide +kernel
  have c1 : F_tokens_of [.d (.str (("" : String) : Str))] [] = .ok (.d (.tuple [])) [] := by rw [l1, F_tokens_of_ok (by simp)]; rfl
  have c2 : F_token_places [.d (.str (("# a" : String) : Str))] [] = .ok (.d (.tuple [])) [] := by rw [l2, F_token_places_ok (by rw [sizeLine_eq]; decide)]; rfl
  have q : vEq false (.d (.tuple [])) (.d (.tuple [])) st = .ok (.d (.bool true)) st := eq_same ((Dk.tup (k := 0) (xs := []) fun x hx => nomatch hx).shaped (by decide))
  exact dRet_ok (dAndV_t (dBin_ok (dCalP_ok (dCons1_ok rfl) rfl rfl c1) (dTup_ok (ds := []) rfl (by decide)) q) (dBin_ok (dCalP_ok (dCons1_ok rfl) rfl rfl c2) (dTup_ok (ds := []) rfl (by decide)) q))
theorem dSeq_two {F G B : DS} {ρ ρ' : En} {s s' : Sto} (h : dSeq F G ρ s = .ok (.nx, ρ') s') : dSeq F (dSeq G B) ρ s = B ρ' s' := by
  unfold dSeq at h ⊢
  cases e : F ρ s with
  | ok a s1 =>
    rw [e, R.bind_ok] at h
    rw [R.bind_ok]
    obtain ⟨f, ρ1⟩ := a
    cases f with
    | nx =>
      dsimp only at h ⊢
      rw [h]
      rfl
    | _ => cases h
  | exc c x s1 => rw [e] at h; cases h
  | bad => rw [e] at h; cases h
/-- the law holds -/
theorem holds (ns : List Int) (hns : ns.length ≤ 63) : ∃ st, F_law [.scr ns] [] = .ok (.d (.bool true)) st := by
  obtain ⟨s1, d1, k1⟩ := F_draw_ok ns 5 hns (by decide)
  obtain ⟨l, s2, d2, hl, hc, k2⟩ := F_text_ok k1
  have h : Tks l (Lx.lex .gap 0 l) := ⟨rfl, hl, hc⟩
  have hz : l.length ≤ sizeLine := by rw [sizeLine_eq]; omega
  have d3 := F_walk_ok hz hc
  generalize Lx.lex .gap 0 l = L at h d3
  have a1 : (dSet 1 (dCal 2 F_l_draw (dCons (dVar 0) (dCons (dLit (.int 5)) dNil)))) [some (.scr ns), none, none, none, none, none, none, none, none, none, none, none] [] = .ok (.nx, [some (.scr ns), some (.ref 1), none, none, none, none, none, none, none, none, none, none]) s1 := dSet_ok (dCal_ok (dCons_ok (dVar_ok rfl) (dCons1_ok rfl)) rfl d1)
  have a2 : (dSet 2 (dCal 1 F_l_text (dCons (dVar 1) dNil))) [some (.scr ns), some (.ref 1), none, none, none, none, none, none, none, none, none, none] s1 = .ok (.nx, [some (.scr ns), some (.ref 1), some (T l), none, none, none, none, none, none, none, none, none]) s2 := dSet_ok (dCal_ok (dCons1_ok (dVar_ok rfl)) rfl d2)
  have a3 : (dSet 3 (dCalP 1 F_l_walk (dCons (dVar 2) dNil))) [some (.scr ns), some (.ref 1), some (T l), none, none, none, none, none, none, none, none, none] s2 = .ok (.nx, [some (.scr ns), some (.ref 1), some (T l), some (.d (.list (L.map tpD))), none, none, none, none, none, none, none, none]) s2 := dSet_ok (dCalP_ok (dCons1_ok (dVar_ok rfl)) rfl rfl d3)
  have fin : ∀ (B : DS) s3, (∀ ρ st, B ρ st = .ok (.rt (.d (.bool true)), ρ) st) → ∀ F : DS, ∀ ρ ρ' s0, F ρ s0 = .ok (.nx, ρ') s3 → dSeq F B ρ s0 = .ok (.rt (.d (.bool true)), ρ') s3 := by
    intro B s3 hB F ρ ρ' s0 hF
    exact (dSeq_nx hF).trans (hB _ _)
  suffices ∃ ρ' st, B_law [some (.scr ns), none, none, none, none, none, none, none, none, none, none, none] [] = .ok (.rt (.d (.bool true)), ρ') st by
    obtain ⟨ρ', st, e⟩ := this
    exact ⟨st, dDef_of e⟩
  unfold B_law
  rw [dSeq_nx a1, dSeq_nx a2, dSeq_nx a3, dSeq_nx (lw_asg h), dSeq_nx (lw_turns h), dSeq_nx (lw_join h), dSeq_nx (lw_places h)]
  by_cases hL : L = []
  · exact ⟨_, _, fin _ s2 (fun _ _ => lw_ret) _ _ _ _ (dIfS_f (lw_none h hL) rfl)⟩
  · have h0 : 0 < L.length := List.length_pos_iff.mpr hL
    have hlen := h.len
    obtain ⟨r, s3, e1, g1, g2, g3, _⟩ := F_any_ok (k := L.length) k2 (by omega) (by omega)
    obtain ⟨j, rfl⟩ := Int.eq_ofNat_of_zero_le g1
    have hj : j < L.length := by omega
    have hs : L = L.take j ++ L[j] :: L.drop (j + 1) := by rw [List.getElem_cons_drop, List.take_append_drop]
    have hjl : (L.take j).length = j := by rw [List.length_take, Nat.min_eq_left (by omega)]
    have hx : Lx.lex .gap 0 l = L.take j ++ L[j] :: L.drop (j + 1) := h.eq.symm.trans hs
    have gl : gLen [.d (.list (L.map tpD))] s2 = .ok (I L.length) s2 := by simp
    have b7 : (dSet 7 (dCal 2 F_l_any (dCons (dVar 1) (dCons (dCall gLen (dCons (dVar 3) dNil)) dNil)))) (Env ns l L (some (I 1)) none none none none none) s2 = .ok (.nx, Env ns l L (some (I 1)) (some (I j)) none none none none) s3 := dSet_ok (dCal_ok (dCons_ok (dVar_ok rfl) (dCons1_ok (dCall_ok (dCons1_ok (dVar_ok rfl)) gl))) rfl e1)
    generalize L.take j = A at hs hjl hx
    generalize L[j] = t at hs hx
    generalize L.drop (j + 1) = B at hs hx
    subst hjl
    obtain ⟨p, q, hp, c1, c2, c3, c4⟩ := Lx.lex_split l .gap 0 A B t trivial hx
    have hpl : p.length = t.1 + t.2.length := by omega
    have hr := Lx.lex_remark (p := p) (q := q) (r := [32, 58, 32, 51, 32, 59, 32, 120, 121]) (m := .gap) (i := 0) (e := t.1 + t.2.length) c3 c1 (by decide)
    rw [c2, c4] at hr
    have hml : (p ++ (35 :: [32, 58, 32, 51, 32, 59, 32, 120, 121] ++ 10 :: q)).length ≤ 1000 := by
      have := congrArg List.length hp
      simp at this ⊢
      omega
    refine ⟨Env ns l L (some (I 1)) (some (I A.length)) (some (I p.length)) (some (T (p ++ (35 :: [32, 58, 32, 51, 32, 59, 32, 120, 121] ++ 10 :: q)))) none none, s3, fin _ s3 (fun _ _ => lw_ret) _ _ _ _ (dIfS_t (lw_some h hL) ?_)⟩
    exact (dSeq_nx b7).trans ((dSeq_two (lw_more h hs hp hpl)).trans (lw_same h hs hml hr))
end G

namespace G
open PySem PySem.Spec PyProof.Rows L2 Y
theorem all_mk {P : Program} {w : World} {K : PySem.W.Frag} {h : Heap} {mg : Str → Option Value} (X : K.In h) (G : h.Ns mainGlobals mg)
    {f0 : Addr} {od0 an0 : Option Addr} {sl0 : Array (Option Value)} {oc0 kV0 dc0 pm0 cd0 ct0 : Value}
    (a0 : PySem.W.nsIn K mainGlobals "_line_end" = some (some (.ref f0))) (l0 : K.lookup f0 = some ⟨oc0, od0, .func (PySem.W.fnOf "_line_end" "_line_end" (C8.fnArgs s_line_end) (C8.fnBody s_line_end) (C8.fnScope s_line_end) .none kV0 dc0 pm0 an0 cd0 ct0), sl0⟩) (c0 : PySem.W.codeIn K cd0 "_line_end" = true) (k0 : PySem.W.keepIn K (.ref f0) = true)
    {f1 : Addr} {od1 an1 : Option Addr} {sl1 : Array (Option Value)} {oc1 kV1 dc1 pm1 cd1 ct1 : Value}
    (a1 : PySem.W.nsIn K mainGlobals "_token_end" = some (some (.ref f1))) (l1 : K.lookup f1 = some ⟨oc1, od1, .func (PySem.W.fnOf "_token_end" "_token_end" (C8.fnArgs s_token_end) (C8.fnBody s_token_end) (C8.fnScope s_token_end) .none kV1 dc1 pm1 an1 cd1 ct1), sl1⟩) (c1 : PySem.W.codeIn K cd1 "_token_end" = true) (k1 : PySem.W.keepIn K (.ref f1) = true)
    {f2 : Addr} {od2 an2 : Option Addr} {sl2 : Array (Option Value)} {oc2 kV2 dc2 pm2 cd2 ct2 : Value}
    (a2 : PySem.W.nsIn K mainGlobals "_spans" = some (some (.ref f2))) (l2 : K.lookup f2 = some ⟨oc2, od2, .func (PySem.W.fnOf "_spans" "_spans" (C8.fnArgs s_spans) (C8.fnBody s_spans) (C8.fnScope s_spans) .none kV2 dc2 pm2 an2 cd2 ct2), sl2⟩) (c2 : PySem.W.codeIn K cd2 "_spans" = true) (k2 : PySem.W.keepIn K (.ref f2) = true)
    {f3 : Addr} {od3 an3 : Option Addr} {sl3 : Array (Option Value)} {oc3 kV3 dc3 pm3 cd3 ct3 : Value}
    (a3 : PySem.W.nsIn K mainGlobals "tokens_of" = some (some (.ref f3))) (l3 : K.lookup f3 = some ⟨oc3, od3, .func (PySem.W.fnOf "tokens_of" "tokens_of" (C8.fnArgs s_tokens_of) (C8.fnBody s_tokens_of) (C8.fnScope s_tokens_of) .none kV3 dc3 pm3 an3 cd3 ct3), sl3⟩) (c3 : PySem.W.codeIn K cd3 "tokens_of" = true) (k3 : PySem.W.keepIn K (.ref f3) = true)
    {f4 : Addr} {od4 an4 : Option Addr} {sl4 : Array (Option Value)} {oc4 kV4 dc4 pm4 cd4 ct4 : Value}
    (a4 : PySem.W.nsIn K mainGlobals "token_places" = some (some (.ref f4))) (l4 : K.lookup f4 = some ⟨oc4, od4, .func (PySem.W.fnOf "token_places" "token_places" (C8.fnArgs s_token_places) (C8.fnBody s_token_places) (C8.fnScope s_token_places) .none kV4 dc4 pm4 an4 cd4 ct4), sl4⟩) (c4 : PySem.W.codeIn K cd4 "token_places" = true) (k4 : PySem.W.keepIn K (.ref f4) = true)
    {f5 : Addr} {od5 an5 : Option Addr} {sl5 : Array (Option Value)} {oc5 kV5 dc5 pm5 cd5 ct5 : Value}
    (a5 : PySem.W.nsIn K mainGlobals "_law_draw" = some (some (.ref f5))) (l5 : K.lookup f5 = some ⟨oc5, od5, .func (PySem.W.fnOf "_law_draw" "_law_draw" (C8.fnArgs s_l_draw) (C8.fnBody s_l_draw) (C8.fnScope s_l_draw) .none kV5 dc5 pm5 an5 cd5 ct5), sl5⟩) (c5 : PySem.W.codeIn K cd5 "_law_draw" = true) (k5 : PySem.W.keepIn K (.ref f5) = true)
    {f6 : Addr} {od6 an6 : Option Addr} {sl6 : Array (Option Value)} {oc6 kV6 dc6 pm6 cd6 ct6 : Value}
    (a6 : PySem.W.nsIn K mainGlobals "_law_any" = some (some (.ref f6))) (l6 : K.lookup f6 = some ⟨oc6, od6, .func (PySem.W.fnOf "_law_any" "_law_any" (C8.fnArgs s_l_any) (C8.fnBody s_l_any) (C8.fnScope s_l_any) .none kV6 dc6 pm6 an6 cd6 ct6), sl6⟩) (c6 : PySem.W.codeIn K cd6 "_law_any" = true) (k6 : PySem.W.keepIn K (.ref f6) = true)
    {f7 : Addr} {od7 an7 : Option Addr} {sl7 : Array (Option Value)} {oc7 kV7 dc7 pm7 cd7 ct7 : Value}
    (a7 : PySem.W.nsIn K mainGlobals "_law_of" = some (some (.ref f7))) (l7 : K.lookup f7 = some ⟨oc7, od7, .func (PySem.W.fnOf "_law_of" "_law_of" (C8.fnArgs s_l_of) (C8.fnBody s_l_of) (C8.fnScope s_l_of) .none kV7 dc7 pm7 an7 cd7 ct7), sl7⟩) (c7 : PySem.W.codeIn K cd7 "_law_of" = true) (k7 : PySem.W.keepIn K (.ref f7) = true)
    {f8 : Addr} {od8 an8 : Option Addr} {sl8 : Array (Option Value)} {oc8 kV8 dc8 pm8 cd8 ct8 : Value}
    (a8 : PySem.W.nsIn K mainGlobals "_law_mixed" = some (some (.ref f8))) (l8 : K.lookup f8 = some ⟨oc8, od8, .func (PySem.W.fnOf "_law_mixed" "_law_mixed" (C8.fnArgs s_l_mixed) (C8.fnBody s_l_mixed) (C8.fnScope s_l_mixed) .none kV8 dc8 pm8 an8 cd8 ct8), sl8⟩) (c8 : PySem.W.codeIn K cd8 "_law_mixed" = true) (k8 : PySem.W.keepIn K (.ref f8) = true)
    {f9 : Addr} {od9 an9 : Option Addr} {sl9 : Array (Option Value)} {oc9 kV9 dc9 pm9 cd9 ct9 : Value}
    (a9 : PySem.W.nsIn K mainGlobals "_law_text" = some (some (.ref f9))) (l9 : K.lookup f9 = some ⟨oc9, od9, .func (PySem.W.fnOf "_law_text" "_law_text" (C8.fnArgs s_l_text) (C8.fnBody s_l_text) (C8.fnScope s_l_text) .none kV9 dc9 pm9 an9 cd9 ct9), sl9⟩) (c9 : PySem.W.codeIn K cd9 "_law_text" = true) (k9 : PySem.W.keepIn K (.ref f9) = true)
    {f10 : Addr} {od10 an10 : Option Addr} {sl10 : Array (Option Value)} {oc10 kV10 dc10 pm10 cd10 ct10 : Value}
    (a10 : PySem.W.nsIn K mainGlobals "_law_is_letter" = some (some (.ref f10))) (l10 : K.lookup f10 = some ⟨oc10, od10, .func (PySem.W.fnOf "_law_is_letter" "_law_is_letter" (C8.fnArgs s_l_is_letter) (C8.fnBody s_l_is_letter) (C8.fnScope s_l_is_letter) .none kV10 dc10 pm10 an10 cd10 ct10), sl10⟩) (c10 : PySem.W.codeIn K cd10 "_law_is_letter" = true) (k10 : PySem.W.keepIn K (.ref f10) = true)
    {f11 : Addr} {od11 an11 : Option Addr} {sl11 : Array (Option Value)} {oc11 kV11 dc11 pm11 cd11 ct11 : Value}
    (a11 : PySem.W.nsIn K mainGlobals "_law_walk" = some (some (.ref f11))) (l11 : K.lookup f11 = some ⟨oc11, od11, .func (PySem.W.fnOf "_law_walk" "_law_walk" (C8.fnArgs s_l_walk) (C8.fnBody s_l_walk) (C8.fnScope s_l_walk) .none kV11 dc11 pm11 an11 cd11 ct11), sl11⟩) (c11 : PySem.W.codeIn K cd11 "_law_walk" = true) (k11 : PySem.W.keepIn K (.ref f11) = true)
    {f12 : Addr} {od12 an12 : Option Addr} {sl12 : Array (Option Value)} {oc12 kV12 dc12 pm12 cd12 ct12 : Value}
    (a12 : PySem.W.nsIn K mainGlobals "law" = some (some (.ref f12))) (l12 : K.lookup f12 = some ⟨oc12, od12, .func (PySem.W.fnOf "law" "law" (C8.fnArgs s_law) (C8.fnBody s_law) (C8.fnScope s_law) .none kV12 dc12 pm12 an12 cd12 ct12), sl12⟩) (c12 : PySem.W.codeIn K cd12 "law" = true) (k12 : PySem.W.keepIn K (.ref f12) = true)
    (y_abs : PySem.W.nsIn K mainGlobals "abs" = some none)
    (y_enumerate : PySem.W.nsIn K mainGlobals "enumerate" = some none)
    (y_int : PySem.W.nsIn K mainGlobals "int" = some none)
    (y_len : PySem.W.nsIn K mainGlobals "len" = some none)
    (y_list : PySem.W.nsIn K mainGlobals "list" = some none)
    (y_max : PySem.W.nsIn K mainGlobals "max" = some none)
    (y_range : PySem.W.nsIn K mainGlobals "range" = some none)
    (y_repr : PySem.W.nsIn K mainGlobals "repr" = some none)
    (y_sum : PySem.W.nsIn K mainGlobals "sum" = some none)
    (y_tuple : PySem.W.nsIn K mainGlobals "tuple" = some none)
    {tk_WORD_SIGNS : Tok} (x_WORD_SIGNS : PySem.W.nsIn K mainGlobals "WORD_SIGNS" = some (some (.str "abcdefghijklmnopqrstuvwxyzABCDEFGHIJKLMNOPQRSTUVWXYZ0123456789_" tk_WORD_SIGNS)))
    (base : Heap) : CalG P w K mg base 4 "law" s_law ["script"] 1 F_law := by
  have h_line_end := ok_line_end (P := P) (w := w) (K := K) (mg := mg) (base := base) ⟨⟨oc0, od0, .none, kV0, dc0, pm0, an0, cd0, ct0, sl0, rfl, l0, c0⟩, PySem.W.mg_of X G a0, k0⟩ rfl (PySem.W.mg_none_of X G y_len)
  have h_token_end := ok_token_end (P := P) (w := w) (K := K) (mg := mg) (base := base) ⟨⟨oc1, od1, .none, kV1, dc1, pm1, an1, cd1, ct1, sl1, rfl, l1, c1⟩, PySem.W.mg_of X G a1, k1⟩ rfl (PySem.W.mg_none_of X G y_len) (PySem.W.mg_none_of X G y_max) (PySem.W.mg_of X G x_WORD_SIGNS)
  have h_spans := ok_spans (P := P) (w := w) (K := K) (mg := mg) (base := base) ⟨⟨oc2, od2, .none, kV2, dc2, pm2, an2, cd2, ct2, sl2, rfl, l2, c2⟩, PySem.W.mg_of X G a2, k2⟩ rfl (PySem.W.mg_none_of X G y_len) h_line_end h_token_end
  have h_tokens_of := ok_tokens_of (P := P) (w := w) (K := K) (mg := mg) (base := base) ⟨⟨oc3, od3, .none, kV3, dc3, pm3, an3, cd3, ct3, sl3, rfl, l3, c3⟩, PySem.W.mg_of X G a3, k3⟩ rfl (PySem.W.mg_none_of X G y_tuple) h_spans
  have h_token_places := ok_token_places (P := P) (w := w) (K := K) (mg := mg) (base := base) ⟨⟨oc4, od4, .none, kV4, dc4, pm4, an4, cd4, ct4, sl4, rfl, l4, c4⟩, PySem.W.mg_of X G a4, k4⟩ rfl (PySem.W.mg_none_of X G y_tuple) h_spans
  have h_l_draw := ok_l_draw (P := P) (w := w) (K := K) (mg := mg) (base := base) ⟨⟨oc5, od5, .none, kV5, dc5, pm5, an5, cd5, ct5, sl5, rfl, l5, c5⟩, PySem.W.mg_of X G a5, k5⟩ rfl (PySem.W.mg_none_of X G y_abs) (PySem.W.mg_none_of X G y_int)
  have h_l_any := ok_l_any (P := P) (w := w) (K := K) (mg := mg) (base := base) ⟨⟨oc6, od6, .none, kV6, dc6, pm6, an6, cd6, ct6, sl6, rfl, l6, c6⟩, PySem.W.mg_of X G a6, k6⟩ rfl (PySem.W.mg_none_of X G y_int)
  have h_l_of := ok_l_of (P := P) (w := w) (K := K) (mg := mg) (base := base) ⟨⟨oc7, od7, .none, kV7, dc7, pm7, an7, cd7, ct7, sl7, rfl, l7, c7⟩, PySem.W.mg_of X G a7, k7⟩ rfl (PySem.W.mg_none_of X G y_len) h_l_any
  have h_l_mixed := ok_l_mixed (P := P) (w := w) (K := K) (mg := mg) (base := base) ⟨⟨oc8, od8, .none, kV8, dc8, pm8, an8, cd8, ct8, sl8, rfl, l8, c8⟩, PySem.W.mg_of X G a8, k8⟩ rfl (PySem.W.mg_none_of X G y_len) (PySem.W.mg_none_of X G y_list) h_l_any
  have h_l_text := ok_l_text (P := P) (w := w) (K := K) (mg := mg) (base := base) ⟨⟨oc9, od9, .none, kV9, dc9, pm9, an9, cd9, ct9, sl9, rfl, l9, c9⟩, PySem.W.mg_of X G a9, k9⟩ rfl (PySem.W.mg_none_of X G y_range) h_l_any h_l_of
  have h_l_is_letter := ok_l_is_letter (P := P) (w := w) (K := K) (mg := mg) (base := base) ⟨⟨oc10, od10, .none, kV10, dc10, pm10, an10, cd10, ct10, sl10, rfl, l10, c10⟩, PySem.W.mg_of X G a10, k10⟩ rfl
  have h_l_walk := ok_l_walk (P := P) (w := w) (K := K) (mg := mg) (base := base) ⟨⟨oc11, od11, .none, kV11, dc11, pm11, an11, cd11, ct11, sl11, rfl, l11, c11⟩, PySem.W.mg_of X G a11, k11⟩ rfl (PySem.W.mg_none_of X G y_enumerate) h_l_is_letter
  have h_law := ok_law (P := P) (w := w) (K := K) (mg := mg) (base := base) ⟨⟨oc12, od12, .none, kV12, dc12, pm12, an12, cd12, ct12, sl12, rfl, l12, c12⟩, PySem.W.mg_of X G a12, k12⟩ rfl (PySem.W.mg_none_of X G y_len) (PySem.W.mg_none_of X G y_range) (PySem.W.mg_none_of X G y_repr) (PySem.W.mg_none_of X G y_sum) (PySem.W.mg_none_of X G y_tuple) h_l_draw h_l_text h_l_walk h_tokens_of h_token_places h_l_any
  exact h_law
end G
open PySem PySem.W PyProof.Rows
set_option maxHeartbeats 0 in
theorem PySem.Challenge.cw_givesifgets_k05_tokens_and_their_places_holds : PySem.Challenge.rw_givesifgets_k05_tokens_and_their_places.Holds := by
  w_on; o_law; k_head; (case hw => w_witness2)
  k_fill
  refine Y.walk_end (l := PySem.Challenge.rw_givesifgets_k05_tokens_and_their_places) (k := 4) (st := G.s_law) (ps := ["script"]) (F := G.F_law) rfl rfl ⟨rfl, by decide, by decide⟩ (fun w h y => PySem.W.kIn_of y) ?cal (fun ns h => G.holds ns h)
  case cal =>
    intro w mg h KX GN base _ _
    refine' G.all_mk KX GN ?a0 ?l0 ?c0 ?k0 ?a1 ?l1 ?c1 ?k1 ?a2 ?l2 ?c2 ?k2 ?a3 ?l3 ?c3 ?k3 ?a4 ?l4 ?c4 ?k4 ?a5 ?l5 ?c5 ?k5 ?a6 ?l6 ?c6 ?k6 ?a7 ?l7 ?c7 ?k7 ?a8 ?l8 ?c8 ?k8 ?a9 ?l9 ?c9 ?k9 ?a10 ?l10 ?c10 ?k10 ?a11 ?l11 ?c11 ?k11 ?a12 ?l12 ?c12 ?k12 ?y_abs ?y_enumerate ?y_int ?y_len ?y_list ?y_max ?y_range ?y_repr ?y_sum ?y_tuple ?x_WORD_SIGNS base
    (case a0 => k_is); (case l0 => k_is); (case c0 => k_is); (case k0 => k_is); (case a1 => k_is); (case l1 => k_is); (case c1 => k_is); (case k1 => k_is); (case a2 => k_is); (case l2 => k_is); (case c2 => k_is); (case k2 => k_is); (case a3 => k_is); (case l3 => k_is); (case c3 => k_is); (case k3 => k_is); (case a4 => k_is); (case l4 => k_is); (case c4 => k_is); (case k4 => k_is); (case a5 => k_is); (case l5 => k_is); (case c5 => k_is); (case k5 => k_is); (case a6 => k_is); (case l6 => k_is); (case c6 => k_is); (case k6 => k_is); (case a7 => k_is); (case l7 => k_is); (case c7 => k_is); (case k7 => k_is); (case a8 => k_is); (case l8 => k_is); (case c8 => k_is); (case k8 => k_is); (case a9 => k_is); (case l9 => k_is); (case c9 => k_is); (case k9 => k_is); (case a10 => k_is); (case l10 => k_is); (case c10 => k_is); (case k10 => k_is); (case a11 => k_is); (case l11 => k_is); (case c11 => k_is); (case k11 => k_is); (case a12 => k_is); (case l12 => k_is); (case c12 => k_is); (case k12 => k_is); (case y_abs => k_is); (case y_enumerate => k_is); (case y_int => k_is); (case y_len => k_is); (case y_list => k_is); (case y_max => k_is); (case y_range => k_is); (case y_repr => k_is); (case y_sum => k_is); (case y_tuple => k_is); (case x_WORD_SIGNS => k_is)
