import PyProof.Rows.All
import Wide.All
import OpenK.AllK
import Wide.FinOn
import HandS.ForMost
import HandS.TupAny
import HandS.Deep
import HandS.Style
import HandS.StrMore
import HandS.Codes
import HandS.IsInst
import HandS.Wide
import HandS.TupSets
import HandS.SortInts
import HandS.SetFor
import HandS.Conv
import HandS.TupMul
import KE.DataMinMax
import HandS.Strs
import HandS.Dict
import HandS.DictComp
import HandS.Iter
import KE.KTupSum
import KE.GoesEnum
import HandS.SortRule
import KE.GoesZip
import HandS.SetBool
import HandS.ExcOwn
import HandS.ExcInit
import HandS.ExcField
import HandS.TryOnly
import HandS.Star
import HandS.NamedTupSort
import HandS.Small
import HandS.ReCall
import KE.KIndexOf
import HandS.HeadHook3
import KE.KDictZip
import KE.SortData
import HandS.More
import KE.DataCmp
import HandS.Rev
import PySem.Challenge.RW_givesifgets_k50_jobs_and_timetables
set_option Elab.async false
set_option linter.all false
set_option maxRecDepth 100000
namespace Y
open PySem PySem.Spec PyProof.Rows L2
inductive W where
  | d (x : PyData)
  | ref (n : Nat)
  /-- the script -/
  | scr (ns : List Int)
  /-- a tuple of numbers that is known whole: nothing else hangs on it -/
  | o (ns : List Int)
  /-- a tuple of such tuples, known whole -/
  | oo (rows : List (List Int))
  /-- a pair of a number and such a tuple -/
  | po (x : Int) (ns : List Int)
inductive SO where
  | lst (xs : List W)
  /-- a dict: keys that are ints or texts, in their order -/
  | dct (kvs : List (L2.Key × W))
  /-- an object: its class, its attributes in their order -/
  | obj (c : Str) (fs : List (Str × W))
  /-- a tuple that holds places -/
  | tup (xs : List W)
  /-- a dict: keys that are tuples of ints or texts -/
  | dtt (kvs : List (List L2.Key × W))
  /-- such a dict while it is walked through -/
  | lk (kvs : List (List L2.Key × W))
  /-- a dict with ints or texts as keys while it is walked through -/
  | lki (kvs : List (L2.Key × W))
  | dead
abbrev Sto := List SO
abbrev En := List (Option W)
inductive R (α : Type) where
  | ok (a : α) (s : Sto)
  | exc (c : Str) (x : PyData) (s : Sto)
  | bad
def R.bind {α β : Type} (r : R α) (f : α → Sto → R β) : R β :=
  match r with
  | .ok a s => f a s
  | .exc c x s => .exc c x s
  | .bad => .bad
@[simp] theorem R.bind_ok {α β : Type} (a : α) (s : Sto) (f : α → Sto → R β) : (R.ok a s).bind f = f a s := rfl
@[simp] theorem R.bind_exc {α β : Type} (c : Str) (x : PyData) (s : Sto) (f : α → Sto → R β) : (R.exc c x s : R α).bind f = .exc c x s := rfl
@[simp] theorem R.bind_bad {α β : Type} (f : α → Sto → R β) : (R.bad : R α).bind f = .bad := rfl
theorem R.bind_assoc {α β γ : Type} (r : R α) (f : α → Sto → R β) (g : β → Sto → R γ) : (r.bind f).bind g = r.bind fun a s => (f a s).bind g := by
  cases r <;> rfl
abbrev Hz : Hp := fun _ => none
def LstF (Z : Addr → Prop) (H : Hp) (a : Addr) (xs : List V) : Prop := Rd H a (.lst xs) ∧ ¬ Z a
def ScrF (K : PySem.W.Frag) (Z : Addr → Prop) (H : Hp) (a : Addr) (xs : List V) : Prop := LstF Z H a xs ∨ SqL K Hz a xs
mutual
inductive Pd (K : PySem.W.Frag) (Z : Addr → Prop) (H : Hp) : V → PyData → Prop
  | non : Pd K Z H .non .none
  | bl (b : Bool) : Pd K Z H (.bl b) (.bool b)
  | int (i : Int) : Pd K Z H (.int i) (.int i)
  | str (x : Str) : Pd K Z H (.str x) (.str x)
  | lst {a : Addr} {xs : List V} {ds : List PyData} : LstF Z H a xs → PdAll K Z H xs ds → Pd K Z H (.ref a) (.list ds)
  | tup {a : Addr} {xs : List V} {ds : List PyData} : H a = some (.tup xs) → PdAll K Z H xs ds → Pd K Z H (.ref a) (.tuple ds)
inductive PdAll (K : PySem.W.Frag) (Z : Addr → Prop) (H : Hp) : List V → List PyData → Prop
  | nil : PdAll K Z H [] []
  | cons {v : V} {vs : List V} {d : PyData} {ds : List PyData} : Pd K Z H v d → PdAll K Z H vs ds → PdAll K Z H (v :: vs) (d :: ds)
end
def FzO (H : Hp) (ns : List Int) (v : V) : Prop := ∃ b, v = .ref b ∧ ∃ od, H b = some (.frz od (.tup (ns.map V.int))) ∧ od.dict = none
def OOw (H : Hp) (rows : List (List Int)) (v : V) : Prop := ∃ a vs, v = .ref a ∧ H a = some (.tup vs) ∧ Paired (FzO H) rows vs
def POw (H : Hp) (x : Int) (ns : List Int) (v : V) : Prop := ∃ a u, v = .ref a ∧ H a = some (.tup [.int x, u]) ∧ FzO H ns u
section
variable {H H' : Hp} (f : ∀ b od xs, H b = some (.frz od (.tup xs)) → H' b = some (.frz od (.tup xs)))
include f
theorem fzO_keep {ns : List Int} {v : V} : FzO H ns v → FzO H' ns v := fun ⟨b, h1, od, h2, h3⟩ => ⟨b, h1, od, f _ _ _ h2, h3⟩
theorem fzOs_keep : ∀ {rows : List (List Int)} {vs : List V}, Paired (FzO H) rows vs → Paired (FzO H') rows vs
  | _, _, .nil => .nil
  | _, _, .cons a b => .cons (fzO_keep f a) (fzOs_keep b)
theorem oo_keep (t : ∀ b xs, H b = some (.tup xs) → H' b = some (.tup xs)) {rows : List (List Int)} {v : V} : OOw H rows v → OOw H' rows v := fun ⟨a, vs, h1, h2, h4⟩ => ⟨a, vs, h1, t _ _ h2, fzOs_keep f h4⟩
theorem po_keep (t : ∀ b xs, H b = some (.tup xs) → H' b = some (.tup xs)) {x : Int} {ns : List Int} {v : V} : POw H x ns v → POw H' x ns v := fun ⟨a, u, h1, h2, h3⟩ => ⟨a, u, h1, t _ _ h2, fzO_keep f h3⟩
end
def WR (K : PySem.W.Frag) (Z : Addr → Prop) (θ : List (Option Addr)) (H : Hp) : W → V → Prop
  | .d x, v => Pd K Z H v x
  | .ref n, v => ∃ o, θ[n]? = some o ∧ ∀ a, o = some a → v = .ref a
  | .scr ns, v => ∃ a, v = .ref a ∧ ScrF K Z H a (ns.map V.int)
  | .o ns, v => ∃ a, v = .ref a ∧ ∃ od, H a = some (.frz od (.tup (ns.map V.int))) ∧ od.dict = none
  | .oo rows, v => OOw H rows v
  | .po x ns, v => POw H x ns v
abbrev WRs (K : PySem.W.Frag) (Z : Addr → Prop) (θ : List (Option Addr)) (H : Hp) : List W → List V → Prop := Paired (WR K Z θ H)
def KR {κ : Type} (F : W → V → Prop) (p : κ × W) (q : κ × V) : Prop := p.1 = q.1 ∧ F p.2 q.2
def OR (K : PySem.W.Frag) (Z : Addr → Prop) (θ : List (Option Addr)) (H : Hp) (a : Addr) : SO → Prop
  | .dct kvs => ∃ vs, H a = some (.dK vs) ∧ Paired (KR (WR K Z θ H)) kvs vs
  | .obj c fs => ∃ C dx vs, PySem.W.nsIn K mainGlobals c = some (some (.ref C)) ∧ H a = some (.ins C dx vs) ∧ Paired (KR (WR K Z θ H)) fs vs
  | .lst ws => ∃ vs, H a = some (.lst vs) ∧ WRs K Z θ H ws vs
  | .tup ws => ∃ vs, H a = some (.tup vs) ∧ WRs K Z θ H ws vs
  | .dtt kvs => ∃ vs, H a = some (.dT vs) ∧ Paired (KR (WR K Z θ H)) kvs vs
  | .lk kvs => ∃ od vs, H a = some (.frz od (.dT vs)) ∧ Paired (KR (WR K Z θ H)) kvs vs
  | .lki kvs => ∃ od vs, H a = some (.frz od (.dK vs)) ∧ Paired (KR (WR K Z θ H)) kvs vs
  | .dead => False
def Zs (Z0 : Addr → Prop) (θ : List (Option Addr)) : Addr → Prop := fun a => some a ∈ θ ∨ Z0 a
structure SR (K : PySem.W.Frag) (Z0 : Addr → Prop) (θ : List (Option Addr)) (st : Sto) (H : Hp) : Prop where
  len : θ.length = st.length
  nd : ∀ (m n : Nat) (a : Addr), θ[m]? = some (some a) → θ[n]? = some (some a) → m = n
  obj : ∀ (n : Nat) (a : Addr) (o : SO), θ[n]? = some (some a) → st[n]? = some o → OR K (Zs Z0 θ) θ H a o
  dd : ∀ (n : Nat), θ[n]? = some none → st[n]? = some .dead
  z0 : ∀ a, Z0 a → H a ≠ none
  dis : ∀ a, some a ∈ θ → ¬ Z0 a
structure Ext (θ : List (Option Addr)) (H : Hp) (θ' : List (Option Addr)) (H' : Hp) : Prop where
  new : ∀ (n : Nat) a, θ'[n]? = some (some a) → θ[n]? = some (some a) ∨ H a = none
  old : ∀ (n : Nat) o, θ[n]? = some o → θ'[n]? = some o ∨ θ'[n]? = some none
  keep : ∀ a o, some a ∉ θ → H a = some o → H' a = some o
  tup : ∀ a xs, H a = some (.tup xs) → H' a = some (.tup xs)
  frz : ∀ a o u, H a = some (.frz o u) → H' a = some (.frz o u)
  live : ∀ a, H a ≠ none → H' a ≠ none
structure EnR (K : PySem.W.Frag) (Z : Addr → Prop) (θ : List (Option Addr)) (H : Hp) (ρ : En) (σ : L2.St) : Prop where
  len : ρ.length = σ.length
  at_ : ∀ (i : Nat) (w : W), ρ[i]? = some (some w) → ∃ v, σ[i]? = some (some v) ∧ WR K Z θ H w v
section
variable {K : PySem.W.Frag} {Z Z0 : Addr → Prop} {θ θ1 θ2 : List (Option Addr)} {H H1 H2 : Hp} {st st1 : Sto}
theorem Ext.refl : Ext θ H θ H := ⟨fun _ _ h => .inl h, fun _ _ h => .inl h, fun _ _ _ h => h, fun _ _ h => h, fun _ _ _ h => h, fun _ h => h⟩
theorem Ext.fresh (e : Ext θ H θ1 H1) {a : Addr} (h : H1 a = none) : H a = none := by
  cases q : H a with
  | none => rfl
  | some o => exact absurd h (e.live a (by rw [q]; simp))
theorem Ext.mem (e : Ext θ H θ1 H1) {a : Addr} (h : some a ∈ θ1) : some a ∈ θ ∨ H a = none := by
  obtain ⟨n, h⟩ := List.getElem?_of_mem h
  rcases e.new n a h with q | q
  · exact .inl (List.mem_of_getElem? q)
  · exact .inr q
theorem Ext.trans (a : Ext θ H θ1 H1) (b : Ext θ1 H1 θ2 H2) : Ext θ H θ2 H2 := by
  refine ⟨fun n x h => ?_, fun n o h => ?_, fun x o hx h => ?_, fun x xs h => b.tup _ _ (a.tup _ _ h), fun x o u h => b.frz _ _ _ (a.frz _ _ _ h), fun x h => b.live x (a.live x h)⟩
  · rcases b.new n x h with q | q
    · exact a.new n x q
    · exact .inr (a.fresh q)
  · rcases a.old n o h with q | q
    · exact b.old n o q
    · rcases b.old n none q with q | q <;> exact .inr q
  · refine b.keep x o (fun hm => ?_) (a.keep x o hx h)
    rcases a.mem hm with q | q
    · exact hx q
    · rw [q] at h; cases h
theorem Ext.sqT (e : Ext θ H θ1 H1) {a : Addr} {xs : List V} (h : SqT K H a xs) : SqT K H1 a xs := by
  rcases h with (h | ⟨o, h⟩) | h
  · exact .inl (.inl (e.tup _ _ h))
  · exact .inl (.inr ⟨o, e.frz _ _ _ h⟩)
  · exact .inr h
theorem Ext.lstF (e : Ext θ H θ1 H1) {a : Addr} {xs : List V} (h : LstF (Zs Z0 θ) H a xs) : LstF (Zs Z0 θ1) H1 a xs := by
  obtain ⟨h, z⟩ := h
  have z1 : some a ∉ θ := fun q => z (.inl q)
  have hn : H a ≠ none := by rcases h with h | ⟨o, h⟩ <;> rw [h] <;> simp
  refine ⟨?_, fun q => ?_⟩
  · rcases h with h | ⟨o, h⟩
    · exact .inl (e.keep a _ z1 h)
    · exact .inr ⟨o, e.keep a _ z1 h⟩
  · rcases q with q | q
    · rcases e.mem q with q | q
      · exact z1 q
      · exact hn q
    · exact z (.inr q)
mutual
theorem Pd.ext (e : Ext θ H θ1 H1) : ∀ {d : PyData} {v : V}, Pd K (Zs Z0 θ) H v d → Pd K (Zs Z0 θ1) H1 v d
  | _, _, .non => .non
  | _, _, .bl b => .bl b
  | _, _, .int i => .int i
  | _, _, .str x => .str x
  | _, _, .lst h a => .lst (e.lstF h) (PdAll.ext e a)
  | _, _, .tup h a => .tup (e.tup _ _ h) (PdAll.ext e a)
theorem PdAll.ext (e : Ext θ H θ1 H1) : ∀ {ds : List PyData} {vs : List V}, PdAll K (Zs Z0 θ) H vs ds → PdAll K (Zs Z0 θ1) H1 vs ds
  | _, _, .nil => .nil
  | _, _, .cons a b => .cons (Pd.ext e a) (PdAll.ext e b)
end
/-- fewer places are another's -/
theorem LstF.less {Z1 : Addr → Prop} (hz : ∀ a, Z1 a → Z a) {a : Addr} {xs : List V} (h : LstF Z H a xs) : LstF Z1 H a xs := ⟨h.1, fun q => h.2 (hz a q)⟩
mutual
theorem Pd.less {Z1 : Addr → Prop} (hz : ∀ a, Z1 a → Z a) : ∀ {d : PyData} {v : V}, Pd K Z H v d → Pd K Z1 H v d
  | _, _, .non => .non
  | _, _, .bl b => .bl b
  | _, _, .int i => .int i
  | _, _, .str x => .str x
  | _, _, .lst h a => .lst (h.less hz) (PdAll.less hz a)
  | _, _, .tup h a => .tup h (PdAll.less hz a)
theorem PdAll.less {Z1 : Addr → Prop} (hz : ∀ a, Z1 a → Z a) : ∀ {ds : List PyData} {vs : List V}, PdAll K Z H vs ds → PdAll K Z1 H vs ds
  | _, _, .nil => .nil
  | _, _, .cons a b => .cons (Pd.less hz a) (PdAll.less hz b)
end
theorem tq {K : PySem.W.Frag} {H : Hp} {a : Addr} {xs : List V} (h : H a = some (.tup xs)) : SqT K H a xs := .inl (.inl h)
theorem sqL_of_hz {a : Addr} {xs : List V} (h : SqL K Hz a xs) : SqL K H a xs := by
  rcases h with (h | ⟨o, h⟩) | h
  · cases h
  · cases h
  · exact .inr h
theorem LstF.sqL {a : Addr} {xs : List V} (h : LstF Z H a xs) : SqL K H a xs := .inl h.1
theorem ScrF.sqL {a : Addr} {xs : List V} (h : ScrF K Z H a xs) : SqL K H a xs := by
  rcases h with h | h
  · exact h.sqL
  · exact sqL_of_hz h
mutual
theorem Pd.dp : ∀ {d : PyData} {v : V}, Pd K Z H v d → Dp K H v d
  | _, _, .non => .non
  | _, _, .bl b => .bl b
  | _, _, .int i => .int i
  | _, _, .str x => .str x
  | _, _, .lst h a => .lst h.sqL (PdAll.dp a)
  | _, _, .tup h a => .tup (.inl (.inl h)) (PdAll.dp a)
theorem PdAll.dp : ∀ {ds : List PyData} {vs : List V}, PdAll K Z H vs ds → DpAll K H vs ds
  | _, _, .nil => .nil
  | _, _, .cons a b => .cons (Pd.dp a) (PdAll.dp b)
end
theorem WR.ext (e : Ext θ H θ1 H1) {w : W} {v : V} (h : WR K (Zs Z0 θ) θ H w v) : WR K (Zs Z0 θ1) θ1 H1 w v := by
  cases w with
  | d x => exact Pd.ext e h
  | ref n =>
    obtain ⟨o, h1, h2⟩ := h
    rcases e.old n o h1 with q | q
    · exact ⟨o, q, h2⟩
    · exact ⟨none, q, fun a z => by cases z⟩
  | scr ns =>
    obtain ⟨a, h1, h2⟩ := h
    exact ⟨a, h1, h2.elim (fun q => .inl (e.lstF q)) .inr⟩
  | o ns =>
    obtain ⟨a, h1, od, h2, h3⟩ := h
    exact ⟨a, h1, od, e.frz _ _ _ h2, h3⟩
  | oo rows => exact oo_keep (fun b od xs q => e.frz _ _ _ q) (fun b xs q => e.tup _ _ q) h
  | po x ns => exact po_keep (fun b od xs q => e.frz _ _ _ q) (fun b xs q => e.tup _ _ q) h
theorem Paired.imp {α β : Type} {F G : α → β → Prop} (f : ∀ a b, F a b → G a b) : ∀ {l₁ : List α} {l₂ : List β}, Paired F l₁ l₂ → Paired G l₁ l₂
  | _, _, .nil => .nil
  | _, _, .cons r t => .cons (f _ _ r) (Paired.imp f t)
theorem WRs.ext (e : Ext θ H θ1 H1) {ws : List W} {vs : List V} (h : WRs K (Zs Z0 θ) θ H ws vs) : WRs K (Zs Z0 θ1) θ1 H1 ws vs := Paired.imp (fun _ _ => WR.ext e) h
theorem EnR.ext {ρ : En} {σ : L2.St} (e : Ext θ H θ1 H1) (h : EnR K (Zs Z0 θ) θ H ρ σ) : EnR K (Zs Z0 θ1) θ1 H1 ρ σ :=
  ⟨h.len, fun i w q => let ⟨v, h1, h2⟩ := h.at_ i w q; ⟨v, h1, h2.ext e⟩⟩
end
structure Ct where
  K : PySem.W.Frag
  mg : Str → Option Value
  E : XK
def ExcW (C : Ct) (Z0 : Addr → Prop) (θ : List (Option Addr)) (H : Hp) (c : Str) (x : PyData) (st' : Sto) : Prop :=
  ∀ θ' H' dx v Ca, Ext θ H θ' H' → SR C.K Z0 θ' st' H' → Pd C.K (Zs Z0 θ') H' v x → H dx = none → some dx ∉ θ' → H' dx = some (.xd [("at", v)]) → C.mg c = some (.ref Ca) → C.E (.ref Ca) (some dx) H'
def Post {α β : Type} (C : Ct) (Z0 : Addr → Prop) (θ : List (Option Addr)) (H : Hp) (rel : List (Option Addr) → Hp → α → β → Prop) (r : R α) (Q : β → Hp → Prop) : Prop :=
  match r with
  | .ok w st' => ∀ θ' H' v, Ext θ H θ' H' → SR C.K Z0 θ' st' H' → rel θ' H' w v → Q v H'
  | .exc c x st' => ExcW C Z0 θ H c x st'
  | .bad => False
abbrev relW (K : PySem.W.Frag) (Z0 : Addr → Prop) : List (Option Addr) → Hp → W → V → Prop := fun θ H w v => WR K (Zs Z0 θ) θ H w v
abbrev relWs (K : PySem.W.Frag) (Z0 : Addr → Prop) : List (Option Addr) → Hp → List W → List V → Prop := fun θ H w v => WRs K (Zs Z0 θ) θ H w v
abbrev relB : List (Option Addr) → Hp → Bool → Bool → Prop := fun _ _ a b => a = b
def rdE (C : Ct) (f : En → Sto → R W) : TE := fun σ H Q => ∃ Z0 θ ρ st, SR C.K Z0 θ st H ∧ EnR C.K (Zs Z0 θ) θ H ρ σ ∧ Post C Z0 θ H (relW C.K Z0) (f ρ st) Q
def rdT (C : Ct) (f : En → Sto → R Bool) : TT := fun σ H Q => ∃ Z0 θ ρ st, SR C.K Z0 θ st H ∧ EnR C.K (Zs Z0 θ) θ H ρ σ ∧ Post C Z0 θ H relB (f ρ st) Q
def rdA (C : Ct) (f : En → Sto → R (List W)) : TA := fun σ H Q => ∃ Z0 θ ρ st, SR C.K Z0 θ st H ∧ EnR C.K (Zs Z0 θ) θ H ρ σ ∧ Post C Z0 θ H (relWs C.K Z0) (f ρ st) Q
section
variable {C : Ct} {Z0 : Addr → Prop} {θ θ1 : List (Option Addr)} {H H1 : Hp}
theorem ExcW.from {c : Str} {x : PyData} {st' : Sto} (e : Ext θ H θ1 H1) (h : ExcW C Z0 θ H c x st') : ExcW C Z0 θ1 H1 c x st' := fun θ' H' dx v Ca e' S p hn hd hx hm =>
  h θ' H' dx v Ca (e.trans e') S p (by
    cases q : H dx with
    | none => rfl
    | some o => exact absurd hn (e.live dx (by rw [q]; simp))) hd hx hm
theorem Post.from {α β : Type} {rel : List (Option Addr) → Hp → α → β → Prop} {r : R α} {Q : β → Hp → Prop} (e : Ext θ H θ1 H1) (h : Post C Z0 θ H rel r Q) : Post C Z0 θ1 H1 rel r Q := by
  cases r with
  | ok w st' => exact fun θ' H' v e' S p => h θ' H' v (e.trans e') S p
  | exc c x st' => exact ExcW.from e h
  | bad => exact h
/-- the first of two steps -/
theorem Post.bind {α α' β β' : Type} {rel : List (Option Addr) → Hp → α → β → Prop} {rel' : List (Option Addr) → Hp → α' → β' → Prop} {r : R α} {f : α → Sto → R α'} {Q : β' → Hp → Prop} {G : β → Hp → Prop} (h : Post C Z0 θ H rel' (r.bind f) Q)
    (k : ∀ w st1 θ1 H1 v, r = .ok w st1 → Ext θ H θ1 H1 → SR C.K Z0 θ1 st1 H1 → rel θ1 H1 w v → Post C Z0 θ1 H1 rel' (f w st1) Q → G v H1) : Post C Z0 θ H rel r G := by
  cases r with
  | ok w st1 => exact fun θ1 H1 v e S p => k w st1 θ1 H1 v rfl e S p (Post.from e h)
  | exc c x st1 => exact h
  | bad => exact h
theorem Post.mono {α β : Type} {rel : List (Option Addr) → Hp → α → β → Prop} {r : R α} {Q Q' : β → Hp → Prop} (h : Post C Z0 θ H rel r Q) (k : ∀ v H', Q v H' → Q' v H') : Post C Z0 θ H rel r Q' := by
  cases r with
  | ok w st' => exact fun θ' H' v e' S p => k _ _ (h θ' H' v e' S p)
  | exc c x st' => exact h
  | bad => exact h
/-- a value is there, no store changed -/
theorem Post.now {α β : Type} {rel : List (Option Addr) → Hp → α → β → Prop} {w : α} {st : Sto} {v : β} {Q : β → Hp → Prop} (h : Post C Z0 θ H rel (.ok w st) Q) (S : SR C.K Z0 θ st H) (p : rel θ H w v) : Q v H := h θ H v Ext.refl S p
end
section
variable {X : Cx} {C : Ct}
theorem PE.imp {e : Expr} {t t' : TE} (h : PE X e t) (k : ∀ σ H Q, t' σ H Q → t σ H Q) : PE X e t' := ⟨fun pins s σ H Q I q => h.run pins s σ H Q I (k σ H Q q)⟩
theorem PT.imp {e : Expr} {t t' : TT} (h : PT X e t) (k : ∀ σ H Q, t' σ H Q → t σ H Q) : PT X e t' := ⟨fun pins s σ H Q I q => h.run pins s σ H Q I (k σ H Q q)⟩
theorem PW.imp {e : Expr} {t t' : TT} (h : PW X e t) (k : ∀ σ H Q, t' σ H Q → t σ H Q) : PW X e t' := ⟨fun wh pins s σ H Q I q => h.run wh pins s σ H Q I (k σ H Q q)⟩
theorem PA.imp {e : List Expr} {t t' : TA} (h : PA X e t) (k : ∀ σ H Q, t' σ H Q → t σ H Q) : PA X e t' := ⟨fun pos pins s σ H Q I q => h.run pos pins s σ H Q I (k σ H Q q)⟩
theorem PS.imp {e : Stmt} {t t' : TS} (h : PS X e t) (k : ∀ D σ H, t' D σ H → t D σ H) : PS X e t' := ⟨fun pins s σ H D I q => h.run pins s σ H D I (k D σ H q)⟩
theorem PSs.imp {e : List Stmt} {t t' : TS} (h : PSs X e t) (k : ∀ D σ H, t' D σ H → t D σ H) : PSs X e t' := ⟨fun pins s σ H D I q => h.run pins s σ H D I (k D σ H q)⟩
@[simp] def dVar (i : Nat) : En → Sto → R W := fun ρ st => match ρ[i]? with | some (some w) => .ok w st | _ => .bad
@[simp] def dLit (x : PyData) : En → Sto → R W := fun _ st => .ok (.d x) st
theorem y_var {i : Nat} {x : Str} {pos : Pos} (h : PE X (.Name x pos) (tVar i)) : PE X (.Name x pos) (rdE C (dVar i)) := PE.imp h fun σ H Q q => by
  obtain ⟨Z0, θ, ρ, st, S, N, p⟩ := q
  unfold dVar at p
  cases e : ρ[i]? with
  | none => rw [e] at p; exact p.elim
  | some o =>
    cases o with
    | none => rw [e] at p; exact p.elim
    | some w =>
      rw [e] at p
      obtain ⟨v, h1, h2⟩ := N.at_ i w e
      exact ⟨v, h1, p.now S h2⟩
theorem y_lit {e : Expr} {v : V} {x : PyData} (h : PE X e (tC v)) (hp : ∀ K Z H, Pd K Z H v x) : PE X e (rdE C (dLit x)) := PE.imp h fun σ H Q ⟨_, _, _, _, S, _, p⟩ => p.now S (show Pd _ _ _ _ _ from hp _ _ _)
theorem y_int {i j pos} : PE X (.Constant (.int i) j pos) (rdE C (dLit (.int i))) := y_lit pe_int fun _ _ _ => .int i
theorem y_bl {b j pos} : PE X (.Constant (.bool b) j pos) (rdE C (dLit (.bool b))) := y_lit pe_bl fun _ _ _ => .bl b
theorem y_non {j pos} : PE X (.Constant .none j pos) (rdE C (dLit .none)) := y_lit pe_non fun _ _ _ => .non
theorem y_str {x j pos} : PE X (.Constant (.str x) j pos) (rdE C (dLit (.str x))) := y_lit pe_str fun _ _ _ => .str x
/-- a two-place operation on values -/
def rdO (C : Ct) (g : W → W → Sto → R W) : R2 := fun x y H Q => ∃ Z0 θ st u w, SR C.K Z0 θ st H ∧ WR C.K (Zs Z0 θ) θ H u x ∧ WR C.K (Zs Z0 θ) θ H w y ∧ Post C Z0 θ H (relW C.K Z0) (g u w st) Q
def rdU (C : Ct) (g : W → Sto → R W) : V → Hp → VK → Prop := fun x H Q => ∃ Z0 θ st u, SR C.K Z0 θ st H ∧ WR C.K (Zs Z0 θ) θ H u x ∧ Post C Z0 θ H (relW C.K Z0) (g u st) Q
def rdC (C : Ct) (g : List W → Sto → R W) : List V → Hp → VK → Prop := fun xs H Q => ∃ Z0 θ st us, SR C.K Z0 θ st H ∧ WRs C.K (Zs Z0 θ) θ H us xs ∧ Post C Z0 θ H (relW C.K Z0) (g us st) Q
@[simp] def dBin (g : W → W → Sto → R W) (fa fb : En → Sto → R W) : En → Sto → R W := fun ρ st => (fa ρ st).bind fun x s => (fb ρ s).bind fun y s => g x y s
@[simp] def dUn (g : W → Sto → R W) (fa : En → Sto → R W) : En → Sto → R W := fun ρ st => (fa ρ st).bind fun x s => g x s
theorem t_bin {g : W → W → Sto → R W} {fa fb : En → Sto → R W} {σ : L2.St} {H : Hp} {Q : VK} (q : rdE C (dBin g fa fb) σ H Q) : tOp (rdO C g) (rdE C fa) (rdE C fb) σ H Q := by
  obtain ⟨Z0, θ, ρ, st, S, N, p⟩ := q
  exact ⟨Z0, θ, ρ, st, S, N, Post.bind p fun w st1 θ1 H1 v _ e1 S1 w1 p1 => ⟨Z0, θ1, ρ, st1, S1, N.ext e1, Post.bind p1 fun w' st2 θ2 H2 v' _ e2 S2 w2 p2 => ⟨Z0, θ2, st2, w, w', S2, w1.ext e2, w2, p2⟩⟩⟩
theorem t_un {g : W → Sto → R W} {fa : En → Sto → R W} {σ : L2.St} {H : Hp} {Q : VK} (q : rdE C (dUn g fa) σ H Q) : tUn (rdU C g) (rdE C fa) σ H Q := by
  obtain ⟨Z0, θ, ρ, st, S, N, p⟩ := q
  exact ⟨Z0, θ, ρ, st, S, N, Post.bind p fun w st1 θ1 H1 v _ e1 S1 w1 p1 => ⟨Z0, θ1, st1, w, S1, w1, p1⟩⟩
variable {a b c : Expr} {fa fb fc : En → Sto → R W} {pos : Pos}
theorem y_op {op : Operator} {g : W → W → Sto → R W} (ho : OpR X (binaryOp op) (rdO C g)) (ha : PE X a (rdE C fa)) (hb : PE X b (rdE C fb)) : PE X (.BinOp a op b pos) (rdE C (dBin g fa fb)) := PE.imp (pe_op ho ha hb) fun _ _ _ => t_bin
theorem y_un {op : UnaryOp} {g : W → Sto → R W} (ho : UnR X (unaryOp op) (rdU C g)) (ha : PE X a (rdE C fa)) : PE X (.UnaryOp op a pos) (rdE C (dUn g fa)) := PE.imp (pe_un ho ha) fun _ _ _ => t_un
theorem y_cmp {op : CmpOp} {g : W → W → Sto → R W} (ho : OpR X (compareOp op) (rdO C g)) (ha : PE X a (rdE C fa)) (hb : PE X b (rdE C fb)) (hm : behindInMarks op b = false) : PE X (.Compare a [op] [b] pos) (rdE C (dBin g fa fb)) := PE.imp (pe_cmpR ho ha hb hm) fun _ _ _ => t_bin
@[simp] def asB (r : R W) : R Bool := r.bind fun w s => match w with | .d (.bool b) => .ok b s | _ => .bad
theorem t_test {t : TE} {f : En → Sto → R W} (k : ∀ σ H Q, rdE C f σ H Q → t σ H Q) {σ : L2.St} {H : Hp} {Q : Bool → Hp → Prop} (q : rdT C (fun ρ st => asB (f ρ st)) σ H Q) : t σ H fun x H' => ∃ c, x = .bl c ∧ Q c H' := by
  obtain ⟨Z0, θ, ρ, st, S, N, p⟩ := q
  refine k _ _ _ ⟨Z0, θ, ρ, st, S, N, Post.bind p fun w st1 θ1 H1 v _ e1 S1 w1 p1 => ?_⟩
  cases w with
  | ref n => exact p1.elim
  | scr n => exact p1.elim
  | o n => exact p1.elim
  | oo n => exact p1.elim
  | po _ _ => exact p1.elim
  | d x =>
    cases x with
    | bool b => cases w1; exact ⟨b, rfl, p1.now S1 rfl⟩
    | _ => exact p1.elim
theorem y_tcmp {op : CmpOp} {g : W → W → Sto → R W} (ho : OpR X (compareOp op) (rdO C g)) (ha : PE X a (rdE C fa)) (hb : PE X b (rdE C fb)) (hm : behindInMarks op b = false) : PT X (.Compare a [op] [b] pos) (rdT C fun ρ st => asB (dBin g fa fb ρ st)) :=
  PT.imp (pt_cmpR ho ha hb hm) fun _ _ _ q => t_test (fun _ _ _ => t_bin) q
theorem y_tval {e : Expr} {f : En → Sto → R W} (h : PE X e (rdE C f)) (he : ∀ whole, isTrue e X.env whole = (do let v ← whole; standAt e.pos; holding [v] (truthy v)) := by intro _; rfl) : PT X e (rdT C fun ρ st => asB (f ρ st)) :=
  PT.imp (pt_val h he) fun _ _ _ q => t_test (fun _ _ _ k => k) q
@[simp] def dAnd (f g : En → Sto → R Bool) : En → Sto → R Bool := fun ρ st => (f ρ st).bind fun b s => if b = true then g ρ s else .ok false s
@[simp] def dOr (f g : En → Sto → R Bool) : En → Sto → R Bool := fun ρ st => (f ρ st).bind fun b s => if b = true then .ok true s else g ρ s
@[simp] def dNot (f : En → Sto → R Bool) : En → Sto → R Bool := fun ρ st => (f ρ st).bind fun b s => .ok (!b) s
variable {ga gb : En → Sto → R Bool} {rest : List Expr}
theorem y_pw1 {op : BoolOp} (h : PT X a (rdT C ga)) : PW X (.BoolOp op [a] pos) (rdT C ga) := by
  cases op with
  | And => exact pw_and1 h
  | Or => exact pw_or1 h
theorem y_and (ha : PT X a (rdT C ga)) (hb : PW X (.BoolOp .And (b :: rest) pos) (rdT C gb)) : PW X (.BoolOp .And (a :: b :: rest) pos) (rdT C (dAnd ga gb)) := PW.imp (pw_and ha hb) fun σ H Q q => by
  obtain ⟨Z0, θ, ρ, st, S, N, p⟩ := q
  refine ⟨Z0, θ, ρ, st, S, N, Post.bind p fun w st1 θ1 H1 v _ e1 S1 w1 p1 => ?_⟩
  cases w1
  cases w with
  | true => rw [if_pos rfl]; exact ⟨Z0, θ1, ρ, st1, S1, N.ext e1, p1⟩
  | false => rw [if_neg (by simp)]; exact p1.now S1 rfl
theorem y_or (ha : PT X a (rdT C ga)) (hb : PW X (.BoolOp .Or (b :: rest) pos) (rdT C gb)) : PW X (.BoolOp .Or (a :: b :: rest) pos) (rdT C (dOr ga gb)) := PW.imp (pw_or ha hb) fun σ H Q q => by
  obtain ⟨Z0, θ, ρ, st, S, N, p⟩ := q
  refine ⟨Z0, θ, ρ, st, S, N, Post.bind p fun w st1 θ1 H1 v _ e1 S1 w1 p1 => ?_⟩
  cases w1
  cases w with
  | false => rw [if_neg (by simp)]; exact ⟨Z0, θ1, ρ, st1, S1, N.ext e1, p1⟩
  | true => rw [if_pos rfl]; exact p1.now S1 rfl
theorem y_not (ha : PT X a (rdT C ga)) : PT X (.UnaryOp .Not a pos) (rdT C (dNot ga)) := PT.imp (pt_not ha) fun σ H Q q => by
  obtain ⟨Z0, θ, ρ, st, S, N, p⟩ := q
  refine ⟨Z0, θ, ρ, st, S, N, Post.bind p fun w st1 θ1 H1 v _ e1 S1 w1 p1 => ?_⟩
  cases w1
  exact p1.now S1 rfl
/-- as values -/
@[simp] def dAndV (f g : En → Sto → R W) : En → Sto → R W := fun ρ st => (asB (f ρ st)).bind fun b s => if b = true then g ρ s else .ok (.d (.bool false)) s
@[simp] def dOrV (f g : En → Sto → R W) : En → Sto → R W := fun ρ st => (asB (f ρ st)).bind fun b s => if b = true then .ok (.d (.bool true)) s else g ρ s
@[simp] def dNotV (f : En → Sto → R W) : En → Sto → R W := fun ρ st => (asB (f ρ st)).bind fun b s => .ok (.d (.bool (!b))) s
theorem post_asB {Z0 : Addr → Prop} {θ : List (Option Addr)} {H : Hp} {r : R W} {α β : Type} {rel : List (Option Addr) → Hp → α → β → Prop} {f : Bool → Sto → R α} {Q : β → Hp → Prop} {G : V → Hp → Prop} (p : Post C Z0 θ H rel ((asB r).bind f) Q)
    (k : ∀ b st1 θ1 H1, Ext θ H θ1 H1 → SR C.K Z0 θ1 st1 H1 → Post C Z0 θ1 H1 rel (f b st1) Q → G (.bl b) H1) : Post C Z0 θ H (relW C.K Z0) r G := by
  unfold asB at p
  rw [R.bind_assoc] at p
  refine Post.bind p fun w st1 θ1 H1 v _ e1 S1 w1 p1 => ?_
  cases w with
  | ref n => exact p1.elim
  | scr n => exact p1.elim
  | o n => exact p1.elim
  | oo n => exact p1.elim
  | po _ _ => exact p1.elim
  | d x =>
    cases x with
    | bool b => cases w1; exact k b st1 θ1 H1 e1 S1 p1
    | _ => exact p1.elim
theorem y_one {op} {f : En → Sto → R W} (h : PE X a (rdE C f)) : PE X (.BoolOp op [a] pos) (rdE C f) := pe_one h
theorem y_andV (ha : PE X a (rdE C fa)) (hb : PE X (.BoolOp .And (b :: rest) pos) (rdE C fb)) : PE X (.BoolOp .And (a :: b :: rest) pos) (rdE C (dAndV fa fb)) := PE.imp (pe_and ha hb) fun σ H Q q => by
  obtain ⟨Z0, θ, ρ, st, S, N, p⟩ := q
  refine ⟨Z0, θ, ρ, st, S, N, post_asB p fun w st1 θ1 H1 e1 S1 p1 => ⟨w, rfl, ?_⟩⟩
  cases w with
  | true => rw [if_pos rfl]; exact ⟨Z0, θ1, ρ, st1, S1, N.ext e1, p1⟩
  | false => rw [if_neg (by simp)]; exact p1.now S1 (show Pd _ _ _ _ _ from .bl _)
theorem y_notV (ha : PE X a (rdE C fa)) : PE X (.UnaryOp .Not a pos) (rdE C (dNotV fa)) := PE.imp (pe_not ha) fun σ H Q q => by
  obtain ⟨Z0, θ, ρ, st, S, N, p⟩ := q
  exact ⟨Z0, θ, ρ, st, S, N, post_asB p fun w st1 θ1 H1 e1 S1 p1 => ⟨w, rfl, p1.now S1 (show Pd _ _ _ _ _ from .bl _)⟩⟩
@[simp] def dIf (t : En → Sto → R Bool) (f g : En → Sto → R W) : En → Sto → R W := fun ρ st => (t ρ st).bind fun b s => if b = true then f ρ s else g ρ s
theorem y_if {c : Expr} (hc : PT X c (rdT C ga)) (ha : PE X a (rdE C fa)) (hb : PE X b (rdE C fb)) : PE X (.IfExp c a b pos) (rdE C (dIf ga fa fb)) := PE.imp (pe_ifExp hc ha hb) fun σ H Q q => by
  obtain ⟨Z0, θ, ρ, st, S, N, p⟩ := q
  refine ⟨Z0, θ, ρ, st, S, N, Post.bind p fun w st1 θ1 H1 v _ e1 S1 w1 p1 => ?_⟩
  cases w1
  cases w with
  | true => rw [if_pos rfl] at p1 ⊢; exact ⟨Z0, θ1, ρ, st1, S1, N.ext e1, p1⟩
  | false => rw [if_neg (by simp)] at p1 ⊢; exact ⟨Z0, θ1, ρ, st1, S1, N.ext e1, p1⟩
/-- a chain of two comparisons -/
@[simp] def dChain (g g' : W → W → Sto → R W) (fa fb fc : En → Sto → R W) : En → Sto → R W := fun ρ st => (fa ρ st).bind fun x s => (fb ρ s).bind fun y s => (asB (g x y s)).bind fun k s => if k = true then (fc ρ s).bind fun z s => g' y z s else .ok (.d (.bool false)) s
end
end Y
namespace Y
open PySem PySem.Spec PyProof.Rows L2
section
variable {K : PySem.W.Frag} {Z Z0 : Addr → Prop} {θ θ1 θ2 : List (Option Addr)} {H H1 H2 : Hp} {st st1 : Sto} {C : Ct}
theorem SR.notZ (S : SR K Z0 θ st H) {p : Addr} (hp : H p = none) : ¬ Zs Z0 θ p := fun h => by
  rcases h with h | h
  · obtain ⟨n, h⟩ := List.getElem?_of_mem h
    have hl : n < st.length := by rw [← S.len]; exact (List.getElem?_eq_some_iff.mp h).1
    have o := S.obj n p _ h (List.getElem?_eq_getElem hl)
    cases e : st[n] with
    | lst ws => rw [e] at o; obtain ⟨vs, q, _⟩ := o; rw [hp] at q; cases q
    | dct ws => rw [e] at o; obtain ⟨vs, q, _⟩ := o; rw [hp] at q; cases q
    | dtt ws => rw [e] at o; obtain ⟨vs, q, _⟩ := o; rw [hp] at q; cases q
    | lk ws => rw [e] at o; obtain ⟨od, vs, q, _⟩ := o; rw [hp] at q; cases q
    | lki ws => rw [e] at o; obtain ⟨od, vs, q, _⟩ := o; rw [hp] at q; cases q
    | tup ws => rw [e] at o; obtain ⟨vs, q, _⟩ := o; rw [hp] at q; cases q
    | obj c ws => rw [e] at o; obtain ⟨C, dx, vs, _, q, _⟩ := o; rw [hp] at q; cases q
    | dead => rw [e] at o; exact o
  · exact S.z0 p h hp
theorem Ext.alloc {p : Addr} {o : HO} (hp : H p = none) : Ext θ H θ (upd H p o) := by
  have k : ∀ a u, H a = some u → upd H p o a = some u := fun a u h => by rw [upd_ne (ne_of_none h hp)]; exact h
  refine ⟨fun _ _ h => .inl h, fun _ _ h => .inl h, fun a u _ h => k a u h, fun a xs h => k _ _ h, fun a u v h => k _ _ h, fun a h => ?_⟩
  cases e : H a with
  | none => exact absurd e h
  | some u => rw [k a u e]; simp
theorem OR.ext (e : Ext θ H θ1 H1) {a : Addr} {o : SO} (hk : H1 a = H a) (h : OR K (Zs Z0 θ) θ H a o) : OR K (Zs Z0 θ1) θ1 H1 a o := by
  cases o with
  | lst ws => obtain ⟨vs, h1, h2⟩ := h; exact ⟨vs, hk.trans h1, WRs.ext e h2⟩
  | dct ws => obtain ⟨vs, h1, h2⟩ := h; exact ⟨vs, hk.trans h1, Paired.imp (fun _ _ r => ⟨r.1, WR.ext e r.2⟩) h2⟩
  | dtt ws => obtain ⟨vs, h1, h2⟩ := h; exact ⟨vs, hk.trans h1, Paired.imp (fun _ _ r => ⟨r.1, WR.ext e r.2⟩) h2⟩
  | lk ws => obtain ⟨od, vs, h1, h2⟩ := h; exact ⟨od, vs, hk.trans h1, Paired.imp (fun _ _ r => ⟨r.1, WR.ext e r.2⟩) h2⟩
  | lki ws => obtain ⟨od, vs, h1, h2⟩ := h; exact ⟨od, vs, hk.trans h1, Paired.imp (fun _ _ r => ⟨r.1, WR.ext e r.2⟩) h2⟩
  | tup ws => obtain ⟨vs, h1, h2⟩ := h; exact ⟨vs, hk.trans h1, WRs.ext e h2⟩
  | obj c ws => obtain ⟨C, dx, vs, h0, h1, h2⟩ := h; exact ⟨C, dx, vs, h0, hk.trans h1, Paired.imp (fun _ _ r => ⟨r.1, WR.ext e r.2⟩) h2⟩
  | dead => exact h
theorem SR.alloc {p : Addr} {o : HO} (S : SR K Z0 θ st H) (hp : H p = none) : SR K Z0 θ st (upd H p o) := by
  have nz := S.notZ hp
  refine ⟨S.len, S.nd, fun n a so h1 h2 => OR.ext (Ext.alloc hp) (upd_ne fun e => nz (.inl (e ▸ List.mem_of_getElem? h1))) (S.obj n a so h1 h2), S.dd, fun a h => ?_, S.dis⟩
  have hn := S.z0 a h
  cases e : H a with
  | none => exact absurd e hn
  | some u => rw [upd_ne (ne_of_none e hp), e]; simp
theorem Post.newLst {Q : V → Hp → Prop} {p : Addr} {ds : List PyData} {vs : List V} (h : Post C Z0 θ H (relW C.K Z0) (.ok (.d (.list ds)) st) Q) (S : SR C.K Z0 θ st H) (hp : H p = none) (r : PdAll C.K (Zs Z0 θ) H vs ds) : Q (.ref p) (upd H p (.lst vs)) :=
  h θ _ (.ref p) (Ext.alloc hp) (S.alloc hp) (show Pd _ _ _ _ _ from .lst ⟨.inl upd_same, S.notZ hp⟩ (PdAll.ext (Ext.alloc hp) r))
theorem Post.newTup {Q : V → Hp → Prop} {p : Addr} {ds : List PyData} {vs : List V} (h : Post C Z0 θ H (relW C.K Z0) (.ok (.d (.tuple ds)) st) Q) (S : SR C.K Z0 θ st H) (hp : H p = none) (r : PdAll C.K (Zs Z0 θ) H vs ds) : Q (.ref p) (upd H p (.tup vs)) :=
  h θ _ (.ref p) (Ext.alloc hp) (S.alloc hp) (show Pd _ _ _ _ _ from .tup upd_same (PdAll.ext (Ext.alloc hp) r))
theorem getElem?_snoc {α : Type} {l : List α} {x y : α} {n : Nat} (h : (l ++ [x])[n]? = some y) : l[n]? = some y ∨ (n = l.length ∧ y = x) := by
  by_cases hn : n < l.length
  · rw [List.getElem?_append_left hn] at h; exact .inl h
  · rw [List.getElem?_append_right (by omega)] at h
    have : n - l.length = 0 := by
      have := (List.getElem?_eq_some_iff.mp h).1
      simp at this; omega
    rw [this] at h
    exact .inr ⟨by omega, (by simpa using h.symm)⟩
theorem Ext.push {p : Addr} {o : HO} (hp : H p = none) : Ext θ H (θ ++ [some p]) (upd H p o) := by
  have a := Ext.alloc (θ := θ) (o := o) hp
  refine ⟨fun n b h => ?_, fun n b h => .inl ?_, a.keep, a.tup, a.frz, a.live⟩
  · rcases getElem?_snoc h with h | ⟨_, h⟩
    · exact .inl h
    · cases h; exact .inr hp
  · rw [List.getElem?_append_left (List.getElem?_eq_some_iff.mp h).1]; exact h
theorem SR.push {p : Addr} {ws : List W} {vs : List V} (S : SR K Z0 θ st H) (hp : H p = none) (r : WRs K (Zs Z0 θ) θ H ws vs) : SR K Z0 (θ ++ [some p]) (st ++ [.lst ws]) (upd H p (.lst vs)) := by
  have nz := S.notZ hp
  have np : ∀ n a, θ[n]? = some (some a) → a ≠ p := fun n a h1 e => nz (.inl (e ▸ List.mem_of_getElem? h1))
  refine ⟨by simp [S.len], fun m n a h1 h2 => ?_, fun n a so h1 h2 => ?_, fun n h => ?_, fun a h => ?_, fun a h => ?_⟩
  · rcases getElem?_snoc h1 with h1 | ⟨e1, h1⟩ <;> rcases getElem?_snoc h2 with h2 | ⟨e2, h2⟩
    · exact S.nd m n a h1 h2
    · cases h2; exact absurd rfl (np _ _ h1)
    · cases h1; exact absurd rfl (np _ _ h2)
    · omega
  · rcases getElem?_snoc h1 with h1 | ⟨e1, h1⟩
    · have hl : n < st.length := by rw [← S.len]; exact (List.getElem?_eq_some_iff.mp h1).1
      rw [List.getElem?_append_left hl] at h2
      exact OR.ext (Ext.push hp) (upd_ne (np _ _ h1)) (S.obj n a so h1 h2)
    · cases h1
      rw [e1, S.len, List.getElem?_append_right (Nat.le_refl _)] at h2
      have : so = .lst ws := by simpa using h2.symm
      subst this
      exact ⟨vs, upd_same, WRs.ext (Ext.push hp) r⟩
  · rcases getElem?_snoc h with h | ⟨_, h⟩
    · have e := S.dd n h
      rw [List.getElem?_append_left (List.getElem?_eq_some_iff.mp e).1]; exact e
    · cases h
  · have hn := S.z0 a h
    cases e : H a with
    | none => exact absurd e hn
    | some u => rw [upd_ne (ne_of_none e hp), e]; simp
  · rcases List.mem_append.mp h with h | h
    · exact S.dis a h
    · have e : a = p := by simpa using h
      subst e
      exact fun z => S.z0 _ z hp
theorem Post.newRef {Q : V → Hp → Prop} {p : Addr} {ws : List W} {vs : List V} (h : Post C Z0 θ H (relW C.K Z0) (.ok (.ref st.length) (st ++ [.lst ws])) Q) (S : SR C.K Z0 θ st H) (hp : H p = none) (r : WRs C.K (Zs Z0 θ) θ H ws vs) : Q (.ref p) (upd H p (.lst vs)) :=
  h _ _ (.ref p) (Ext.push hp) (S.push hp r) ⟨some p, by rw [← S.len]; simp, fun a e => by cases e; rfl⟩
theorem PdAll.length {ds : List PyData} {vs : List V} (h : PdAll K Z H vs ds) : vs.length = ds.length := by
  induction ds generalizing vs with
  | nil => cases h; rfl
  | cons d ds ih => cases h with | cons a b => simp [ih b]
theorem PdAll.append {ds es : List PyData} {vs us : List V} (h : PdAll K Z H vs ds) (g : PdAll K Z H us es) : PdAll K Z H (vs ++ us) (ds ++ es) := by
  induction ds generalizing vs with
  | nil => cases h; exact g
  | cons d ds ih => cases h with | cons a b => exact .cons a (ih b)
theorem PdAll.get {ds : List PyData} {vs : List V} (h : PdAll K Z H vs ds) {i : Nat} {d : PyData} (e : ds[i]? = some d) : ∃ v, vs[i]? = some v ∧ Pd K Z H v d := by
  induction ds generalizing vs i with
  | nil => simp at e
  | cons x ds ih =>
    cases h with
    | cons a b =>
      cases i with
      | zero => simp at e; subst e; exact ⟨_, by simp, a⟩
      | succ i => simpa using ih b (by simpa using e)
theorem PdAll.drop {ds : List PyData} {vs : List V} (n : Nat) (h : PdAll K Z H vs ds) : PdAll K Z H (vs.drop n) (ds.drop n) := by
  induction n generalizing vs ds with
  | zero => exact h
  | succ n ih =>
    cases ds with
    | nil => cases h; exact .nil
    | cons x ds => cases h with | cons a b => exact ih b
theorem PdAll.take {ds : List PyData} {vs : List V} (n : Nat) (h : PdAll K Z H vs ds) : PdAll K Z H (vs.take n) (ds.take n) := by
  induction n generalizing vs ds with
  | zero => exact .nil
  | succ n ih =>
    cases ds with
    | nil => cases h; exact .nil
    | cons x ds => cases h with | cons a b => exact .cons a (ih b)
theorem PdAll.reverse {ds : List PyData} {vs : List V} (h : PdAll K Z H vs ds) : PdAll K Z H vs.reverse ds.reverse := by
  induction ds generalizing vs with
  | nil => cases h; exact .nil
  | cons x ds ih => cases h with | cons a b => simp only [List.reverse_cons]; exact (ih b).append (.cons a .nil)
theorem PdAll.toWRs {ds : List PyData} {vs : List V} (h : PdAll K Z H vs ds) : WRs K Z θ H (ds.map W.d) vs := by
  induction ds generalizing vs with
  | nil => cases h; exact .nil
  | cons x ds ih => cases h with | cons a b => exact .cons a (ih b)
@[simp] def allD : List W → Option (List PyData)
  | [] => some []
  | .d x :: ws => (allD ws).map (x :: ·)
  | _ :: _ => none
theorem allD_map (ds : List PyData) : allD (ds.map W.d) = some ds := by
  induction ds with
  | nil => rfl
  | cons x ds ih => simp [allD, ih]
theorem allD_eq : ∀ {ws : List W} {ds : List PyData}, allD ws = some ds → ws = ds.map W.d
  | [], ds, h => by cases h; rfl
  | .d x :: ws, ds, h => by
    simp only [allD, Option.map_eq_some_iff] at h
    obtain ⟨es, h1, rfl⟩ := h
    rw [allD_eq h1]; rfl
  | .ref _ :: _, _, h => by cases h
  | .scr _ :: _, _, h => by cases h
theorem WRs.pd {ws : List W} {vs : List V} {ds : List PyData} (h : WRs K Z θ H ws vs) (e : allD ws = some ds) : PdAll K Z H vs ds := by
  have := allD_eq e
  subst this
  clear e
  induction ds generalizing vs with
  | nil => cases h; exact .nil
  | cons x ds ih => cases h with | cons a b => exact .cons a (ih b)
theorem WRs.length {ws : List W} {vs : List V} (h : WRs K Z θ H ws vs) : ws.length = vs.length := Paired.length h
theorem paired_get' {α β : Type} {F : α → β → Prop} {l₁ : List α} {l₂ : List β} (h : Paired F l₁ l₂) : ∀ {i : Nat} {a : α}, l₁[i]? = some a → ∃ b, l₂[i]? = some b ∧ F a b := fun {i a} e => L2.paired_get h e
/-- the live object behind a place -/
theorem SR.at_ (S : SR K Z0 θ st H) {n : Nat} {ws : List W} {v : V} (h : WR K (Zs Z0 θ) θ H (.ref n) v) (e : st[n]? = some (.lst ws)) : ∃ a vs, v = .ref a ∧ θ[n]? = some (some a) ∧ H a = some (.lst vs) ∧ WRs K (Zs Z0 θ) θ H ws vs := by
  obtain ⟨o, h1, h2⟩ := h
  cases o with
  | none => rw [S.dd n h1] at e; cases e
  | some a =>
    obtain ⟨vs, q1, q2⟩ := S.obj n a _ h1 e
    exact ⟨a, vs, h2 a rfl, h1, q1, q2⟩
/-- a value as data, read through the store -/
@[simp] def asD (st : Sto) : W → Option PyData
  | .d x => some x
  | .ref n => match st[n]? with
    | some (.lst ws) => (allD ws).map .list
    | _ => none
  | .scr ns => some (.list (ns.map .int))
  | .o ns => some (.tuple (ns.map .int))
  | .oo _ => none
  | .po _ _ => none
theorem dpAll_ints : ∀ ns : List Int, DpAll K H (ns.map V.int) (ns.map PyData.int)
  | [] => .nil
  | n :: ns => .cons (.int n) (dpAll_ints ns)
theorem asD_dp (S : SR K Z0 θ st H) {w : W} {v : V} {x : PyData} (h : WR K (Zs Z0 θ) θ H w v) (e : asD st w = some x) : Dp K H v x := by
  cases w with
  | d y => cases e; exact Pd.dp h
  | ref n =>
    dsimp only [asD] at e
    split at e
    · rename_i ws hw
      obtain ⟨a, vs, rfl, _, h3, h4⟩ := S.at_ h hw
      simp only [Option.map_eq_some_iff] at e
      obtain ⟨ds, e1, rfl⟩ := e
      exact .lst (.inl (.inl h3)) (PdAll.dp (h4.pd e1))
    · cases e
  | scr ns =>
    cases e
    obtain ⟨a, rfl, h⟩ := h
    exact .lst h.sqL (dpAll_ints ns)
  | o ns =>
    cases e
    obtain ⟨a, rfl, od, h, _⟩ := h
    exact .tup (.inl (.inr ⟨od, h⟩)) (dpAll_ints ns)
  | oo rows => cases e
  | po x ns => cases e
/-- the items of a list or a tuple -/
@[simp] def items (st : Sto) : W → Option (List W)
  | .d (.list ds) => some (ds.map .d)
  | .d (.tuple ds) => some (ds.map .d)
  | .ref n => match st[n]? with
    | some (.lst ws) => some ws
    | _ => none
  | .scr ns => some (ns.map fun n => .d (.int n))
  | .o ns => some (ns.map fun n => .d (.int n))
  | _ => none
theorem pdAll_ints : ∀ ns : List Int, PdAll K Z H (ns.map V.int) (ns.map PyData.int)
  | [] => .nil
  | n :: ns => .cons (.int n) (pdAll_ints ns)
theorem items_sq (S : SR K Z0 θ st H) {w : W} {v : V} {ws : List W} (h : WR K (Zs Z0 θ) θ H w v) (e : items st w = some ws) : ∃ a vs, v = .ref a ∧ (SqL K H a vs ∨ SqT K H a vs) ∧ WRs K (Zs Z0 θ) θ H ws vs := by
  cases w with
  | d y =>
    cases y with
    | list ds => cases e; cases h with | lst h1 h2 => exact ⟨_, _, rfl, .inl h1.sqL, h2.toWRs⟩
    | tuple ds => cases e; cases h with | tup h1 h2 => exact ⟨_, _, rfl, .inr (tq h1), h2.toWRs⟩
    | _ => cases e
  | ref n =>
    dsimp only [items] at e
    split at e
    · rename_i ws' hw
      cases e
      obtain ⟨a, vs, rfl, _, h3, h4⟩ := S.at_ h hw
      exact ⟨a, vs, rfl, .inl (.inl (.inl h3)), h4⟩
    · cases e
  | scr ns =>
    cases e
    obtain ⟨a, rfl, h⟩ := h
    refine ⟨a, _, rfl, .inl h.sqL, ?_⟩
    have := (pdAll_ints (K := K) (Z := Zs Z0 θ) (H := H) ns).toWRs (θ := θ)
    rwa [List.map_map] at this
  | o ns =>
    cases e
    obtain ⟨a, rfl, od, h, _⟩ := h
    refine ⟨a, _, rfl, .inr (.inl (.inr ⟨od, h⟩)), ?_⟩
    have := (pdAll_ints (K := K) (Z := Zs Z0 θ) (H := H) ns).toWRs (θ := θ)
    rwa [List.map_map] at this
  | oo rows => cases e
  | po x ns => cases e
end
def chk {α : Type} (c : Prop) [Decidable c] (r : R α) : R α := if c then r else .bad
theorem chk_ok {α : Type} {c : Prop} [Decidable c] {r : R α} (h : c) : chk c r = r := if_pos h
theorem Post.chk {C : Ct} {Z0 : Addr → Prop} {θ : List (Option Addr)} {H : Hp} {α β : Type} {rel : List (Option Addr) → Hp → α → β → Prop} {c : Prop} [Decidable c] {r : R α} {Q : β → Hp → Prop} (h : Post C Z0 θ H rel (chk c r) Q) : c ∧ Post C Z0 θ H rel r Q := by
  unfold Y.chk at h
  by_cases hc : c
  · rw [if_pos hc] at h; exact ⟨hc, h⟩
  · rw [if_neg hc] at h; exact h.elim
@[simp] def vAdd : W → W → Sto → R W
  | .d (.int i), .d (.int j), st => .ok (.d (.int (i + j))) st
  | .d (.str x), .d (.str y), st => chk (x.length + y.length ≤ sizeLine) (.ok (.d (.str (x ++ y))) st)
  | .d (.tuple xs), .d (.tuple ys), st => chk (xs.length + ys.length ≤ sizeLine) (.ok (.d (.tuple (xs ++ ys))) st)
  | .d (.list xs), .d (.list ys), st => chk (xs.length + ys.length ≤ sizeLine) (.ok (.d (.list (xs ++ ys))) st)
  | _, _, _ => .bad
@[simp] def vInt (g : Int → Int → Int) : W → W → Sto → R W
  | .d (.int i), .d (.int j), st => .ok (.d (.int (g i j))) st
  | _, _, _ => .bad
def vIntC (c : Int → Int → Bool) (g : Int → Int → Int) : W → W → Sto → R W
  | .d (.int i), .d (.int j), st => chk (c i j = true) (.ok (.d (.int (g i j))) st)
  | _, _, _ => .bad
abbrev vSub := vInt (· - ·)
def cMul (i j : Int) : Bool := (decide (-(2 ^ 64) < i) && decide (i < 2 ^ 64)) || (decide (-(2 ^ 64) < j) && decide (j < 2 ^ 64))
def cDiv (i j : Int) : Bool := (decide (j ≠ 0) && decide (j.natAbs < 1073741824)) || (decide (0 < j) && decide (j.natAbs.log2 < 9000))
def cMod (i j : Int) : Bool := decide (j ≠ 0)
def cPow (i j : Int) : Bool := decide (0 ≤ j) && (decide (j ≤ 1000000) && decide (i.natAbs < 2 ^ 64))
abbrev vMul := vIntC cMul (· * ·)
abbrev vDiv := vIntC cDiv Int.fdiv
abbrev vMod := vIntC cMod Int.fmod
abbrev vPow := vIntC cPow fun i j => i ^ j.toNat
section
variable {X : Cx} {C : Ct}
theorem sqL_raw {pins : List (Addr × Obj)} {σ : L2.St} {H : Hp} {s : Shared} {a : Addr} {xs : List V} (I : Inv X pins σ H s) (h : Rd H a (.lst xs)) : ∃ (its : List Value) (n : Nat), Vals xs its ∧ xs.length = its.length ∧ s.heap.get? a = some { cls := .type "list", data := .seq its.toArray n } := by
  obtain ⟨z, its, n, r, e⟩ := h.ok I.hok
  exact ⟨its, n, r, r.length, e⟩
theorem op_catL {pins : List (Addr × Obj)} {s : Shared} {σ : L2.St} {H : Hp} {l b : Addr} {xs zs : List V} {Q : VK} (I : Inv X pins σ H s) (hH : Rd H l (.lst xs)) (hB : Rd H b (.lst zs)) (hz : xs.length + zs.length ≤ sizeLine)
    (q : ∀ p, H p = none → Q (.ref p) (upd H p (.lst (xs ++ zs)))) : wpAny (model X.prog X.w) X.A (binaryOp .Add (.ref l) (.ref b)) (EP X pins σ Q) X.xe s := by
  obtain ⟨its, n, r, hl, e⟩ := sqL_raw I hH
  obtain ⟨its2, n2, r2, hl2, e2⟩ := sqL_raw I hB
  have room : its.toArray.size + its2.toArray.size ≤ sizeLine := by
    simp only [List.size_toArray]; omega
  refine PySem.P.add_list e e2 ?_ room
  rw [show its.toArray ++ its2.toArray = (its ++ its2).toArray from by simp]
  have both : (xs ++ zs).length ≤ sizeLine := by rw [List.length_append]; exact hz
  exact ⟨.ref _, _, I.lnew (t' := s.toks) (r.append r2) both, rfl, q _ I.fresh⟩
theorem opAdd (hK : C.K = X.K) : OpR X (binaryOp .Add) (rdO C vAdd) := by
  obtain ⟨K, mg, E⟩ := C
  obtain rfl : K = X.K := hK
  intro pins s σ H x y v u Q I rx ry h
  obtain ⟨Z0, θ, st, a, b, S, wa, wb, p⟩ := h
  unfold vAdd at p
  split at p
  · cases wa; cases wb
    exact op_add pins s σ H _ _ v u Q I rx ry ⟨_, _, rfl, rfl, p.now S (show Pd _ _ _ _ _ from .int _)⟩
  · cases wa; cases wb
    exact op_add_str pins s σ H _ _ v u Q I rx ry ⟨_, _, rfl, rfl, p.chk.1, p.chk.2.now S (show Pd _ _ _ _ _ from .str _)⟩
  · cases wa with
    | tup h1 h2 =>
      cases wb with
      | tup g1 g2 =>
        refine op_catA pins s σ H _ _ v u Q I rx ry ⟨_, _, _, _, rfl, rfl, tq h1, tq g1, by rw [h2.length, g2.length]; exact p.chk.1, fun e => ?_, fun _ e => ?_, fun _ _ q hq => ?_⟩
        · subst e; cases h2
          exact p.chk.2.now S (show Pd _ _ _ _ _ from .tup g1 g2)
        · subst e; cases g2
          have p2 := p.chk.2
          rw [List.append_nil] at p2
          exact p2.now S (show Pd _ _ _ _ _ from .tup h1 h2)
        · exact p.chk.2.newTup S hq (h2.append g2)
  · cases wa with
    | lst h1 h2 =>
      cases wb with
      | lst g1 g2 =>
        cases rx; cases ry
        exact op_catL I h1.1 g1.1 (by rw [h2.length, g2.length]; exact p.chk.1) fun q hq => p.chk.2.newLst S hq (h2.append g2)
  · exact p.elim
theorem opI {f : Value → Value → Sem Value} {g : Int → Int → Int} (ho : OpR X f (rI0 fun i j => .int (g i j))) : OpR X f (rdO C (vInt g)) := by
  intro pins s σ H x y v u Q I rx ry h
  obtain ⟨Z0, θ, st, a, b, S, wa, wb, p⟩ := h
  unfold vInt at p
  split at p
  · cases wa; cases wb
    exact ho pins s σ H _ _ v u Q I rx ry ⟨_, _, rfl, rfl, p.now S (show Pd _ _ _ _ _ from .int _)⟩
  · exact p.elim
theorem opIC {f : Value → Value → Sem Value} {c : Int → Int → Bool} {P : Int → Int → Prop} {g : Int → Int → Int} (ho : OpR X f (rI P fun i j => .int (g i j))) (hc : ∀ i j, c i j = true → P i j) : OpR X f (rdO C (vIntC c g)) := by
  intro pins s σ H x y v u Q I rx ry h
  obtain ⟨Z0, θ, st, a, b, S, wa, wb, p⟩ := h
  unfold vIntC at p
  split at p
  · cases wa; cases wb
    exact ho pins s σ H _ _ v u Q I rx ry ⟨_, _, rfl, rfl, hc _ _ p.chk.1, p.chk.2.now S (show Pd _ _ _ _ _ from .int _)⟩
  · exact p.elim
theorem opSub : OpR X (binaryOp .Sub) (rdO C vSub) := opI op_sub
theorem opMul : OpR X (binaryOp .Mult) (rdO C vMul) := opIC op_mul fun i j h => by simpa [cMul, CMul] using h
theorem op_fdivX : OpR X (binaryOp .FloorDiv) (rI (fun i j => CDivN i j ∨ CDivW i j) fun i j => .int (i.fdiv j)) := by
  intro pins s σ H x y v u Q I rx ry h
  obtain ⟨i, j, rfl, rfl, c, q⟩ := h
  rcases c with c | c
  · exact op_fdivN pins s σ H _ _ v u Q I rx ry ⟨i, j, rfl, rfl, c, q⟩
  · exact op_fdivW pins s σ H _ _ v u Q I rx ry ⟨i, j, rfl, rfl, c, by
      have e : i.fdiv j = i / j := Int.fdiv_eq_ediv_of_nonneg i (by have := c.1; omega)
      have q : Q (.int (i.fdiv j)) H := q
      rw [e] at q
      exact q⟩
theorem opDiv : OpR X (binaryOp .FloorDiv) (rdO C vDiv) := opIC op_fdivX fun i j h => by
  simp only [cDiv, Bool.or_eq_true, Bool.and_eq_true, decide_eq_true_eq] at h
  exact h
theorem opMod : OpR X (binaryOp .Mod) (rdO C vMod) := opIC op_modN fun i j h => by simpa [cMod] using h
theorem opPow : OpR X (binaryOp .Pow) (rdO C vPow) := opIC op_pow fun i j h => by simpa [cPow, CPow] using h
@[simp] def vNeg : W → Sto → R W
  | .d (.int i), st => .ok (.d (.int (-i))) st
  | _, _ => .bad
theorem unNeg : UnR X (unaryOp .USub) (rdU C vNeg) := by
  intro pins s σ H x v Q I rx h
  obtain ⟨Z0, θ, st, a, S, wa, p⟩ := h
  unfold vNeg at p
  split at p
  · cases wa
    exact un_neg pins s σ H _ v Q I rx ⟨_, rfl, p.now S (show Pd _ _ _ _ _ from .int _)⟩
  · exact p.elim
def asInts : List PyData → Option (List Int)
  | [] => some []
  | .int i :: r => (asInts r).map (i :: ·)
  | _ :: _ => none
theorem asInts_eq : ∀ {ds : List PyData} {ns : List Int}, asInts ds = some ns → ds = ns.map .int
  | [], ns, h => by cases h; rfl
  | .int i :: ds, ns, h => by
    simp only [asInts, Option.map_eq_some_iff] at h
    obtain ⟨es, h1, rfl⟩ := h
    rw [asInts_eq h1]; rfl
  | .none :: _, _, h => by cases h
  | .bool _ :: _, _, h => by cases h
  | .str _ :: _, _, h => by cases h
  | .list _ :: _, _, h => by cases h
  | .tuple _ :: _, _, h => by cases h
  | .dict _ :: _, _, h => by cases h
theorem asInts_map (ns : List Int) : asInts (ns.map .int) = some ns := by
  induction ns with
  | nil => rfl
  | cons n ns ih => simp [asInts, ih]
theorem PdAll.intsEq {K : PySem.W.Frag} {Z : Addr → Prop} {H : Hp} : ∀ {ns : List Int} {vs : List V}, PdAll K Z H vs (ns.map .int) → vs = ns.map V.int
  | [], _, h => by cases h; rfl
  | n :: ns, _, h => by cases h with | cons a b => cases a; rw [PdAll.intsEq b]; rfl
@[simp] def vLt : W → W → Sto → R W
  | .d (.int i), .d (.int j), st => .ok (.d (.bool (decide (i < j)))) st
  | .d (.str x), .d (.str y), st => .ok (.d (.bool (decide (x.cps.toList < y.cps.toList)))) st
  | .d (.tuple xs), .d (.tuple ys), st => match asInts xs, asInts ys with
    | some ns, some ms => .ok (.d (.bool (HT.lexLt ns ms))) st
    | _, _ => .bad
  | _, _, _ => .bad
theorem opLt (hK : C.K = X.K) (hu : X.A.units < cLine) : OpR X (compareOp .Lt) (rdO C vLt) := by
  obtain ⟨K, mg, E⟩ := C
  obtain rfl : K = X.K := hK
  intro pins s σ H x y v u Q I rx ry h
  obtain ⟨Z0, θ, st, a, b, S, wa, wb, p⟩ := h
  unfold vLt at p
  split at p
  · cases wa; cases wb
    exact op_lt pins s σ H _ _ v u Q I rx ry ⟨_, _, rfl, rfl, p.now S (show Pd _ _ _ _ _ from .bl _)⟩
  · cases wa; cases wb
    exact op_lt_str pins s σ H _ _ v u Q I rx ry ⟨_, _, rfl, rfl, p.now S (show Pd _ _ _ _ _ from .bl _)⟩
  · split at p
    · rename_i ns ms e1 e2
      have e1 := asInts_eq e1
      have e2 := asInts_eq e2
      subst e1 e2
      cases wa with
      | tup h1 h2 =>
        cases wb with
        | tup g1 g2 =>
          have i1 := h2.intsEq
          have i2 := g2.intsEq
          subst i1 i2
          exact op_ltT hu pins s σ H _ _ v u Q I rx ry ⟨_, _, ns, ms, rfl, rfl, tq h1, tq g1, p.now S (show Pd _ _ _ _ _ from .bl _)⟩
    · exact p.elim
  · exact p.elim
@[simp] def vLe : W → W → Sto → R W
  | .d (.int i), .d (.int j), st => .ok (.d (.bool (decide (i ≤ j)))) st
  | .d (.str x), .d (.str y), st => .ok (.d (.bool (!decide (y.cps.toList < x.cps.toList)))) st
  | _, _, _ => .bad
theorem opLe : OpR X (compareOp .LtE) (rdO C vLe) := by
  intro pins s σ H x y v u Q I rx ry h
  obtain ⟨Z0, θ, st, a, b, S, wa, wb, p⟩ := h
  unfold vLe at p
  split at p
  · cases wa; cases wb
    exact op_le pins s σ H _ _ v u Q I rx ry ⟨_, _, rfl, rfl, p.now S (show Pd _ _ _ _ _ from .bl _)⟩
  · cases wa; cases wb
    exact op_le_str pins s σ H _ _ v u Q I rx ry ⟨_, _, rfl, rfl, p.now S (show Pd _ _ _ _ _ from .bl _)⟩
  · exact p.elim
@[simp] def vGt : W → W → Sto → R W
  | .d (.int i), .d (.int j), st => .ok (.d (.bool (decide (j < i)))) st
  | _, _, _ => .bad
theorem opGt : OpR X (compareOp .Gt) (rdO C vGt) := by
  intro pins s σ H x y v u Q I rx ry h
  obtain ⟨Z0, θ, st, a, b, S, wa, wb, p⟩ := h
  unfold vGt at p
  split at p
  · cases wa; cases wb
    exact op_gt pins s σ H _ _ v u Q I rx ry ⟨_, _, rfl, rfl, p.now S (show Pd _ _ _ _ _ from .bl _)⟩
  · exact p.elim
@[simp] def vGe : W → W → Sto → R W
  | .d (.int i), .d (.int j), st => .ok (.d (.bool (decide (j ≤ i)))) st
  | _, _, _ => .bad
theorem opGe : OpR X (compareOp .GtE) (rdO C vGe) := by
  intro pins s σ H x y v u Q I rx ry h
  obtain ⟨Z0, θ, st, a, b, S, wa, wb, p⟩ := h
  unfold vGe at p
  split at p
  · cases wa; cases wb
    exact op_ge pins s σ H _ _ v u Q I rx ry ⟨_, _, rfl, rfl, p.now S (show Pd _ _ _ _ _ from .bl _)⟩
  · exact p.elim
@[simp] def vEq (neg : Bool) : W → W → Sto → R W := fun a b st => match a, b with
  | .d (.str x), .d (.str y) => .ok (.d (.bool (neg ^^ decide (x = y)))) st
  | a, b => match asD st a, asD st b with
    | some d, some e => chk (SeqAt.shaped d = true ∧ SeqAt.shaped e = true) (.ok (.d (.bool (neg ^^ PyData.eqv d e))) st)
    | _, _ => .bad
theorem opEq (hK : C.K = X.K) (hu : X.A.units + 64 < cLine) : OpR X (compareOp .Eq) (rdO C (vEq false)) := by
  obtain ⟨K, mg, E⟩ := C
  obtain rfl : K = X.K := hK
  intro pins s σ H x y v u Q I rx ry h
  obtain ⟨Z0, θ, st, a, b, S, wa, wb, p⟩ := h
  unfold vEq at p
  split at p
  · cases wa; cases wb
    refine op_eq pins s σ H _ _ v u Q I rx ry ⟨rfl, ?_⟩
    have q := p
    rw [Bool.false_xor] at q
    have q := q.now S (show Pd _ _ _ _ _ from .bl _)
    simpa using q
  · split at p
    · rename_i d e h1 h2
      exact op_eqD hu pins s σ H _ _ v u Q I rx ry ⟨d, e, asD_dp S wa h1, asD_dp S wb h2, p.chk.1.1, p.chk.1.2, by have q := p.chk.2; rw [Bool.false_xor] at q; exact q.now S (show Pd _ _ _ _ _ from .bl _)⟩
    · exact p.elim
theorem opNe (hK : C.K = X.K) (hu : X.A.units + 64 < cLine) : OpR X (compareOp .NotEq) (rdO C (vEq true)) := by
  obtain ⟨K, mg, E⟩ := C
  obtain rfl : K = X.K := hK
  intro pins s σ H x y v u Q I rx ry h
  obtain ⟨Z0, θ, st, a, b, S, wa, wb, p⟩ := h
  unfold vEq at p
  split at p
  · cases wa; cases wb
    refine op_ne pins s σ H _ _ v u Q I rx ry ⟨rfl, ?_⟩
    have q := p
    rw [Bool.true_xor] at q
    have q := q.now S (show Pd _ _ _ _ _ from .bl _)
    simpa using q
  · split at p
    · rename_i d e h1 h2
      exact op_neD hu pins s σ H _ _ v u Q I rx ry ⟨d, e, asD_dp S wa h1, asD_dp S wb h2, p.chk.1.1, p.chk.1.2, by have q := p.chk.2; rw [Bool.true_xor] at q; exact q.now S (show Pd _ _ _ _ _ from .bl _)⟩
    · exact p.elim
@[simp] def vIs (neg : Bool) : W → W → Sto → R W
  | .d x, .d .none, st => .ok (.d (.bool (neg ^^ match x with | .none => true | _ => false))) st
  | .d (.bool a), .d (.bool b), st => .ok (.d (.bool (neg ^^ decide (a = b)))) st
  | _, _, _ => .bad
end
end Y
namespace Y
open PySem PySem.Spec PyProof.Rows L2
section
variable {X : Cx} {C : Ct}
/-- x in y: texts, lists, tuples of data -/
@[simp] def vIn (neg : Bool) : W → W → Sto → R W := fun a b st => match a, b with
  | .d (.str x), .d (.str y) => .ok (.d (.bool (neg ^^ !(Builtin.Str.occurrences y x 0 y.length 1).isEmpty))) st
  | a, b => match asD st a, asD st b with
    | some d, some (.list ds) => chk (SeqAt.shaped d = true ∧ SeqAt.shaped (.list ds) = true) (.ok (.d (.bool (neg ^^ ds.any fun z => PyData.eqv z d))) st)
    | some d, some (.tuple ds) => chk (SeqAt.shaped d = true ∧ SeqAt.shaped (.tuple ds) = true) (.ok (.d (.bool (neg ^^ ds.any fun z => PyData.eqv z d))) st)
    | _, _ => .bad
theorem opIn (hK : C.K = X.K) (hu : X.A.units + 65 < cLine) : OpR X (compareOp .In) (rdO C (vIn false)) := by
  obtain ⟨K, mg, E⟩ := C
  obtain rfl : K = X.K := hK
  intro pins s σ H x y v u Q I rx ry h
  obtain ⟨Z0, θ, st, a, b, S, wa, wb, p⟩ := h
  unfold vIn at p
  split at p
  · cases wa; cases wb
    exact op_in_str pins s σ H _ _ v u Q I rx ry ⟨_, _, rfl, rfl, by rw [Bool.false_xor] at p; exact p.now S (show Pd _ _ _ _ _ from .bl _)⟩
  · split at p
    · rename_i h1 h2
      obtain ⟨as, r1⟩ := Dp.reads I _ x v (asD_dp S wa h1) rx
      obtain ⟨bs, r2⟩ := Dp.reads I _ y u (asD_dp S wb h2) ry
      refine SeqAt.in_list_reads r2 r1 (SeqAt.canLay_of_shaped p.chk.1.2) (SeqAt.canLay_of_shaped p.chk.1.1) (room_in_shaped p.chk.1.1 hu) ⟨.bl _, H, I, rfl, ?_⟩
      have q := p.chk.2; rw [Bool.false_xor] at q; exact q.now S (show Pd _ _ _ _ _ from .bl _)
    · rename_i h1 h2
      obtain ⟨as, r1⟩ := Dp.reads I _ x v (asD_dp S wa h1) rx
      obtain ⟨bs, r2⟩ := Dp.reads I _ y u (asD_dp S wb h2) ry
      refine SeqAt.in_tuple_reads r2 r1 (SeqAt.canLay_of_shaped p.chk.1.2) (SeqAt.canLay_of_shaped p.chk.1.1) (room_in_shaped p.chk.1.1 hu) ⟨.bl _, H, I, rfl, ?_⟩
      have q := p.chk.2; rw [Bool.false_xor] at q; exact q.now S (show Pd _ _ _ _ _ from .bl _)
    · exact p.elim
theorem opNotIn (hK : C.K = X.K) (hu : X.A.units + 65 < cLine) : OpR X (compareOp .NotIn) (rdO C (vIn true)) := by
  obtain ⟨K, mg, E⟩ := C
  obtain rfl : K = X.K := hK
  intro pins s σ H x y v u Q I rx ry h
  obtain ⟨Z0, θ, st, a, b, S, wa, wb, p⟩ := h
  unfold vIn at p
  split at p
  · cases wa; cases wb
    exact op_notIn_str pins s σ H _ _ v u Q I rx ry ⟨_, _, rfl, rfl, by rw [Bool.true_xor] at p; exact p.now S (show Pd _ _ _ _ _ from .bl _)⟩
  · split at p
    · rename_i h1 h2
      obtain ⟨as, r1⟩ := Dp.reads I _ x v (asD_dp S wa h1) rx
      obtain ⟨bs, r2⟩ := Dp.reads I _ y u (asD_dp S wb h2) ry
      refine SeqAt.notIn_list_reads r2 r1 (SeqAt.canLay_of_shaped p.chk.1.2) (SeqAt.canLay_of_shaped p.chk.1.1) (room_in_shaped p.chk.1.1 hu) ⟨.bl _, H, I, rfl, ?_⟩
      have q := p.chk.2; rw [Bool.true_xor] at q; exact q.now S (show Pd _ _ _ _ _ from .bl _)
    · rename_i h1 h2
      obtain ⟨as, r1⟩ := Dp.reads I _ x v (asD_dp S wa h1) rx
      obtain ⟨bs, r2⟩ := Dp.reads I _ y u (asD_dp S wb h2) ry
      refine SeqAt.notIn_tuple_reads r2 r1 (SeqAt.canLay_of_shaped p.chk.1.2) (SeqAt.canLay_of_shaped p.chk.1.1) (room_in_shaped p.chk.1.1 hu) ⟨.bl _, H, I, rfl, ?_⟩
      have q := p.chk.2; rw [Bool.true_xor] at q; exact q.now S (show Pd _ _ _ _ _ from .bl _)
    · exact p.elim
/-- a chain -/
theorem t_chain {g g' : W → W → Sto → R W} {fa fb fc : En → Sto → R W} {σ : L2.St} {H : Hp} {Q : VK} (q : rdE C (dChain g g' fa fb fc) σ H Q) : tChain (rdO C g) (rdO C g') (rdE C fa) (rdE C fb) (rdE C fc) σ H Q := by
  obtain ⟨Z0, θ, ρ, st, S, N, p⟩ := q
  exact ⟨Z0, θ, ρ, st, S, N, Post.bind p fun w st1 θ1 H1 v _ e1 S1 w1 p1 => ⟨Z0, θ1, ρ, st1, S1, N.ext e1, Post.bind p1 fun w' st2 θ2 H2 v' _ e2 S2 w2 p2 => ⟨Z0, θ2, st2, w, w', S2, w1.ext e2, w2,
    post_asB p2 fun k st3 θ3 H3 e3 S3 p3 => ⟨k, rfl, by
      cases k with
      | true =>
        rw [if_pos rfl] at p3
        rw [if_pos rfl]
        exact ⟨Z0, θ3, ρ, st3, S3, ((N.ext e1).ext e2).ext e3, Post.bind p3 fun w'' st4 θ4 H4 v'' _ e4 S4 w4 p4 => ⟨Z0, θ4, st4, w', w'', S4, (w2.ext e3).ext e4, w4, p4⟩⟩
      | false =>
        rw [if_neg (by simp)] at p3
        rw [if_neg (by simp)]
        exact p3.now S3 (show Pd _ _ _ _ _ from .bl _)⟩⟩⟩⟩
theorem y_chain {a b c : Expr} {pos : Pos} {g g' : W → W → Sto → R W} {fa fb fc : En → Sto → R W} {op op' : CmpOp} (ho : OpR X (compareOp op) (rdO C g)) (ho' : OpR X (compareOp op') (rdO C g')) (ha : PE X a (rdE C fa)) (hb : PE X b (rdE C fb)) (hc : PE X c (rdE C fc))
    (hm : lastMarks [op, op'] [b, c] = false := by with_unfolding_all rfl) : PE X (.Compare a [op, op'] [b, c] pos) (rdE C (dChain g g' fa fb fc)) := PE.imp (pe_chain ho ho' ha hb hc hm) fun _ _ _ => t_chain
@[simp] def dNil : En → Sto → R (List W) := fun _ st => .ok [] st
@[simp] def dCons (f : En → Sto → R W) (g : En → Sto → R (List W)) : En → Sto → R (List W) := fun ρ st => (f ρ st).bind fun w s => (g ρ s).bind fun ws s => .ok (w :: ws) s
theorem t_nil {σ : L2.St} {H : Hp} {Q : List V → Hp → Prop} (q : rdA C dNil σ H Q) : tNil σ H Q := by
  obtain ⟨Z0, θ, ρ, st, S, N, p⟩ := q
  exact p.now S .nil
theorem t_cons {f : En → Sto → R W} {g : En → Sto → R (List W)} {σ : L2.St} {H : Hp} {Q : List V → Hp → Prop} (q : rdA C (dCons f g) σ H Q) : tCons (rdE C f) (rdA C g) σ H Q := by
  obtain ⟨Z0, θ, ρ, st, S, N, p⟩ := q
  exact ⟨Z0, θ, ρ, st, S, N, Post.bind p fun w st1 θ1 H1 v _ e1 S1 w1 p1 => ⟨Z0, θ1, ρ, st1, S1, N.ext e1, Post.bind p1 fun ws st2 θ2 H2 vs _ e2 S2 w2 p2 => p2.now S2 (.cons (w1.ext e2) w2)⟩⟩
theorem y_nil : PA X [] (rdA C dNil) := PA.imp pa_nil fun _ _ _ => t_nil
theorem y_cons {e : Expr} {es : List Expr} {f : En → Sto → R W} {g : En → Sto → R (List W)} (h : PE X e (rdE C f)) (hr : PA X es (rdA C g)) (hs : starEach (e :: es) X.env = (false, eval e X.env) :: starEach es X.env := by rfl) : PA X (e :: es) (rdA C (dCons f g)) := PA.imp (pa_cons h hr hs) fun _ _ _ => t_cons
@[simp] def dTup (f : En → Sto → R (List W)) : En → Sto → R W := fun ρ st => (f ρ st).bind fun ws s => match allD ws with
  | some ds => chk (ds.length ≤ sizeLine) (.ok (.d (.tuple ds)) s)
  | none => .bad
/-- a new list that is not to change -/
@[simp] def dLst (f : En → Sto → R (List W)) : En → Sto → R W := fun ρ st => (f ρ st).bind fun ws s => match allD ws with
  | some ds => chk (ds.length ≤ sizeLine) (.ok (.d (.list ds)) s)
  | none => .bad
/-- a new list of the store -/
@[simp] def dNew (f : En → Sto → R (List W)) : En → Sto → R W := fun ρ st => (f ρ st).bind fun ws s => chk (ws.length ≤ sizeLine) (.ok (.ref s.length) (s ++ [.lst ws]))
theorem y_tup {es : List Expr} {pos : Pos} {x1} {f : En → Sto → R (List W)} (h : PA X es (rdA C f)) : PE X (.Tuple es x1 pos) (rdE C (dTup f)) := PE.imp (pe_tup h) fun σ H Q q => by
  obtain ⟨Z0, θ, ρ, st, S, N, p⟩ := q
  refine ⟨Z0, θ, ρ, st, S, N, Post.bind p fun ws st1 θ1 H1 vs _ e1 S1 w1 p1 => ?_⟩
  split at p1
  · rename_i ds e
    have r := w1.pd e
    exact ⟨by rw [r.length]; exact p1.chk.1, fun t ht => p1.chk.2.newTup S1 ht r⟩
  · exact p1.elim
theorem y_lst {es : List Expr} {pos : Pos} {f : En → Sto → R (List W)} (h : PA X es (rdA C f)) : PE X (.List es pos) (rdE C (dLst f)) := PE.imp (pe_lst h) fun σ H Q q => by
  obtain ⟨Z0, θ, ρ, st, S, N, p⟩ := q
  refine ⟨Z0, θ, ρ, st, S, N, Post.bind p fun ws st1 θ1 H1 vs _ e1 S1 w1 p1 => ?_⟩
  split at p1
  · rename_i ds e
    have r := w1.pd e
    exact ⟨by rw [r.length]; exact p1.chk.1, fun t ht => p1.chk.2.newLst S1 ht r⟩
  · exact p1.elim
theorem y_new {es : List Expr} {pos : Pos} {f : En → Sto → R (List W)} (h : PA X es (rdA C f)) : PE X (.List es pos) (rdE C (dNew f)) := PE.imp (pe_lst h) fun σ H Q q => by
  obtain ⟨Z0, θ, ρ, st, S, N, p⟩ := q
  refine ⟨Z0, θ, ρ, st, S, N, Post.bind p fun ws st1 θ1 H1 vs _ e1 S1 w1 p1 => ?_⟩
  exact ⟨by rw [← w1.length]; exact p1.chk.1, fun t ht => p1.chk.2.newRef S1 ht w1⟩
@[simp] def vIx : W → W → Sto → R W := fun a i st => match i with
  | .d (.int i) => match a with
    | .d (.str z) => chk (z.length ≤ sizeLine) (match atI z.cps.toList i with
      | some c => .ok (.d (.str ⟨#[c]⟩)) st
      | none => .bad)
    | a => match items st a with
      | some ws => match atI ws i with
        | some w => .ok w st
        | none => .bad
      | none => .bad
  | _ => .bad
theorem atI_rel {α β : Type} {F : α → β → Prop} {l₁ : List α} {l₂ : List β} {i : Int} {x : α} (h : Paired F l₁ l₂) (e : atI l₁ i = some x) : ∃ y, atI l₂ i = some y ∧ F x y := by
  unfold atI at e ⊢
  rw [← Paired.length h]
  cases q : ixN l₁.length i with
  | none => rw [q] at e; cases e
  | some j =>
    rw [q] at e
    exact L2.paired_get h e
theorem ixR (hK : C.K = X.K) : IxR X (rdO C vIx) := by
  obtain ⟨K, mg, E⟩ := C
  obtain rfl : K = X.K := hK
  intro o sl pins s σ H x y v u Q I rx ry h hsb
  obtain ⟨Z0, θ, st, a, b, S, wa, wb, p⟩ := h
  unfold vIx at p
  split at p
  · cases wb
    split at p
    · cases wa
      obtain ⟨hz, p⟩ := p.chk
      split at p
      · rename_i c hc
        exact ix_seq o sl pins s σ H _ _ v u Q I rx ry (.inr (.inr ⟨_, _, c, rfl, rfl, hz, hc, p.now S (show Pd _ _ _ _ _ from .str _)⟩)) hsb
      · exact p.elim
    · split at p
      · rename_i ws hw
        split at p
        · rename_i w hx
          obtain ⟨p', vs, rfl, hs, r⟩ := items_sq S wa hw
          obtain ⟨y', hy, ry'⟩ := atI_rel r hx
          refine ix_seq o sl pins s σ H _ _ v u Q I rx ry ?_ hsb
          rcases hs with hs | hs
          · exact .inl ⟨_, _, _, _, rfl, rfl, hs, hy, p.now S ry'⟩
          · exact .inr (.inl ⟨_, _, _, _, rfl, rfl, hs, hy, p.now S ry'⟩)
        · exact p.elim
      · exact p.elim
  · exact p.elim
theorem y_ix {a b : Expr} {pos : Pos} {fa fb : En → Sto → R W} (hK : C.K = X.K) (ha : PE X a (rdE C fa)) (hb : PE X b (rdE C fb)) (hs : PlainIx b := by intro _ _; rfl) : PE X (.Subscript a b pos) (rdE C (dBin vIx fa fb)) := PE.imp (pe_ix (ixR hK) ha hb hs) fun _ _ _ => t_bin
def relO : List (Option Addr) → Hp → Option Int → Option Int → Prop := fun _ _ a b => a = b
def rdP (C : Ct) (f : En → Sto → R (Option Int)) : TO := fun σ H Q => ∃ Z0 θ ρ st, SR C.K Z0 θ st H ∧ EnR C.K (Zs Z0 θ) θ H ρ σ ∧ Post C Z0 θ H relO (f ρ st) Q
@[simp] def dNoP : En → Sto → R (Option Int) := fun _ st => .ok none st
@[simp] def dPart (f : En → Sto → R W) : En → Sto → R (Option Int) := fun ρ st => (f ρ st).bind fun w s => match w with
  | .d (.int i) => .ok (some i) s
  | _ => .bad
theorem PO.imp {e : Option Expr} {t t' : TO} (h : PO X e t) (k : ∀ σ H Q, t' σ H Q → t σ H Q) : PO X e t' := ⟨fun pins s σ H Q I q => h.run pins s σ H Q I (k σ H Q q)⟩
theorem y_noP : PO X none (rdP C dNoP) := PO.imp po_none fun σ H Q q => by
  obtain ⟨Z0, θ, ρ, st, S, N, p⟩ := q
  exact p.now S rfl
theorem y_part {e : Expr} {f : En → Sto → R W} (h : PE X e (rdE C f)) : PO X (some e) (rdP C (dPart f)) := PO.imp (po_some h) fun σ H Q q => by
  obtain ⟨Z0, θ, ρ, st, S, N, p⟩ := q
  refine ⟨Z0, θ, ρ, st, S, N, Post.bind p fun w st1 θ1 H1 v _ e1 S1 w1 p1 => ?_⟩
  split at p1
  · cases w1
    exact ⟨_, rfl, p1.now S1 rfl⟩
  · exact p1.elim
def cut {α : Type} (xs : List α) (lo hi : Option Int) : List α := (xs.drop (HT.sIx xs.length 0 lo)).take (HT.sIx xs.length xs.length hi - HT.sIx xs.length 0 lo)
@[simp] def vSl : W → Option Int → Option Int → Sto → R W := fun a lo hi st => match a with
  | .d (.str z) => chk (z.length ≤ sizeLine) (.ok (.d (.str (Txt.slice z lo hi))) st)
  | .d (.tuple ds) => .ok (.d (.tuple (cut ds lo hi))) st
  | .o ns => if HT.sIx ns.length 0 lo = 0 ∧ HT.sIx ns.length ns.length hi = ns.length then .ok (.o ns) st else .ok (.d (.tuple ((cut ns lo hi).map .int))) st
  | a => match asD st a with
    | some (.list ds) => .ok (.d (.list (cut ds lo hi))) st
    | _ => .bad
@[simp] def dSl (fe : En → Sto → R W) (fl fh : En → Sto → R (Option Int)) : En → Sto → R W := fun ρ st => (fe ρ st).bind fun w s => (fl ρ s).bind fun lo s => (fh ρ s).bind fun hi s => vSl w lo hi s
theorem PdAll.cut {K : PySem.W.Frag} {Z : Addr → Prop} {H : Hp} {ds : List PyData} {vs : List V} (h : PdAll K Z H vs ds) (lo hi : Option Int) : PdAll K Z H (cutV vs lo hi) (Y.cut ds lo hi) := by
  unfold cutV Y.cut
  rw [h.length]
  exact (h.drop _).take _
theorem cut_whole {α : Type} {xs : List α} {lo hi : Option Int} (h : HT.sIx xs.length 0 lo = 0 ∧ HT.sIx xs.length xs.length hi = xs.length) : cut xs lo hi = xs := by
  unfold cut
  rw [h.1, h.2]
  simp
/-- a list of data, read -/
theorem asD_list {K : PySem.W.Frag} {Z0 : Addr → Prop} {θ : List (Option Addr)} {H : Hp} {st : Sto} (S : SR K Z0 θ st H) {w : W} {v : V} {ds : List PyData} (h : WR K (Zs Z0 θ) θ H w v) (e : asD st w = some (.list ds)) : ∃ a vs, v = .ref a ∧ SqL K H a vs ∧ PdAll K (Zs Z0 θ) H vs ds := by
  cases w with
  | d y => cases e; cases h with | lst h1 h2 => exact ⟨_, _, rfl, h1.sqL, h2⟩
  | ref n =>
    dsimp only [asD] at e
    split at e
    · rename_i ws hw
      obtain ⟨a, vs, rfl, _, h3, h4⟩ := S.at_ h hw
      simp only [Option.map_eq_some_iff] at e
      obtain ⟨ds', e1, e2⟩ := e
      cases e2
      exact ⟨a, vs, rfl, .inl (.inl h3), h4.pd e1⟩
    · cases e
  | o ns => cases e
  | oo rows => cases e
  | po x ns => cases e
  | scr ns =>
    cases e
    obtain ⟨a, rfl, h⟩ := h
    exact ⟨a, _, rfl, h.sqL, pdAll_ints ns⟩
theorem y_sl {e : Expr} {lo hi : Option Expr} {pos p2 : Pos} {fe : En → Sto → R W} {fl fh : En → Sto → R (Option Int)} (hK : C.K = X.K) (he : PE X e (rdE C fe)) (hl : PO X lo (rdP C fl)) (hh : PO X hi (rdP C fh)) : PE X (.Subscript e (.Slice lo hi none p2) pos) (rdE C (dSl fe fl fh)) := by
  obtain ⟨K, mg, E⟩ := C
  obtain rfl : K = X.K := hK
  refine PE.imp (pe_slice (SlR.or sl_list (SlR.or sl_tupA C8.sl_txt)) he hl hh) fun σ H Q q => ?_
  obtain ⟨Z0, θ, ρ, st, S, N, p⟩ := q
  refine ⟨Z0, θ, ρ, st, S, N, Post.bind p fun w st1 θ1 H1 v _ e1 S1 w1 p1 => ⟨Z0, θ1, ρ, st1, S1, N.ext e1, Post.bind p1 fun l st2 θ2 H2 l' _ e2 S2 w2 p2 => ⟨Z0, θ2, ρ, st2, S2, (N.ext e1).ext e2, Post.bind p2 fun h st3 θ3 H3 h' _ e3 S3 w3 p3 => ?_⟩⟩⟩
  cases w2
  cases w3
  have w4 := (w1.ext e2).ext e3
  unfold vSl at p3
  split at p3
  · cases w4
    exact .inr (.inr ⟨_, rfl, p3.chk.1, p3.chk.2.now S3 (show Pd _ _ _ _ _ from .str _)⟩)
  · cases w4 with
    | tup h1 h2 =>
      refine .inr (.inl ⟨_, _, rfl, tq h1, fun hw => ?_, fun _ t ht => ?_⟩)
      · rw [h2.length] at hw
        rw [cut_whole hw] at p3
        exact p3.now S3 (show Pd _ _ _ _ _ from .tup h1 h2)
      · exact p3.newTup S3 ht (h2.cut _ _)
  · rename_i ns _
    obtain ⟨a, rfl, od, h1, h2⟩ := w4
    refine .inr (.inl ⟨a, _, rfl, .inl (.inr ⟨od, h1⟩), fun hw => ?_, fun hw t ht => ?_⟩)
    · rw [List.length_map] at hw
      rw [if_pos hw] at p3
      exact p3.now S3 ⟨a, rfl, od, h1, h2⟩
    · rw [List.length_map] at hw
      rw [if_neg hw] at p3
      have q := (pdAll_ints (K := X.K) (Z := Zs Z0 θ3) (H := H3) ns).cut l h
      have e : Y.cut (ns.map PyData.int) l h = (Y.cut ns l h).map PyData.int := by
        unfold Y.cut; rw [List.length_map, List.map_take, List.map_drop]
      rw [e] at q
      exact p3.newTup S3 ht q
  · split at p3
    · rename_i hd
      obtain ⟨a, vs, rfl, hs, r⟩ := asD_list S3 w4 hd
      exact .inl ⟨_, _, rfl, hs, fun t ht => p3.newLst S3 ht (r.cut _ _)⟩
    · exact p3.elim
/-- xs[::-1], a list -/
@[simp] def dRev (fe : En → Sto → R W) : En → Sto → R W := fun ρ st => (fe ρ st).bind fun w s => match asD s w with
  | some (.list ds) => .ok (.d (.list ds.reverse)) s
  | _ => .bad
end
end Y
namespace Y
open PySem PySem.Spec PyProof.Rows L2
section
variable {X : Cx} {C : Ct}
@[simp] def dCall (g : List W → Sto → R W) (fa : En → Sto → R (List W)) : En → Sto → R W := fun ρ st => (fa ρ st).bind fun ws s => g ws s
theorem t_callB {g : List W → Sto → R W} {fa : En → Sto → R (List W)} {σ : L2.St} {H : Hp} {Q : VK} (q : rdE C (dCall g fa) σ H Q) : tCB (rdC C g) (rdA C fa) σ H Q := by
  obtain ⟨Z0, θ, ρ, st, S, N, p⟩ := q
  exact ⟨Z0, θ, ρ, st, S, N, Post.bind p fun w st1 θ1 H1 v _ e1 S1 w1 p1 => ⟨Z0, θ1, st1, w, S1, w1, p1⟩⟩
@[simp] def gLen : List W → Sto → R W
  | [.d (.str x)], st => chk (x.length ≤ sizeLine) (.ok (.d (.int x.length)) st)
  | [w], st => match items st w with
    | some ws => .ok (.d (.int ws.length)) st
    | none => .bad
  | _, _ => .bad
theorem cLen (hK : C.K = X.K) : CallR X (.builtin "len") (rdC C gLen) := by
  obtain ⟨K, mg, E⟩ := C
  obtain rfl : K = X.K := hK
  intro pins s σ H xs us Q I r h
  obtain ⟨Z0, θ, st, ws, S, rw', p⟩ := h
  unfold gLen at p
  split at p
  · cases rw' with
    | cons a b =>
      cases b
      cases a
      exact call_len_str pins s σ H _ us Q I r ⟨_, rfl, p.chk.1, p.chk.2.now S (show Pd _ _ _ _ _ from .int _)⟩
  · cases rw' with
    | cons a b =>
      cases b
      split at p
      · rename_i ws' hw
        obtain ⟨p', vs, rfl, hs, r'⟩ := items_sq S a hw
        exact call_len_seq pins s σ H _ us Q I r ⟨_, vs, rfl, hs, by rw [← r'.length]; exact p.now S (show Pd _ _ _ _ _ from .int _)⟩
      · exact p.elim
  · exact p.elim
@[simp] def gInt : List W → Sto → R W
  | [.d (.int i)], st => .ok (.d (.int i)) st
  | [.d (.bool b)], st => .ok (.d (.int (if b then 1 else 0))) st
  | _, _ => .bad
theorem cInt : CallR X (.type "int") (rdC C gInt) := by
  intro pins s σ H xs us Q I r h
  obtain ⟨Z0, θ, st, ws, S, rw', p⟩ := h
  unfold gInt at p
  split at p
  · cases rw' with
    | cons a b =>
      cases b
      cases a
      exact call_int1 pins s σ H _ us Q I r (.inl ⟨_, rfl, p.now S (show Pd _ _ _ _ _ from .int _)⟩)
  · cases rw' with
    | cons a b =>
      cases b
      cases a
      exact call_int1 pins s σ H _ us Q I r (.inr ⟨_, rfl, p.now S (show Pd _ _ _ _ _ from .int _)⟩)
  · exact p.elim
@[simp] def gAbs : List W → Sto → R W
  | [.d (.int i)], st => .ok (.d (.int (if i < 0 then -i else i))) st
  | _, _ => .bad
theorem cAbs : CallR X (.builtin "abs") (rdC C gAbs) := by
  intro pins s σ H xs us Q I r h
  obtain ⟨Z0, θ, st, ws, S, rw', p⟩ := h
  unfold gAbs at p
  split at p
  · cases rw' with
    | cons a b =>
      cases b
      cases a
      exact call_abs pins s σ H _ us Q I r ⟨_, rfl, p.now S (show Pd _ _ _ _ _ from .int _)⟩
  · exact p.elim
@[simp] def gMax2 : List W → Sto → R W
  | [.d (.int i), .d (.int j)], st => .ok (.d (.int (if j > i then j else i))) st
  | _, _ => .bad
@[simp] def gMin2 : List W → Sto → R W
  | [.d (.int i), .d (.int j)], st => .ok (.d (.int (if j < i then j else i))) st
  | _, _ => .bad
@[simp] def gTupleOf : List W → Sto → R W
  | [.d (.tuple ds)], st => .ok (.d (.tuple ds)) st
  | [w], st => match asD st w with
    | some (.list ds) => .ok (.d (.tuple ds)) st
    | _ => .bad
  | _, _ => .bad
theorem cTupleOf (hK : C.K = X.K) : CallR X (.type "tuple") (rdC C gTupleOf) := by
  obtain ⟨K, mg, E⟩ := C
  obtain rfl : K = X.K := hK
  intro pins s σ H xs us Q I r h
  obtain ⟨Z0, θ, st, ws, S, rw', p⟩ := h
  unfold gTupleOf at p
  split at p
  · cases rw' with
    | cons a b =>
      cases b
      cases a with
      | tup h1 h2 => exact call_tuple_of pins s σ H _ us Q I r ⟨_, _, rfl, .inr ⟨tq h1, p.now S (show Pd _ _ _ _ _ from .tup h1 h2)⟩⟩
  · cases rw' with
    | cons a b =>
      cases b
      split at p
      · rename_i ds hd
        obtain ⟨p', vs, rfl, hs, r'⟩ := asD_list S a hd
        exact call_tuple_of pins s σ H _ us Q I r ⟨_, _, rfl, .inl ⟨hs, fun l hl => p.newTup S hl r'⟩⟩
      · exact p.elim
  · exact p.elim
/-- list(x): a new one that is not to change -/
@[simp] def gListOf : List W → Sto → R W
  | [w], st => match asD st w with
    | some (.list ds) => .ok (.d (.list ds)) st
    | some (.tuple ds) => .ok (.d (.list ds)) st
    | _ => .bad
  | _, _ => .bad
/-- list(x): one of the store -/
@[simp] def gListNew : List W → Sto → R W
  | [w], st => match items st w with
    | some ws => .ok (.ref st.length) (st ++ [.lst ws])
    | none => .bad
  | _, _ => .bad
theorem asD_tup {K : PySem.W.Frag} {Z0 : Addr → Prop} {θ : List (Option Addr)} {H : Hp} {st : Sto} {w : W} {v : V} {ds : List PyData} (h : WR K (Zs Z0 θ) θ H w v) (e : asD st w = some (.tuple ds)) : ∃ a vs, v = .ref a ∧ SqT K H a vs ∧ PdAll K (Zs Z0 θ) H vs ds := by
  cases w with
  | d y => cases e; cases h with | tup h1 h2 => exact ⟨_, _, rfl, tq h1, h2⟩
  | ref n =>
    dsimp only [asD] at e
    split at e
    · simp only [Option.map_eq_some_iff] at e
      obtain ⟨ds', e1, e2⟩ := e
      cases e2
    · cases e
  | scr ns => cases e
  | o ns =>
    cases e
    obtain ⟨a, rfl, od, h, _⟩ := h
    exact ⟨a, _, rfl, .inl (.inr ⟨od, h⟩), pdAll_ints ns⟩
  | oo rows => cases e
  | po x ns => cases e
theorem cListOf (hK : C.K = X.K) : CallR X (.type "list") (rdC C gListOf) := by
  obtain ⟨K, mg, E⟩ := C
  obtain rfl : K = X.K := hK
  intro pins s σ H xs us Q I r h
  obtain ⟨Z0, θ, st, ws, S, rw', p⟩ := h
  unfold gListOf at p
  split at p
  · cases rw' with
    | cons a b =>
      cases b
      split at p
      · rename_i ds hd
        obtain ⟨p', vs, rfl, hs, r'⟩ := asD_list S a hd
        exact call_list_of pins s σ H _ us Q I r ⟨_, _, rfl, .inl hs, fun l hl => p.newLst S hl r'⟩
      · rename_i ds hd
        obtain ⟨p', vs, rfl, hs, r'⟩ := asD_tup a hd
        exact call_list_of pins s σ H _ us Q I r ⟨_, _, rfl, .inr hs, fun l hl => p.newLst S hl r'⟩
      · exact p.elim
  · exact p.elim
theorem cListNew (hK : C.K = X.K) : CallR X (.type "list") (rdC C gListNew) := by
  obtain ⟨K, mg, E⟩ := C
  obtain rfl : K = X.K := hK
  intro pins s σ H xs us Q I r h
  obtain ⟨Z0, θ, st, ws, S, rw', p⟩ := h
  unfold gListNew at p
  split at p
  · cases rw' with
    | cons a b =>
      cases b
      split at p
      · rename_i ws' hw
        obtain ⟨p', vs, rfl, hs, r'⟩ := items_sq S a hw
        exact call_list_of pins s σ H _ us Q I r ⟨_, _, rfl, hs, fun l hl => p.newRef S hl r'⟩
      · exact p.elim
  · exact p.elim
@[simp] def gSum : List W → Sto → R W
  | [w], st => match asD st w with
    | some (.list ds) => match asInts ds with
      | some ns => .ok (.d (.int ns.sum)) st
      | none => .bad
    | _ => .bad
  | _, _ => .bad
def asBools : List PyData → Option (List Bool)
  | [] => some []
  | .bool i :: r => (asBools r).map (i :: ·)
  | _ :: _ => none
theorem asBools_eq : ∀ {ds : List PyData} {ns : List Bool}, asBools ds = some ns → ds = ns.map .bool
  | [], ns, h => by cases h; rfl
  | .bool i :: ds, ns, h => by
    simp only [asBools, Option.map_eq_some_iff] at h
    obtain ⟨es, h1, rfl⟩ := h
    rw [asBools_eq h1]; rfl
  | .none :: _, _, h => by cases h
  | .int _ :: _, _, h => by cases h
  | .str _ :: _, _, h => by cases h
  | .list _ :: _, _, h => by cases h
  | .tuple _ :: _, _, h => by cases h
  | .dict _ :: _, _, h => by cases h
theorem asBools_map (ns : List Bool) : asBools (ns.map .bool) = some ns := by
  induction ns with
  | nil => rfl
  | cons n ns ih => simp [asBools, ih]
theorem PdAll.blsEq {K : PySem.W.Frag} {Z : Addr → Prop} {H : Hp} : ∀ {ns : List Bool} {vs : List V}, PdAll K Z H vs (ns.map .bool) → vs = ns.map V.bl
  | [], _, h => by cases h; rfl
  | n :: ns, _, h => by cases h with | cons a b => cases a; rw [PdAll.blsEq b]; rfl
@[simp] def gAll : List W → Sto → R W
  | [w], st => match asD st w with
    | some (.list ds) => match asBools ds with
      | some ns => .ok (.d (.bool (ns.all id))) st
      | none => .bad
    | _ => .bad
  | _, _ => .bad
theorem cAll (hK : C.K = X.K) (hc : X.calm = true) : CallR X (.builtin "all") (rdC C gAll) := by
  obtain ⟨K, mg, E⟩ := C
  obtain rfl : K = X.K := hK
  intro pins s σ H xs us Q I r h
  obtain ⟨Z0, θ, st, ws, S, rw', p⟩ := h
  unfold gAll at p
  split at p
  · cases rw' with
    | cons a b =>
      cases b
      split at p
      · rename_i ds hd
        split at p
        · rename_i ns hn
          have := asBools_eq hn
          subst this
          obtain ⟨p', vs, rfl, hs, r'⟩ := asD_list S a hd
          have := r'.blsEq
          subst this
          exact cr_all hc pins s σ H _ us Q I r ⟨_, ns, rfl, hs, p.now S (show Pd _ _ _ _ _ from .bl _)⟩
        · exact p.elim
      · exact p.elim
  · exact p.elim
@[simp] def gStr : List W → Sto → R W
  | [.d (.int i)], st => chk (i.natAbs.log2 < 1920) (.ok (.d (.str (toString i))) st)
  | _, _ => .bad
/-- repr of data -/
@[simp] def gRepr : List W → Sto → R W
  | [w], st => match asD st w with
    | some d => chk (d.showable = true ∧ d.hasDict = false ∧ d.depth ≤ 64 ∧ d.shown.length ≤ sizeLine) (.ok (.d (.str d.shown)) st)
    | none => .bad
  | _, _ => .bad
theorem cRepr (hK : C.K = X.K) (hg : X.A.guards = some []) (hu : X.A.units + 66 < cLine) : CallR X (.builtin "repr") (rdC C gRepr) := by
  obtain ⟨K, mg, E⟩ := C
  obtain rfl : K = X.K := hK
  intro pins s σ H xs us Q I r h
  obtain ⟨Z0, θ, st, ws, S, rw', p⟩ := h
  unfold gRepr at p
  split at p
  · cases rw' with
    | cons a b =>
      cases b
      split at p
      · rename_i w v d hd
        obtain ⟨⟨h1, h2, h3, h4⟩, p⟩ := p.chk
        have hp := asD_dp S a hd
        obtain ⟨u, rfl, ru⟩ := vals1 r
        have fin : ∀ (k : Tok) (h' : Heap) (tk : Nat), (∀ b o, s.heap.get? b = some o → h'.get? b = some o) → EP X pins σ Q (.str d.shown k) { s with heap := h', toks := tk } := fun k h' tk hk =>
          ⟨.str d.shown, H, I.kept hk, ⟨_, rfl⟩, p.now S (show Pd _ _ _ _ _ from .str _)⟩
        have stay := fun (k : Tok) (tk : Nat) => fin k s.heap tk fun _ _ e => e
        cases hp with
        | non => cases ru; exact PySem.P.repr_of_none (stay _ _)
        | bl b => cases ru; exact PySem.P.repr_of_bool (stay _ _)
        | int i => obtain ⟨t, rfl⟩ := ru; exact PySem.P.repr_of_int (by simpa [PyData.showable] using h1) (stay _ _)
        | str x => obtain ⟨t, rfl⟩ := ru; exact PySem.P.repr_of_str (stay _ _) h4
        | lst g1 g2 =>
          cases ru
          obtain ⟨as, rr⟩ := Dp.reads I _ _ _ (.lst g1 g2) rfl
          exact PySem.repr_of_reads' rr h1 (fun z => by rw [h2] at z; cases z) hg (by omega) (fun _ _ e => e) (fun h' u tk hk => fin u h' tk hk) h4
        | tup g1 g2 =>
          cases ru
          obtain ⟨as, rr⟩ := Dp.reads I _ _ _ (.tup g1 g2) rfl
          exact PySem.repr_of_reads' rr h1 (fun z => by rw [h2] at z; cases z) hg (by omega) (fun _ _ e => e) (fun h' u tk hk => fin u h' tk hk) h4
      · exact p.elim
  · exact p.elim
end
end Y
namespace Y
open PySem PySem.Spec PyProof.Rows L2
inductive Fl where
  | nx | bk | ct
  | rt (w : W)
abbrev DS := En → Sto → R (Fl × En)
def EndAt (C : Ct) (Z0 : Addr → Prop) (θ : List (Option Addr)) (H : Hp) (σ : L2.St) (D : Ends) : Fl → Prop
  | .nx => D.nx σ H
  | .bk => D.bk σ H
  | .ct => D.ct σ H
  | .rt w => ∀ v, WR C.K (Zs Z0 θ) θ H w v → D.rt v H
def PostS (C : Ct) (Z0 : Addr → Prop) (θ : List (Option Addr)) (H : Hp) (r : R (Fl × En)) (D : Ends) : Prop :=
  match r with
  | .ok a st' => ∀ θ' H' σ', Ext θ H θ' H' → SR C.K Z0 θ' st' H' → EnR C.K (Zs Z0 θ') θ' H' a.2 σ' → EndAt C Z0 θ' H' σ' D a.1
  | .exc c x st' => ExcW C Z0 θ H c x st'
  | .bad => False
def rdS (C : Ct) (f : DS) : TS := fun D σ H => ∃ Z0 θ ρ st, SR C.K Z0 θ st H ∧ EnR C.K (Zs Z0 θ) θ H ρ σ ∧ PostS C Z0 θ H (f ρ st) D
section
variable {X : Cx} {C : Ct} {Z0 : Addr → Prop} {θ θ1 : List (Option Addr)} {H H1 : Hp} {D D' : Ends}
theorem PostS.from {r : R (Fl × En)} (e : Ext θ H θ1 H1) (h : PostS C Z0 θ H r D) : PostS C Z0 θ1 H1 r D := by
  cases r with
  | ok w st' => exact fun θ' H' v e' S p => h θ' H' v (e.trans e') S p
  | exc c x st' => exact ExcW.from e h
  | bad => exact h
theorem PostS.bindS {r : R (Fl × En)} {k : Fl × En → Sto → R (Fl × En)} (h : PostS C Z0 θ H (r.bind k) D)
    (f : ∀ fl ρ' st1 θ1 H1 σ1, Ext θ H θ1 H1 → SR C.K Z0 θ1 st1 H1 → EnR C.K (Zs Z0 θ1) θ1 H1 ρ' σ1 → PostS C Z0 θ1 H1 (k (fl, ρ') st1) D → EndAt C Z0 θ1 H1 σ1 D' fl) : PostS C Z0 θ H r D' := by
  cases r with
  | ok a st1 => exact fun θ1 H1 σ1 e S N => f a.1 a.2 st1 θ1 H1 σ1 e S N (PostS.from e h)
  | exc c x st1 => exact h
  | bad => exact h
theorem PostS.bindE {α β : Type} {rel : List (Option Addr) → Hp → α → β → Prop} {r : R α} {k : α → Sto → R (Fl × En)} {G : β → Hp → Prop} (h : PostS C Z0 θ H (r.bind k) D)
    (f : ∀ w st1 θ1 H1 v, Ext θ H θ1 H1 → SR C.K Z0 θ1 st1 H1 → rel θ1 H1 w v → PostS C Z0 θ1 H1 (k w st1) D → G v H1) : Post C Z0 θ H rel r G := by
  cases r with
  | ok w st1 => exact fun θ1 H1 v e S p => f w st1 θ1 H1 v e S p (PostS.from e h)
  | exc c x st1 => exact h
  | bad => exact h
theorem PostS.now {fl : Fl} {ρ : En} {st : Sto} {σ : L2.St} (h : PostS C Z0 θ H (.ok (fl, ρ) st) D) (S : SR C.K Z0 θ st H) (N : EnR C.K (Zs Z0 θ) θ H ρ σ) : EndAt C Z0 θ H σ D fl := h θ H σ Ext.refl S N
theorem EnR.set {K : PySem.W.Frag} {Z : Addr → Prop} {ρ : En} {σ : L2.St} {w : W} {v : V} (i : Nat) (N : EnR K Z θ H ρ σ) (r : WR K Z θ H w v) : EnR K Z θ H (ρ.set i (some w)) (σ.set i (some v)) := by
  refine ⟨by simp [N.len], fun j u e => ?_⟩
  by_cases h : i = j
  · subst h
    have hi : i < ρ.length := by
      have := (List.getElem?_eq_some_iff.mp e).1
      simpa using this
    rw [List.getElem?_set_self hi] at e
    cases e
    exact ⟨v, by rw [List.getElem?_set_self (by rw [← N.len]; exact hi)], r⟩
  · rw [List.getElem?_set_ne h] at e
    obtain ⟨v', h1, h2⟩ := N.at_ j u e
    exact ⟨v', by rw [List.getElem?_set_ne h]; exact h1, h2⟩
/-- one behind the other -/
@[simp] def dSeq (f g : DS) : DS := fun ρ st => (f ρ st).bind fun a s => match a.1 with
  | .nx => g a.2 s
  | fl => .ok (fl, a.2) s
@[simp] def dEnd : DS := fun ρ st => .ok (.nx, ρ) st
variable {st : Stmt} {rest : List Stmt} {f g : DS} {e : Expr} {fe : En → Sto → R W} {pos : Pos}
theorem t_seq {σ : L2.St} (q : rdS C (dSeq f g) D σ H) : tSeq (rdS C f) (rdS C g) D σ H := by
  obtain ⟨Z0, θ, ρ, st, S, N, p⟩ := q
  refine ⟨Z0, θ, ρ, st, S, N, PostS.bindS p fun fl ρ' st1 θ1 H1 σ1 e1 S1 N1 p1 => ?_⟩
  cases fl with
  | nx => exact ⟨Z0, θ1, ρ', st1, S1, N1, p1⟩
  | bk => exact p1.now S1 N1
  | ct => exact p1.now S1 N1
  | rt w => exact p1.now S1 N1
theorem y_end : PSs X [] (rdS C dEnd) := PSs.imp pss_nil fun D σ H ⟨_, _, _, _, S, N, p⟩ => p.now S N
theorem y_seq (h1 : PS X st (rdS C f)) (h2 : PSs X rest (rdS C g)) : PSs X (st :: rest) (rdS C (dSeq f g)) := PSs.imp (pss_cons h1 h2) fun _ _ _ => t_seq
theorem y_last (h1 : PS X st (rdS C f)) : PSs X [st] (rdS C f) := pss_one h1
@[simp] def dPass : DS := dEnd
@[simp] def dCont : DS := fun ρ st => .ok (.ct, ρ) st
@[simp] def dBreak : DS := fun ρ st => .ok (.bk, ρ) st
@[simp] def dExpr (fe : En → Sto → R W) : DS := fun ρ st => (fe ρ st).bind fun _ s => .ok (.nx, ρ) s
theorem y_expr (h : PE X e (rdE C fe)) (hs : swapsWith e none pos.line X.env = pure false := by rfl) : PS X (.Expr e pos) (rdS C (dExpr fe)) := PS.imp (ps_expr h hs) fun D σ H q => by
  obtain ⟨Z0, θ, ρ, st, S, N, p⟩ := q
  exact ⟨Z0, θ, ρ, st, S, N, PostS.bindE p fun w st1 θ1 H1 v e1 S1 w1 p1 => p1.now S1 (N.ext e1)⟩
@[simp] def dRet (fe : En → Sto → R W) : DS := fun ρ st => (fe ρ st).bind fun w s => .ok (.rt w, ρ) s
theorem y_ret (h : PE X e (rdE C fe)) : PS X (.Return (some e) pos) (rdS C (dRet fe)) := PS.imp (ps_ret h) fun D σ H q => by
  obtain ⟨Z0, θ, ρ, st, S, N, p⟩ := q
  exact ⟨Z0, θ, ρ, st, S, N, PostS.bindE p fun w st1 θ1 H1 v e1 S1 w1 p1 => p1.now S1 (N.ext e1) v w1⟩
@[simp] def dRetN : DS := fun ρ st => .ok (.rt (.d .none), ρ) st
@[simp] def dIfS (t : En → Sto → R Bool) (f g : DS) : DS := fun ρ st => (t ρ st).bind fun b s => if b = true then f ρ s else g ρ s
theorem y_ifS {c : Expr} {t : En → Sto → R Bool} {sa sb : List Stmt} (hc : PT X c (rdT C t)) (ha : PSs X sa (rdS C f)) (hb : PSs X sb (rdS C g)) : PS X (.If c sa sb pos) (rdS C (dIfS t f g)) := PS.imp (ps_if hc ha hb) fun D σ H q => by
  obtain ⟨Z0, θ, ρ, st, S, N, p⟩ := q
  refine ⟨Z0, θ, ρ, st, S, N, PostS.bindE p fun w st1 θ1 H1 v e1 S1 w1 p1 => ?_⟩
  cases w1
  cases w with
  | true => rw [if_pos rfl] at p1 ⊢; exact ⟨Z0, θ1, ρ, st1, S1, N.ext e1, p1⟩
  | false => rw [if_neg (by simp)] at p1 ⊢; exact ⟨Z0, θ1, ρ, st1, S1, N.ext e1, p1⟩
@[simp] def wipeE (ρ : En) : List Nat → En
  | [] => ρ
  | v :: vs => (wipeE ρ vs).set v none
theorem EnR.wipe {K : PySem.W.Frag} {Z : Addr → Prop} {ρ : En} {σ : L2.St} (N : EnR K Z θ H ρ σ) : ∀ vs : List Nat, EnR K Z θ H (wipeE ρ vs) (L2.wipe σ vs)
  | [] => N
  | v :: vs => by
    have ih := EnR.wipe N vs
    refine ⟨by simp [wipeE, L2.wipe, ih.len], fun j u e => ?_⟩
    unfold wipeE at e
    unfold L2.wipe
    by_cases h : v = j
    · subst h
      by_cases hv : v < (wipeE ρ vs).length
      · rw [List.getElem?_set_self hv] at e; cases e
      · rw [List.getElem?_eq_none (by simpa using hv)] at e; cases e
    · rw [List.getElem?_set_ne h] at e
      rw [List.getElem?_set_ne h]
      exact ih.at_ j u e
theorem wipe_set {σ : L2.St} {i : Nat} {x : Option V} : ∀ {vs : List Nat}, i ∈ vs → L2.wipe (σ.set i x) vs = L2.wipe σ vs
  | v :: vs, h => by
    unfold L2.wipe
    by_cases hi : i ∈ vs
    · rw [wipe_set hi]
    · have hv : v = i := by
        rcases List.mem_cons.mp h with h | h
        · exact h.symm
        · exact absurd h hi
      subst hv
      have : ∀ (us : List Nat), v ∉ us → L2.wipe (σ.set v x) us = (L2.wipe σ us).set v x := by
        intro us
        induction us with
        | nil => intro _; rfl
        | cons u us ih =>
          intro hu
          simp only [List.mem_cons, not_or] at hu
          show (L2.wipe (σ.set v x) us).set u none = ((L2.wipe σ us).set u none).set v x
          rw [ih hu.2, List.set_comm _ _ (Ne.symm hu.1)]
      rw [this vs hi, List.set_set]
abbrev relG (K : PySem.W.Frag) (Z0 : Addr → Prop) (vs : List Nat) (σ0 : L2.St) : List (Option Addr) → Hp → En → L2.St → Prop := fun θ H ρ σ => EnR K (Zs Z0 θ) θ H ρ σ ∧ L2.wipe σ vs = L2.wipe σ0 vs
def rdG (C : Ct) (vs : List Nat) (g : W → En → Sto → R En) : TG := fun v σ H Q => ∃ Z0 θ ρ st w, SR C.K Z0 θ st H ∧ EnR C.K (Zs Z0 θ) θ H ρ σ ∧ WR C.K (Zs Z0 θ) θ H w v ∧ Post C Z0 θ H (relG C.K Z0 vs σ) (g w ρ st) Q
def rdGs (C : Ct) (vs : List Nat) (g : List W → En → Sto → R En) : TGs := fun us σ H Q => ∃ Z0 θ ρ st ws, SR C.K Z0 θ st H ∧ EnR C.K (Zs Z0 θ) θ H ρ σ ∧ WRs C.K (Zs Z0 θ) θ H ws us ∧ Post C Z0 θ H (relG C.K Z0 vs σ) (g ws ρ st) Q
theorem PG.imp {e : Expr} {t t' : TG} (h : PG X e t) (k : ∀ v σ H Q, t' v σ H Q → t v σ H Q) : PG X e t' := ⟨fun pins s σ H v u Q I r q => h.run pins s σ H v u Q I r (k v σ H Q q)⟩
theorem PGs.imp {e : List Expr} {t t' : TGs} (h : PGs X e t) (k : ∀ v σ H Q, t' v σ H Q → t v σ H Q) : PGs X e t' := ⟨fun pins s σ H v u Q I r q => h.run pins s σ H v u Q I r (k v σ H Q q)⟩
@[simp] def tName (i : Nat) : W → En → Sto → R En := fun w ρ st => .ok (ρ.set i (some w)) st
@[simp] def tNil' : List W → En → Sto → R En := fun ws ρ st => match ws with | [] => .ok ρ st | _ => .bad
@[simp] def tCons' (g : W → En → Sto → R En) (h : List W → En → Sto → R En) : List W → En → Sto → R En := fun ws ρ st => match ws with
  | w :: ws => (g w ρ st).bind fun ρ s => h ws ρ s
  | [] => .bad
@[simp] def tTup' (n : Nat) (h : List W → En → Sto → R En) : W → En → Sto → R En := fun w ρ st => match w with
  | .d (.tuple ds) => chk (ds.length = n) (h (ds.map .d) ρ st)
  | _ => .bad
theorem y_gname {vs : List Nat} {i : Nat} {e : Expr} (h : PG X e (gName i)) (hi : i ∈ vs) : PG X e (rdG C vs (tName i)) := PG.imp h fun v σ H Q q => by
  obtain ⟨Z0, θ, ρ, st, w, S, N, r, p⟩ := q
  exact p.now S ⟨N.set i r, wipe_set hi⟩
theorem y_gnil {vs : List Nat} : PGs X [] (rdGs C vs tNil') := PGs.imp pgs_nil fun v σ H Q q => by
  obtain ⟨Z0, θ, ρ, st, ws, S, N, r, p⟩ := q
  unfold tNil' at p
  split at p
  · cases r
    exact ⟨rfl, p.now S ⟨N, rfl⟩⟩
  · exact p.elim
theorem y_gcons {vs : List Nat} {e : Expr} {es : List Expr} {g : W → En → Sto → R En} {h : List W → En → Sto → R En} (h1 : PG X e (rdG C vs g)) (h2 : PGs X es (rdGs C vs h))
    (hs : (assignEach (e :: es) X.env).map (·.2) = assign e X.env :: (assignEach es X.env).map (·.2) := by rfl) : PGs X (e :: es) (rdGs C vs (tCons' g h)) := PGs.imp (pgs_cons h1 h2 hs) fun v σ H Q q => by
  obtain ⟨Z0, θ, ρ, st, ws, S, N, r, p⟩ := q
  unfold tCons' at p
  split at p
  · cases r with
    | cons a b =>
      refine ⟨_, _, rfl, Z0, θ, ρ, st, _, S, N, a, Post.bind p fun ρ1 st1 θ1 H1 σ1 _ e1 S1 w1 p1 => ?_⟩
      refine ⟨Z0, θ1, ρ1, st1, _, S1, w1.1, WRs.ext e1 b, ?_⟩
      cases hr : h _ ρ1 st1 with
      | ok ρ2 st2 => rw [hr] at p1; exact fun θ2 H2 σ2 e2 S2 w2 => p1 θ2 H2 σ2 e2 S2 ⟨w2.1, w2.2.trans w1.2⟩
      | exc c x s => rw [hr] at p1; exact p1
      | bad => rw [hr] at p1; exact p1
  · exact p.elim
theorem y_gtup {vs : List Nat} {es : List Expr} {k n : Nat} {h : List W → En → Sto → R En} (hK : C.K = X.K) (hc : X.calm = true) (hh : PGs X es (rdGs C vs h))
    (hn : (assignEach es X.env).length = n := by rfl) (hst : (assignEach es X.env).findIdx? (·.1) = none := by rfl) : PG X (.Tuple es k pos) (rdG C vs (tTup' n h)) := by
  obtain ⟨K, mg, E⟩ := C
  obtain rfl : K = X.K := hK
  refine PG.imp (pg_tup hc hh hn hst) fun v σ H Q q => ?_
  obtain ⟨Z0, θ, ρ, st, w, S, N, r, p⟩ := q
  unfold tTup' at p
  split at p
  · cases r with
    | tup h1 h2 => exact ⟨_, _, rfl, tq h1, by rw [h2.length]; exact p.chk.1, Z0, θ, ρ, st, _, S, N, h2.toWRs, p.chk.2⟩
  · exact p.elim
/-- target = value -/
@[simp] def dAsg (fe : En → Sto → R W) (g : W → En → Sto → R En) : DS := fun ρ st => (fe ρ st).bind fun w s => (g w ρ s).bind fun ρ s => .ok (.nx, ρ) s
theorem t_asg {vs : List Nat} {g : W → En → Sto → R En} {σ : L2.St} (q : rdS C (dAsg fe g) D σ H) : tAsg (rdE C fe) (rdG C vs g) D σ H := by
  obtain ⟨Z0, θ, ρ, st, S, N, p⟩ := q
  refine ⟨Z0, θ, ρ, st, S, N, PostS.bindE p fun w st1 θ1 H1 v e1 S1 w1 p1 => ⟨Z0, θ1, ρ, st1, w, S1, N.ext e1, w1, PostS.bindE p1 fun ρ2 st2 θ2 H2 σ2 e2 S2 w2 p2 => p2.now S2 w2.1⟩⟩
theorem y_asg {vs : List Nat} {tg : Expr} {g : W → En → Sto → R En} (he : PE X e (rdE C fe)) (hg : PG X tg (rdG C vs g)) (hs : swapsWithSole [tg] e pos.line X.env = pure false := by rfl) (hw : swappedStores [tg] e X.env = pure none := by rfl)
    (h1 : (assignEach [tg] X.env).map (·.2) = [assign tg X.env] := by rfl) : PS X (.Assign [tg] e pos) (rdS C (dAsg fe g)) := PS.imp (ps_asg he hg hs hw h1) fun _ _ _ => t_asg
@[simp] def dSet (i : Nat) (fe : En → Sto → R W) : DS := fun ρ st => (fe ρ st).bind fun w s => .ok (.nx, ρ.set i (some w)) s
theorem t_set {i : Nat} {σ : L2.St} (q : rdS C (dSet i fe) D σ H) : tAsg (rdE C fe) (gName i) D σ H := by
  obtain ⟨Z0, θ, ρ, st, S, N, p⟩ := q
  exact ⟨Z0, θ, ρ, st, S, N, PostS.bindE p fun w st1 θ1 H1 v e1 S1 w1 p1 => p1.now S1 ((N.ext e1).set i w1)⟩
theorem y_set {i : Nat} {st : Stmt} (h : PS X st (tAsg (rdE C fe) (gName i))) : PS X st (rdS C (dSet i fe)) := PS.imp h fun _ _ _ => t_set
@[simp] def dPar (i j : Nat) (fa : En → Sto → R (List W)) : DS := fun ρ st => (fa ρ st).bind fun ws s => match ws with
  | [w, u] => .ok (.nx, (ρ.set i (some w)).set j (some u)) s
  | _ => .bad
theorem y_par {i j : Nat} {st : Stmt} {fa : En → Sto → R (List W)} (h : PS X st (tPar i j (rdA C fa))) : PS X st (rdS C (dPar i j fa)) := PS.imp h fun D σ H q => by
  obtain ⟨Z0, θ, ρ, st, S, N, p⟩ := q
  refine ⟨Z0, θ, ρ, st, S, N, PostS.bindE p fun ws st1 θ1 H1 vs e1 S1 w1 p1 => ?_⟩
  split at p1
  · cases w1 with
    | cons a b =>
      cases b with
      | cons c d =>
        cases d
        exact ⟨_, _, rfl, p1.now S1 (((N.ext e1).set i a).set j c)⟩
  · exact p1.elim
@[simp] def dPar3 (i j l : Nat) (fa : En → Sto → R (List W)) : DS := fun ρ st => (fa ρ st).bind fun ws s => match ws with
  | [w, u, z] => .ok (.nx, ((ρ.set i (some w)).set j (some u)).set l (some z)) s
  | _ => .bad
theorem y_par3 {i j l : Nat} {st : Stmt} {fa : En → Sto → R (List W)} (h : PS X st (tPar3 i j l (rdA C fa))) : PS X st (rdS C (dPar3 i j l fa)) := PS.imp h fun D σ H q => by
  obtain ⟨Z0, θ, ρ, st, S, N, p⟩ := q
  refine ⟨Z0, θ, ρ, st, S, N, PostS.bindE p fun ws st1 θ1 H1 vs e1 S1 w1 p1 => ?_⟩
  split at p1
  · cases w1 with
    | cons a b =>
      cases b with
      | cons c d =>
        cases d with
        | cons c2 d2 =>
          cases d2
          exact ⟨_, _, _, rfl, p1.now S1 ((((N.ext e1).set i a).set j c).set l c2)⟩
  · exact p1.elim
/-- name op= e -/
@[simp] def vIadd : W → W → Sto → R W
  | .d (.int i), .d (.int j), st => .ok (.d (.int (i + j))) st
  | .d (.str x), .d (.str y), st => chk (x.length + y.length ≤ sizeLine) (.ok (.d (.str (x ++ y))) st)
  | _, _, _ => .bad
@[simp] def dAug (i : Nat) (g : W → W → Sto → R W) (fe : En → Sto → R W) : DS := fun ρ st => match ρ[i]? with
  | some (some x) => (fe ρ st).bind fun y s => (g x y s).bind fun z s => .ok (.nx, ρ.set i (some z)) s
  | _ => .bad
theorem Ext.write {K : PySem.W.Frag} {st : Sto} {n : Nat} {a : Addr} {vs vs' : List V} (S : SR K Z0 θ st H) (h : θ[n]? = some (some a)) (e : H a = some (.lst vs)) : Ext θ H θ (upd H a (.lst vs')) := by
  have hm : some a ∈ θ := List.mem_of_getElem? h
  refine ⟨fun _ _ q => .inl q, fun _ _ q => .inl q, fun b o hb q => ?_, fun b xs q => ?_, fun b o u q => ?_, fun b q => ?_⟩
  · rw [upd_ne (show b ≠ a from fun z => hb (by rw [z]; exact hm))]; exact q
  · rw [upd_ne (show b ≠ a from fun z => by rw [z, e] at q; cases q)]; exact q
  · rw [upd_ne (show b ≠ a from fun z => by rw [z, e] at q; cases q)]; exact q
  · by_cases z : b = a
    · rw [z, upd_same]; simp
    · rw [upd_ne z]; exact q
theorem SR.write {K : PySem.W.Frag} {st : Sto} {n : Nat} {a : Addr} {vs vs' : List V} {ws' : List W} (S : SR K Z0 θ st H) (h : θ[n]? = some (some a)) (e : H a = some (.lst vs)) (r : WRs K (Zs Z0 θ) θ H ws' vs') : SR K Z0 θ (st.set n (.lst ws')) (upd H a (.lst vs')) := by
  have x := Ext.write (vs' := vs') S h e
  refine ⟨by simp [S.len], S.nd, fun m b o h1 h2 => ?_, fun m hm => ?_, fun b hb => x.live b (S.z0 b hb), S.dis⟩
  · by_cases hmn : n = m
    · subst hmn
      rw [h] at h1; cases h1
      have hn : n < st.length := by rw [← S.len]; exact (List.getElem?_eq_some_iff.mp h).1
      rw [List.getElem?_set_self hn] at h2
      cases h2
      exact ⟨vs', upd_same, WRs.ext x r⟩
    · rw [List.getElem?_set_ne hmn] at h2
      exact OR.ext x (upd_ne fun z => hmn (S.nd n m a h (z ▸ h1))) (S.obj m b o h1 h2)
  · rw [List.getElem?_set_ne (fun z => by rw [← z, h] at hm; cases hm)]
    exact S.dd m hm
/-- a place is given up: its list is not to change any more -/
theorem Ext.kill {n : Nat} {a : Addr} (h : θ[n]? = some (some a)) : Ext θ H (θ.set n none) H := by
  refine ⟨fun m b q => ?_, fun m o q => ?_, fun _ _ _ q => q, fun _ _ q => q, fun _ _ _ q => q, fun _ q => q⟩
  · by_cases hm : n = m
    · subst hm
      rw [List.getElem?_set_self (List.getElem?_eq_some_iff.mp h).1] at q; cases q
    · rw [List.getElem?_set_ne hm] at q; exact .inl q
  · by_cases hm : n = m
    · subst hm
      exact .inr (List.getElem?_set_self (List.getElem?_eq_some_iff.mp h).1)
    · exact .inl (by rw [List.getElem?_set_ne hm]; exact q)
theorem SR.kill {K : PySem.W.Frag} {st : Sto} {n : Nat} {a : Addr} (S : SR K Z0 θ st H) (h : θ[n]? = some (some a)) : SR K Z0 (θ.set n none) (st.set n .dead) H := by
  have x := Ext.kill (H := H) h
  have hn : n < st.length := by rw [← S.len]; exact (List.getElem?_eq_some_iff.mp h).1
  have old : ∀ {m : Nat} {b : Addr}, (θ.set n none)[m]? = some (some b) → n ≠ m ∧ θ[m]? = some (some b) := fun {m b} q => by
    by_cases hm : n = m
    · subst hm
      rw [List.getElem?_set_self (List.getElem?_eq_some_iff.mp h).1] at q; cases q
    · rw [List.getElem?_set_ne hm] at q; exact ⟨hm, q⟩
  refine ⟨by simp [S.len], fun m k b h1 h2 => S.nd m k b (old h1).2 (old h2).2, fun m b o h1 h2 => ?_, fun m hm => ?_, S.z0, fun b hb => ?_⟩
  · obtain ⟨q1, q2⟩ := old h1
    rw [List.getElem?_set_ne q1] at h2
    exact OR.ext x rfl (S.obj m b o q2 h2)
  · by_cases hmn : n = m
    · subst hmn; exact List.getElem?_set_self hn
    · rw [List.getElem?_set_ne hmn] at hm ⊢
      exact S.dd m hm
  · obtain ⟨m, hm⟩ := List.getElem?_of_mem hb
    exact S.dis b (List.mem_of_getElem? (old hm).2)
@[simp] def freeze : W → Sto → R W
  | .ref n, st => match st[n]? with
    | some (.lst ws) => match allD ws with
      | some ds => .ok (.d (.list ds)) (st.set n .dead)
      | none => .bad
    | _ => .bad
  | w, st => .ok w st
theorem post_freeze {K : PySem.W.Frag} {st st' : Sto} {w w' : W} {v : V} (S : SR K Z0 θ st H) (r : WR K (Zs Z0 θ) θ H w v) (e : freeze w st = .ok w' st') : ∃ θ', Ext θ H θ' H ∧ SR K Z0 θ' st' H ∧ WR K (Zs Z0 θ') θ' H w' v := by
  cases w with
  | d x => cases e; exact ⟨θ, Ext.refl, S, r⟩
  | scr ns => cases e; exact ⟨θ, Ext.refl, S, r⟩
  | o ns => cases e; exact ⟨θ, Ext.refl, S, r⟩
  | oo rows => cases e; exact ⟨θ, Ext.refl, S, r⟩
  | po x ns => cases e; exact ⟨θ, Ext.refl, S, r⟩
  | ref n =>
    unfold freeze at e
    dsimp only at e
    split at e
    · rename_i ws hw
      split at e
      · rename_i ds hd
        cases e
        obtain ⟨a, vs, rfl, h2, h3, h4⟩ := S.at_ r hw
        refine ⟨θ.set n none, Ext.kill h2, S.kill h2, show Pd _ _ _ _ _ from .lst ⟨.inl h3, fun z => ?_⟩ (PdAll.ext (Ext.kill h2) (h4.pd hd))⟩
        rcases z with z | z
        · obtain ⟨m, hm⟩ := List.getElem?_of_mem z
          by_cases hmn : n = m
          · subst hmn
            rw [List.getElem?_set_self (List.getElem?_eq_some_iff.mp h2).1] at hm; cases hm
          · rw [List.getElem?_set_ne hmn] at hm
            exact hmn (S.nd n m a h2 hm)
        · exact S.dis a (List.mem_of_getElem? h2) z
      · cases e
    · cases e
theorem freeze_exc {w : W} {st : Sto} {c : Str} {x : PyData} {s : Sto} (h : freeze w st = .exc c x s) : False := by
  unfold freeze at h
  split at h
  · split at h
    · split at h <;> cases h
    · cases h
  · cases h
/-- (unseen by Python) the list at a name is not to change any more -/
@[simp] def dFrz (i : Nat) : DS := fun ρ st => match ρ[i]? with
  | some (some w) => (freeze w st).bind fun w s => .ok (.nx, ρ.set i (some w)) s
  | _ => .bad
theorem y_frz {i : Nat} {sts : List Stmt} (h : PSs X sts (rdS C f)) : PSs X sts (rdS C (dSeq (dFrz i) f)) := PSs.imp h fun D σ H q => by
  obtain ⟨Z0, θ, ρ, st, S, N, p⟩ := q
  unfold dSeq dFrz at p
  split at p
  · rename_i w hw
    obtain ⟨v, h1, h2⟩ := N.at_ i w hw
    cases e : freeze w st with
    | bad => rw [e] at p; exact p.elim
    | exc c x s => exact (freeze_exc e).elim
    | ok w' st' =>
      rw [e] at p
      obtain ⟨θ', x, S', r'⟩ := post_freeze S h2 e
      have N' := (N.ext x).set i r'
      have es : σ.set i (some v) = σ := by
        apply List.ext_getElem?
        intro j
        by_cases hj : i = j
        · subst hj; rw [List.getElem?_set_self (List.getElem?_eq_some_iff.mp h1).1, h1]
        · rw [List.getElem?_set_ne hj]
      rw [es] at N'
      exact ⟨Z0, θ', _, st', S', N', PostS.from x p⟩
  · exact p.elim
/-- return e, the list that it is not to change any more -/
@[simp] def dFz (fe : En → Sto → R W) : En → Sto → R W := fun ρ st => (fe ρ st).bind freeze
theorem y_fz (h : PE X e (rdE C fe)) : PE X e (rdE C (dFz fe)) := PE.imp h fun σ H Q q => by
  obtain ⟨Z0, θ, ρ, st, S, N, p⟩ := q
  refine ⟨Z0, θ, ρ, st, S, N, Post.bind p fun w st1 θ1 H1 v _ e1 S1 w1 p1 => ?_⟩
  cases e : freeze w st1 with
  | bad => rw [e] at p1; exact p1.elim
  | exc c x s => exact (freeze_exc e).elim
  | ok w' st' =>
    rw [e] at p1
    obtain ⟨θ', x, S', r'⟩ := post_freeze S1 w1 e
    exact p1 θ' H1 v x S' r'
end
end Y
namespace Y
open PySem PySem.Spec PyProof.Rows L2
section
variable {X : Cx} {C : Ct} {Z0 : Addr → Prop} {θ θ1 : List (Option Addr)} {H H1 : Hp} {D D' : Ends}
@[simp] def dMeth (g : W → List W → Sto → R W) (fo : En → Sto → R W) (fa : En → Sto → R (List W)) : En → Sto → R W := fun ρ st => (fo ρ st).bind fun u s => match u with
  | .ref n => match s[n]? with
    | some (.lst _) => (fa ρ s).bind fun ws s => g u ws s
    | _ => .bad
  | _ => .bad
def rdM (C : Ct) (g : W → List W → Sto → R W) : V → List V → Hp → VK → Prop := fun x xs H Q => ∃ Z0 θ st u ws, SR C.K Z0 θ st H ∧ WR C.K (Zs Z0 θ) θ H u x ∧ WRs C.K (Zs Z0 θ) θ H ws xs ∧ Post C Z0 θ H (relW C.K Z0) (g u ws st) Q
theorem t_meth {g : W → List W → Sto → R W} {fo : En → Sto → R W} {fa : En → Sto → R (List W)} {σ : L2.St} {Q : VK} (q : rdE C (dMeth g fo fa) σ H Q) : tBM C.K "list" (rdM C g) (rdE C fo) (rdA C fa) σ H Q := by
  obtain ⟨Z0, θ, ρ, st, S, N, p⟩ := q
  refine ⟨Z0, θ, ρ, st, S, N, Post.bind p fun u st1 θ1 H1 v _ e1 S1 w1 p1 => ?_⟩
  split at p1
  · split at p1
    · rename_i ws' hw
      obtain ⟨a, vs, rfl, h2, h3, h4⟩ := S1.at_ w1 hw
      exact ⟨.inl ⟨rfl, vs, .inl (.inl h3)⟩, Z0, θ1, ρ, st1, S1, N.ext e1, Post.bind p1 fun ws st2 θ2 H2 us _ e2 S2 w2 p2 => ⟨Z0, θ2, st2, _, ws, S2, w1.ext e2, w2, p2⟩⟩
    · exact p1.elim
  · exact p1.elim
@[simp] def dMeth0 (g : W → List W → Sto → R W) (fo : En → Sto → R W) : En → Sto → R W := fun ρ st => (fo ρ st).bind fun u s => match u with
  | .ref n => match s[n]? with
    | some (.lst _) => g u [] s
    | _ => .bad
  | _ => .bad
theorem t_meth0 {g : W → List W → Sto → R W} {fo : En → Sto → R W} {σ : L2.St} {Q : VK} (q : rdE C (dMeth0 g fo) σ H Q) : tBM0 C.K "list" (rdM C g) (rdE C fo) σ H Q := by
  obtain ⟨Z0, θ, ρ, st, S, N, p⟩ := q
  refine ⟨Z0, θ, ρ, st, S, N, Post.bind p fun u st1 θ1 H1 v _ e1 S1 w1 p1 => ?_⟩
  split at p1
  · split at p1
    · rename_i ws' hw
      obtain ⟨a, vs, rfl, h2, h3, h4⟩ := S1.at_ w1 hw
      exact ⟨.inl ⟨rfl, vs, .inl (.inl h3)⟩, Z0, θ1, st1, _, [], S1, w1, .nil, p1⟩
    · exact p1.elim
  · exact p1.elim
@[simp] def mAppend : W → List W → Sto → R W := fun u ws st => match u, ws with
  | .ref n, [w] => match st[n]? with
    | some (.lst xs) => chk (xs.length < sizeLine) (.ok (.d .none) (st.set n (.lst (xs ++ [w]))))
    | _ => .bad
  | _, _ => .bad
theorem paired_snoc {α β : Type} {F : α → β → Prop} {l₁ : List α} {l₂ : List β} {a : α} {b : β} (h : Paired F l₁ l₂) (r : F a b) : Paired F (l₁ ++ [a]) (l₂ ++ [b]) := by
  induction h with
  | nil => exact .cons r .nil
  | cons x _ ih => exact .cons x ih
theorem mtAppend : MtR X "list.append" (rdM C mAppend) := by
  intro pins s σ H x xs v us Q I rx rs h
  obtain ⟨Z0, θ, st, u, ws, S, wu, wws, p⟩ := h
  unfold mAppend at p
  split at p
  · split at p
    · rename_i n w zs hw
      obtain ⟨a, vs, rfl, h2, h3, h4⟩ := S.at_ wu hw
      cases wws with
      | cons r1 r2 =>
        cases r2
        refine mt_append pins s σ H _ _ v us Q I rx rs ⟨_, _, _, rfl, rfl, h3, by rw [← h4.length]; exact p.chk.1, ?_⟩
        exact p.chk.2 θ _ .non (Ext.write S h2 h3) (S.write h2 h3 (paired_snoc h4 r1)) (show Pd _ _ _ _ _ from .non)
    · exact p.elim
  · exact p.elim
@[simp] def mPop : W → List W → Sto → R W := fun u ws st => match u, ws with
  | .ref n, [] => match st[n]? with
    | some (.lst xs) => match xs[xs.length - 1]? with
      | some w => .ok w (st.set n (.lst xs.dropLast))
      | none => .bad
    | _ => .bad
  | _, _ => .bad
theorem paired_dropLast {α β : Type} {F : α → β → Prop} {l₁ : List α} {l₂ : List β} (h : Paired F l₁ l₂) : Paired F l₁.dropLast l₂.dropLast := by
  induction h with
  | nil => exact .nil
  | cons x t ih =>
    cases t with
    | nil => exact .nil
    | cons y t' => exact .cons x ih
theorem mtPop : MtR X "list.pop" (rdM C mPop) := by
  intro pins s σ H x xs v us Q I rx rs h
  obtain ⟨Z0, θ, st, u, ws, S, wu, wws, p⟩ := h
  unfold mPop at p
  split at p
  · split at p
    · rename_i n zs hw
      split at p
      · rename_i w hx
        obtain ⟨a, vs, rfl, h2, h3, h4⟩ := S.at_ wu hw
        cases wws
        obtain ⟨y, hy, ry⟩ := L2.paired_get h4 hx
        rw [h4.length] at hy
        have x := Ext.write (vs' := vs.dropLast) S h2 h3
        refine mt_pop pins s σ H _ _ v us Q I rx rs ⟨_, _, _, rfl, rfl, h3, hy, ?_⟩
        exact p θ _ y x (S.write h2 h3 (paired_dropLast h4)) (WR.ext x ry)
      · exact p.elim
    · exact p.elim
  · exact p.elim
@[simp] def mPopAt : W → List W → Sto → R W := fun u ws st => match u, ws with
  | .ref n, [.d (.int i)] => match st[n]? with
    | some (.lst xs) => match xs[i.toNat]? with
      | some w => chk (0 ≤ i ∧ i < 2 ^ 63) (.ok w (st.set n (.lst (xs.eraseIdx i.toNat))))
      | none => .bad
    | _ => .bad
  | _, _ => .bad
theorem paired_erase {α β : Type} {F : α → β → Prop} {l₁ : List α} {l₂ : List β} (h : Paired F l₁ l₂) : ∀ i, Paired F (l₁.eraseIdx i) (l₂.eraseIdx i) := by
  induction h with
  | nil => intro i; exact .nil
  | cons x t ih =>
    intro i
    cases i with
    | zero => exact t
    | succ i => exact .cons x (ih i)
theorem mtPopAt : MtR X "list.pop" (rdM C mPopAt) := by
  intro pins s σ H x xs v us Q I rx rs h
  obtain ⟨Z0, θ, st, u, ws, S, wu, wws, p⟩ := h
  unfold mPopAt at p
  split at p
  · split at p
    · rename_i i _ zs hw
      split at p
      · rename_i w hx
        obtain ⟨a, vs, rfl, h2, h3, h4⟩ := S.at_ wu hw
        cases wws with
        | cons r1 r2 =>
          cases r2
          cases r1
          obtain ⟨y, hy, ry⟩ := L2.paired_get h4 hx
          obtain ⟨⟨c1, c2⟩, p⟩ := p.chk
          have x := Ext.write (vs' := vs.eraseIdx i.toNat) S h2 h3
          have hl : i.toNat < vs.length := (List.getElem?_eq_some_iff.mp hy).1
          refine mt_popAt pins s σ H _ _ v us Q I rx rs ⟨_, _, _, i.toNat, _, rfl, rfl, h3, by omega, c2, ?_, hy, ?_⟩
          · have := atI_get (xs := vs) (i := i) (v := y) (by have := atI_nat (xs := vs) (j := i.toNat) hy; rwa [show ((i.toNat : Nat) : Int) = i by omega] at this)
            obtain ⟨j, q1, q2, q3, _⟩ := this
            have e : ixN vs.length i = some i.toNat := by
              unfold ixN
              rw [if_pos c1, if_pos (by omega)]
            exact (ixN_seq e).1
          · exact p θ _ y x (S.write h2 h3 (paired_erase h4 _)) (WR.ext x ry)
      · exact p.elim
    · exact p.elim
  · exact p.elim
/-- texts' methods -/
@[simp] def dMethS (g : W → List W → Sto → R W) (fo : En → Sto → R W) (fa : En → Sto → R (List W)) : En → Sto → R W := fun ρ st => (fo ρ st).bind fun u s => match u with
  | .d (.str x) => (fa ρ s).bind fun ws s => g (.d (.str x)) ws s
  | _ => .bad
def asStrs : List PyData → Option (List Str)
  | [] => some []
  | .str i :: r => (asStrs r).map (i :: ·)
  | _ :: _ => none
@[simp] def mFind : W → List W → Sto → R W := fun u ws st => match u, ws with
  | .d (.str x), [.d (.str y), .d (.int i)] => .ok (.d (.int (Txt.find3 x y i))) st
  | _, _ => .bad
@[simp] def mJoin : W → List W → Sto → R W := fun u ws st => match u, ws with
  | .d (.str x), [w] => match asD st w with
    | some (.list ds) => match asStrs ds with
      | some ys => chk ((ys.map (·.length)).sum + ys.length * x.length ≤ 16777216) (.ok (.d (.str (Txt.join x ys))) st)
      | none => .bad
    | some (.tuple ds) => match asStrs ds with
      | some ys => chk ((ys.map (·.length)).sum + ys.length * x.length ≤ 16777216) (.ok (.d (.str (Txt.join x ys))) st)
      | none => .bad
    | _ => .bad
  | _, _ => .bad
@[simp] def dSetIx (fe fo fi : En → Sto → R W) : DS := fun ρ st => (fe ρ st).bind fun w s => (fo ρ s).bind fun o s => (fi ρ s).bind fun i s => match o, i with
  | .ref n, .d (.int i) => match s[n]? with
    | some (.lst xs) => match ixN xs.length i with
      | some j => .ok (.nx, ρ) (s.set n (.lst (xs.set j w)))
      | none => .bad
    | _ => .bad
  | _, _ => .bad
theorem paired_set {α β : Type} {F : α → β → Prop} {l₁ : List α} {l₂ : List β} {a : α} {b : β} (h : Paired F l₁ l₂) (r : F a b) : ∀ j, Paired F (l₁.set j a) (l₂.set j b) := by
  induction h with
  | nil => intro j; exact .nil
  | cons x t ih =>
    intro j
    cases j with
    | zero => exact .cons r t
    | succ j => exact .cons x (ih j)
theorem y_setIx {o i e : Expr} {pos ps : Pos} {fe fo fi : En → Sto → R W} (he : PE X e (rdE C fe)) (ho : PE X o (rdE C fo)) (hi : PE X i (rdE C fi))
    (ha : ∀ v, assign (.Subscript o i ps) X.env v = (do
      let ov ← holding [v] (eval o X.env)
      let iv ← holding [v, ov] (eval i X.env)
      standAt ps
      holding [v, ov, iv] (setItem ov iv v)
      release [v, ov, iv] []) := by intro _; rfl)
    (hs : swapsWithSole [.Subscript o i ps] e pos.line X.env = pure false := by rfl) (hw : swappedStores [.Subscript o i ps] e X.env = pure none := by rfl)
    (h1 : (assignEach [.Subscript o i ps] X.env).map (·.2) = [assign (.Subscript o i ps) X.env] := by rfl) : PS X (.Assign [.Subscript o i ps] e pos) (rdS C (dSetIx fe fo fi)) := PS.imp (ps_asg he (pg_sub ho hi set_list ha) hs hw h1) fun D σ H q => by
  obtain ⟨Z0, θ, ρ, st, S, N, p⟩ := q
  refine ⟨Z0, θ, ρ, st, S, N, PostS.bindE p fun w st1 θ1 H1 v e1 S1 w1 p1 => ⟨Z0, θ1, ρ, st1, S1, N.ext e1, PostS.bindE p1 fun ow st2 θ2 H2 ov e2 S2 w2 p2 => ⟨Z0, θ2, ρ, st2, S2, (N.ext e1).ext e2, PostS.bindE p2 fun iw st3 θ3 H3 iv e3 S3 w3 p3 => ?_⟩⟩⟩
  split at p3
  · split at p3
    · rename_i n k xs hx
      split at p3
      · rename_i j hj
        cases w3
        obtain ⟨a, vs, rfl, h2, h3, h4⟩ := S3.at_ (w2.ext e3) hx
        have x := Ext.write (vs' := vs.set j v) S3 h2 h3
        refine ⟨_, _, _, j, rfl, rfl, h3, by rw [← h4.length]; exact hj, ?_⟩
        have r := WR.ext e3 (WR.ext e2 w1)
        exact p3 θ3 _ σ x (S3.write h2 h3 (paired_set h4 r j)) (EnR.ext x (EnR.ext e3 (EnR.ext e2 (N.ext e1))))
      · exact p3.elim
    · exact p3.elim
  · exact p3.elim
/-- as Ext, but for places that are another's -/
structure ExtW (Z0 : Addr → Prop) (θ : List (Option Addr)) (H : Hp) (θ' : List (Option Addr)) (H' : Hp) : Prop where
  mem : ∀ a, some a ∈ θ' → some a ∈ θ ∨ H a = none
  keep : ∀ a o, ¬ Zs Z0 θ a → H a = some o → H' a = some o
  tup : ∀ a xs, H a = some (.tup xs) → H' a = some (.tup xs)
  frz : ∀ a o u, H a = some (.frz o u) → H' a = some (.frz o u)
  live : ∀ a, H a ≠ none → H' a ≠ none
theorem Ext.w {Z0 : Addr → Prop} {θ θ1 : List (Option Addr)} {H H1 : Hp} (e : Ext θ H θ1 H1) : ExtW Z0 θ H θ1 H1 := ⟨fun a h => e.mem h, fun a o hz h => e.keep a o (fun q => hz (.inl q)) h, e.tup, e.frz, e.live⟩
theorem ExtW.trans {Z0 : Addr → Prop} {θ θ1 θ2 : List (Option Addr)} {H H1 H2 : Hp} (e : ExtW Z0 θ H θ1 H1) (f : Ext θ1 H1 θ2 H2) : ExtW Z0 θ H θ2 H2 := by
  refine ⟨fun a h => ?_, fun a o hz h => f.keep a o (fun q => ?_) (e.keep a o hz h), fun a xs h => f.tup a xs (e.tup a xs h), fun a o u h => f.frz a o u (e.frz a o u h), fun a h => f.live a (e.live a h)⟩
  · rcases f.mem h with q | q
    · exact e.mem a q
    · right
      cases z : H a with
      | none => rfl
      | some o => exact absurd q (e.live a (by rw [z]; simp))
  · rcases e.mem a q with q | q
    · exact hz (.inl q)
    · rw [q] at h; cases h
theorem ExtW.put {Z0 : Addr → Prop} {θ θ1 : List (Option Addr)} {H H1 : Hp} {D : Addr} {xs ys : List V} (e : ExtW Z0 θ H θ1 H1) (hz : Zs Z0 θ D) (hD : H D = some (.lst xs)) : ExtW Z0 θ H θ1 (upd H1 D (.lst ys)) := by
  refine ⟨e.mem, fun a o hn h => ?_, fun a us h => ?_, fun a o u h => ?_, fun a h => ?_⟩
  · rw [upd_ne (fun z : a = D => hn (by rw [z]; exact hz))]; exact e.keep a o hn h
  · rw [upd_ne (fun z : a = D => by rw [z, hD] at h; cases h)]; exact e.tup a us h
  · rw [upd_ne (fun z : a = D => by rw [z, hD] at h; cases h)]; exact e.frz a o u h
  · by_cases z : a = D
    · rw [z, upd_same]; simp
    · rw [upd_ne z]; exact e.live a h
theorem ExtW.sqT {K : PySem.W.Frag} {Z0 : Addr → Prop} {θ θ1 : List (Option Addr)} {H H1 : Hp} (e : ExtW Z0 θ H θ1 H1) {a : Addr} {xs : List V} (h : SqT K H a xs) : SqT K H1 a xs := by
  rcases h with (h | ⟨o, h⟩) | h
  · exact .inl (.inl (e.tup _ _ h))
  · exact .inl (.inr ⟨o, e.frz _ _ _ h⟩)
  · exact .inr h
theorem ExtW.lstF {Z0 Z1 : Addr → Prop} {θ θ1 : List (Option Addr)} {H H1 : Hp} (hz : ∀ a, Z1 a → Z0 a ∨ H a = none) (e : ExtW Z0 θ H θ1 H1) {a : Addr} {xs : List V} (h : LstF (Zs Z0 θ) H a xs) : LstF (Zs Z1 θ1) H1 a xs := by
  obtain ⟨h, z⟩ := h
  have hn : H a ≠ none := by rcases h with h | ⟨o, h⟩ <;> rw [h] <;> simp
  refine ⟨?_, fun q => ?_⟩
  · rcases h with h | ⟨o, h⟩
    · exact .inl (e.keep a _ z h)
    · exact .inr ⟨o, e.keep a _ z h⟩
  · rcases q with q | q
    · rcases e.mem a q with q | q
      · exact z (.inl q)
      · exact hn q
    · rcases hz a q with q | q
      · exact z (.inr q)
      · exact hn q
mutual
theorem Pd.extW {K : PySem.W.Frag} {Z0 Z1 : Addr → Prop} {θ θ1 : List (Option Addr)} {H H1 : Hp} (hz : ∀ a, Z1 a → Z0 a ∨ H a = none) (e : ExtW Z0 θ H θ1 H1) : ∀ {d : PyData} {v : V}, Pd K (Zs Z0 θ) H v d → Pd K (Zs Z1 θ1) H1 v d
  | _, _, .non => .non
  | _, _, .bl b => .bl b
  | _, _, .int i => .int i
  | _, _, .str x => .str x
  | _, _, .lst h a => .lst (e.lstF hz h) (PdAll.extW hz e a)
  | _, _, .tup h a => .tup (e.tup _ _ h) (PdAll.extW hz e a)
theorem PdAll.extW {K : PySem.W.Frag} {Z0 Z1 : Addr → Prop} {θ θ1 : List (Option Addr)} {H H1 : Hp} (hz : ∀ a, Z1 a → Z0 a ∨ H a = none) (e : ExtW Z0 θ H θ1 H1) : ∀ {ds : List PyData} {vs : List V}, PdAll K (Zs Z0 θ) H vs ds → PdAll K (Zs Z1 θ1) H1 vs ds
  | _, _, .nil => .nil
  | _, _, .cons a b => .cons (Pd.extW hz e a) (PdAll.extW hz e b)
end
/-- from here on J walks through the values ws -/
def ItOk (K : PySem.W.Frag) (Z0 : Addr → Prop) (θ : List (Option Addr)) (H : Hp) (ws : List W) (J : It) : Prop :=
  ∀ (Z1 : Addr → Prop) θ1 H1 st1, (∀ a, Z1 a → Z0 a ∨ H a = none) → ExtW Z0 θ H θ1 H1 → SR K Z1 θ1 st1 H1 → ∀ i : Nat, (∀ w, ws[i]? = some w → J.go i H1 ∧ ∀ x H2, J.yld i H1 x H2 → Ext θ1 H1 θ1 H2 ∧ SR K Z1 θ1 st1 H2 ∧ WR K (Zs Z1 θ1) θ1 H2 w x ∧ ∀ a, H1 a ≠ none → H2 a = H1 a) ∧ (ws.length ≤ i → J.stop i H1)
def rdI (C : Ct) (f : En → Sto → R (List W)) : TI := fun σ H Q => ∃ Z0 θ ρ st, SR C.K Z0 θ st H ∧ EnR C.K (Zs Z0 θ) θ H ρ σ ∧ Post C Z0 θ H (ItOk C.K Z0) (f ρ st) Q
theorem PI.imp {tg e : Expr} {t t' : TI} (h : PI X tg e t) (k : ∀ σ H Q, t' σ H Q → t σ H Q) : PI X tg e t' := ⟨fun pins s σ H Q I q => h.run pins s σ H Q I (k σ H Q q)⟩
theorem PI.or {tg e : Expr} {t t' : TI} (h : PI X tg e t) (h' : PI X tg e t') : PI X tg e (fun σ H R => t σ H R ∨ t' σ H R) := ⟨fun pins s σ H Q I q => q.elim (h.run pins s σ H Q I) (h'.run pins s σ H Q I)⟩
/-- other forbidden places -/
theorem lstF_zs {Z0 Z1 : Addr → Prop} {a : Addr} {xs : List V} (hz : ∀ a, Z1 a → Z0 a ∨ H a = none) (h : LstF (Zs Z0 θ) H a xs) : LstF (Zs Z1 θ) H a xs := by
  refine ⟨h.1, fun z => ?_⟩
  rcases z with z | z
  · exact h.2 (.inl z)
  · rcases hz a z with q | q
    · exact h.2 (.inr q)
    · rcases h.1 with e | ⟨o, e⟩ <;> (rw [q] at e; cases e)
mutual
theorem pd_zs {K : PySem.W.Frag} {Z0 Z1 : Addr → Prop} (hz : ∀ a, Z1 a → Z0 a ∨ H a = none) : ∀ {d : PyData} {v : V}, Pd K (Zs Z0 θ) H v d → Pd K (Zs Z1 θ) H v d
  | _, _, .non => .non
  | _, _, .bl b => .bl b
  | _, _, .int i => .int i
  | _, _, .str x => .str x
  | _, _, .lst h a => .lst (lstF_zs hz h) (pdAll_zs hz a)
  | _, _, .tup h a => .tup h (pdAll_zs hz a)
theorem pdAll_zs {K : PySem.W.Frag} {Z0 Z1 : Addr → Prop} (hz : ∀ a, Z1 a → Z0 a ∨ H a = none) : ∀ {ds : List PyData} {vs : List V}, PdAll K (Zs Z0 θ) H vs ds → PdAll K (Zs Z1 θ) H vs ds
  | _, _, .nil => .nil
  | _, _, .cons a b => .cons (pd_zs hz a) (pdAll_zs hz b)
end
theorem wr_zs {K : PySem.W.Frag} {Z0 Z1 : Addr → Prop} (hz : ∀ a, Z1 a → Z0 a ∨ H a = none) {w : W} {v : V} (h : WR K (Zs Z0 θ) θ H w v) : WR K (Zs Z1 θ) θ H w v := by
  cases w with
  | d x => exact pd_zs hz h
  | ref n => exact h
  | scr ns =>
    obtain ⟨a, h1, h2⟩ := h
    exact ⟨a, h1, h2.elim (fun q => .inl (lstF_zs hz q)) .inr⟩
  | o ns => exact h
  | oo rows => exact h
  | po x ns => exact h
theorem wrs_zs {K : PySem.W.Frag} {Z0 Z1 : Addr → Prop} (hz : ∀ a, Z1 a → Z0 a ∨ H a = none) {ws : List W} {vs : List V} (h : WRs K (Zs Z0 θ) θ H ws vs) : WRs K (Zs Z1 θ) θ H ws vs := Paired.imp (fun _ _ => wr_zs hz) h
/-- a walk through data that stands still -/
@[simp] def seqD : PyData → Option (List PyData)
  | .list ds => some ds
  | .tuple ds => some ds
  | .str x => some (x.cps.toList.map fun c => .str ⟨#[c]⟩)
  | _ => none
@[simp] def dIter (fe : En → Sto → R W) : En → Sto → R (List W) := fun ρ st => (fe ρ st).bind fun w s => match w with
  | .d x => match seqD x with
    | some ds => .ok (ds.map .d) s
    | none => .bad
  | .scr ns => .ok (ns.map fun n => .d (.int n)) s
  | .o ns => .ok (ns.map fun n => .d (.int n)) s
  | _ => .bad
theorem itOk_lst {K : PySem.W.Frag} {a : Addr} {vs : List V} {ds : List PyData} (h1 : LstF (Zs Z0 θ) H a vs) (h2 : PdAll K (Zs Z0 θ) H vs ds) : ItOk K Z0 θ H (ds.map .d) (Itl K a) := fun Z1 θ1 H1 st1 hz e S i => by
  have q : SqL K H1 a vs := .inl (e.lstF hz h1).1
  refine ⟨fun w hw => ?_, fun hi => ⟨vs, q, by rw [h2.length]; simpa using hi⟩⟩
  rw [List.getElem?_map, Option.map_eq_some_iff] at hw
  obtain ⟨d, hd, rfl⟩ := hw
  obtain ⟨v, hv, r⟩ := h2.get hd
  refine ⟨⟨vs, v, q, hv⟩, fun x H2 y => ?_⟩
  obtain ⟨rfl, y⟩ := y
  have : x = v := Option.some.inj ((y vs q).symm.trans hv)
  subst this
  exact ⟨Ext.refl, S, show Pd _ _ _ _ _ from Pd.extW hz e r, fun _ _ => rfl⟩
theorem itOk_tup {K : PySem.W.Frag} {a : Addr} {vs : List V} {ds : List PyData} (h1 : SqT K H a vs) (h2 : PdAll K (Zs Z0 θ) H vs ds) : ItOk K Z0 θ H (ds.map .d) (Itt K a) := fun Z1 θ1 H1 st1 hz e S i => by
  have q : SqT K H1 a vs := e.sqT h1
  refine ⟨fun w hw => ?_, fun hi => ⟨vs, q, by rw [h2.length]; simpa using hi⟩⟩
  rw [List.getElem?_map, Option.map_eq_some_iff] at hw
  obtain ⟨d, hd, rfl⟩ := hw
  obtain ⟨v, hv, r⟩ := h2.get hd
  refine ⟨⟨vs, v, q, hv⟩, fun x H2 y => ?_⟩
  obtain ⟨rfl, y⟩ := y
  have : x = v := Option.some.inj ((y vs q).symm.trans hv)
  subst this
  exact ⟨Ext.refl, S, show Pd _ _ _ _ _ from Pd.extW hz e r, fun _ _ => rfl⟩
theorem itOk_str {K : PySem.W.Frag} {x : Str} : ItOk K Z0 θ H ((x.cps.toList.map fun c => PyData.str ⟨#[c]⟩).map .d) (Its x) := fun Z1 θ1 H1 st1 hz e S i => by
  refine ⟨fun w hw => ?_, fun hi => (show x.cps.size ≤ i by simpa using hi)⟩
  rw [List.getElem?_map, List.getElem?_map, Option.map_eq_some_iff] at hw
  obtain ⟨d, hd, rfl⟩ := hw
  rw [Option.map_eq_some_iff] at hd
  obtain ⟨c, hc, rfl⟩ := hd
  have hi : i < x.cps.size := by have := (List.getElem?_eq_some_iff.mp hc).1; simpa using this
  refine ⟨hi, fun v H2 y => ?_⟩
  obtain ⟨rfl, c', h1, rfl⟩ := y
  have : c' = c := by
    have e2 : x.cps[i]? = some c := by simpa using hc
    exact Option.some.inj (h1.symm.trans e2)
  subst this
  exact ⟨Ext.refl, S, show Pd _ _ _ _ _ from .str _, fun _ _ => rfl⟩
theorem y_iter {tg e : Expr} {fe : En → Sto → R W} (hK : C.K = X.K) (h : PE X e (rdE C fe)) : PI X tg e (rdI C (dIter fe)) := by
  obtain ⟨K, mg, E⟩ := C
  obtain rfl : K = X.K := hK
  refine PI.imp (PI.or (pi_list h) (PI.or (pi_tup h) (pi_str h))) fun σ H Q q => ?_
  obtain ⟨Z0, θ, ρ, st, S, N, p⟩ := q
  unfold dIter at p
  cases e : fe ρ st with
  | bad => rw [e] at p; exact p.elim
  | exc c x s => rw [e] at p; exact .inl ⟨Z0, θ, ρ, st, S, N, by rw [e]; exact p⟩
  | ok w st1 =>
    rw [e, R.bind_ok] at p
    split at p
    · rename_i x
      cases x with
      | list ds =>
        refine .inl ⟨Z0, θ, ρ, st, S, N, ?_⟩
        rw [e]
        intro θ1 H1 v e1 S1 w1
        cases w1 with
        | lst h1 h2 => exact ⟨_, rfl, ⟨_, h1.sqL⟩, p θ1 H1 _ e1 S1 (itOk_lst h1 h2)⟩
      | tuple ds =>
        refine .inr (.inl ⟨Z0, θ, ρ, st, S, N, ?_⟩)
        rw [e]
        intro θ1 H1 v e1 S1 w1
        cases w1 with
        | tup h1 h2 => exact ⟨_, rfl, ⟨_, tq h1⟩, p θ1 H1 _ e1 S1 (itOk_tup (tq h1) h2)⟩
      | str x =>
        refine .inr (.inr ⟨Z0, θ, ρ, st, S, N, ?_⟩)
        rw [e]
        intro θ1 H1 v e1 S1 w1
        cases w1
        exact ⟨_, rfl, p θ1 H1 _ e1 S1 itOk_str⟩
      | none => exact p.elim
      | bool _ => exact p.elim
      | int _ => exact p.elim
      | dict _ => exact p.elim
    · rename_i ns
      refine .inl ⟨Z0, θ, ρ, st, S, N, ?_⟩
      rw [e]
      intro θ1 H1 v e1 S1 w1
      obtain ⟨a, rfl, h1⟩ := w1
      refine ⟨_, rfl, ⟨_, h1.sqL⟩, p θ1 H1 _ e1 S1 ?_⟩
      have e4 : (ns.map fun n => W.d (.int n)) = (ns.map PyData.int).map W.d := by simp
      rcases h1 with h1 | h1
      · rw [e4]; exact itOk_lst h1 (pdAll_ints ns)
      · intro Z1 θ2 H2 st2 hz e2 S2 i
        have q : SqL X.K H2 a (ns.map V.int) := sqL_of_hz h1
        refine ⟨fun w hw => ?_, fun hi => ⟨_, q, by simpa using hi⟩⟩
        rw [List.getElem?_map, Option.map_eq_some_iff] at hw
        obtain ⟨d, hd, rfl⟩ := hw
        have hv : (ns.map V.int)[i]? = some (.int d) := by rw [List.getElem?_map, hd]; rfl
        refine ⟨⟨_, _, q, hv⟩, fun x H3 y => ?_⟩
        obtain ⟨rfl, y⟩ := y
        have : x = .int d := Option.some.inj ((y _ q).symm.trans hv)
        subst this
        exact ⟨Ext.refl, S2, show Pd _ _ _ _ _ from .int _, fun _ _ => rfl⟩
    · rename_i ns
      refine .inr (.inl ⟨Z0, θ, ρ, st, S, N, ?_⟩)
      rw [e]
      intro θ1 H1 v e1 S1 w1
      obtain ⟨a, rfl, od, h1, _⟩ := w1
      have q : SqT X.K H1 a (ns.map V.int) := .inl (.inr ⟨od, h1⟩)
      refine ⟨_, rfl, ⟨_, q⟩, p θ1 H1 _ e1 S1 ?_⟩
      have e4 : (ns.map fun n => W.d (.int n)) = (ns.map PyData.int).map W.d := by simp
      rw [e4]
      exact itOk_tup q (pdAll_ints ns)
    · exact p.elim
/-- range -/
def rngW (lo : Int) (n : Nat) : List W := (List.range n).map fun (i : Nat) => .d (.int (lo + i))
theorem itOk_rng {K : PySem.W.Frag} {lo : Int} {n : Nat} : ItOk K Z0 θ H (rngW lo n) (Itr lo n) := fun Z1 θ1 H1 st1 hz e S i => by
  refine ⟨fun w hw => ?_, fun hi => (show n ≤ i by simpa [rngW] using hi)⟩
  unfold rngW at hw
  rw [List.getElem?_map, Option.map_eq_some_iff] at hw
  obtain ⟨d, hd, rfl⟩ := hw
  obtain ⟨h1, h2⟩ := List.getElem?_eq_some_iff.mp hd
  have hd' : d = i := by simpa using h2.symm
  subst hd'
  refine ⟨(show d < n by simpa using h1), fun x H2 y => ?_⟩
  obtain ⟨rfl, rfl⟩ := y
  exact ⟨Ext.refl, S, show Pd _ _ _ _ _ from .int _, fun _ _ => rfl⟩
@[simp] def dRng1 (fa : En → Sto → R (List W)) : En → Sto → R (List W) := fun ρ st => (fa ρ st).bind fun ws s => match ws with
  | [.d (.int j)] => chk (-(2 ^ 62) ≤ j ∧ j < 2 ^ 62) (.ok (rngW 0 j.toNat) s)
  | _ => .bad
@[simp] def dRng2 (fa : En → Sto → R (List W)) : En → Sto → R (List W) := fun ρ st => (fa ρ st).bind fun ws s => match ws with
  | [.d (.int i), .d (.int j)] => chk (-(2 ^ 62) ≤ i ∧ i < 2 ^ 62 ∧ -(2 ^ 62) ≤ j ∧ j < 2 ^ 62) (.ok (rngW i (j - i).toNat) s)
  | _ => .bad
theorem y_rng1 {tg a : Expr} {fa : En → Sto → R (List W)} {p pos : Pos} (hg : Gl X "range") (hm : X.mg "range" = none) (ha : PA X [a] (rdA C fa)) (hs : starEach [a] X.env = [(false, eval a X.env)] := by rfl) : PI X tg (.Call (.Name "range" p) [a] [] pos) (rdI C (dRng1 fa)) := by
  refine PI.imp (pi_range1 hg hm ha hs) fun σ H Q q => ?_
  obtain ⟨Z0, θ, ρ, st, S, N, p⟩ := q
  refine ⟨Z0, θ, ρ, st, S, N, Post.bind p fun ws st1 θ1 H1 vs _ e1 S1 w1 p1 => ?_⟩
  split at p1
  · obtain ⟨⟨c1, c2⟩, p1⟩ := p1.chk
    cases w1 with
    | cons r1 r2 =>
      cases r2
      cases r1
      exact ⟨_, rfl, c1, c2, p1 θ1 H1 _ Ext.refl S1 itOk_rng⟩
  · exact p1.elim
theorem y_rng2 {tg a b : Expr} {fa : En → Sto → R (List W)} {p pos : Pos} (hg : Gl X "range") (hm : X.mg "range" = none) (ha : PA X [a, b] (rdA C fa)) (hs : starEach [a, b] X.env = [(false, eval a X.env), (false, eval b X.env)] := by rfl) (hs2 : starEach [b] X.env = [(false, eval b X.env)] := by rfl) :
    PI X tg (.Call (.Name "range" p) [a, b] [] pos) (rdI C (dRng2 fa)) := by
  refine PI.imp (pi_range2 hg hm ha hs hs2) fun σ H Q q => ?_
  obtain ⟨Z0, θ, ρ, st, S, N, p⟩ := q
  refine ⟨Z0, θ, ρ, st, S, N, Post.bind p fun ws st1 θ1 H1 vs _ e1 S1 w1 p1 => ?_⟩
  split at p1
  · obtain ⟨c, p1⟩ := p1.chk
    cases w1 with
    | cons r1 r2 =>
      cases r2 with
      | cons r3 r4 =>
        cases r4
        cases r1
        cases r3
        exact ⟨_, _, rfl, c, p1 θ1 H1 _ Ext.refl S1 itOk_rng⟩
  · exact p1.elim
def forL (tg : W → En → Sto → R En) (body : DS) : List W → DS
  | [], ρ, st => .ok (.nx, ρ) st
  | w :: ws, ρ, st => (tg w ρ st).bind fun ρ1 s1 => (body ρ1 s1).bind fun a s2 => match a.1 with
    | .bk => .ok (.nx, a.2) s2
    | .rt w => .ok (.rt w, a.2) s2
    | _ => forL tg body ws a.2 s2
@[simp] def dFor (fi : En → Sto → R (List W)) (tg : W → En → Sto → R En) (body : DS) : DS := fun ρ st => (fi ρ st).bind fun ws s => forL tg body ws ρ s
theorem y_for {vs : List Nat} {tgt iter : Expr} {body : List Stmt} {fi : En → Sto → R (List W)} {tg : W → En → Sto → R En} {f : DS} {pos : Pos} (hp : PassesOwn (model X.prog X.w) X.A X.env X.xe) (hc : X.calm = true) (hi : PI X tgt iter (rdI C fi)) (hg : PG X tgt (rdG C vs tg)) (hb : PSs X body (rdS C f))
    (hs : ∀ x, foldedSetIterable iter X.env x = pure x := by intro _; rfl) : PS X (.For tgt iter body [] pos) (rdS C (dFor fi tg f)) := PS.imp (ps_for hp hc hi hg hb hs) fun D σ H q => by
  obtain ⟨Z0, θ, ρ, st, S, N, p⟩ := q
  refine ⟨Z0, θ, ρ, st, S, N, PostS.bindE p fun ws st1 θ1 H1 J e1 S1 it p1 => ?_⟩
  refine ⟨fun i m σ2 H2 => ∃ θ2 ρ2 st2, Ext θ1 H1 θ2 H2 ∧ SR C.K Z0 θ2 st2 H2 ∧ EnR C.K (Zs Z0 θ2) θ2 H2 ρ2 σ2 ∧ i ≤ ws.length ∧ m = ws.length - i ∧ PostS C Z0 θ2 H2 (forL tg f (ws.drop i) ρ2 st2) D, ⟨ws.length, θ1, ρ, st1, Ext.refl, S1, N.ext e1, Nat.zero_le _, by omega, p1⟩, fun i m σ2 H2 hW => ?_⟩
  obtain ⟨θ2, ρ2, st2, e2, S2, N2, hl, rfl, p2⟩ := hW
  obtain ⟨h1, h2⟩ := it Z0 θ2 H2 st2 (fun a h => .inl h) e2.w S2 i
  by_cases hlt : i < ws.length
  · obtain ⟨g1, g2⟩ := h1 ws[i] (List.getElem?_eq_getElem hlt)
    refine .inr ⟨g1, fun σ3 H3 => ∃ θ3 ρ3 st3, Ext θ1 H1 θ3 H3 ∧ SR C.K Z0 θ3 st3 H3 ∧ EnR C.K (Zs Z0 θ3) θ3 H3 ρ3 σ3 ∧ PostS C Z0 θ3 H3 (forL tg f (ws.drop (i + 1)) ρ3 st3) D, fun σ3 H3 h3 => ?_, fun x H3 y => ?_⟩
    · obtain ⟨θ3, ρ3, st3, a1, a2, a3, a4⟩ := h3
      exact ⟨ws.length - (i + 1), by omega, θ3, ρ3, st3, a1, a2, a3, hlt, rfl, a4⟩
    · obtain ⟨e3, S3, w3, _⟩ := g2 x H3 y
      rw [List.drop_eq_getElem_cons hlt] at p2
      have p3 := PostS.from e3 p2
      refine ⟨Z0, θ2, ρ2, st2, ws[i], S3, N2.ext e3, w3, PostS.bindE p3 fun ρ4 st4 θ4 H4 σ4 e4 S4 w4 p4 => ?_⟩
      refine ⟨Z0, θ4, ρ4, st4, S4, w4.1, PostS.bindS p4 fun fl ρ5 st5 θ5 H5 σ5 e5 S5 N5 p5 => ?_⟩
      have ee := ((e2.trans e3).trans e4).trans e5
      cases fl with
      | nx => exact ⟨θ5, ρ5, st5, ee, S5, N5, p5⟩
      | ct => exact ⟨θ5, ρ5, st5, ee, S5, N5, p5⟩
      | bk => exact p5.now S5 N5
      | rt w => exact p5.now S5 N5
  · have : i = ws.length := by omega
    subst this
    rw [List.drop_length] at p2
    exact .inl ⟨h2 (Nat.le_refl _), p2.now S2 N2⟩
def whileN (c : En → Sto → R Bool) (body : DS) : Nat → DS
  | 0, _, _ => .bad
  | n + 1, ρ, st => (c ρ st).bind fun k s => if k = true then (body ρ s).bind fun a s2 => match a.1 with
    | .bk => .ok (.nx, a.2) s2
    | .rt w => .ok (.rt w, a.2) s2
    | _ => whileN c body n a.2 s2
    else .ok (.nx, ρ) s
open Classical in
noncomputable def dWhile (c : En → Sto → R Bool) (body : DS) : DS := fun ρ st => if h : ∃ n, whileN c body n ρ st ≠ .bad then whileN c body (Classical.choose h) ρ st else .bad
theorem R.bind_mono {α β : Type} {r : R α} {f g : α → Sto → R β} (h : ∀ a s, r = .ok a s → f a s ≠ .bad → g a s = f a s) (hb : r.bind f ≠ .bad) : r.bind g = r.bind f := by
  cases r with
  | ok a s => exact h a s rfl hb
  | exc c x s => rfl
  | bad => rfl
theorem whileN_succ {c : En → Sto → R Bool} {body : DS} : ∀ (n : Nat) (ρ : En) (st : Sto), whileN c body n ρ st ≠ .bad → whileN c body (n + 1) ρ st = whileN c body n ρ st
  | 0, _, _, h => absurd rfl h
  | n + 1, ρ, st, h => by
    show (c ρ st).bind _ = (c ρ st).bind _
    refine R.bind_mono (fun k s _ h1 => ?_) h
    cases k with
    | false => rfl
    | true =>
      simp only [if_true] at h1 ⊢
      refine R.bind_mono (fun a s2 _ h2 => ?_) h1
      cases h3 : a.1 with
      | bk => rfl
      | rt w => rfl
      | nx => rw [h3] at h2; exact whileN_succ n a.2 s2 h2
      | ct => rw [h3] at h2; exact whileN_succ n a.2 s2 h2
theorem whileN_le {c : En → Sto → R Bool} {body : DS} {n m : Nat} (hle : n ≤ m) {ρ : En} {st : Sto} (h : whileN c body n ρ st ≠ .bad) : whileN c body m ρ st = whileN c body n ρ st := by
  induction hle with
  | refl => rfl
  | step _ ih => rw [whileN_succ _ _ _ (by rw [ih]; exact h), ih]
theorem dWhile_of {c : En → Sto → R Bool} {body : DS} {n : Nat} {ρ : En} {st : Sto} {r : R (Fl × En)} (h : whileN c body n ρ st = r) (hr : r ≠ .bad) : dWhile c body ρ st = r := by
  have hx : ∃ n, whileN c body n ρ st ≠ .bad := ⟨n, by rw [h]; exact hr⟩
  unfold dWhile
  rw [dif_pos hx]
  have h2 := Classical.choose_spec hx
  rcases Nat.le_total n (Classical.choose hx) with q | q
  · rw [whileN_le q (by rw [h]; exact hr), h]
  · rw [← h, whileN_le q h2]
theorem y_while {cond : Expr} {body : List Stmt} {c : En → Sto → R Bool} {f : DS} {pos : Pos} (hp : PassesOwn (model X.prog X.w) X.A X.env X.xe) (hc : PT X cond (rdT C c)) (hb : PSs X body (rdS C f)) : PS X (.While cond body [] pos) (rdS C (dWhile c f)) := PS.imp (ps_while hp hc hb) fun D σ H q => by
  obtain ⟨Z0, θ, ρ, st, S, N, p⟩ := q
  unfold dWhile at p
  split at p
  · rename_i hx
    refine ⟨fun m σ2 H2 => ∃ θ2 ρ2 st2, SR C.K Z0 θ2 st2 H2 ∧ EnR C.K (Zs Z0 θ2) θ2 H2 ρ2 σ2 ∧ PostS C Z0 θ2 H2 (whileN c f m ρ2 st2) D, ⟨_, θ, ρ, st, S, N, p⟩, fun m σ2 H2 hW => ?_⟩
    obtain ⟨θ2, ρ2, st2, S2, N2, p2⟩ := hW
    cases m with
    | zero => exact p2.elim
    | succ m =>
      refine ⟨Z0, θ2, ρ2, st2, S2, N2, PostS.bindE p2 fun k st3 θ3 H3 k' e3 S3 w3 p3 => ?_⟩
      cases w3
      cases k with
      | false => rw [if_neg (by simp)] at p3 ⊢; exact p3.now S3 (N2.ext e3)
      | true =>
        rw [if_pos rfl] at p3 ⊢
        refine ⟨fun σ4 H4 => ∃ θ4 ρ4 st4, SR C.K Z0 θ4 st4 H4 ∧ EnR C.K (Zs Z0 θ4) θ4 H4 ρ4 σ4 ∧ PostS C Z0 θ4 H4 (whileN c f m ρ4 st4) D, fun σ4 H4 h4 => ⟨m, Nat.lt_succ_self _, h4⟩, Z0, θ3, ρ2, st3, S3, N2.ext e3, PostS.bindS p3 fun fl ρ5 st5 θ5 H5 σ5 e5 S5 N5 p5 => ?_⟩
        cases fl with
        | nx => exact ⟨θ5, ρ5, st5, S5, N5, p5⟩
        | ct => exact ⟨θ5, ρ5, st5, S5, N5, p5⟩
        | bk => exact p5.now S5 N5
        | rt w => exact p5.now S5 N5
  · exact p.elim
end
end Y
namespace Y
open PySem PySem.Spec PyProof.Rows L2
section
variable {X : Cx} {C : Ct} {Z0 : Addr → Prop} {θ θ1 : List (Option Addr)} {H H1 : Hp} {D D' : Ends}
@[simp] def R.nox {α : Type} : R α → R α
  | .exc _ _ _ => .bad
  | r => r
abbrev Ct.nx (C : Ct) : Ct := ⟨C.K, C.mg, fun _ _ _ => False⟩
def lcL (tg : W → En → Sto → R En) (tt : En → Sto → R Bool) (fe : En → Sto → R W) (ρ : En) : List W → Sto → R (List W)
  | [], st => .ok [] st
  | w :: ws, st => (tg w ρ st).nox.bind fun ρ1 s1 => (tt ρ1 s1).nox.bind fun b s2 => if b = true then (fe ρ1 s2).nox.bind fun u s3 => (lcL tg tt fe ρ ws s3).bind fun us s4 => .ok (u :: us) s4
    else lcL tg tt fe ρ ws s2
/-- the values of a comprehension, its names at vs -/
@[simp] def dLc (vs : List Nat) (fi : En → Sto → R (List W)) (tg : W → En → Sto → R En) (tt : En → Sto → R Bool) (fe : En → Sto → R W) : En → Sto → R (List W) := fun ρ st => (fi ρ st).bind fun ws s => (lcL tg tt fe (wipeE ρ vs) ws s).bind fun us s2 => chk (us.length ≤ sizeLine) (.ok us s2)
@[simp] def dLcF (f : En → Sto → R (List W)) : En → Sto → R W := fun ρ st => (f ρ st).bind fun ws s => match allD ws with
  | some ds => .ok (.d (.list ds)) s
  | none => .bad
@[simp] def dLcN (f : En → Sto → R (List W)) : En → Sto → R W := fun ρ st => (f ρ st).bind fun ws s => .ok (.ref s.length) (s ++ [.lst ws])
/-- a place is set apart -/
def Zp (Z0 : Addr → Prop) (D : Addr) : Addr → Prop := fun a => a = D ∨ Z0 a
theorem Ext.mut {D : Addr} {o : HO} (e : Ext θ H θ1 H1) (h : H D = none) : Ext θ H θ1 (upd H1 D o) := by
  have nd : ∀ {a : Addr} {u : HO}, H a = some u → a ≠ D := fun q z => by rw [z, h] at q; cases q
  refine ⟨e.new, e.old, fun a u ha q => ?_, fun a xs q => ?_, fun a u v q => ?_, fun a q => ?_⟩
  · rw [upd_ne (nd q)]; exact e.keep a u ha q
  · rw [upd_ne (nd q)]; exact e.tup a xs q
  · rw [upd_ne (nd q)]; exact e.frz a u v q
  · cases z : H a with
    | none => exact absurd z q
    | some u => rw [upd_ne (nd z)]; exact e.live a q
/-- the list at a place that is set apart may change -/
theorem Ext.apart {D : Addr} {xs ys : List V} (h : H D = some (.lst xs)) : ∀ {K : PySem.W.Frag} {Z : Addr → Prop} (hz : Z D), (∀ {d : PyData} {v : V}, Pd K Z H v d → Pd K Z (upd H D (.lst ys)) v d) := by
  intro K Z hz
  have l : ∀ {a : Addr} {zs : List V}, LstF Z H a zs → LstF Z (upd H D (.lst ys)) a zs := fun {a zs} q => by
    have na : a ≠ D := fun z => q.2 (z ▸ hz)
    refine ⟨?_, q.2⟩
    rcases q.1 with q | ⟨o, q⟩
    · exact .inl (by rw [upd_ne na]; exact q)
    · exact .inr ⟨o, by rw [upd_ne na]; exact q⟩
  have t : ∀ {a : Addr} {zs : List V}, H a = some (.tup zs) → upd H D (.lst ys) a = some (.tup zs) := fun {a zs} q => by
    rw [upd_ne (show a ≠ D from fun z => by rw [z, h] at q; cases q)]; exact q
  intro d v p
  exact Pd.rec (motive_1 := fun v d _ => Pd K Z (upd H D (.lst ys)) v d) (motive_2 := fun vs ds _ => PdAll K Z (upd H D (.lst ys)) vs ds) .non .bl .int .str (fun q _ ih => .lst (l q) ih) (fun q _ ih => .tup (t q) ih) .nil (fun _ _ a b => .cons a b) p
theorem wr_apart {K : PySem.W.Frag} {Z : Addr → Prop} {D : Addr} {xs ys : List V} (h : H D = some (.lst xs)) (hz : Z D) {w : W} {v : V} (r : WR K Z θ H w v) : WR K Z θ (upd H D (.lst ys)) w v := by
  cases w with
  | d x => exact Ext.apart h hz r
  | ref n => exact r
  | scr ns =>
    obtain ⟨a, h1, h2⟩ := r
    refine ⟨a, h1, h2.elim (fun q => .inl ?_) .inr⟩
    have na : a ≠ D := fun z => q.2 (z ▸ hz)
    refine ⟨?_, q.2⟩
    rcases q.1 with q | ⟨o, q⟩
    · exact .inl (by rw [upd_ne na]; exact q)
    · exact .inr ⟨o, by rw [upd_ne na]; exact q⟩
  | o ns =>
    obtain ⟨b, h1, od, h2, h3⟩ := r
    exact ⟨b, h1, od, by rw [upd_ne (fun z => by rw [z, h] at h2; cases h2)]; exact h2, h3⟩
  | oo rows => exact oo_keep (fun b od xs q => by rw [upd_ne (fun z => by rw [z, h] at q; cases q)]; exact q) (fun b xs q => by rw [upd_ne (fun z => by rw [z, h] at q; cases q)]; exact q) r
  | po x ns => exact po_keep (fun b od xs q => by rw [upd_ne (fun z => by rw [z, h] at q; cases q)]; exact q) (fun b xs q => by rw [upd_ne (fun z => by rw [z, h] at q; cases q)]; exact q) r
theorem enR_apart {K : PySem.W.Frag} {Z : Addr → Prop} {D : Addr} {xs ys : List V} (h : H D = some (.lst xs)) (hz : Z D) {ρ : En} {σ : L2.St} (N : EnR K Z θ H ρ σ) : EnR K Z θ (upd H D (.lst ys)) ρ σ :=
  ⟨N.len, fun i w q => let ⟨v, h1, h2⟩ := N.at_ i w q; ⟨v, h1, wr_apart h hz h2⟩⟩
theorem sr_apart {K : PySem.W.Frag} {D : Addr} {xs ys : List V} {st : Sto} (h : H D = some (.lst xs)) (hz : Z0 D) (S : SR K Z0 θ st H) : SR K Z0 θ st (upd H D (.lst ys)) := by
  refine ⟨S.len, S.nd, fun n a o h1 h2 => ?_, S.dd, fun a q => ?_, S.dis⟩
  · have na : a ≠ D := fun z => S.dis a (List.mem_of_getElem? h1) (z ▸ hz)
    have q := S.obj n a o h1 h2
    cases o with
    | dead => exact q
    | lst ws =>
      obtain ⟨vs, q1, q2⟩ := q
      exact ⟨vs, by rw [upd_ne na]; exact q1, Paired.imp (fun _ _ => wr_apart h (.inr hz)) q2⟩
    | dct ws =>
      obtain ⟨vs, q1, q2⟩ := q
      exact ⟨vs, by rw [upd_ne na]; exact q1, Paired.imp (fun _ _ r => ⟨r.1, wr_apart h (.inr hz) r.2⟩) q2⟩
    | dtt ws =>
      obtain ⟨vs, q1, q2⟩ := q
      exact ⟨vs, by rw [upd_ne na]; exact q1, Paired.imp (fun _ _ r => ⟨r.1, wr_apart h (.inr hz) r.2⟩) q2⟩
    | lk ws =>
      obtain ⟨od, vs, q1, q2⟩ := q
      exact ⟨od, vs, by rw [upd_ne na]; exact q1, Paired.imp (fun _ _ r => ⟨r.1, wr_apart h (.inr hz) r.2⟩) q2⟩
    | lki ws =>
      obtain ⟨od, vs, q1, q2⟩ := q
      exact ⟨od, vs, by rw [upd_ne na]; exact q1, Paired.imp (fun _ _ r => ⟨r.1, wr_apart h (.inr hz) r.2⟩) q2⟩
    | tup ws =>
      obtain ⟨vs, q1, q2⟩ := q
      exact ⟨vs, by rw [upd_ne na]; exact q1, Paired.imp (fun _ _ => wr_apart h (.inr hz)) q2⟩
    | obj c ws =>
      obtain ⟨C, dx, vs, q0, q1, q2⟩ := q
      exact ⟨C, dx, vs, q0, by rw [upd_ne na]; exact q1, Paired.imp (fun _ _ r => ⟨r.1, wr_apart h (.inr hz) r.2⟩) q2⟩
  · by_cases z : a = D
    · rw [z, upd_same]; simp
    · rw [upd_ne z]; exact S.z0 a q
/-- a new list's place is set apart -/
theorem sr_zp {K : PySem.W.Frag} {D : Addr} {o : HO} {st : Sto} (h : H D = none) (S : SR K Z0 θ st H) : SR K (Zp Z0 D) θ st (upd H D o) := by
  have S2 := S.alloc (o := o) h
  have hz : ∀ a, Zp Z0 D a → Z0 a ∨ H a = none := fun a q => by
    rcases q with q | q
    · exact .inr (q ▸ h)
    · exact .inl q
  refine ⟨S.len, S.nd, fun n a so h1 h2 => ?_, S.dd, fun a q => ?_, fun a ha q => ?_⟩
  · have q := S.obj n a so h1 h2
    have na : a ≠ D := fun z => S.notZ h (.inl (z ▸ List.mem_of_getElem? h1))
    cases so with
    | dead => exact q
    | lst ws =>
      obtain ⟨vs, q1, q2⟩ := q
      exact ⟨vs, by rw [upd_ne na]; exact q1, WRs.ext (Ext.alloc h) (wrs_zs hz q2)⟩
    | dct ws =>
      obtain ⟨vs, q1, q2⟩ := q
      exact ⟨vs, by rw [upd_ne na]; exact q1, Paired.imp (fun _ _ r => ⟨r.1, WR.ext (Ext.alloc h) (wr_zs hz r.2)⟩) q2⟩
    | dtt ws =>
      obtain ⟨vs, q1, q2⟩ := q
      exact ⟨vs, by rw [upd_ne na]; exact q1, Paired.imp (fun _ _ r => ⟨r.1, WR.ext (Ext.alloc h) (wr_zs hz r.2)⟩) q2⟩
    | lk ws =>
      obtain ⟨od, vs, q1, q2⟩ := q
      exact ⟨od, vs, by rw [upd_ne na]; exact q1, Paired.imp (fun _ _ r => ⟨r.1, WR.ext (Ext.alloc h) (wr_zs hz r.2)⟩) q2⟩
    | lki ws =>
      obtain ⟨od, vs, q1, q2⟩ := q
      exact ⟨od, vs, by rw [upd_ne na]; exact q1, Paired.imp (fun _ _ r => ⟨r.1, WR.ext (Ext.alloc h) (wr_zs hz r.2)⟩) q2⟩
    | tup ws =>
      obtain ⟨vs, q1, q2⟩ := q
      exact ⟨vs, by rw [upd_ne na]; exact q1, WRs.ext (Ext.alloc h) (wrs_zs hz q2)⟩
    | obj c ws =>
      obtain ⟨C, dx, vs, q0, q1, q2⟩ := q
      exact ⟨C, dx, vs, q0, by rw [upd_ne na]; exact q1, Paired.imp (fun _ _ r => ⟨r.1, WR.ext (Ext.alloc h) (wr_zs hz r.2)⟩) q2⟩
  · rcases q with q | q
    · rw [q, upd_same]; simp
    · exact S2.z0 a q
  · rcases q with q | q
    · exact S.notZ h (.inl (q ▸ ha))
    · exact S.dis a ha q
theorem enR_zp {K : PySem.W.Frag} {D : Addr} {o : HO} (h : H D = none) {ρ : En} {σ : L2.St} (N : EnR K (Zs Z0 θ) θ H ρ σ) : EnR K (Zs (Zp Z0 D) θ) θ (upd H D o) ρ σ :=
  ⟨N.len, fun i w q => let ⟨v, h1, h2⟩ := N.at_ i w q; ⟨v, h1, WR.ext (Ext.alloc h) (wr_zs (fun a q => q.elim (fun z => .inr (z ▸ h)) .inl) h2)⟩⟩
theorem sr_unzp {K : PySem.W.Frag} {D : Addr} {st : Sto} (S : SR K (Zp Z0 D) θ st H) : SR K Z0 θ st H := by
  refine ⟨S.len, S.nd, fun n a so h1 h2 => ?_, S.dd, fun a q => S.z0 a (.inr q), fun a ha q => S.dis a ha (.inr q)⟩
  have q := S.obj n a so h1 h2
  cases so with
  | dead => exact q
  | lst ws =>
    obtain ⟨vs, q1, q2⟩ := q
    exact ⟨vs, q1, wrs_zs (fun a z => .inl (.inr z)) q2⟩
  | dct ws =>
    obtain ⟨vs, q1, q2⟩ := q
    exact ⟨vs, q1, Paired.imp (fun _ _ r => ⟨r.1, wr_zs (fun a z => .inl (.inr z)) r.2⟩) q2⟩
  | dtt ws =>
    obtain ⟨vs, q1, q2⟩ := q
    exact ⟨vs, q1, Paired.imp (fun _ _ r => ⟨r.1, wr_zs (fun a z => .inl (.inr z)) r.2⟩) q2⟩
  | lk ws =>
    obtain ⟨od, vs, q1, q2⟩ := q
    exact ⟨od, vs, q1, Paired.imp (fun _ _ r => ⟨r.1, wr_zs (fun a z => .inl (.inr z)) r.2⟩) q2⟩
  | lki ws =>
    obtain ⟨od, vs, q1, q2⟩ := q
    exact ⟨od, vs, q1, Paired.imp (fun _ _ r => ⟨r.1, wr_zs (fun a z => .inl (.inr z)) r.2⟩) q2⟩
  | tup ws =>
    obtain ⟨vs, q1, q2⟩ := q
    exact ⟨vs, q1, wrs_zs (fun a z => .inl (.inr z)) q2⟩
  | obj c ws =>
    obtain ⟨C, dx, vs, q0, q1, q2⟩ := q
    exact ⟨C, dx, vs, q0, q1, Paired.imp (fun _ _ r => ⟨r.1, wr_zs (fun a z => .inl (.inr z)) r.2⟩) q2⟩
theorem wipe_wipe (σ : L2.St) : ∀ vs : List Nat, L2.wipe (L2.wipe σ vs) vs = L2.wipe σ vs
  | [] => rfl
  | v :: vs => by
    have key : ∀ (us : List Nat) (τ : L2.St) (i : Nat), L2.wipe (τ.set i none) us = (L2.wipe τ us).set i none := by
      intro us
      induction us with
      | nil => intro τ i; rfl
      | cons u us ih =>
        intro τ i
        show (L2.wipe (τ.set i none) us).set u none = ((L2.wipe τ us).set u none).set i none
        rw [ih]
        by_cases h : i = u
        · rw [h]
        · rw [List.set_comm _ _ h]
    show (L2.wipe ((L2.wipe σ vs).set v none) vs).set v none = (L2.wipe σ vs).set v none
    rw [key, wipe_wipe σ vs, List.set_set]
theorem nox_noexc {α : Type} {r : R α} {c : Str} {x : PyData} {s : Sto} (h : r.nox = .exc c x s) : False := by
  cases r <;> cases h
theorem lcL_noexc {tg : W → En → Sto → R En} {tt : En → Sto → R Bool} {fe : En → Sto → R W} {ρ : En} : ∀ {ws : List W} {st : Sto} {c : Str} {x : PyData} {s : Sto}, lcL tg tt fe ρ ws st = .exc c x s → False
  | [], _, _, _, _, h => by cases h
  | w :: ws, st, c, x, s, h => by
    unfold lcL at h
    cases c1 : (tg w ρ st).nox with
    | bad => rw [c1] at h; cases h
    | exc c x s => exact nox_noexc c1
    | ok ρ1 s1 =>
      rw [c1, R.bind_ok] at h
      cases c2 : (tt ρ1 s1).nox with
      | bad => rw [c2] at h; cases h
      | exc c x s => exact nox_noexc c2
      | ok b s2 =>
        rw [c2, R.bind_ok] at h
        cases b with
        | false => exact lcL_noexc h
        | true =>
          rw [if_pos rfl] at h
          cases c3 : (fe ρ1 s2).nox with
          | bad => rw [c3] at h; cases h
          | exc c x s => exact nox_noexc c3
          | ok u s3 =>
            rw [c3, R.bind_ok] at h
            cases c4 : lcL tg tt fe ρ ws s3 with
            | bad => rw [c4] at h; cases h
            | exc c x s => exact lcL_noexc c4
            | ok us s4 => rw [c4] at h; cases h
/-- the raw reading of a comprehension -/
theorem t_lcZ {vs : List Nat} {fi : En → Sto → R (List W)} {tg : W → En → Sto → R En} {tt : En → Sto → R Bool} {fe : En → Sto → R W} {σ : L2.St} {Q : VK} {Z0 : Addr → Prop} {θ : List (Option Addr)} {ρ : En} {st : Sto} {k : List W → Sto → R W}
    (S : SR C.K Z0 θ st H) (N : EnR C.K (Zs Z0 θ) θ H ρ σ) (p : Post C Z0 θ H (relW C.K Z0) ((dLc vs fi tg tt fe ρ st).bind k) Q)
    (fin : ∀ us st2 θ1 H1 θ2 H2 D acc, Ext θ H θ1 H1 → Ext θ1 H1 θ2 H2 → SR C.K (Zp Z0 D) θ2 st2 H2 → H2 D = some (.lst acc) → H1 D = none → some D ∉ θ2 → ¬ Z0 D → WRs C.K (Zs (Zp Z0 D) θ2) θ2 H2 us acc → Post C Z0 θ1 H1 (relW C.K Z0) (k us st2) Q → Q (.ref D) H2) :
    tLc (rdI C fi) (rdG C.nx vs tg) (rdT C.nx tt) (rdE C.nx fe) vs σ H Q := by
  unfold dLc at p
  rw [R.bind_assoc] at p
  refine ⟨Z0, θ, ρ, st, S, N, Post.bind p fun ws st1 θ1 H1 J _ e1 S1 it p1 => fun D hD => ?_⟩
  -- what is still to be made of the rest of the values
  refine ⟨fun i m H2 => ∃ θ2 st2 acc us, Ext θ1 H1 θ2 H2 ∧ SR C.K (Zp Z0 D) θ2 st2 H2 ∧ EnR C.K (Zs (Zp Z0 D) θ2) θ2 H2 (wipeE ρ vs) (L2.wipe σ vs) ∧ H2 D = some (.lst acc) ∧ some D ∉ θ2 ∧ WRs C.K (Zs (Zp Z0 D) θ2) θ2 H2 us acc ∧ i ≤ ws.length ∧ m = ws.length - i ∧
      Post C Z0 θ1 H1 (relW C.K Z0) ((((lcL tg tt fe (wipeE ρ vs) (ws.drop i) st2).bind fun us' s => .ok (us ++ us') s).bind fun us s => chk (us.length ≤ sizeLine) (.ok us s)).bind k) Q, ⟨ws.length, θ1, st1, [], [], Ext.mut Ext.refl hD, sr_zp hD S1, enR_zp hD ((N.ext e1).wipe vs), upd_same, fun z => S1.notZ hD (.inl z), .nil, Nat.zero_le _, by omega, ?_⟩, fun i m H2 hW => ?_⟩
  · have e : ∀ (r : R (List W)), (r.bind fun us' s => R.ok ([] ++ us') s) = r := fun r => by cases r <;> rfl
    rw [e]; exact p1
  obtain ⟨θ2, st2, acc, us, e2, S2, N2, hA, hN, rA, hl, rfl, p2⟩ := hW
  obtain ⟨h1, h2⟩ := it (Zp Z0 D) θ2 H2 st2 (fun a z => z.elim (fun z => .inr (z ▸ hD)) .inl) e2.w S2 i
  by_cases hlt : i < ws.length
  · obtain ⟨g1, g2⟩ := h1 ws[i] (List.getElem?_eq_getElem hlt)
    rw [List.drop_eq_getElem_cons hlt] at p2
    refine .inr ⟨g1, fun H3 => ∃ θ3 st3 acc us, Ext θ1 H1 θ3 H3 ∧ SR C.K (Zp Z0 D) θ3 st3 H3 ∧ EnR C.K (Zs (Zp Z0 D) θ3) θ3 H3 (wipeE ρ vs) (L2.wipe σ vs) ∧ H3 D = some (.lst acc) ∧ some D ∉ θ3 ∧ WRs C.K (Zs (Zp Z0 D) θ3) θ3 H3 us acc ∧
      Post C Z0 θ1 H1 (relW C.K Z0) ((((lcL tg tt fe (wipeE ρ vs) (ws.drop (i + 1)) st3).bind fun us' s => .ok (us ++ us') s).bind fun us s => chk (us.length ≤ sizeLine) (.ok us s)).bind k) Q, fun H3 h3 => ?_, fun x H3 y => ?_⟩
    · obtain ⟨θ3, st3, acc3, us3, a1, a2, a3, a4, a5, a6, a7⟩ := h3
      exact ⟨ws.length - (i + 1), by omega, θ3, st3, acc3, us3, a1, a2, a3, a4, a5, a6, hlt, rfl, a7⟩
    · obtain ⟨e3, S3, w3, k3⟩ := g2 x H3 y
      have keepD : ∀ {θ' : List (Option Addr)} {H' : Hp}, Ext θ2 H3 θ' H' → H' D = some (.lst acc) ∧ some D ∉ θ' := fun {θ' H'} e => by
        have hD3 : H3 D = some (.lst acc) := by rw [k3 D (by rw [hA]; simp)]; exact hA
        refine ⟨e.keep D _ hN hD3, fun z => ?_⟩
        rcases e.mem z with z | z
        · exact hN z
        · rw [hD3] at z; cases z
      unfold lcL at p2
      refine ⟨Zp Z0 D, θ2, wipeE ρ vs, st2, ws[i], S3, N2.ext e3, w3, ?_⟩
      cases c1 : tg ws[i] (wipeE ρ vs) st2 with
      | bad => rw [c1] at p2; exact p2.elim
      | exc c x s => rw [c1] at p2; exact p2.elim
      | ok ρ4 st4 =>
        rw [c1] at p2
        intro θ4 H4 σ4 e4 S4 w4
        refine ⟨w4.2.trans (wipe_wipe σ vs), Zp Z0 D, θ4, ρ4, st4, S4, w4.1, ?_⟩
        replace p2 : Post C Z0 θ1 H1 (relW C.K Z0) ((((((tt ρ4 st4).nox.bind fun b s2 => if b = true then (fe ρ4 s2).nox.bind fun u s3 => (lcL tg tt fe (wipeE ρ vs) (ws.drop (i + 1)) s3).bind fun us s4 => .ok (u :: us) s4 else lcL tg tt fe (wipeE ρ vs) (ws.drop (i + 1)) s2)).bind fun us' s => .ok (us ++ us') s).bind fun us s => chk (us.length ≤ sizeLine) (.ok us s)).bind k) Q := p2
        cases c2 : tt ρ4 st4 with
        | bad => rw [c2] at p2; exact p2.elim
        | exc c x s => rw [c2] at p2; exact p2.elim
        | ok b st5 =>
          rw [c2] at p2
          intro θ5 H5 b' e5 S5 w5
          cases w5
          have E5 := (e3.trans e4).trans e5
          cases b with
          | false =>
            rw [if_neg (by simp)]
            obtain ⟨d1, d2⟩ := keepD (e4.trans e5)
            exact ⟨θ5, st5, acc, us, e2.trans E5, S5, N2.ext E5, d1, d2, rA.ext E5, p2⟩
          | true =>
            rw [if_pos rfl]
            refine ⟨Zp Z0 D, θ5, ρ4, st5, S5, w4.1.ext e5, ?_⟩
            replace p2 : Post C Z0 θ1 H1 (relW C.K Z0) ((((((fe ρ4 st5).nox.bind fun u s3 => (lcL tg tt fe (wipeE ρ vs) (ws.drop (i + 1)) s3).bind fun us s4 => .ok (u :: us) s4)).bind fun us' s => .ok (us ++ us') s).bind fun us s => chk (us.length ≤ sizeLine) (.ok us s)).bind k) Q := p2
            cases c3 : fe ρ4 st5 with
            | bad => rw [c3] at p2; exact p2.elim
            | exc c x s => rw [c3] at p2; exact p2.elim
            | ok u st6 =>
              rw [c3] at p2
              intro θ6 H6 y' e6 S6 w6
              have E6 := E5.trans e6
              obtain ⟨d1, d2⟩ := keepD ((e4.trans e5).trans e6)
              have hzD : Zs (Zp Z0 D) θ6 D := .inr (.inl rfl)
              have eqn : (((((R.ok u st6).nox.bind fun u s3 => (lcL tg tt fe (wipeE ρ vs) (ws.drop (i + 1)) s3).bind fun us s4 => .ok (u :: us) s4)).bind fun us' s => R.ok (us ++ us') s)) = ((lcL tg tt fe (wipeE ρ vs) (ws.drop (i + 1)) st6).bind fun us' s => .ok ((us ++ [u]) ++ us') s) := by
                show (((lcL tg tt fe (wipeE ρ vs) (ws.drop (i + 1)) st6).bind fun us s4 => R.ok (u :: us) s4).bind fun us' s => R.ok (us ++ us') s) = _
                cases lcL tg tt fe (wipeE ρ vs) (ws.drop (i + 1)) st6 <;> simp
              rw [eqn] at p2
              have hlen : us.length < sizeLine := by
                cases c4 : lcL tg tt fe (wipeE ρ vs) (ws.drop (i + 1)) st6 with
                | bad => rw [c4] at p2; exact p2.elim
                | exc c x s => exact (lcL_noexc c4).elim
                | ok us' s =>
                  rw [c4] at p2
                  have p3 : Post C Z0 θ1 H1 (relW C.K Z0) ((chk (((us ++ [u]) ++ us').length ≤ sizeLine) (R.ok ((us ++ [u]) ++ us') s)).bind k) Q := p2
                  by_cases hc : ((us ++ [u]) ++ us').length ≤ sizeLine
                  · simp only [List.length_append, List.length_singleton] at hc; omega
                  · unfold Y.chk at p3; rw [if_neg hc] at p3; exact p3.elim
              refine ⟨acc, d1, by rw [← rA.length]; exact hlen, θ6, st6, acc ++ [y'], us ++ [u], Ext.mut (e2.trans E6) hD, sr_apart d1 (.inl rfl) S6, enR_apart d1 hzD (N2.ext E6), upd_same, d2, ?_, p2⟩
              exact paired_snoc (Paired.imp (fun _ _ => wr_apart d1 hzD) (rA.ext E6)) (wr_apart d1 hzD w6)
  · have hi : i = ws.length := by omega
    subst hi
    rw [List.drop_length] at p2
    refine .inl ⟨h2 (Nat.le_refl _), ?_⟩
    replace p2 : Post C Z0 θ1 H1 (relW C.K Z0) ((chk ((us ++ []).length ≤ sizeLine) (R.ok (us ++ []) st2)).bind k) Q := p2
    rw [List.append_nil] at p2
    by_cases hc : us.length ≤ sizeLine
    · rw [chk_ok hc] at p2
      exact fin us st2 θ1 H1 θ2 H2 D acc e1 e2 S2 hA hD hN (fun z => S1.z0 D z hD) rA p2
    · unfold Y.chk at p2; rw [if_neg hc] at p2; exact p2.elim
theorem t_lc {vs : List Nat} {fi : En → Sto → R (List W)} {tg : W → En → Sto → R En} {tt : En → Sto → R Bool} {fe : En → Sto → R W} {σ : L2.St} {Q : VK} {Z0 : Addr → Prop} {θ : List (Option Addr)} {ρ : En} {st : Sto} {k : List W → Sto → R W}
    (S : SR C.K Z0 θ st H) (N : EnR C.K (Zs Z0 θ) θ H ρ σ) (p : Post C Z0 θ H (relW C.K Z0) ((dLc vs fi tg tt fe ρ st).bind k) Q)
    (fin : ∀ us st1 θ1 H1 p ys, Ext θ H θ1 H1 → SR C.K Z0 θ1 st1 H1 → H1 p = some (.lst ys) → H p = none → ¬ Zs Z0 θ1 p → WRs C.K (Zs Z0 θ1) θ1 H1 us ys → Post C Z0 θ1 H1 (relW C.K Z0) (k us st1) Q → Q (.ref p) H1) :
    tLc (rdI C fi) (rdG C.nx vs tg) (rdT C.nx tt) (rdE C.nx fe) vs σ H Q :=
  t_lcZ S N p fun us st2 θ1 H1 θ2 H2 D acc e1 e2 S2 hA hD hN hz rA p2 => fin us st2 θ2 H2 D acc (e1.trans e2) (sr_unzp S2) hA (e1.fresh hD) (fun z => z.elim hN hz) (wrs_zs (fun a z => .inl (.inr z)) rA) (Post.from e2 p2)
end
end Y
namespace Y
open PySem PySem.Spec PyProof.Rows L2
section
variable {X : Cx} {C : Ct}
theorem t_lcF {vs : List Nat} {fi : En → Sto → R (List W)} {tg : W → En → Sto → R En} {tt : En → Sto → R Bool} {fe : En → Sto → R W} {σ : L2.St} {H : Hp} {Q : VK} (q : rdE C (dLcF (dLc vs fi tg tt fe)) σ H Q) : tLc (rdI C fi) (rdG C.nx vs tg) (rdT C.nx tt) (rdE C.nx fe) vs σ H Q := by
  obtain ⟨Z0, θ, ρ, st, S, N, p⟩ := q
  refine t_lc S N p fun us st1 θ1 H1 a ys e1 S1 hp _ nz r p1 => ?_
  split at p1
  · rename_i ds hd
    exact p1 θ1 H1 _ Ext.refl S1 (show Pd _ _ _ _ _ from .lst ⟨.inl hp, nz⟩ (r.pd hd))
  · exact p1.elim
theorem y_lcF {elt tgt iter : Expr} {ifs : List Expr} {scope : Scope} {own : List (Str × Nat)} {pos : Pos} {fi : En → Sto → R (List W)} {tg : W → En → Sto → R En} {tt : En → Sto → R Bool} {fe : En → Sto → R W} (hc : X.calm = true) (hN : X.N.Nodup) (hi : PI X tgt iter (rdI C fi)) (ok : BlkOk X.N X.env.scope scope own)
    (hg : ∀ (s : Shared) (H : Hp) (A : Addr) (cl : List (Str × Addr)) (fp : List Addr), PG (X.blk s H scope (compEnvC scope cl A X.env) fp) tgt (rdG C.nx (own.map (·.2)) tg))
    (ht : ∀ (s : Shared) (H : Hp) (A : Addr) (cl : List (Str × Addr)) (fp : List Addr), PTs (X.blk s H scope (compEnvC scope cl A X.env) fp) ifs (rdT C.nx tt))
    (he : ∀ (s : Shared) (H : Hp) (A : Addr) (cl : List (Str × Addr)) (fp : List Addr), PE (X.blk s H scope (compEnvC scope cl A X.env) fp) elt (rdE C.nx fe)) (hs : ∀ x, foldedSetIterable iter X.env x = pure x := by intro _; rfl) :
    PE X (.ListComp elt [⟨tgt, iter, ifs, 0⟩] scope pos) (rdE C (dLcF (dLc (own.map (·.2)) fi tg tt fe))) := PE.imp (pe_lc hc hN hi ok hg ht he hs) fun _ _ _ => t_lcF
theorem y_setLcF {i : Nat} {y : Str} {py : Pos} {elt tgt iter : Expr} {ifs : List Expr} {scope : Scope} {own : List (Str × Nat)} {pos spos : Pos} {fi : En → Sto → R (List W)} {tg : W → En → Sto → R En} {tt : En → Sto → R Bool} {fe : En → Sto → R W} (hc : X.calm = true) (hN : X.N.Nodup) (hy : X.N[i]? = some y) (hyl : X.env.scope.names.lookup y = some .local)
    (hsw : swapsWith (.ListComp elt [⟨tgt, iter, ifs, 0⟩] scope pos) (some (.Name y py)) spos.line X.env = pure true) (hi : PI X tgt iter (rdI C fi)) (ok : BlkOk X.N X.env.scope scope own)
    (hg : ∀ (s : Shared) (H : Hp) (A : Addr) (cl : List (Str × Addr)) (fp : List Addr), PG (X.blk s H scope (compEnvC scope cl A X.env) fp) tgt (rdG C.nx (own.map (·.2)) tg))
    (ht : ∀ (s : Shared) (H : Hp) (A : Addr) (cl : List (Str × Addr)) (fp : List Addr), PTs (X.blk s H scope (compEnvC scope cl A X.env) fp) ifs (rdT C.nx tt))
    (he : ∀ (s : Shared) (H : Hp) (A : Addr) (cl : List (Str × Addr)) (fp : List Addr), PE (X.blk s H scope (compEnvC scope cl A X.env) fp) elt (rdE C.nx fe)) (hs : ∀ x, foldedSetIterable iter X.env x = pure x := by intro _; rfl) :
    PS X (.Assign [.Name y py] (.ListComp elt [⟨tgt, iter, ifs, 0⟩] scope pos) spos) (rdS C (dSet i (dLcF (dLc (own.map (·.2)) fi tg tt fe)))) := PS.imp (ps_setLc hc hN hy hyl hsw hi ok hg ht he hs) fun D σ H q => by
  obtain ⟨Z0, θ, ρ, st, S, N, p⟩ := q
  refine t_lcF ⟨Z0, θ, ρ, st, S, N, PostS.bindE p fun w st1 θ1 H1 v e1 S1 w1 p1 => p1.now S1 ((N.ext e1).set i w1)⟩
@[simp] def tyName (st : Sto) : W → Option String
  | .d .none => some "NoneType"
  | .d (.bool _) => some "bool"
  | .d (.int _) => some "int"
  | .d (.str _) => some "str"
  | .d (.list _) => some "list"
  | .d (.tuple _) => some "tuple"
  | .ref n => match st[n]? with
    | some (.lst _) => some "list"
    | _ => none
  | _ => none
theorem tyX_of {K : PySem.W.Frag} {Z0 : Addr → Prop} {θ : List (Option Addr)} {H : Hp} {st : Sto} (S : SR K Z0 θ st H) {w : W} {v : V} {t : String} (r : WR K (Zs Z0 θ) θ H w v) (e : tyName st w = some t) : TyX K H v (.type t) := by
  cases w with
  | d x =>
    cases x with
    | none => cases e; cases r; exact .base .non
    | bool b => cases e; cases r; exact .base (.bl b)
    | int i => cases e; cases r; exact .base (.int i)
    | str x => cases e; cases r; exact .base (.str x)
    | list ds =>
      cases e
      cases r with
      | lst h1 _ =>
        rcases h1.1 with q | ⟨o, q⟩
        · exact .base (.lst q)
        · exact .base (.frz q)
    | tuple ds =>
      cases e
      cases r with
      | tup h1 _ =>
        exact .base (.tup h1)
    | dict _ => cases e
  | ref n =>
    dsimp only [tyName] at e
    split at e
    · rename_i ws hw
      cases e
      obtain ⟨a, vs, rfl, _, h3, _⟩ := S.at_ r hw
      exact .base (.lst h3)
    · cases e
  | scr ns => cases e
  | o ns => cases e
  | oo rows => cases e
  | po x ns => cases e
@[simp] def isiB (a : String) : List String → Option Bool
  | [] => some false
  | b :: bs => match kitB a b with
    | some true => some true
    | some false => isiB a bs
    | none => none
@[simp] def dIsi (Ts : List String) (fe : En → Sto → R W) : En → Sto → R W := fun ρ st => (fe ρ st).bind fun w s => match tyName s w with
  | some t => match isiB t Ts with
    | some b => .ok (.d (.bool b)) s
    | none => .bad
  | none => .bad
theorem y_isi1 {e : Expr} {fe : En → Sto → R W} {T : String} {x : Str} {p p1 pos : Pos} (hK : C.K = X.K) (hg : Gl X "isinstance") (hm : X.mg "isinstance" = none) (hgT : Gl X x) (hmT : X.mg x = none) (hv : bootBuiltins x = some (.type T)) (h : PE X e (rdE C fe))
    (hb : bootBuiltins "isinstance" = some (.builtin "isinstance") := by decide +kernel) (hn : x ≠ "__name__" := by decide) (hd : (x == ("__debug__" : Str)) = false := by decide)
    (h1 : starEach [e, .Name x p1] X.env = (false, eval e X.env) :: starEach [.Name x p1] X.env := by rfl) (h2 : (backTo pos (starEach [.Name x p1] X.env)).any (·.1) = false := by rfl) (h3 : starEach [.Name x p1] X.env = (false, eval (.Name x p1) X.env) :: starEach [] X.env := by rfl) :
    PE X (.Call (.Name "isinstance" p) [e, .Name x p1] [] pos) (rdE C (dIsi [T] fe)) := by
  obtain ⟨K, mg, E⟩ := C
  obtain rfl : K = X.K := hK
  refine PE.imp (pe_callB call_isi hg hm hb (pa_cons h (pa_cons (pe_bltn (v := .ty T) hgT hmT hv rfl hn hd) pa_nil h3) h1) (by decide) (by decide) h1 h2) fun σ H Q q => ?_
  obtain ⟨Z0, θ, ρ, st, S, N, p⟩ := q
  refine ⟨Z0, θ, ρ, st, S, N, Post.bind p fun w st1 θ1 H1 v _ e1 S1 w1 p1 => ?_⟩
  split at p1
  · rename_i t ht
    split at p1
    · rename_i b hb'
      refine ⟨v, .ty T, .type t, .type T, b, rfl, .ty T, tyX_of S1 w1 ht, ?_, p1.now S1 (show Pd _ _ _ _ _ from .bl _)⟩
      unfold isiB isiB at hb'
      cases q : kitB t T with
      | none => rw [q] at hb'; cases hb'
      | some c => rw [q] at hb'; cases c <;> (cases hb'; exact kit_ty q)
    · exact p1.elim
  · exact p1.elim
end
/-- a def that keeps its promise where no repr runs -/
structure FnG (P : Program) (w : World) (K : PySem.W.Frag) (mg : Str → Option Value) (base : Heap) (CX : CXT) (k : Nat) (f : Addr) (fd : FuncData) (ps : List Str) (sp : Sp) : Prop where
  len : ∀ vs H Q E, sp vs H Q E → vs.length = ps.length
  go : ∀ (A : Around) (outer : List Env) (s : Shared) (H : Hp) (args : Args) (us : List Value) (vs : List V) (Q : VK) (E : XK), A.guards = some [] → Room k A → Env0 P w K mg base A outer s H → BindsTo s fd args (ps.zip us) → Vals vs us → sp vs H Q E → codeAny (model P w) A (.call (.ref f) args) (CR CX outer P w H s Q E) s
section
variable {P : Program} {w : World} {K : PySem.W.Frag} {mg : Str → Option Value} {base : Heap} {CX : CXT}
theorem FnG.up {j k : Nat} {f : Addr} {fd : FuncData} {ps : List Str} {sp : Sp} (F : FnG P w K mg base CX j f fd ps sp) (h : j ≤ k) : FnG P w K mg base CX k f fd ps sp := ⟨F.len, fun A o s H a us vs Q E g r => F.go A o s H a us vs Q E g (r.mono h)⟩
theorem fnG_of {k : Nat} {x qual : Str} {st : Stmt} {f : Addr} {fd : FuncData} {N ps : List Str} {sp : Sp} (F : C8.Fun K x qual st f fd) (S : FnScope N ps (C8.fnScope st)) (len : ∀ vs H Q E, sp vs H Q E → vs.length = ps.length)
    (body : ∀ (cdv : Value) (A : Around) (outer : List Env) (s : Shared) (H : Hp) (vs : List V) (Q : VK) (E : XK), A.guards = some [] → Room k (A.deeper (envOfC qual (C8.fnScope st) s.heap.objs.size f cdv)) → sp vs H Q E →
      ∃ t, PSs (cxOf CX P w K mg base N qual (C8.fnScope st) f cdv A outer s H E) (C8.fnBody st) t ∧ t { nx := fun _ H' => Q .non H', rt := Q } (start N vs) H) : FnG P w K mg base CX (k + 1) f fd ps sp := by
  obtain ⟨_, _, dV, kV, doc, pm, an, cdv, ct, _, rfl, lk, hcd⟩ := F.ex
  refine ⟨len, ?_⟩
  intro A outer s H args us vs Q E gA room e0 bnd rel pr
  have lenV := len _ _ _ _ pr
  have kin := e0.mod.kin.keeps (h' := s.heap) (fun b o e => (e0.bs b o e).1)
  have nl := e0.mod.nolimit.keeps (h' := s.heap) (fun b o e => (e0.bs b o e).1)
  have knd : ∀ y ∈ ps.zip us, (C8.fnScope st).names.lookup y.1 = some .local ∨ ((C8.fnScope st).names.lookup y.1 = some .cell ∧ ((cellsFrom (s.heap.objs.size + 1) (C8.fnScope st).names []).lookup y.1).isSome = true) := by
    rintro ⟨n, v⟩ hy
    have hp := S.par n (List.of_mem_zip hy).1
    exact hp.imp id fun q => ⟨q, PySem.W.cellsFrom_some _ _ _ (.inl q)⟩
  refine codeAny_call_function room.depth (kin f _ lk) rfl S.co S.gen rfl (PySem.W.codeRec_of kin hcd) (bnd _ _ _ _ ?_)
  refine wpAny_newFunctionEnv_cells S.kind knd (fun env henv s1 inC => ?_)
  cases henv
  obtain ⟨t, ht, ok⟩ := body cdv A outer s H vs Q E gA (room.deeper _) pr
  have inv := inv_start (CX := CX) (E := E) S room.hd e0 lenV rel inC
  refine ⟨nl.keeps inC.toInCall.keep, codeAny_func (wpAny_mono (ht.run [] s1 (start N vs) H _ inv ok) ?_ (fun _ _ z => z))⟩
  intro fl s' fin
  cases fl with
  | ret u => obtain ⟨v, σ', H', J, rv, q⟩ := fin; exact ⟨v, H', J.os, J.bare, J.base, J.hok, rv, q⟩
  | next => obtain ⟨σ', H', J, q⟩ := fin; exact ⟨V.non, H', J.os, J.bare, J.base, J.hok, rfl, q⟩
  | brk => obtain ⟨_, _, _, q⟩ := fin; exact q.elim
  | cont => obtain ⟨_, _, _, q⟩ := fin; exact q.elim
end
end Y
namespace Y
open PySem PySem.Spec PyProof.Rows L2
abbrev Fn := List W → Sto → R W
def c0 (K : PySem.W.Frag) (mg : Str → Option Value) : Ct := ⟨K, mg, C8.E0⟩
def spF (K : PySem.W.Frag) (mg : Str → Option Value) (n : Nat) (F : Fn) : Sp := fun vs H Q _ => vs.length = n ∧ ∃ Z0 θ st ws, SR K Z0 θ st H ∧ WRs K (Zs Z0 θ) θ H ws vs ∧ Post (c0 K mg) Z0 θ H (relW K Z0) (F ws st) Q
@[simp] def dDef (n : Nat) (body : DS) : Fn := fun ws st => (body (ws.map some ++ List.replicate (n - ws.length) none) st).bind fun a s => match a.1 with
  | .rt w => .ok w s
  | .nx => .ok (.d .none) s
  | _ => .bad
/-- a def that may be called by its name -/
structure CalG (P : Program) (w : World) (K : PySem.W.Frag) (mg : Str → Option Value) (base : Heap) (k : Nat) (x : Str) (st : Stmt) (ps : List Str) (n : Nat) (F : Fn) : Prop where
  ex : ∃ (f : Addr) (kV doc pm : Value) (an : Option Addr) (cdv ct : Value), FnG P w K mg base C8.CX0 k f (PySem.W.fnOf x x (C8.fnArgs st) (C8.fnBody st) (C8.fnScope st) .none kV doc pm an cdv ct) ps (spF K mg n F) ∧ mg x = some (.ref f) ∧ PySem.W.keepIn K (.ref f) = true ∧ ps.length = n ∧
    (∀ us : List Value, us.length = n → bindArgs (PySem.W.fnOf x x (C8.fnArgs st) (C8.fnBody st) (C8.fnScope st) .none kV doc pm an cdv ct) ⟨us, []⟩ = pure (ps.zip us))
/-- the context of a def's body -/
abbrev BX (P : Program) (w : World) (K : PySem.W.Frag) (mg : Str → Option Value) (base : Heap) (N : List Str) (x : Str) (st : Stmt) (f : Addr) (cdv : Value) (A : Around) (outer : List Env) (s : Shared) (H : Hp) (E : XK) : Cx := (cxOf C8.CX0 P w K mg base N x (C8.fnScope st) f cdv A outer s H E).nox
section
variable {P : Program} {w : World} {K : PySem.W.Frag} {mg : Str → Option Value} {base : Heap}
theorem enR_start {Z : Addr → Prop} {θ : List (Option Addr)} {H : Hp} {N : List Str} {ws : List W} {vs : List V} (r : WRs K Z θ H ws vs) : EnR K Z θ H (ws.map some ++ List.replicate (N.length - ws.length) none) (start N vs) := by
  have hl := r.length
  refine ⟨by simp [L2.start, hl], fun i w e => ?_⟩
  by_cases h : i < ws.length
  · rw [List.getElem?_append_left (by simpa using h), List.getElem?_map] at e
    obtain ⟨u, hu, e⟩ := Option.map_eq_some_iff.mp e
    cases e
    obtain ⟨v, hv, rv⟩ := L2.paired_get r hu
    refine ⟨v, ?_, rv⟩
    unfold L2.start
    rw [List.getElem?_append_left (by simp; omega), List.getElem?_map, hv]; rfl
  · rw [List.getElem?_append_right (by simp; omega)] at e
    simp only [List.getElem?_replicate] at e
    split at e <;> cases e
theorem calG_of {k n : Nat} {x : Str} {st : Stmt} {f : Addr} {fd : FuncData} {N ps : List Str} {D : DS} (F : C8.Def K mg x st f fd) (df : fd.defaults = .none) (S : FnScope N ps (C8.fnScope st)) (hn : ps.length = n)
    (hb : ∀ (kV doc pm : Value) (an : Option Addr) (cdv ct : Value) (us : List Value), us.length = n → bindArgs (PySem.W.fnOf x x (C8.fnArgs st) (C8.fnBody st) (C8.fnScope st) .none kV doc pm an cdv ct) ⟨us, []⟩ = pure (ps.zip us))
    (body : ∀ (f : Addr) (cdv : Value) (A : Around) (outer : List Env) (s : Shared) (H : Hp) (E : XK), A.guards = some [] → Room k (A.deeper (envOfC x (C8.fnScope st) s.heap.objs.size f cdv)) → PSs (BX P w K mg base N x st f cdv A outer s H E) (C8.fnBody st) (rdS (c0 K mg) D)) :
    CalG P w K mg base (k + 1) x st ps n (dDef N.length D) := by
  obtain ⟨oc, od, dV, kV, doc, pm, an, cdv, ct, osl, rfl, lk, hcd⟩ := F.fn.ex
  have e : dV = .none := df
  subst e
  refine ⟨f, kV, doc, pm, an, cdv, ct, fnG_of F.fn S (fun vs H Q E h => by rw [h.1, hn]) (fun cdv A outer s H vs Q E g rm h => ?_), F.mgf, F.kp, hn, hb kV doc pm an cdv ct⟩
  obtain ⟨hl, Z0, θ, st', ws, S', r, p⟩ := h
  refine ⟨_, (body f cdv A outer s H E g rm).nox, Z0, θ, _, st', S', enR_start r, ?_⟩
  unfold dDef at p
  rw [r.length] at p ⊢
  cases e : D (ws.map some ++ List.replicate (N.length - vs.length) none) st' with
  | bad => rw [e] at p; exact p.elim
  | exc c x s => rw [e] at p; exact p
  | ok a s1 =>
    rw [e] at p
    obtain ⟨fl, ρ'⟩ := a
    intro θ1 H1 σ1 e1 S1 N1
    cases fl with
    | nx => exact p θ1 H1 _ e1 S1 (show Pd _ _ _ _ _ from .non)
    | rt w => exact fun v rv => p θ1 H1 v e1 S1 rv
    | bk => exact p.elim
    | ct => exact p.elim
end
section
variable {X : Cx}
theorem run_calG {k : Nat} {f : Addr} {fd : FuncData} {ps : List Str} {n : Nat} {F : Fn} {pins : List (Addr × Obj)} {σ : L2.St} {H : Hp} {s : Shared} {Q : VK} {us : List Value} {vs : List V} {args : Args} (G : FnG X.prog X.w X.K X.mg X.base C8.CX0 k f fd ps (spF X.K X.mg n F)) (hr : Room k X.A) (hg : X.A.guards = some [])
    (I : Inv X pins σ H s) (r : Vals vs us) (hb : BindsTo s fd args (ps.zip us)) (h : spF X.K X.mg n F vs H Q C8.E0) : codeAny (model X.prog X.w) X.A (.call (.ref f) args) (fun r s' => ∃ u, r = .ok (.ret u) ∧ EP X pins σ Q u s') s := by
  refine codeAny_mono (G.go X.A X.stack s H args us vs Q C8.E0 hg hr I.env0 hb r h) fun r s' hq => ?_
  cases r with
  | error e => exact hq.elim
  | ok fl =>
    cases fl with
    | ret u => exact ⟨u, rfl, I.after hq⟩
    | next => exact hq.elim
    | brk => exact hq.elim
    | cont => exact hq.elim
/-- f(..): the callee sees the store -/
@[simp] def dCal (n : Nat) (F : Fn) (fa : En → Sto → R (List W)) : En → Sto → R W := fun ρ st => (fa ρ st).bind fun ws s => chk (ws.length = n) (F ws s)
/-- f(..): all that is handed over and handed back is data; the callee sees an empty store -/
@[simp] def pureW : W → Bool
  | .ref _ => false
  | _ => true
@[simp] def callP (F : Fn) (ws : List W) (s : Sto) : R W := match F ws [] with
  | .ok (.d x) _ => .ok (.d x) s
  | _ => .bad
@[simp] def dCalP (n : Nat) (F : Fn) (fa : En → Sto → R (List W)) : En → Sto → R W := fun ρ st => (fa ρ st).bind fun ws s => chk (ws.length = n ∧ ws.all pureW = true) (callP F ws s)
theorem wr_pure {K : PySem.W.Frag} {Z : Addr → Prop} {θ θ' : List (Option Addr)} {H : Hp} {w : W} {v : V} (h : pureW w = true) (r : WR K Z θ H w v) : WR K Z θ' H w v := by
  cases w with
  | d x => exact r
  | ref n => cases h
  | scr ns => exact r
  | o ns => exact r
  | oo rows => exact r
  | po x ns => exact r
theorem wrs_pure {K : PySem.W.Frag} {Z : Addr → Prop} {θ θ' : List (Option Addr)} {H : Hp} : ∀ {ws : List W} {vs : List V}, ws.all pureW = true → WRs K Z θ H ws vs → WRs K Z θ' H ws vs
  | [], _, _, h => by cases h; exact .nil
  | w :: ws, _, hp, h => by
    simp only [List.all_cons, Bool.and_eq_true] at hp
    cases h with | cons a b => exact .cons (wr_pure hp.1 a) (wrs_pure hp.2 b)
theorem zs_nil {Z : Addr → Prop} : Zs Z [] = Z := by
  funext a
  simp [Zs]
/-- what a callee wants of a pure call -/
theorem callP_sp {K : PySem.W.Frag} {mg : Str → Option Value} {n : Nat} {F : Fn} {Z0 : Addr → Prop} {θ : List (Option Addr)} {H : Hp} {st : Sto} {ws : List W} {vs : List V} {Q : VK} {E : XK} (S : SR K Z0 θ st H) (r : WRs K (Zs Z0 θ) θ H ws vs) (hn : ws.length = n) (hp : ws.all pureW = true)
    (p : Post (c0 K mg) Z0 θ H (relW K Z0) (callP F ws st) Q) : spF K mg n F vs H Q E := by
  refine ⟨by rw [← r.length, hn], Zs Z0 θ, [], [], ws, ?_, ?_, ?_⟩
  · refine ⟨rfl, fun m n a h => by simp at h, fun n a o h => by simp at h, fun n h => by simp at h, fun a h => ?_, fun a h => by simp at h⟩
    intro z
    exact S.notZ z h
  · rw [zs_nil]; exact wrs_pure hp r
  · unfold callP at p
    cases e : F ws [] with
    | bad => rw [e] at p; exact p.elim
    | exc c x s => rw [e] at p; exact p.elim
    | ok w s' =>
      rw [e] at p
      cases w with
      | ref m => exact p.elim
      | scr ns => exact p.elim
      | o ns => exact p.elim
      | oo rows => exact p.elim
      | po x ns => exact p.elim
      | d x =>
        intro θ1 H1 v e1 S1 rv
        have keep : ∀ a o, H a = some o → H1 a = some o := fun a o h => e1.keep a o (by simp) h
        have x1 : Ext θ H θ H1 := ⟨fun _ _ h => .inl h, fun _ _ h => .inl h, fun a o _ h => keep a o h, e1.tup, e1.frz, e1.live⟩
        refine p θ H1 v x1 ⟨S.len, S.nd, fun n a o h1 h2 => ?_, S.dd, fun a h => e1.live a (S.z0 a h), S.dis⟩ ?_
        · have q := S.obj n a o h1 h2
          cases o with
          | dead => exact q
          | lst us => obtain ⟨zs, q1, q2⟩ := q; exact ⟨zs, keep a _ q1, WRs.ext x1 q2⟩
          | dct us => obtain ⟨zs, q1, q2⟩ := q; exact ⟨zs, keep a _ q1, Paired.imp (fun _ _ r => ⟨r.1, WR.ext x1 r.2⟩) q2⟩
          | dtt us => obtain ⟨zs, q1, q2⟩ := q; exact ⟨zs, keep a _ q1, Paired.imp (fun _ _ r => ⟨r.1, WR.ext x1 r.2⟩) q2⟩
          | lk us => obtain ⟨od, zs, q1, q2⟩ := q; exact ⟨od, zs, keep a _ q1, Paired.imp (fun _ _ r => ⟨r.1, WR.ext x1 r.2⟩) q2⟩
          | lki us => obtain ⟨od, zs, q1, q2⟩ := q; exact ⟨od, zs, keep a _ q1, Paired.imp (fun _ _ r => ⟨r.1, WR.ext x1 r.2⟩) q2⟩
          | tup us => obtain ⟨zs, q1, q2⟩ := q; exact ⟨zs, keep a _ q1, WRs.ext x1 q2⟩
          | obj c us => obtain ⟨C, dx, zs, q0, q1, q2⟩ := q; exact ⟨C, dx, zs, q0, keep a _ q1, Paired.imp (fun _ _ r => ⟨r.1, WR.ext x1 r.2⟩) q2⟩
        · exact Pd.less (fun a h => .inr h) rv
variable {x : Str} {p pos : Pos} {e : Expr} {es : List Expr} {fa : En → Sto → R (List W)} {n k j : Nat} {F : Fn} {st : Stmt} {ps : List Str}
theorem bindsTo_eq {s : Shared} {fd : FuncData} {args : Args} {b : List (Str × Value)} (h : bindArgs fd args = pure b) : BindsTo s fd args b := .of_eq h
theorem pe_calG (c : CalG X.prog X.w X.K X.mg X.base k x st ps n F) (hr : Room j X.A) (hj : k ≤ j) (hgd : X.A.guards = some []) (hg : Gl X x) {t : TA} (ha : PA X (e :: es) t)
    (nd : (x == ("__debug__" : Str)) = false := by decide) (he : starEach (e :: es) X.env = (false, eval e X.env) :: starEach es X.env := by rfl)
    (nst : (backTo pos (starEach es X.env)).any (·.1) = false := by rfl) :
    PE X (.Call (.Name x p) (e :: es) [] pos) (fun σ H Q => t σ H fun vs H1 => spF X.K X.mg n F vs H1 Q C8.E0) := by
  obtain ⟨f, kV, doc, pm', an, cdv, ct, G, hm, kp, hl, hb⟩ := c.ex
  refine ⟨fun pins s σ H Q I h => wpAny_Call_Name_kw (ld_glob I hg hm (PySem.W.callWith_K (h₀ := X.base) I.ok.mod.kin kp (thn (ha.run pos pins s σ H _ I h) fun us s1 q => ?_) he nst) nd)⟩
  obtain ⟨vs, H1, I1, r, q⟩ := q
  refine ⟨I1.kIn, wpAny_call (codeAny_mono (run_calG G (hr.mono hj) hgd I1 r (bindsTo_eq (hb us (by rw [← r.length, q.1]))) q) fun r' s' hq => ?_)⟩
  obtain ⟨u, rfl, hq⟩ := hq
  exact hq
theorem y_cal {C : Ct} (hC : C = c0 X.K X.mg) (c : CalG X.prog X.w X.K X.mg X.base k x st ps n F) (hr : Room j X.A) (hj : k ≤ j) (hgd : X.A.guards = some []) (hg : Gl X x) (ha : PA X (e :: es) (rdA C fa))
    (nd : (x == ("__debug__" : Str)) = false := by decide) (he : starEach (e :: es) X.env = (false, eval e X.env) :: starEach es X.env := by rfl)
    (nst : (backTo pos (starEach es X.env)).any (·.1) = false := by rfl) :
    PE X (.Call (.Name x p) (e :: es) [] pos) (rdE C (dCal n F fa)) := by
  subst hC
  refine PE.imp (pe_calG c hr hj hgd hg ha nd he nst) fun σ H Q q => ?_
  obtain ⟨Z0, θ, ρ, st, S, N, q⟩ := q
  refine ⟨Z0, θ, ρ, st, S, N, Post.bind q fun ws st1 θ1 H1 vs _ e1 S1 r1 p1 => ?_⟩
  exact ⟨by rw [← r1.length]; exact p1.chk.1, Z0, θ1, st1, ws, S1, r1, p1.chk.2⟩
theorem y_calP {C : Ct} (hC : C = c0 X.K X.mg) (c : CalG X.prog X.w X.K X.mg X.base k x st ps n F) (hr : Room j X.A) (hj : k ≤ j) (hgd : X.A.guards = some []) (hg : Gl X x) (ha : PA X (e :: es) (rdA C fa))
    (nd : (x == ("__debug__" : Str)) = false := by decide) (he : starEach (e :: es) X.env = (false, eval e X.env) :: starEach es X.env := by rfl)
    (nst : (backTo pos (starEach es X.env)).any (·.1) = false := by rfl) :
    PE X (.Call (.Name x p) (e :: es) [] pos) (rdE C (dCalP n F fa)) := by
  subst hC
  refine PE.imp (pe_calG c hr hj hgd hg ha nd he nst) fun σ H Q q => ?_
  obtain ⟨Z0, θ, ρ, st, S, N, q⟩ := q
  refine ⟨Z0, θ, ρ, st, S, N, Post.bind q fun ws st1 θ1 H1 vs _ e1 S1 r1 p1 => ?_⟩
  exact callP_sp S1 r1 p1.chk.1.1 p1.chk.1.2 p1.chk.2
/-- f(.., k = v): the parameters' order is pm's -/
def pick {α : Type} (pm : List Nat) (l : List α) : List α := pm.filterMap fun i => l[i]?
theorem pick_rel {α β : Type} {F : α → β → Prop} {l₁ : List α} {l₂ : List β} (h : Paired F l₁ l₂) : ∀ pm : List Nat, Paired F (pick pm l₁) (pick pm l₂)
  | [] => .nil
  | i :: pm => by
    have ih := pick_rel h pm
    unfold pick at ih ⊢
    rw [List.filterMap_cons, List.filterMap_cons]
    cases e : l₁[i]? with
    | none =>
      have : l₂[i]? = none := by
        rw [List.getElem?_eq_none_iff] at e ⊢
        rw [← Paired.length h]; exact e
      rw [this]; exact ih
    | some a =>
      obtain ⟨b, hb, r⟩ := L2.paired_get h e
      rw [hb]; exact .cons r ih
/-- the values of keywords, from the left -/
theorem PK.imp {kws : List Keyword} {t t' : TA} (h : PK X kws t) (k : ∀ σ H Q, t' σ H Q → t σ H Q) : PK X kws t' := ⟨fun pos pins s σ H Q I q => h.run pos pins s σ H Q I (k σ H Q q)⟩
theorem y_knil {C : Ct} : PK X [] (rdA C dNil) := PK.imp pk_nil fun _ _ _ => t_nil
theorem y_kcons {C : Ct} {kws : List Keyword} {nm : Option Str} {kpos : Pos} {f : En → Sto → R W} {g : En → Sto → R (List W)} (h : PE X e (rdE C f)) (hr : PK X kws (rdA C g)) : PK X (⟨nm, e, kpos⟩ :: kws) (rdA C (dCons f g)) := PK.imp (pk_cons h hr) fun _ _ _ => t_cons
/-- only keywords -/
theorem y_calK {C : Ct} {kws : List Keyword} {ks : List Str} {pm : List Nat} (hC : C = c0 X.K X.mg) (c : CalG X.prog X.w X.K X.mg X.base k x st ps n F) (hr : Room j X.A) (hj : k ≤ j) (hgd : X.A.guards = some []) (hg : Gl X x) (ha : PK X kws (rdA C fa))
    (hkb : ∀ (kV doc pm' : Value) (an : Option Addr) (cdv ct : Value) (us : List Value), us.length = n → bindArgs (PySem.W.fnOf x x (C8.fnArgs st) (C8.fnBody st) (C8.fnScope st) .none kV doc pm' an cdv ct) ⟨[], ks.zip us⟩ = pure (ps.zip (pick pm us)))
    (hpm : ∀ ws : List W, ws.length = n → (pick pm ws).length = n)
    (hall : (backToKw pos (keywordEach kws X.env)).all (·.1.isSome) = true := by rfl) (hks : (backToKw pos (keywordEach kws X.env)).filterMap (·.1) = ks := by rfl)
    (hdb : (x == ("__debug__" : Str)) = false := by decide)
    (nst : ((backTo pos (starEach [] X.env)).any (·.1) || (backToKw pos (keywordEach kws X.env)).any (·.1.isNone)) = false := by rfl) : PE X (.Call (.Name x p) [] kws pos) (rdE C (dCalP n (fun ws => F (pick pm ws)) fa)) := by
  subst hC
  obtain ⟨f, kV, doc, pm', an, cdv, ct, G, hm, kp, hl, hb⟩ := c.ex
  refine ⟨fun pins s σ H Q I q => wpAny_Call_Name_kw (ld_glob I hg hm (PySem.W.callWith_KW0 (h₀ := X.base) I.ok.mod.kin kp hall ?_ nst) hdb)⟩
  obtain ⟨Z0, θ, ρ, st, S, N, q⟩ := q
  have q2 : rdA (c0 X.K X.mg) fa σ H (fun vs H1 => vs.length = n ∧ spF X.K X.mg n F (pick pm vs) H1 Q C8.E0) := by
    refine ⟨Z0, θ, ρ, st, S, N, Post.bind q fun ws st1 θ1 H1 vs _ e1 S1 r1 p1 => ?_⟩
    obtain ⟨⟨c1, c2⟩, p1⟩ := p1.chk
    refine ⟨by rw [← r1.length]; exact c1, callP_sp (F := F) S1 (pick_rel r1 pm) (hpm ws c1) ?_ p1⟩
    rw [List.all_eq_true] at c2 ⊢
    intro u hu
    unfold pick at hu
    obtain ⟨i, _, hi⟩ := List.mem_filterMap.mp hu
    exact c2 u (List.mem_of_getElem? hi)
  refine thn (ha.run pos pins s σ H _ I q2) fun us s1 ⟨vs, H1, I1, r, q3⟩ => ⟨I1.kIn, ?_⟩
  rw [hks]
  refine wpAny_call (codeAny_mono (run_calG G (hr.mono hj) hgd I1 (pick_rel r pm) (bindsTo_eq (hkb kV doc pm' an cdv ct us (by rw [← r.length, q3.1]))) q3.2) fun r' s' hq => ?_)
  obtain ⟨u, rfl, hq⟩ := hq
  exact hq
end
section
variable {P : Program} {w : World} {K : PySem.W.Frag} {mg : Str → Option Value}
theorem law_end {mb : Str → Option Value} {k : Nat} {fa a : Addr} {x : Str} {st : Stmt} {ps : List Str} {F : Fn} {s₁ : Shared} {vs : List Value} {ns : List Int}
    (kin : K.In s₁.heap) (gl : s₁.heap.Ns mainGlobals mg) (bl : s₁.heap.Ns builtinsNs mb) (bls : ∀ y : Str, y ≠ "__name__" → mb y = bootBuiltins y) (nl : s₁.heap.NoLimit) (gens : s₁.gens = #[])
    (script : s₁.heap.get? a = some { cls := .type "list", data := .seq vs.toArray }) (are : IntsAre vs ns) (few : ns.length ≤ 63) (room : Room k callerA) (hx : mg x = some (.ref fa))
    (cal : ∀ base : Heap, K.In base → base.Ns mainGlobals mg → CalG P w K mg base k x st ps 1 F) (holds : ∃ st, F [.scr ns] [] = .ok (.d (.bool true)) st) :
    codeAny (model P w) callerA (.call (.ref fa) ⟨[.ref a], []⟩)
      (fun r s' => r = .ok (.ret (.bool true)) ∧ OldK s₁.heap s'.heap ∧ s'.os = s₁.os ∧ AllBare s'.gens) s₁ := by
  have rel := vals_ints are
  have few' : (ns.map V.int).length ≤ sizeLine := by rw [List.length_map, sizeLine_eq]; omega
  -- what is known at the start: the script alone
  suffices start : ∀ H : Hp, Only H → SqL K H a (ns.map V.int) → HOk P w H s₁.heap → (∀ b, H b ≠ none → b = a ∧ K.lookup a = none) →
      codeAny (model P w) callerA (.call (.ref fa) ⟨[.ref a], []⟩) (fun r s' => r = .ok (.ret (.bool true)) ∧ OldK s₁.heap s'.heap ∧ s'.os = s₁.os ∧ AllBare s'.gens) s₁ by
    cases hk : K.lookup a with
    | some o =>
      have e := kin a o hk
      rw [script] at e
      cases e
      refine start (fun _ => none) (fun _ => .inl rfl) (.inr ⟨_, vs.toArray, _, hk, rfl, rfl, rfl, ?_, by simpa using rel⟩) (fun b u z => nomatch z) (fun b z => absurd rfl z)
      rw [List.size_toArray, ← rel.length]; exact few'
    | none =>
      have at_ : ∀ b u, (if b = a then some (HO.frz { cls := .type "list", data := .seq vs.toArray } (.lst (ns.map V.int))) else none) = some u → b = a ∧ u = HO.frz { cls := .type "list", data := .seq vs.toArray } (.lst (ns.map V.int)) := by
        intro b u z
        by_cases hb : b = a
        · rw [if_pos hb] at z; cases z; exact ⟨hb, rfl⟩
        · rw [if_neg hb] at z; cases z
      refine start (fun b => if b = a then some (.frz { cls := .type "list", data := .seq vs.toArray } (.lst (ns.map V.int))) else none) (fun b => ?_) (.inl (.inr ⟨_, if_pos rfl⟩)) (fun b u z => ?_) (fun b z => ?_)
      · by_cases hb : b = a
        · exact .inr ⟨_, _, if_pos hb⟩
        · exact .inl (if_neg hb)
      · obtain ⟨rfl, rfl⟩ := at_ b u z
        exact ⟨script, few', vs, _, rel, script⟩
      · refine ⟨?_, hk⟩
        by_cases hb : b = a
        · exact hb
        · exact absurd (if_neg hb) z
  intro H only sq ok alone
  have out : ∀ {b : Addr} {o : Obj}, s₁.heap.get? b = some o → (b = a → False) → (hidT s₁.heap H).get? b = some o := fun {b o} e nb => hidT_get e (by
    cases q : H b with
    | none => rfl
    | some u => exact (nb (alone b (by rw [q]; simp)).1).elim)
  have nspace : ∀ {b : Addr} {m : Str → Option Value}, s₁.heap.Ns b m → (hidT s₁.heap H).Ns b m := by
    rintro b m ⟨o, es, ep, e, d, r⟩
    refine ⟨o, es, ep, out e (fun z => ?_), d, r⟩
    rw [z, script] at e
    cases e
    cases (show Data.seq vs.toArray _ = Data.dict es ep from d)
  have kin' : K.In (hidT s₁.heap H) := fun b o e => hidT_get (kin b o e) (by
    cases q : H b with
    | none => rfl
    | some u =>
      obtain ⟨z1, z2⟩ := alone b (by rw [q]; simp)
      rw [z1, z2] at e; cases e)
  obtain ⟨f, kV, doc, pm', an, cdv, ct, G, hm, _, hps, bind⟩ := (cal _ kin' (nspace gl)).ex
  rw [hx] at hm
  cases hm
  have env : Env0 P w K mg (hidT s₁.heap H) callerA [] s₁ H := {
    frames := rfl
    mod := ⟨kin', nspace gl, ⟨mb, nspace bl, bls⟩, by obtain ⟨mc, h1, h2⟩ := nl; exact ⟨mc, nspace h1, h2⟩⟩
    bs := fun b o e => of_hidT e
    bsz := Nat.le_of_eq (hidT_size _ _)
    funs := trivial
    frf := fun b hb => nomatch hb
    hok := ok
    bare := .of_eq gens }
  obtain ⟨st, hst⟩ := holds
  have pr : spF K mg 1 F [.ref a] H (fun v _ => v = .bl true) C8.E0 := by
    refine ⟨rfl, fun _ => False, [], [], [.scr ns], ?_, .cons ⟨a, rfl, ?_⟩ .nil, ?_⟩
    · exact ⟨rfl, fun m n a h => by simp at h, fun n a o h => by simp at h, fun n h => by simp at h, fun a h => h.elim, fun a h => by simp at h⟩
    · rcases sq with q | q
      · exact .inl ⟨q, fun z => by rcases z with z | z; · simp at z
                                   · exact z⟩
      · exact .inr (.inr q)
    · rw [hst]
      intro θ' H' v _ _ r
      cases r
      rfl
  refine codeAny_mono (G.go callerA [] s₁ H ⟨[.ref a], []⟩ [.ref a] [.ref a] _ C8.E0 rfl room env (.of_eq (bind [.ref a] rfl)) (.cons rfl .nil) pr) fun r s' fin => ?_
  cases r with
  | error e => exact fin.elim
  | ok fl =>
    cases fl with
    | ret u =>
      obtain ⟨v, H', os, bare, un, ok', rv, rfl⟩ := fin
      cases rv
      refine ⟨rfl, OldK.of_keep ?_, os, bare⟩
      intro b o e
      rcases only b with z | ⟨ob, xs, z⟩
      · exact un.keep b o e z (by intro h; exact nomatch h) (by simp)
      · have e1 := (ok b _ z).1
        have e2 := (ok' b _ (un.frzs b ob _ z)).1
        rw [e] at e1; cases e1
        exact e2
    | next => exact fin.elim
    | brk => exact fin.elim
    | cont => exact fin.elim
open Att in
theorem walk_end {l : PySem.W.OpenLaw} {k : Nat} {q : Program} {loose : List Str} {XP : (Str → Option Value) → Heap → Prop} {YP : World → Heap → Prop} {d : DefRec} {K : Params → PySem.W.Frag} {st : Stmt} {ps : List Str} {F : Fn}
    (few : l.most = some 63) (nodf : d.params.defaults = []) (room : Room k callerA) (kin : ∀ (w : World) (h : Heap), YP w h → (K w.params).In h)
    (cal : ∀ (w : World) (mg : Str → Option Value) (h : Heap), (K w.params).In h → h.Ns mainGlobals mg → ∀ base : Heap, (K w.params).In base → base.Ns mainGlobals mg → CalG l.prog w (K w.params) mg base k d.name st ps 1 F)
    (holds : ∀ ns : List Int, ns.length ≤ 63 → ∃ st, F [.scr ns] [] = .ok (.d (.bool true)) st) : PySem.W.WalkO q loose XP YP l.row.toRowW d [] (fun f vs => PySem.call f vs) :=
  attach_call few nodf fun w s₀ s₁ mg mb fa o pm cd doc a vs ns G Y ho hd hcd hmg hobj hints hlen hg =>
    law_end (kin w _ Y) G.T.g G.T.b G.T.builtins G.T.nolimit hg hobj hints hlen room hmg (cal w mg _ (kin w _ Y) G.T.g) (holds ns hlen)
end
end Y
namespace Y
open PySem PySem.Spec PyProof.Rows L2
theorem u65 {k : Nat} {A : Around} (r : Room k A) : A.units + 65 < cLine := by have := r.un; omega
theorem u66 {k : Nat} {A : Around} (r : Room k A) : A.units + 66 < cLine := by have := r.un; omega
section
variable {X : Cx} {C : Ct} {x : Str} {p pos apos : Pos} {e o : Expr} {es : List Expr} {fa : En → Sto → R (List W)} {fo : En → Sto → R W} {id T : String} {g : List W → Sto → R W}
theorem y_callB (hc : CallR X (.builtin id) (rdC C g)) (hg : Gl X x) (hm : X.mg x = none) (hv : bootBuiltins x = some (.builtin id)) (ha : PA X (e :: es) (rdA C fa)) (hn : x ≠ "__name__" := by decide) (hdb : (x == ("__debug__" : Str)) = false := by decide)
    (he : starEach (e :: es) X.env = (false, eval e X.env) :: starEach es X.env := by rfl) (hpl : (backTo pos (starEach es X.env)).any (·.1) = false := by rfl) : PE X (.Call (.Name x p) (e :: es) [] pos) (rdE C (dCall g fa)) := PE.imp (pe_callB hc hg hm hv ha hn hdb he hpl) fun _ _ _ => t_callB
theorem y_callTy (hc : CallR X (.type T) (rdC C g)) (hg : Gl X x) (hm : X.mg x = none) (hv : bootBuiltins x = some (.type T)) (ha : PA X (e :: es) (rdA C fa)) (hn : x ≠ "__name__" := by decide) (hdb : (x == ("__debug__" : Str)) = false := by decide)
    (he : starEach (e :: es) X.env = (false, eval e X.env) :: starEach es X.env := by rfl) (hpl : (backTo pos (starEach es X.env)).any (·.1) = false := by rfl) : PE X (.Call (.Name x p) (e :: es) [] pos) (rdE C (dCall g fa)) := PE.imp (pe_callTy hc hg hm hv ha hn hdb he hpl) fun _ _ _ => t_callB
/-- xs[::-1], a list of the store -/
@[simp] def dRevN (fe : En → Sto → R W) : En → Sto → R W := fun ρ st => (fe ρ st).bind fun w s => match items s w with
  | some ws => match w with
    | .d (.tuple _) => .bad
    | .o _ => .bad
    | _ => .ok (.ref s.length) (s ++ [.lst ws.reverse])
  | _ => .bad
theorem paired_rev {α β : Type} {F : α → β → Prop} {l₁ : List α} {l₂ : List β} (h : Paired F l₁ l₂) : Paired F l₁.reverse l₂.reverse := by
  induction h with
  | nil => exact .nil
  | cons x _ ih => rw [List.reverse_cons, List.reverse_cons]; exact paired_snoc ih x
theorem y_revN {k : Nat} {p1 p2 p3 : Pos} {fe : En → Sto → R W} (hK : C.K = X.K) (he : PE X e (rdE C fe)) : PE X (.Subscript e (.Slice none none (some (.UnaryOp .USub (.Constant (.int 1) k p1) p2)) p3) pos) (rdE C (dRevN fe)) := by
  obtain ⟨K, mg, E⟩ := C
  obtain rfl : K = X.K := hK
  refine PE.imp (pe_revL he) fun σ H Q q => ?_
  obtain ⟨Z0, θ, ρ, st, S, N, p⟩ := q
  refine ⟨Z0, θ, ρ, st, S, N, Post.bind p fun w st1 θ1 H1 v _ e1 S1 w1 p1 => ?_⟩
  split at p1
  · rename_i ws hw
    split at p1
    · exact p1.elim
    · exact p1.elim
    · rename_i nt no
      obtain ⟨a, vs, rfl, hs, r⟩ := items_sq S1 w1 hw
      rcases hs with hs | hs
      · exact ⟨a, vs, rfl, hs, fun t ht => p1.newRef S1 ht (paired_rev r)⟩
      · cases w with
        | d y =>
          cases y with
          | tuple ds => exact (nt ds rfl).elim
          | list ds =>
            cases w1 with
            | lst h1 h2 =>
              refine ⟨a, _, rfl, h1.sqL, fun t ht => p1.newRef S1 ht ?_⟩
              have : ws = ds.map W.d := by cases hw; rfl
              subst this
              exact paired_rev h2.toWRs
          | none => cases hw
          | bool _ => cases hw
          | int _ => cases hw
          | str _ => cases hw
          | dict _ => cases hw
        | ref n =>
          dsimp only [items] at hw
          split at hw
          · rename_i us hu
            cases hw
            obtain ⟨b, zs, e2, _, h3, h4⟩ := S1.at_ w1 hu
            cases e2
            exact ⟨_, zs, rfl, .inl (.inl h3), fun t ht => p1.newRef S1 ht (paired_rev h4)⟩
          · cases hw
        | o ns => exact (no ns rfl).elim
        | oo rows => cases hw
        | po x ns => cases hw
        | scr ns =>
          obtain ⟨b, e2, h1⟩ := w1
          cases e2
          refine ⟨_, _, rfl, h1.sqL, fun t ht => p1.newRef S1 ht ?_⟩
          have : ws = ns.map fun n => .d (.int n) := by cases hw; rfl
          subst this
          have := (pdAll_ints (K := X.K) (Z := Zs Z0 θ1) (H := H1) ns).toWRs (θ := θ1)
          rw [List.map_map] at this
          exact paired_rev this
  · exact p1.elim
/-- a module's constant -/
theorem y_glob {v : V} {u : Value} {d : PyData} (hg : Gl X x) (hm : X.mg x = some u) (r : RelV v u) (hp : ∀ K Z H, Pd K Z H v d) (hd : (x == ("__debug__" : Str)) = false := by decide) : PE X (.Name x pos) (rdE C (dLit d)) := y_lit (pe_glob hg hm r hd) hp
theorem y_meth {g : W → List W → Sto → R W} {name : Str} (hK : C.K = X.K) (pa : PlainAttrs "list") (slot : Slot "list" name id) (hty : typeOf (.builtin id) = pure (.type "method_descriptor")) (hm : MtR X id (rdM C g)) (ho : PE X o (rdE C fo)) (ha : PA X (e :: es) (rdA C fa))
    (hbase : attributeBase o name X.env (eval o X.env) = eval o X.env := by rfl)
    (hfew : ((backTo pos (starEach (e :: es) X.env)).all (fun x => !x.1) && (backToKw pos (keywordEach [] X.env)).all (fun x => x.1.isSome)
      && decide ((e :: es).length + ([] : List Keyword).length + (if ([] : List Keyword).isEmpty then 0 else 1) < 30)) = true := by rfl) (hline : (apos.endLine == pos.line) = true := by rfl) (hs : starEach (e :: es) X.env = (false, eval e X.env) :: starEach es X.env := by rfl) (hplain : (backTo pos (starEach es X.env)).any (·.1) = false := by rfl) :
    PE X (.Call (.Attribute o name apos) (e :: es) [] pos) (rdE C (dMeth g fo fa)) := by
  obtain ⟨K, mg, E⟩ := C
  obtain rfl : K = X.K := hK
  exact PE.imp (pe_bm pa slot hty hm ho ha hbase hfew hline hs hplain) fun _ _ _ => t_meth
theorem y_meth0 {g : W → List W → Sto → R W} {name : Str} (hK : C.K = X.K) (pa : PlainAttrs "list") (slot : Slot "list" name id) (hty : typeOf (.builtin id) = pure (.type "method_descriptor")) (hm : MtR X id (rdM C g)) (ho : PE X o (rdE C fo))
    (hbase : attributeBase o name X.env (eval o X.env) = eval o X.env := by rfl) (hline : (apos.endLine == pos.line) = true := by rfl) :
    PE X (.Call (.Attribute o name apos) [] [] pos) (rdE C (dMeth0 g fo)) := by
  obtain ⟨K, mg, E⟩ := C
  obtain rfl : K = X.K := hK
  exact PE.imp (pe_bm0 pa slot hty hm ho hbase hline) fun _ _ _ => t_meth0
end
section
variable {X : Cx} {C : Ct}
def pairs (i : Nat) : List PyData → List W
  | [] => []
  | d :: ds => .d (.tuple [.int i, d]) :: pairs (i + 1) ds
theorem pairs_length (ds : List PyData) : ∀ i, (pairs i ds).length = ds.length := by
  induction ds with
  | nil => intro i; rfl
  | cons d ds ih => intro i; simp [pairs, ih]
theorem pairs_get (ds : List PyData) : ∀ (i j : Nat), (pairs i ds)[j]? = ds[j]?.map fun d => W.d (.tuple [.int ((i + j : Nat)), d]) := by
  induction ds with
  | nil => intro i j; simp [pairs]
  | cons d ds ih =>
    intro i j
    cases j with
    | zero => simp [pairs]
    | succ j =>
      simp only [pairs, List.getElem?_cons_succ]
      rw [ih (i + 1) j, show i + 1 + j = i + (j + 1) by omega]
@[simp] def dEnum (fe : En → Sto → R W) : En → Sto → R (List W) := fun ρ st => (fe ρ st).bind fun w s => match w with
  | .d (.list ds) => .ok (pairs 0 ds) s
  | .d (.str z) => .ok (pairs 0 (z.cps.toList.map fun c => .str ⟨#[c]⟩)) s
  | _ => .bad
theorem newPair {K : PySem.W.Frag} {Z0 : Addr → Prop} {θ : List (Option Addr)} {H : Hp} {st : Sto} {T : Addr} {x y : V} {a b : PyData} (S : SR K Z0 θ st H) (hT : H T = none) (ra : Pd K (Zs Z0 θ) H x a) (rb : Pd K (Zs Z0 θ) H y b) :
    Ext θ H θ (upd H T (.tup [x, y])) ∧ SR K Z0 θ st (upd H T (.tup [x, y])) ∧ WR K (Zs Z0 θ) θ (upd H T (.tup [x, y])) (.d (.tuple [a, b])) (.ref T) ∧ ∀ c, H c ≠ none → upd H T (.tup [x, y]) c = H c :=
  ⟨Ext.alloc hT, S.alloc hT, show Pd _ _ _ _ _ from .tup upd_same (.cons (Pd.ext (Ext.alloc hT) ra) (.cons (Pd.ext (Ext.alloc hT) rb) .nil)), fun c hc => upd_ne fun z => hc (z ▸ hT)⟩
end
end Y
namespace Y
open PySem PySem.Spec PyProof.Rows L2
theorem y_yes {X : Cx} {C : Ct} : PTs X [] (rdT C fun _ st => .ok true st) := ⟨fun pins s σ H Q I q => pts_nil.run pins s σ H Q I (by
  obtain ⟨Z0, θ, ρ, st, S, N, p⟩ := q
  exact p.now S rfl)⟩
end Y
namespace Y
open PySem PySem.Spec PyProof.Rows L2
@[simp] theorem chk_true {α : Type} {r : R α} : chk True r = r := chk_ok trivial
abbrev I (i : Int) : W := .d (.int i)
@[simp high] theorem map_I (cs : List Int) : List.map W.d (List.map PyData.int cs) = List.map I cs := by simp
theorem vMulR {i j : Int} {st : Sto} (h : j.natAbs < 2 ^ 64) : vMul (.d (.int i)) (.d (.int j)) st = .ok (.d (.int (i * j))) st := by
  simp only [vMul, vIntC]
  refine chk_ok ?_
  simp only [cMul, Bool.or_eq_true, Bool.and_eq_true, decide_eq_true_eq]
  omega
theorem vDivP {i j : Int} {st : Sto} (h : 0 < j) (h2 : j < 1073741824) : vDiv (.d (.int i)) (.d (.int j)) st = .ok (.d (.int (i / j))) st := by
  simp only [vDiv, vIntC]
  rw [chk_ok (by simp only [cDiv, Bool.or_eq_true, Bool.and_eq_true, decide_eq_true_eq]; exact .inl (by omega)), Int.fdiv_eq_ediv_of_nonneg _ (by omega)]
theorem vDivPW {i j : Int} {st : Sto} (h : 0 < j) (h2 : j.natAbs.log2 < 9000) : vDiv (.d (.int i)) (.d (.int j)) st = .ok (.d (.int (i / j))) st := by
  simp only [vDiv, vIntC]
  rw [chk_ok (by simp only [cDiv, Bool.or_eq_true, Bool.and_eq_true, decide_eq_true_eq]; exact .inr ⟨h, h2⟩), Int.fdiv_eq_ediv_of_nonneg _ (by omega)]
theorem vModP {i j : Int} {st : Sto} (h : 0 < j) : vMod (.d (.int i)) (.d (.int j)) st = .ok (.d (.int (i % j))) st := by
  simp only [vMod, vIntC]
  rw [chk_ok (by simp only [cMod, decide_eq_true_eq]; omega), Int.fmod_eq_emod_of_nonneg _ (by omega)]
theorem asInts_I (cs : List Int) : allD (cs.map I) = some (cs.map .int) := by
  induction cs with
  | nil => rfl
  | cons c cs ih => simp [allD, I, ih]
theorem canLay_ints (cs : List Int) : PyData.canLayAll0 (cs.map .int) = true := by
  induction cs with
  | nil => rfl
  | cons c cs ih => simp [PyData.canLayAll0, PyData.canLay0, ih]
theorem depth_ints (cs : List Int) : PyData.depthAll (cs.map .int) ≤ 1 := by
  induction cs with
  | nil => simp [PyData.depthAll]
  | cons c cs ih => simp [PyData.depthAll, PyData.depth]; omega
theorem shaped_ints (cs : List Int) : SeqAt.shaped (.list (cs.map .int)) = true := by
  unfold SeqAt.shaped
  rw [Bool.and_eq_true]
  refine ⟨by simp [PyData.canLay0, canLay_ints], ?_⟩
  have := depth_ints cs
  simp [PyData.depth]; omega
theorem shaped_int (i : Int) : SeqAt.shaped (.int i) = true := by simp [SeqAt.shaped, PyData.canLay0, PyData.depth]
theorem shaped_nil : SeqAt.shaped (.list []) = true := shaped_ints []
/-- a deal: a list of the rest to draw from, and a number -/
def DealIs (st : Sto) (n c : Nat) (cs : List Int) (b : Int) : Prop := st[n]? = some (.lst [.ref c, .d (.int b)]) ∧ st[c]? = some (.lst (cs.map I)) ∧ n ≠ c ∧ (∀ x ∈ cs, 0 ≤ x) ∧ cs.length ≤ 63
def DealOk (st : Sto) (n c : Nat) : Prop := ∃ cs b, DealIs st n c cs b
/-- what a draw leaves as it was -/
structure Dealt (n c : Nat) (st st' : Sto) : Prop where
  le : st.length ≤ st'.length
  keep : ∀ j, j < st.length → j ≠ n → j ≠ c → st'[j]? = st[j]?
  ok : DealOk st' n c
theorem Dealt.trans {n c : Nat} {s1 s2 s3 : Sto} (a : Dealt n c s1 s2) (b : Dealt n c s2 s3) : Dealt n c s1 s3 :=
  ⟨Nat.le_trans a.le b.le, fun j h h1 h2 => (b.keep j (Nat.lt_of_lt_of_le h a.le) h1 h2).trans (a.keep j h h1 h2), b.ok⟩
theorem Dealt.refl {n c : Nat} {st : Sto} (h : DealOk st n c) : Dealt n c st st := ⟨Nat.le_refl _, fun _ _ _ _ => rfl, h⟩
noncomputable def wAny : DS := (dWhile (dAnd (fun ρ st => asB (dBin (vEq true) (dBin vIx (dVar 0) (dLit (.int 0))) (dLst dNil) ρ st)) (fun ρ st => asB (dBin (vEq false) (dBin vIx (dBin vIx (dVar 0) (dLit (.int 0))) (dUn vNeg (dLit (.int 1)))) (dLit (.int 0)) ρ st)))
    (dExpr (dMeth0 mPop (dBin vIx (dVar 0) (dLit (.int 0))))))
noncomputable def B_any : DS :=
  (dSeq wAny
    (dSeq (dIfS (fun ρ st => asB (dBin (vEq true) (dBin vIx (dVar 0) (dLit (.int 0))) (dLst dNil) ρ st))
    (dSeq (dSet 2 (dCall gInt (dCons (dMeth0 mPop (dBin vIx (dVar 0) (dLit (.int 0)))) dNil)))
    (dSeq (dExpr (dMeth mAppend (dBin vIx (dVar 0) (dLit (.int 0))) (dCons (dBin vDiv (dVar 2) (dVar 1)) dNil)))
    (dRet (dBin vMod (dVar 2) (dVar 1)))))
    dEnd)
    (dSeq (dSetIx (dBin vMod (dCall gInt (dCons (dBin vAdd (dBin vMul (dBin vIx (dVar 0) (dLit (.int 1))) (dLit (.int 40693))) (dLit (.int 71))) dNil)) (dLit (.int 2147483647))) (dVar 0) (dLit (.int 1)))
    (dRet (dBin vMod (dCall gInt (dCons (dBin vDiv (dBin vIx (dVar 0) (dLit (.int 1))) (dLit (.int 64))) dNil)) (dVar 1))))))
noncomputable def F_any : Fn := dDef 3 B_any
theorem atI_zero {α : Type} (x : α) (xs : List α) : atI (x :: xs) 0 = some x := atI_nat (j := 0) rfl
theorem atI_one {α : Type} (x y : α) (xs : List α) : atI (x :: y :: xs) 1 = some y := atI_nat (j := 1) rfl
theorem atI_end {α : Type} (xs : List α) (v : α) : atI (xs ++ [v]) (-1) = some v := atI_last xs v
theorem DealIs.set {st : Sto} {n c : Nat} {cs ds : List Int} {b : Int} (h : DealIs st n c cs b) (hd : ∀ x ∈ ds, 0 ≤ x) (hl : ds.length ≤ 63) : DealIs (st.set c (.lst (ds.map I))) n c ds b := by
  obtain ⟨h1, h2, h3, h4, h5⟩ := h
  refine ⟨by rw [List.getElem?_set_ne (Ne.symm h3)]; exact h1, ?_, h3, hd, hl⟩
  rw [List.getElem?_set_self (List.getElem?_eq_some_iff.mp h2).1]
theorem DealIs.num {st : Sto} {n c : Nat} {cs : List Int} {b b' : Int} (h : DealIs st n c cs b) : DealIs (st.set n (.lst [.ref c, .d (.int b')])) n c cs b' := by
  obtain ⟨h1, h2, h3, h4, h5⟩ := h
  refine ⟨?_, by rw [List.getElem?_set_ne h3]; exact h2, h3, h4, h5⟩
  rw [List.getElem?_set_self (List.getElem?_eq_some_iff.mp h1).1]
abbrev cAny : En → Sto → R Bool := dAnd (fun ρ st => asB (dBin (vEq true) (dBin vIx (dVar 0) (dLit (.int 0))) (dLst dNil) ρ st)) (fun ρ st => asB (dBin (vEq false) (dBin vIx (dBin vIx (dVar 0) (dLit (.int 0))) (dUn vNeg (dLit (.int 1)))) (dLit (.int 0)) ρ st))
abbrev tAny : DS := dExpr (dMeth0 mPop (dBin vIx (dVar 0) (dLit (.int 0))))
section
variable {st : Sto} {n c : Nat} {cs : List Int} {b k y : Int} {e : Option W}
theorem any_empty (h : DealIs st n c cs b) : asB (dBin (vEq true) (dBin vIx (dVar 0) (dLit (.int 0))) (dLst dNil) [some (.ref n), some (.d (.int k)), e] st) = .ok (!cs.isEmpty) st := by
  obtain ⟨h1, h2, h3, h4, h5⟩ := h
  simp [h1, h2, atI_zero, asInts_I, shaped_ints, shaped_nil]
  cases cs <;> simp [PyData.eqv, PyData.eqvAll]
theorem any_nil (h : DealIs st n c [] b) : cAny [some (.ref n), some (.d (.int k)), e] st = .ok false st := by
  have := any_empty (k := k) (e := e) h
  dsimp only [cAny, dAnd]
  rw [this]; rfl
theorem any_snoc (h : DealIs st n c (cs ++ [y]) b) : cAny [some (.ref n), some (.d (.int k)), e] st = .ok (decide (y = 0)) st := by
  have := any_empty (k := k) (e := e) h
  dsimp only [cAny, dAnd]
  rw [this]
  obtain ⟨h1, h2, h3, h4, h5⟩ := h
  have e1 : (cs ++ [y]).isEmpty = false := by cases cs <;> rfl
  simp [h1, h2, e1, atI_zero, atI_end, shaped_int, PyData.eqv]
  by_cases hy : y = 0 <;> simp [hy]
theorem any_pop (h : DealIs st n c (cs ++ [y]) b) : tAny [some (.ref n), some (.d (.int k)), e] st = .ok (.nx, [some (.ref n), some (.d (.int k)), e]) (st.set c (.lst (cs.map I))) := by
  obtain ⟨h1, h2, h3, h4, h5⟩ := h
  simp [h1, h2, atI_zero]
theorem DealIs.pop (h : DealIs st n c (cs ++ [y]) b) : DealIs (st.set c (.lst (cs.map I))) n c cs b :=
  h.set (fun x hx => h.2.2.2.1 x (List.mem_append_left _ hx)) (by have := h.2.2.2.2; simp at this; omega)
theorem any_loop : ∀ (m : Nat) (st : Sto) (cs : List Int), cs.length = m → DealIs st n c cs b → ∃ ds st', whileN cAny tAny (m + 1) [some (.ref n), some (.d (.int k)), e] st = .ok (.nx, [some (.ref n), some (.d (.int k)), e]) st' ∧ DealIs st' n c ds b ∧ st'.length = st.length ∧ ∀ j, j ≠ c → st'[j]? = st[j]? := by
  intro m
  induction m with
  | zero =>
    intro st cs hm h
    have : cs = [] := List.length_eq_zero_iff.mp hm
    subst this
    exact ⟨[], st, by unfold whileN; rw [any_nil h]; rfl, h, rfl, fun _ _ => rfl⟩
  | succ m ih =>
    intro st cs hm h
    have hne : cs ≠ [] := by intro z; rw [z] at hm; cases hm
    rw [← List.dropLast_concat_getLast hne] at h
    by_cases hy : cs.getLast hne = 0
    · obtain ⟨ds, st', h1, h2, h3, h4⟩ := ih _ _ (by simp; omega) h.pop
      refine ⟨ds, st', ?_, h2, by rw [h3]; simp, fun j hj => by rw [h4 j hj, List.getElem?_set_ne (Ne.symm hj)]⟩
      show (cAny _ st).bind _ = _
      rw [any_snoc h, R.bind_ok, if_pos (by simp [hy]), any_pop h, R.bind_ok]
      exact h1
    · refine ⟨_, st, ?_, h, rfl, fun _ _ => rfl⟩
      show (cAny _ st).bind _ = _
      rw [any_snoc h, R.bind_ok, if_neg (by simp [hy])]
theorem any_while (h : DealIs st n c cs b) : ∃ ds st', wAny [some (.ref n), some (.d (.int k)), e] st = .ok (.nx, [some (.ref n), some (.d (.int k)), e]) st' ∧ DealIs st' n c ds b ∧ st'.length = st.length ∧ ∀ j, j ≠ c → st'[j]? = st[j]? := by
  obtain ⟨ds, st', h1, h2⟩ := any_loop (k := k) (e := e) _ st cs rfl h
  exact ⟨ds, st', dWhile_of h1 (by simp), h2⟩
/-- a draw below k -/
theorem F_any_okW (h : DealOk st n c) (h0 : 0 < k) (h1 : k.natAbs.log2 < 9000) : ∃ r st', F_any [.ref n, .d (.int k)] st = .ok (.d (.int r)) st' ∧ 0 ≤ r ∧ r < k ∧ Dealt n c st st' ∧ st'.length = st.length := by
  obtain ⟨cs, b, h⟩ := h
  obtain ⟨ds, s1, e1, hd, l1, k1⟩ := any_while (k := k) (e := none) h
  have e0 : F_any [.ref n, .d (.int k)] st = (B_any [some (.ref n), some (.d (.int k)), none] st).bind fun a s => match a.1 with
      | .rt w => .ok w s
      | .nx => .ok (.d .none) s
      | _ => .bad := rfl
  have em := any_empty (k := k) (e := none) hd
  by_cases hds : ds = []
  · subst hds
    refine ⟨(b * 40693 + 71) % 2147483647 / 64 % k, s1.set n (.lst [.ref c, .d (.int ((b * 40693 + 71) % 2147483647))]), ?_, Int.emod_nonneg _ (by omega), Int.emod_lt_of_pos _ h0, ⟨by simp [l1], fun j hj a1 a2 => by rw [List.getElem?_set_ne (Ne.symm a1), k1 j a2], ⟨[], _, hd.num⟩⟩, by simp [l1]⟩
    obtain ⟨g1, g2, g3, g4, g5⟩ := hd
    have gs : ∀ o, (s1.set n o)[n]? = some o := fun o => List.getElem?_set_self (List.getElem?_eq_some_iff.mp g1).1
    rw [e0]
    unfold B_any
    rw [dSeq, e1, R.bind_ok]
    simp only [dSeq, dIfS]
    rw [em]
    have q : ixN 2 1 = some 1 := by decide
    simp [g1, g2, atI_zero, atI_one, q]
    rw [vMulR (by decide)]
    simp
    rw [vModP (by decide)]
    simp only [g1, List.length_cons, List.length_nil, q, R.bind_ok, List.getElem?_cons_zero, List.getElem?_cons_succ, List.set_cons_succ, List.set_cons_zero, gs, atI_one, Nat.reduceAdd]
    rw [vDivP (by decide) (by decide)]
    simp
    rw [vModP h0]
    simp
  · have hne := hds
    rw [← List.dropLast_concat_getLast hne] at hd em
    generalize hy : ds.getLast hne = y at hd em
    generalize hz : ds.dropLast = zs at hd em
    have y0 : 0 ≤ y := hd.2.2.2.1 y (by simp)
    have hp := hd.pop
    have fin : DealIs (s1.set c (.lst ((zs ++ [y / k]).map I))) n c (zs ++ [y / k]) b := hd.set (fun x hx => by
      rcases List.mem_append.mp hx with hx | hx
      · exact hd.2.2.2.1 x (List.mem_append_left _ hx)
      · have : x = y / k := by simpa using hx
        rw [this]; exact Int.ediv_nonneg y0 (by omega)) (by have := hd.2.2.2.2; simpa using this)
    refine ⟨y % k, s1.set c (.lst ((zs ++ [y / k]).map I)), ?_, Int.emod_nonneg _ (by omega), Int.emod_lt_of_pos _ h0, ⟨by simp [l1], fun j hj a1 a2 => by rw [List.getElem?_set_ne (Ne.symm a2), k1 j a2], ⟨_, _, fin⟩⟩, by simp [l1]⟩
    obtain ⟨g1, g2, g3, g4, g5⟩ := hd
    have hc : c < s1.length := (List.getElem?_eq_some_iff.mp g2).1
    have g1' : (s1.set c (.lst (zs.map I)))[n]? = some (.lst [.ref c, .d (.int b)]) := by rw [List.getElem?_set_ne (Ne.symm g3)]; exact g1
    have g2' : (s1.set c (.lst (zs.map I)))[c]? = some (.lst (zs.map I)) := List.getElem?_set_self hc
    have e2 : (zs ++ [y]).isEmpty = false := by cases zs <;> rfl
    have room : (zs.map I).length < sizeLine := by
      simp only [List.length_append, List.length_map, List.length_singleton] at g5 ⊢
      rw [sizeLine_eq]; omega
    rw [e0]
    unfold B_any
    rw [dSeq, e1, R.bind_ok]
    simp only [dSeq, dIfS]
    rw [em]
    simp [g1, g2, g1', g2', e2, atI_zero]
    rw [vDivPW h0 h1]
    simp at room
    simp [g1', g2', atI_zero, room, chk_ok]
    rw [vModP h0]
    simp
theorem F_any_ok (h : DealOk st n c) (h0 : 0 < k) (h1 : k < 1073741824) : ∃ r st', F_any [.ref n, .d (.int k)] st = .ok (.d (.int r)) st' ∧ 0 ≤ r ∧ r < k ∧ Dealt n c st st' ∧ st'.length = st.length :=
  F_any_okW h h0 (Nat.lt_trans ((Nat.log2_lt (by omega)).mpr (show k.natAbs < 2 ^ 30 by omega)) (by decide))
end
end Y
namespace Y
open PySem PySem.Spec PyProof.Rows L2
theorem lcL_yes {tg : W → En → Sto → R En} {tt : En → Sto → R Bool} {fe : En → Sto → R W} {ρ ρ1 : En} {w u : W} {ws : List W} {st s1 s2 s3 : Sto} (h1 : tg w ρ st = .ok ρ1 s1) (h2 : tt ρ1 s1 = .ok true s2) (h3 : fe ρ1 s2 = .ok u s3) :
    lcL tg tt fe ρ (w :: ws) st = (lcL tg tt fe ρ ws s3).bind fun us s4 => .ok (u :: us) s4 := by
  simp [lcL, h1, h2, h3]
theorem lcL_no {tg : W → En → Sto → R En} {tt : En → Sto → R Bool} {fe : En → Sto → R W} {ρ ρ1 : En} {w : W} {ws : List W} {st s1 s2 : Sto} (h1 : tg w ρ st = .ok ρ1 s1) (h2 : tt ρ1 s1 = .ok false s2) :
    lcL tg tt fe ρ (w :: ws) st = lcL tg tt fe ρ ws s2 := by
  simp [lcL, h1, h2]
theorem lcL_map {α : Type} {tg : W → En → Sto → R En} {fe : En → Sto → R W} {ρ : En} {s : Sto} {emb g : α → W} : ∀ (ws : List α), (∀ a ∈ ws, ∃ ρ1, tg (emb a) ρ s = .ok ρ1 s ∧ fe ρ1 s = .ok (g a) s) → lcL tg (fun _ st => .ok true st) fe ρ (ws.map emb) s = .ok (ws.map g) s
  | [], _ => rfl
  | a :: ws, h => by
    obtain ⟨ρ1, h1, h2⟩ := h a List.mem_cons_self
    rw [List.map_cons, lcL_yes h1 rfl h2, lcL_map ws fun b hb => h b (List.mem_cons_of_mem _ hb)]
    rfl
theorem lcL_filter {α : Type} {tg : W → En → Sto → R En} {tt : En → Sto → R Bool} {fe : En → Sto → R W} {ρ : En} {s : Sto} {emb g : α → W} {p : α → Bool} : ∀ (ws : List α), (∀ a ∈ ws, ∃ ρ1, tg (emb a) ρ s = .ok ρ1 s ∧ tt ρ1 s = .ok (p a) s ∧ (p a = true → fe ρ1 s = .ok (g a) s)) → lcL tg tt fe ρ (ws.map emb) s = .ok ((ws.filter p).map g) s
  | [], _ => rfl
  | a :: ws, h => by
    obtain ⟨ρ1, h1, h2, h3⟩ := h a List.mem_cons_self
    have ih := lcL_filter ws fun b hb => h b (List.mem_cons_of_mem _ hb)
    cases hp : p a with
    | true =>
      rw [hp] at h2
      rw [List.map_cons, lcL_yes h1 h2 (h3 hp), ih, List.filter_cons_of_pos hp]
      rfl
    | false =>
      rw [hp] at h2
      rw [List.map_cons, lcL_no h1 h2, ih, List.filter_cons_of_neg (by simp [hp])]
/-- each turn may change the store -/
theorem lcL_inv {α : Type} {tg : W → En → Sto → R En} {fe : En → Sto → R W} {ρ : En} {emb : α → W} {P : Sto → Prop} {Q : W → Prop} : ∀ (ws : List α) (s : Sto), P s → (∀ a ∈ ws, ∀ s, P s → ∃ ρ1 u s', tg (emb a) ρ s = .ok ρ1 s ∧ fe ρ1 s = .ok u s' ∧ Q u ∧ P s') → ∃ us s', lcL tg (fun _ st => .ok true st) fe ρ (ws.map emb) s = .ok us s' ∧ us.length = ws.length ∧ (∀ u ∈ us, Q u) ∧ P s'
  | [], s, h, _ => ⟨[], s, rfl, rfl, (fun _ z => nomatch z), h⟩
  | a :: ws, s, h, t => by
    obtain ⟨ρ1, u, s1, h1, h2, h3, h4⟩ := t a List.mem_cons_self s h
    obtain ⟨us, s2, g1, g2, g3, g4⟩ := lcL_inv ws s1 h4 fun b hb => t b (List.mem_cons_of_mem _ hb)
    refine ⟨u :: us, s2, ?_, by simp [g2], fun v hv => ?_, g4⟩
    · rw [List.map_cons, lcL_yes h1 rfl h2, g1]
      rfl
    · rcases List.mem_cons.mp hv with rfl | hv
      · exact h3
      · exact g3 v hv
theorem forL_inv {α : Type} {tg : W → En → Sto → R En} {body : DS} {emb : α → W} {P : List α → En → Sto → Prop} (all : List α)
    (step : ∀ pre a post ρ s, all = pre ++ a :: post → P pre ρ s → ∃ ρ1 s1 ρ2 s2, tg (emb a) ρ s = .ok ρ1 s1 ∧ body ρ1 s1 = .ok (.nx, ρ2) s2 ∧ P (pre ++ [a]) ρ2 s2) :
    ∀ (post pre : List α) (ρ : En) (s : Sto), all = pre ++ post → P pre ρ s → ∃ ρ' s', forL tg body (post.map emb) ρ s = .ok (.nx, ρ') s' ∧ P all ρ' s'
  | [], pre, ρ, s, h, p => ⟨ρ, s, rfl, by rw [h, List.append_nil]; exact p⟩
  | a :: post, pre, ρ, s, h, p => by
    obtain ⟨ρ1, s1, ρ2, s2, h1, h2, h3⟩ := step pre a post ρ s h p
    obtain ⟨ρ', s', g1, g2⟩ := forL_inv all step post (pre ++ [a]) ρ2 s2 (by rw [h]; simp) h3
    refine ⟨ρ', s', ?_, g2⟩
    show (tg (emb a) ρ s).bind _ = _
    rw [h1, R.bind_ok, h2]
    exact g1
theorem cut_map {α β : Type} (f : α → β) (xs : List α) (lo hi : Option Int) : cut (xs.map f) lo hi = (cut xs lo hi).map f := by
  unfold cut
  simp [List.map_drop, List.map_take]
theorem cut_len {α : Type} (xs : List α) (lo hi : Option Int) : (cut xs lo hi).length ≤ xs.length := by
  unfold cut
  rw [List.length_take, List.length_drop]; omega
noncomputable def B_draw : DS :=
  (dSeq (dSet 2 (dLcF (dLc [4] (dIter (dSl (dVar 0) dNoP (dPart (dLit (.int 48))))) (tName 4) (fun _ st => .ok true st) (dCall gAbs (dCons (dCall gInt (dCons (dVar 4) dNil)) dNil)))))
    (dSeq (dSet 3 (dBin vAdd (dLit (.int 7919)) (dBin vMul (dLit (.int 104729)) (dVar 1))))
    (dSeq (dFor (dIter (dVar 2)) (tName 4)
    (dSet 3 (dBin vMod (dCall gInt (dCons (dBin vAdd (dBin vAdd (dBin vMul (dVar 3) (dLit (.int 48271))) (dBin vMod (dVar 4) (dLit (.int 2147483549)))) (dLit (.int 11))) dNil)) (dLit (.int 2147483647)))))
    (dRet (dNew (dCons (dRevN (dLcF (dLc [4] (dIter (dVar 2)) (tName 4) (fun ρ st => asB (dBin vGe (dVar 4) (dBin vPow (dLit (.int 10)) (dLit (.int 18))) ρ st)) (dVar 4)))) (dCons (dVar 3) dNil)))))))
noncomputable def F_draw : Fn := dDef 5 B_draw
theorem dSeq_nx {f g : DS} {ρ ρ' : En} {s s' : Sto} (h : f ρ s = .ok (.nx, ρ') s') : dSeq f g ρ s = g ρ' s' := by
  unfold dSeq; rw [h]; rfl
theorem dSeq_rt {f g : DS} {ρ ρ' : En} {s s' : Sto} {w : W} (h : f ρ s = .ok (.rt w, ρ') s') : dSeq f g ρ s = .ok (.rt w, ρ') s' := by
  unfold dSeq; rw [h]; rfl
theorem dDef_rt {n : Nat} {B : DS} {ws : List W} {s s' : Sto} {w : W} {ρ' : En} (h : B (ws.map some ++ List.replicate (n - ws.length) none) s = .ok (.rt w, ρ') s') : dDef n B ws s = .ok w s' := by
  unfold dDef; rw [h]; rfl
theorem F_draw_ok (ns : List Int) (k : Int) (hns : ns.length ≤ 63) (hk : k.natAbs < 2 ^ 64) : ∃ st, F_draw [.scr ns, .d (.int k)] [] = .ok (.ref 1) st ∧ DealOk st 1 0 := by
  have hcell : (dSet 2 (dLcF (dLc [4] (dIter (dSl (dVar 0) dNoP (dPart (dLit (.int 48))))) (tName 4) (fun _ st => .ok true st) (dCall gAbs (dCons (dCall gInt (dCons (dVar 4) dNil)) dNil))))) [some (.scr ns), some (.d (.int k)), none, none, none] [] =
      .ok (.nx, [some (.scr ns), some (.d (.int k)), some (.d (.list (((cut ns none (some 48)).map fun i => if i < 0 then -i else i).map .int))), none, none]) [] := by
    have e1 : lcL (tName 4) (fun _ st => .ok true st) (dCall gAbs (dCons (dCall gInt (dCons (dVar 4) dNil)) dNil)) [some (.scr ns), some (.d (.int k)), none, none, none] ((cut ns none (some 48)).map I) [] = .ok ((cut ns none (some 48)).map fun i => I (if i < 0 then -i else i)) [] :=
      lcL_map _ fun a _ => ⟨[some (.scr ns), some (.d (.int k)), none, none, some (I a)], by simp, by simp [I]⟩
    have e2 : ((cut ns none (some 48)).map fun i => I (if i < 0 then -i else i)) = (((cut ns none (some 48)).map fun i => if i < 0 then -i else i).map I) := by simp
    have hl := cut_len ns none (some 48)
    simp only [dSet, dLcF, dLc, dIter, dSl, dVar, dNoP, dPart, dLit, vSl, asD, seqD, wipeE, R.bind_ok, List.getElem?_cons_zero, cut_map, map_I, List.set_cons_succ, List.set_cons_zero]
    rw [e1, R.bind_ok, chk_ok (by rw [List.length_map, sizeLine_eq]; omega)]
    rw [R.bind_ok, e2, asInts_I]
    simp
  generalize hcs : (cut ns none (some 48)).map (fun i => if i < 0 then -i else i) = cs at hcell
  have hpos : ∀ x ∈ cs, 0 ≤ x := by
    intro x hx
    rw [← hcs] at hx
    obtain ⟨y, _, rfl⟩ := List.mem_map.mp hx
    split <;> omega
  have hlen : cs.length ≤ 63 := by
    rw [← hcs, List.length_map]
    have := cut_len ns none (some 48)
    omega
  have hset : (dSet 3 (dBin vAdd (dLit (.int 7919)) (dBin vMul (dLit (.int 104729)) (dVar 1)))) [some (.scr ns), some (.d (.int k)), some (.d (.list (cs.map .int))), none, none] [] = .ok (.nx, [some (.scr ns), some (.d (.int k)), some (.d (.list (cs.map .int))), some (I (7919 + 104729 * k)), none]) [] := by
    simp
    rw [vMulR hk]
    simp
  obtain ⟨ρ, s, hfor, x, y, hρ, hs⟩ := forL_inv (tg := tName 4) (emb := I) (body := dSet 3 (dBin vMod (dCall gInt (dCons (dBin vAdd (dBin vAdd (dBin vMul (dVar 3) (dLit (.int 48271))) (dBin vMod (dVar 4) (dLit (.int 2147483549)))) (dLit (.int 11))) dNil)) (dLit (.int 2147483647))))
    (P := fun pre ρ s => ∃ b x, ρ = [some (.scr ns), some (.d (.int k)), some (.d (.list (cs.map .int))), some (I b), x] ∧ s = []) cs
    (fun pre a post ρ s e p => by
      obtain ⟨b, x, rfl, rfl⟩ := p
      refine ⟨_, [], [some (.scr ns), some (.d (.int k)), some (.d (.list (cs.map .int))), some (I ((b * 48271 + a % 2147483549 + 11) % 2147483647)), some (I a)], [], rfl, ?_, _, _, rfl, rfl⟩
      · simp (disch := decide) [vMulR, vModP, List.getElem?_cons_zero]) cs [] _ [] rfl ⟨7919 + 104729 * k, none, rfl, rfl⟩
  subst hρ hs
  have hfor' : (dFor (dIter (dVar 2)) (tName 4) (dSet 3 (dBin vMod (dCall gInt (dCons (dBin vAdd (dBin vAdd (dBin vMul (dVar 3) (dLit (.int 48271))) (dBin vMod (dVar 4) (dLit (.int 2147483549)))) (dLit (.int 11))) dNil)) (dLit (.int 2147483647))))) [some (.scr ns), some (.d (.int k)), some (.d (.list (cs.map .int))), some (I (7919 + 104729 * k)), none] [] = .ok (.nx, [some (.scr ns), some (.d (.int k)), some (.d (.list (cs.map .int))), some (I x), y]) [] := by
    rw [← hfor]
    simp
  have hret : (dRet (dNew (dCons (dRevN (dLcF (dLc [4] (dIter (dVar 2)) (tName 4) (fun ρ st => asB (dBin vGe (dVar 4) (dBin vPow (dLit (.int 10)) (dLit (.int 18))) ρ st)) (dVar 4)))) (dCons (dVar 3) dNil)))) [some (.scr ns), some (.d (.int k)), some (.d (.list (cs.map .int))), some (I x), y] [] =
      .ok (.rt (.ref 1), [some (.scr ns), some (.d (.int k)), some (.d (.list (cs.map .int))), some (I x), y]) [.lst ((cs.filter fun c => decide ((10 : Int) ^ 18 ≤ c)).reverse.map I), .lst [.ref 0, I x]] := by
    have e1 : lcL (tName 4) (fun ρ st => asB (dBin vGe (dVar 4) (dBin vPow (dLit (.int 10)) (dLit (.int 18))) ρ st)) (dVar 4) [some (.scr ns), some (.d (.int k)), some (.d (.list (cs.map .int))), some (I x), none] (cs.map I) [] = .ok ((cs.filter fun c => decide ((10 : Int) ^ 18 ≤ c)).map I) [] :=
      lcL_filter _ fun a _ => ⟨[some (.scr ns), some (.d (.int k)), some (.d (.list (cs.map .int))), some (I x), some (I a)], by simp, by simp [vIntC, cPow, I, chk_ok], by simp⟩
    have hl : (cs.filter fun c => decide ((10 : Int) ^ 18 ≤ c)).length ≤ cs.length := List.length_filter_le _ _
    simp only [dRet, dNew, dCons, dNil, dRevN, dLcF, dLc, dIter, dVar, seqD, wipeE, R.bind_ok, List.getElem?_cons_zero, List.getElem?_cons_succ, map_I, List.set_cons_succ, List.set_cons_zero]
    rw [e1, R.bind_ok, chk_ok (by rw [List.length_map, sizeLine_eq]; omega), R.bind_ok, asInts_I]
    simp only [R.bind_ok, items, List.length_cons, List.length_nil, List.length_append, List.nil_append, map_I]
    rw [chk_ok (by rw [sizeLine_eq]; omega)]
    simp
  refine ⟨_, dDef_rt (by
    show B_draw [some (.scr ns), some (.d (.int k)), none, none, none] [] = _
    unfold B_draw
    rw [dSeq_nx hcell, dSeq_nx hset, dSeq_nx hfor', hret]), (cs.filter fun c => decide ((10 : Int) ^ 18 ≤ c)).reverse, x, by simp, by simp, by decide, fun c hc => hpos c (List.mem_filter.mp (List.mem_reverse.mp hc)).1, ?_⟩
  rw [List.length_reverse]
  exact Nat.le_trans (List.length_filter_le _ _) hlen
end Y
namespace Y
open PySem PySem.Spec PyProof.Rows L2
theorem canLayAll_of {xs : List PyData} (h : ∀ x ∈ xs, x.canLay0 = true) : PyData.canLayAll0 xs = true := by
  induction xs with
  | nil => rfl
  | cons x xs ih =>
    rw [PyData.canLayAll0, h x List.mem_cons_self, ih fun y hy => h y (List.mem_cons_of_mem _ hy)]
    rfl
theorem depthAll_of {xs : List PyData} {k : Nat} (h : ∀ x ∈ xs, x.depth ≤ k) : PyData.depthAll xs ≤ k := by
  induction xs with
  | nil => exact Nat.zero_le _
  | cons x xs ih =>
    rw [PyData.depthAll]
    exact Nat.max_le.mpr ⟨h x List.mem_cons_self, ih fun y hy => h y (List.mem_cons_of_mem _ hy)⟩
/-- data that can be laid, at most k deep -/
def Dk (k : Nat) (d : PyData) : Prop := d.canLay0 = true ∧ d.depth ≤ k
theorem Dk.int {k : Nat} (i : Int) : Dk k (.int i) := ⟨rfl, Nat.zero_le _⟩
theorem Dk.bl {k : Nat} (i : Bool) : Dk k (.bool i) := ⟨rfl, Nat.zero_le _⟩
theorem Dk.non {k : Nat} : Dk k .none := ⟨rfl, Nat.zero_le _⟩
theorem Dk.str {k : Nat} {x : Str} (h : PyData.strOk x = true) : Dk k (.str x) := ⟨by rw [PyData.canLay0]; exact h, Nat.zero_le _⟩
theorem Dk.lst {k : Nat} {xs : List PyData} (h : ∀ x ∈ xs, Dk k x) : Dk (k + 1) (.list xs) :=
  ⟨by rw [PyData.canLay0]; exact canLayAll_of fun x hx => (h x hx).1, by rw [PyData.depth]; exact Nat.succ_le_succ (depthAll_of fun x hx => (h x hx).2)⟩
theorem Dk.tup {k : Nat} {xs : List PyData} (h : ∀ x ∈ xs, Dk k x) : Dk (k + 1) (.tuple xs) :=
  ⟨by rw [PyData.canLay0]; exact canLayAll_of fun x hx => (h x hx).1, by rw [PyData.depth]; exact Nat.succ_le_succ (depthAll_of fun x hx => (h x hx).2)⟩
theorem Dk.shaped {k : Nat} {d : PyData} (h : Dk k d) (hk : k ≤ 64) : SeqAt.shaped d = true := by
  unfold SeqAt.shaped
  rw [Bool.and_eq_true, decide_eq_true_eq]
  exact ⟨h.1, Nat.le_trans h.2 hk⟩
/-- repr of data -/
theorem repr_ok {d : PyData} {st : Sto} {k w : Nat} (h : Dk k d) (hk : k ≤ 64) (hs : d.showable = true) (hi : d.intsShort 13 = true) (hw : d.weight ≤ w) (h1 : w ≤ 2 ^ 20) : gRepr [.d d] st = .ok (.d (.str d.shown)) st := by
  have hl : PyData.layable0 d = true := by
    unfold PyData.layable0
    rw [Bool.and_eq_true, Bool.and_eq_true, decide_eq_true_eq, decide_eq_true_eq]
    exact ⟨⟨h.1, Nat.le_trans h.2 hk⟩, Nat.le_trans hw h1⟩
  have h2 := shown_le13 hl hi
  have h3 : d.shown.length ≤ sizeLine := by rw [sizeLine_eq]; omega
  have h4 : d.hasDict = false := PyData.hasDict_of_canLay d h.1
  have h5 : d.depth ≤ 64 := Nat.le_trans h.2 hk
  unfold gRepr
  simp only [asD]
  exact chk_ok ⟨hs, h4, h5, h3⟩
section
variable {ρ ρ' : En} {s s1 s2 s3 : Sto} {w u v : W} {ws us : List W} {f g k : En → Sto → R W} {fa ga : En → Sto → R (List W)} {t t' : En → Sto → R Bool} {b b' : Bool}
theorem dCons_ok (h1 : f ρ s = .ok w s1) (h2 : fa ρ s1 = .ok ws s2) : dCons f fa ρ s = .ok (w :: ws) s2 := by unfold dCons; rw [h1, R.bind_ok, h2]; rfl
theorem dCons1_ok (h1 : f ρ s = .ok w s1) : dCons f dNil ρ s = .ok [w] s1 := dCons_ok h1 rfl
theorem dTup_ok {ds : List PyData} (h1 : fa ρ s = .ok (ds.map W.d) s1) (h2 : ds.length ≤ sizeLine) : dTup fa ρ s = .ok (.d (.tuple ds)) s1 := by
  unfold dTup; rw [h1, R.bind_ok, allD_map]; exact chk_ok h2
theorem dLst_ok {ds : List PyData} (h1 : fa ρ s = .ok (ds.map W.d) s1) (h2 : ds.length ≤ sizeLine) : dLst fa ρ s = .ok (.d (.list ds)) s1 := by
  unfold dLst; rw [h1, R.bind_ok, allD_map]; exact chk_ok h2
theorem dCall_ok {G : List W → Sto → R W} {r : R W} (h1 : fa ρ s = .ok ws s1) (h2 : G ws s1 = r) : dCall G fa ρ s = r := by unfold dCall; rw [h1, R.bind_ok, h2]
theorem dBin_ok {G : W → W → Sto → R W} {r : R W} (h1 : f ρ s = .ok w s1) (h2 : g ρ s1 = .ok u s2) (h3 : G w u s2 = r) : dBin G f g ρ s = r := by unfold dBin; rw [h1, R.bind_ok, h2, R.bind_ok, h3]
theorem dUn_ok {G : W → Sto → R W} {r : R W} (h1 : f ρ s = .ok w s1) (h3 : G w s1 = r) : dUn G f ρ s = r := by unfold dUn; rw [h1, R.bind_ok, h3]
theorem asB_ok {r : R W} (h : r = .ok (.d (.bool b)) s) : asB r = .ok b s := by rw [h]; rfl
theorem dAnd_t (h1 : t ρ s = .ok true s1) (h2 : t' ρ s1 = .ok b s2) : dAnd t t' ρ s = .ok b s2 := by unfold dAnd; rw [h1, R.bind_ok, if_pos rfl, h2]
theorem dAnd_f (h1 : t ρ s = .ok false s1) : dAnd t t' ρ s = .ok false s1 := by unfold dAnd; rw [h1]; rfl
theorem dOr_f (h1 : t ρ s = .ok false s1) (h2 : t' ρ s1 = .ok b s2) : dOr t t' ρ s = .ok b s2 := by unfold dOr; rw [h1, R.bind_ok, if_neg (by simp), h2]
theorem dOr_t (h1 : t ρ s = .ok true s1) : dOr t t' ρ s = .ok true s1 := by unfold dOr; rw [h1]; rfl
theorem dNot_ok (h1 : t ρ s = .ok b s1) : dNot t ρ s = .ok (!b) s1 := by unfold dNot; rw [h1]; rfl
theorem dAndV_t {r : R W} (h1 : f ρ s = .ok (.d (.bool true)) s1) (h2 : g ρ s1 = r) : dAndV f g ρ s = r := by unfold dAndV; rw [asB_ok h1, R.bind_ok, if_pos rfl, h2]
theorem dAndV_f (h1 : f ρ s = .ok (.d (.bool false)) s1) : dAndV f g ρ s = .ok (.d (.bool false)) s1 := by unfold dAndV; rw [asB_ok h1]; rfl
theorem dIf_t {r : R W} (h1 : t ρ s = .ok true s1) (h2 : f ρ s1 = r) : dIf t f g ρ s = r := by unfold dIf; rw [h1, R.bind_ok, if_pos rfl, h2]
theorem dIf_f {r : R W} (h1 : t ρ s = .ok false s1) (h2 : g ρ s1 = r) : dIf t f g ρ s = r := by unfold dIf; rw [h1, R.bind_ok, if_neg (by simp), h2]
theorem dIfS_t {F G : DS} {r : R (Fl × En)} (h1 : t ρ s = .ok true s1) (h2 : F ρ s1 = r) : dIfS t F G ρ s = r := by unfold dIfS; rw [h1, R.bind_ok, if_pos rfl, h2]
theorem dIfS_f {F G : DS} {r : R (Fl × En)} (h1 : t ρ s = .ok false s1) (h2 : G ρ s1 = r) : dIfS t F G ρ s = r := by unfold dIfS; rw [h1, R.bind_ok, if_neg (by simp), h2]
theorem dSet_ok {i : Nat} (h1 : f ρ s = .ok w s1) : dSet i f ρ s = .ok (.nx, ρ.set i (some w)) s1 := by unfold dSet; rw [h1]; rfl
theorem dExpr_ok (h1 : f ρ s = .ok w s1) : dExpr f ρ s = .ok (.nx, ρ) s1 := by unfold dExpr; rw [h1]; rfl
theorem dRet_ok (h1 : f ρ s = .ok w s1) : dRet f ρ s = .ok (.rt w, ρ) s1 := by unfold dRet; rw [h1]; rfl
theorem dAsg_ok {G : W → En → Sto → R En} (h1 : f ρ s = .ok w s1) (h2 : G w ρ s1 = .ok ρ' s2) : dAsg f G ρ s = .ok (.nx, ρ') s2 := by unfold dAsg; rw [h1, R.bind_ok, h2]; rfl
theorem dFor_ok {G : W → En → Sto → R En} {B : DS} {r : R (Fl × En)} (h1 : fa ρ s = .ok ws s1) (h2 : forL G B ws ρ s1 = r) : dFor fa G B ρ s = r := by unfold dFor; rw [h1, R.bind_ok, h2]
theorem dSl_ok {o p : En → Sto → R (Option Int)} {lo hi : Option Int} {r : R W} (h1 : f ρ s = .ok w s1) (h2 : o ρ s1 = .ok lo s2) (h3 : p ρ s2 = .ok hi s3) (h4 : vSl w lo hi s3 = r) : dSl f o p ρ s = r := by unfold dSl; rw [h1, R.bind_ok, h2, R.bind_ok, h3, R.bind_ok, h4]
theorem dPart_ok {i : Int} (h1 : f ρ s = .ok (.d (.int i)) s1) : dPart f ρ s = .ok (some i) s1 := by unfold dPart; rw [h1]; rfl
theorem dCal_ok {n : Nat} {F : Fn} {r : R W} (h1 : fa ρ s = .ok ws s1) (h2 : ws.length = n) (h3 : F ws s1 = r) : dCal n F fa ρ s = r := by unfold dCal; rw [h1, R.bind_ok, chk_ok h2, h3]
theorem dCalP_ok {n : Nat} {F : Fn} {x : PyData} (h1 : fa ρ s = .ok ws s1) (h2 : ws.length = n) (h3 : ws.all pureW = true) (h4 : F ws [] = .ok (.d x) s2) : dCalP n F fa ρ s = .ok (.d x) s1 := by unfold dCalP; rw [h1, R.bind_ok, chk_ok ⟨h2, h3⟩]; unfold callP; rw [h4]
theorem dLcF_ok {ds : List PyData} (h1 : fa ρ s = .ok (ds.map W.d) s1) : dLcF fa ρ s = .ok (.d (.list ds)) s1 := by unfold dLcF; rw [h1, R.bind_ok, allD_map]
theorem dLc_ok {vs : List Nat} {G : W → En → Sto → R En} {fe : En → Sto → R W} (h1 : fa ρ s = .ok ws s1) (h2 : lcL G t fe (wipeE ρ vs) ws s1 = .ok us s2) (h3 : us.length ≤ sizeLine) : dLc vs fa G t fe ρ s = .ok us s2 := by unfold dLc; rw [h1, R.bind_ok, h2, R.bind_ok, chk_ok h3]
theorem dIter_ok {x : PyData} {ds : List PyData} (h1 : f ρ s = .ok (.d x) s1) (h2 : seqD x = some ds) : dIter f ρ s = .ok (ds.map W.d) s1 := by unfold dIter; rw [h1, R.bind_ok]; dsimp only; rw [h2]
theorem dRng1_ok {j : Nat} (h1 : fa ρ s = .ok [.d (.int j)] s1) (h2 : j < 2 ^ 62) : dRng1 fa ρ s = .ok ((List.range j).map fun i : Nat => W.d (.int i)) s1 := by
  unfold dRng1; rw [h1, R.bind_ok]
  show chk _ _ = _
  rw [chk_ok ⟨by omega, by omega⟩]
  simp [rngW]
theorem dVar_ok {i : Nat} (h : ρ[i]? = some (some w)) : dVar i ρ s = .ok w s := by unfold dVar; rw [h]
theorem map_d {α : Type} (g : α → PyData) (L : List α) : (L.map g).map W.d = L.map fun t => W.d (g t) := by rw [List.map_map]; rfl
theorem vIx_list {ds : List PyData} {j : Nat} {x : PyData} (h : ds[j]? = some x) : vIx (.d (.list ds)) (I j) s = .ok (.d x) s := by
  have e : atI (ds.map W.d) (j : Int) = some (W.d x) := atI_nat (by rw [List.getElem?_map, h]; rfl)
  simp [vIx, e]
theorem vIx_tup {ds : List PyData} {j : Nat} {x : PyData} (h : ds[j]? = some x) : vIx (.d (.tuple ds)) (I j) s = .ok (.d x) s := by
  have e : atI (ds.map W.d) (j : Int) = some (W.d x) := atI_nat (by rw [List.getElem?_map, h]; rfl)
  simp [vIx, e]
end
end Y
namespace Y
open PySem PySem.Spec PyProof.Rows L2
def leI (a b : Int) : Bool := decide (a ≤ b)
noncomputable def srtI (ns : List Int) : List Int := ns.mergeSort leI
theorem srtI_perm (ns : List Int) : (srtI ns).Perm ns := List.mergeSort_perm ns leI
theorem srtI_pw (ns : List Int) : (srtI ns).Pairwise (· ≤ ·) := by
  have h := List.pairwise_mergeSort (le := leI) (fun a b c h1 h2 => by simp only [leI, decide_eq_true_eq] at *; omega) (fun a b => by simp only [leI, Bool.or_eq_true, decide_eq_true_eq]; omega) ns
  exact h.imp fun {a b} q => by simpa [leI] using q
theorem srtI_uniq {ns ms : List Int} (h : ms.Perm ns) (p : ms.Pairwise (· ≤ ·)) : ms = srtI ns :=
  List.Perm.eq_of_pairwise (fun _ _ _ _ a b => Int.le_antisymm a b) p (srtI_pw ns) (h.trans (srtI_perm ns).symm)
abbrev BB : Int := 1048576
abbrev P2 := Int × Int
def cd (p : P2) : Int := p.1 * BB + p.2
/-- numbers in bounds -/
def InB (p : P2) : Prop := (0 ≤ p.1 ∧ p.1 < BB) ∧ 0 ≤ p.2 ∧ p.2 < BB
/-- once each -/
def dd {α : Type} [DecidableEq α] : List α → List α
  | [] => []
  | a :: l => if a ∈ dd l then dd l else a :: dd l
theorem mem_dd {α : Type} [DecidableEq α] (l : List α) (x : α) : x ∈ dd l ↔ x ∈ l := by
  induction l with
  | nil => simp [dd]
  | cons a l ih =>
    unfold dd
    split
    · rename_i h
      rw [ih, List.mem_cons]
      constructor
      · exact .inr
      · rintro (rfl | h2)
        · exact ih.mp h
        · exact h2
    · rw [List.mem_cons, List.mem_cons, ih]
theorem nodup_dd {α : Type} [DecidableEq α] (l : List α) : (dd l).Nodup := by
  induction l with
  | nil => simp [dd]
  | cons a l ih =>
    unfold dd
    split
    · exact ih
    · rename_i h
      exact List.nodup_cons.mpr ⟨h, ih⟩
def pD (p : P2) : PyData := .tuple [.int p.1, .int p.2]
instance (p : P2) : Decidable (InB p) := by unfold InB; infer_instance
section
variable {X : Cx} {C : Ct}
theorem bd2 {p : P2} (h : InB p) : TS.Bd BB [p.1, p.2] := by
  unfold TS.Bd
  simp [InB] at *
  omega
end
end Y
namespace Y
open PySem PySem.Spec PyProof.Rows L2
section
variable {X : Cx} {C : Ct}
theorem setR_len {w : World} {h : Heap} {a : Addr} {ns : List Int} {c : Nat} (z : SetR w h a (fun j => decide (j ∈ ns)) c) : c = (dd ns).length := by
  obtain ⟨o, es, ep, t, _, _, _, _, h1, h2, _, _, h3, _⟩ := z
  have hp : (es.toList.map keyOf).Perm (dd ns) := (List.perm_ext_iff_of_nodup h1 (nodup_dd ns)).mpr fun k => by
    rw [← h2 k, decide_eq_true_eq, mem_dd]
  have := hp.length_eq
  rw [List.length_map, Array.length_toList, h3] at this
  exact this
end
end Y
namespace Y
open PySem PySem.Spec PyProof.Rows L2
section
variable {X : Cx} {C : Ct}
/-- list(range(e)), a list that is not to change -/
def dListRng (fe : En → Sto → R W) : En → Sto → R W := fun ρ st => (fe ρ st).bind fun w s => match w with
  | .d (.int n) => chk (0 ≤ n ∧ n ≤ 16777216) (.ok (.d (.list ((List.range n.toNat).map fun i : Nat => .int i))) s)
  | _ => .bad
theorem pdAll_rg {K : PySem.W.Frag} {Z : Addr → Prop} {H : Hp} (n : Nat) : ∀ l : List Nat, PdAll K Z H (l.map fun i => V.int (0 + (i : Nat))) (l.map fun i : Nat => PyData.int i)
  | [] => .nil
  | i :: l => .cons (by show Pd K Z H (.int (0 + ((i : Nat) : Int))) (.int ((i : Nat) : Int)); rw [Int.zero_add]; exact .int _) (pdAll_rg n l)
theorem y_listRng {a : Expr} {fa : En → Sto → R W} {p p2 pos q : Pos} (hK : C.K = X.K) (hc : X.calm = true) (hg : Gl X "list") (hm : X.mg "list" = none) (hg2 : Gl X "range") (hm2 : X.mg "range" = none) (ha : PE X a (rdE C fa))
    (he : starEach [a] X.env = (false, eval a X.env) :: starEach [] X.env := by rfl) : PE X (.Call (.Name "list" p) [.Call (.Name "range" p2) [a] [] q] [] pos) (rdE C (dListRng fa)) := by
  obtain ⟨K, mg, E⟩ := C
  obtain rfl : K = X.K := hK
  refine PE.imp (pe_listRg hc hg hm (prg_1 hg2 hm2 ha he)) fun σ H Q h => ?_
  obtain ⟨Z0, θ, ρ, st, S, N, h⟩ := h
  refine ⟨Z0, θ, ρ, st, S, N, Post.bind h fun w st1 θ1 H1 v _ e1 S1 w1 p1 => ?_⟩
  split at p1
  · obtain ⟨⟨h0, h1⟩, p1⟩ := p1.chk
    cases w1
    refine ⟨_, rfl, RgOk.of_le (by decide) (by omega) (by decide) h0, fun t ht => p1.newLst S1 ht ?_⟩
    unfold rgV
    rw [Int.sub_zero]
    exact pdAll_rg 0 _
  · exact p1.elim
end
end Y
namespace Y
open PySem PySem.Spec PyProof.Rows L2
open AutoSeq1 (wpAny_loadPart')
section
variable {X : Cx} {C : Ct}
theorem tup_self (l : Addr) (items : Array Value) (n : Nat) (dd : Option Addr) (sl : Array (Option Value)) (u : Tok) :
    Meets (Builtin.«tuple.__mul__» ⟨[.ref l, .int 1 u], []⟩) (fun _ R s => s.heap.get? l = some { cls := .type "tuple", dict := dd, data := .seq items n, slots := sl } ∧ R (.ok (.ret (Value.ref l))) s) :=
  .of_wp fun prog w A R s h => by
    obtain ⟨hp, g, d, tk, os⟩ := s; obtain ⟨hl, h⟩ := h; have f1 := AutoSeq1.idx_int
    have c0 : (decide ((1 : Int) < -(2 ^ 63)) || decide ((1 : Int) ≥ 2 ^ 63)) = false := by decide
    have c1 : (items.isEmpty || (1 : Int) == 1) = true := by simp
    wp_walk using wpAny_loadPart' hl
    exact ⟨_, rfl, h⟩
def vRep : W → W → Sto → R W
  | .d (.tuple ds), .d (.int k), st => chk (ds ≠ [] ∧ 1 ≤ k ∧ k ≤ 1000 ∧ ds.length ≤ 1000) (.ok (.d (.tuple (List.replicate k.toNat ds).flatten)) st)
  | _, _, _ => .bad
theorem PdAll.rep {K : PySem.W.Frag} {Z : Addr → Prop} {H : Hp} {ds : List PyData} {vs : List V} (h : PdAll K Z H vs ds) : ∀ k : Nat, PdAll K Z H (List.replicate k vs).flatten (List.replicate k ds).flatten
  | 0 => .nil
  | k + 1 => by
    rw [List.replicate_succ, List.replicate_succ, List.flatten_cons, List.flatten_cons]
    exact h.append (PdAll.rep h k)
theorem opRep (hK : C.K = X.K) : OpR X (binaryOp .Mult) (rdO C vRep) := by
  obtain ⟨K, mg, E⟩ := C
  obtain rfl : K = X.K := hK
  intro pins s σ H x y v u Q I rx ry h
  obtain ⟨Z0, θ, st, a, b, S, wa, wb, p⟩ := h
  unfold vRep at p
  split at p
  · rename_i ds k
    obtain ⟨⟨g1, g2, g3, g4⟩, p⟩ := p.chk
    cases wb
    cases wa with
    | tup h1 h2 =>
      have hl := h2.length
      have hne := g1
      by_cases hk : k = 1
      · subst hk
        obtain ⟨its, r, ⟨⟨cls, dd, data, sl⟩, ho, hc, n, hd⟩, hs⟩ := I.tuple (tq h1)
        simp only at hc hd
        subst hc hd
        cases rx
        obtain ⟨t, rfl⟩ := ry
        refine wpAny_binaryOp_repeat_ref (T := "tuple") (U := "int") (by decide) ⟨_, ho, rfl⟩ (fun s' => typeIs_int s' 1 t) noFill_tuple_mul F.fills_int_mul F.slot_int_rmul repeat_tuple F.slot_int_index.lookup
          (call_meets F.slot_int_rmul (typeIs_int s 1 t) F.entry_int_rmul (F.args_int_rmul_2 _ _) (int_rmul_tuple 1 t _ its.toArray n dd sl) ⟨ho, rfl, ⟨_, ho, rfl⟩, call_meets F.slot_tuple_mul ⟨_, ho, rfl⟩ F.entry_tuple_mul (F.args_tuple_mul_2 _ _) (tup_self _ its.toArray n dd sl t) ⟨ho, ?_⟩⟩)
        refine ⟨.ref _, H, I, rfl, p.now S ?_⟩
        show Pd _ _ _ _ _
        simpa using (show Pd X.K (Zs Z0 θ) H (.ref _) (.tuple ds) from .tup h1 h2)
      · refine op_repT pins s σ H _ _ v u Q I rx ry ⟨_, k, _, rfl, rfl, tq h1, ?_, by omega, g3, by rw [hl]; exact g4, fun q hq => p.newTup S hq (h2.rep k.toNat)⟩
        intro z
        rw [z] at hl
        exact hne (List.length_eq_zero_iff.mp hl.symm)
  · exact p.elim
end
end Y
namespace Y
open PySem PySem.Spec PyProof.Rows L2
end Y
namespace Y
open PySem PySem.Spec PyProof.Rows L2
def rngC (lo c : Int) (n : Nat) : List W := (List.range n).map fun (i : Nat) => .d (.int (lo + i * c))
def dRng3 (fa : En → Sto → R (List W)) : En → Sto → R (List W) := fun ρ st => (fa ρ st).bind fun ws s => match ws with
  | [.d (.int i), .d (.int j), .d (.int c)] => chk (c ≠ 0 ∧ c.natAbs < 1073741824 ∧ Builtin.Range.small i j c = true ∧ 0 ≤ Builtin.Range.rangeSize i j c) (.ok (rngC i c (Builtin.Range.rangeSize i j c).toNat) s)
  | _ => .bad
end Y
namespace Y
open PySem PySem.Spec PyProof.Rows L2
end Y
namespace Y
open PySem PySem.Spec PyProof.Rows L2
open Classical in
noncomputable def forS (n : Nat) (all : List W) (tg : W → En → Sto → R En) (body : DS) : List W → DS
  | [], ρ, st => if st[n]? = some (.lst all) then .ok (.nx, ρ) st else .bad
  | w :: ws, ρ, st => if st[n]? = some (.lst all) then (tg w ρ st).bind fun ρ1 s1 => (body ρ1 s1).bind fun a s2 => match a.1 with
    | .bk => .ok (.nx, a.2) s2
    | .rt w => .ok (.rt w, a.2) s2
    | _ => forS n all tg body ws a.2 s2
    else .bad
noncomputable def dForS (fe : En → Sto → R W) (tg : W → En → Sto → R En) (body : DS) : DS := fun ρ st => (fe ρ st).bind fun w s => match w with
  | .ref n => match s[n]? with
    | some (.lst ws) => forS n ws tg body ws ρ s
    | _ => .bad
  | _ => .bad
end Y
namespace Y
open PySem PySem.Spec PyProof.Rows L2
open Classical in
noncomputable def lcS (n : Nat) (all : List W) (tg : W → En → Sto → R En) (tt : En → Sto → R Bool) (fe : En → Sto → R W) (ρ : En) : List W → Sto → R (List W)
  | [], st => if st[n]? = some (.lst all) then .ok [] st else .bad
  | w :: ws, st => if st[n]? = some (.lst all) then (tg w ρ st).nox.bind fun ρ1 s1 => (tt ρ1 s1).nox.bind fun b s2 => if b = true then (fe ρ1 s2).nox.bind fun u s3 => (lcS n all tg tt fe ρ ws s3).bind fun us s4 => .ok (u :: us) s4
    else lcS n all tg tt fe ρ ws s2
    else .bad
noncomputable def dLcS (vs : List Nat) (fe0 : En → Sto → R W) (tg : W → En → Sto → R En) (tt : En → Sto → R Bool) (fe : En → Sto → R W) : En → Sto → R (List W) := fun ρ st => (fe0 ρ st).bind fun w s => match w with
  | .ref n => match s[n]? with
    | some (.lst ws) => (lcS n ws tg tt fe (wipeE ρ vs) ws s).bind fun us s2 => chk (us.length ≤ sizeLine) (.ok us s2)
    | _ => .bad
  | _ => .bad
end Y
namespace Y
open PySem PySem.Spec PyProof.Rows L2
end Y
namespace Y
open PySem PySem.Spec PyProof.Rows L2
theorem dd_len {α : Type} [DecidableEq α] : ∀ l : List α, (dd l).length ≤ l.length
  | [] => Nat.le_refl _
  | x :: l => by
    have ih := dd_len l
    simp only [dd]
    split <;> simp <;> omega
/-- once each, rising -/
noncomputable def srtU (ns : List Int) : List Int := srtI (dd ns)
theorem srtU_nodup (ns : List Int) : (srtU ns).Nodup := (srtI_perm _).nodup_iff.mpr (nodup_dd ns)
theorem srtU_pw (ns : List Int) : (srtU ns).Pairwise (· < ·) := by
  have h1 := srtI_pw (dd ns)
  have h2 := srtU_nodup ns
  unfold srtU at h2 ⊢
  exact (h1.and h2).imp fun {a b} h => by omega
theorem srtU_uniq {ns ms : List Int} (h : ms.Pairwise (· < ·)) (hm : ∀ x, x ∈ ms ↔ x ∈ ns) : ms = srtU ns := by
  refine srtI_uniq ?_ (h.imp fun {a b} q => by omega)
  exact (List.perm_ext_iff_of_nodup (h.imp fun {a b} q => by omega) (nodup_dd ns)).mpr fun a => by rw [hm, mem_dd]
end Y
namespace BL
open PySem PySem.Spec PyProof.Rows L2 Y
noncomputable abbrev F_l_any : Fn := F_any
noncomputable def B_l_of : DS :=
  (dRet (dBin vIx (dVar 1) (dCal 2 F_l_any (dCons (dVar 0) (dCons (dCall gLen (dCons (dVar 1) dNil)) dNil)))))
noncomputable def F_l_of : Fn := dDef 2 B_l_of
noncomputable def B_l_mixed : DS :=
  (dSeq (dPar 2 3 (dCons (dCall gListNew (dCons (dVar 1) dNil)) (dCons (dNew dNil) dNil)))
    (dSeq (dWhile (fun ρ st => asB (dBin (vEq true) (dVar 2) (dLst dNil) ρ st))
    (dExpr (dMeth mAppend (dVar 3) (dCons (dMeth mPopAt (dVar 2) (dCons (dCal 2 F_l_any (dCons (dVar 0) (dCons (dCall gLen (dCons (dVar 2) dNil)) dNil))) dNil)) dNil))))
    (dRet (dFz (dVar 3)))))
noncomputable def F_l_mixed : Fn := dDef 4 B_l_mixed
theorem any_eq : F_l_any = F_any := rfl
theorem Dealt.get {n c j : Nat} {s s' : Sto} (h : Dealt n c s s') (hj : j < s.length) (h1 : j ≠ n) (h2 : j ≠ c) : s'[j]? = s[j]? := h.keep j hj h1 h2
theorem dealOk_lt {st : Sto} {n c : Nat} (h : DealOk st n c) : n < st.length ∧ c < st.length := by
  obtain ⟨cs, b, h1, h2, _⟩ := h
  exact ⟨(List.getElem?_eq_some_iff.mp h1).1, (List.getElem?_eq_some_iff.mp h2).1⟩
theorem dealOk_keep {s s' : Sto} {n c : Nat} (h : DealOk s n c) (k : ∀ j, j < s.length → s'[j]? = s[j]?) : DealOk s' n c := by
  obtain ⟨l1, l2⟩ := dealOk_lt h
  obtain ⟨cs, b, h1, h2, r⟩ := h
  exact ⟨cs, b, (k n l1).trans h1, (k c l2).trans h2, r⟩
theorem gLen_list {ds : List PyData} {st : Sto} : gLen [.d (.list ds)] st = .ok (I ds.length) st := by simp
theorem gLen_tup {ds : List PyData} {st : Sto} : gLen [.d (.tuple ds)] st = .ok (I ds.length) st := by simp
theorem F_of_ok {n c : Nat} {st : Sto} {ds : List PyData} (h : DealOk st n c) (h0 : ds ≠ []) (h1 : ds.length < 1073741824) : ∃ d st', F_l_of [.ref n, .d (.list ds)] st = .ok (.d d) st' ∧ d ∈ ds ∧ Dealt n c st st' := by
  have hp : 0 < ds.length := List.length_pos_iff.mpr h0
  obtain ⟨r, st', e, g1, g2, g3, g4⟩ := F_any_ok (k := ds.length) h (by omega) (by omega)
  obtain ⟨j, rfl⟩ := Int.eq_ofNat_of_zero_le g1
  have hj : j < ds.length := by omega
  exact ⟨ds[j], st', dDef_rt (dRet_ok (dBin_ok (dVar_ok rfl) (dCal_ok (dCons_ok (dVar_ok rfl) (dCons1_ok (dCall_ok (dCons1_ok (dVar_ok rfl)) gLen_list))) rfl (by simpa [any_eq] using e)) (vIx_list (List.getElem?_eq_getElem hj)))), List.getElem_mem hj, g3⟩
abbrev cMx : En → Sto → R Bool := fun ρ st => asB (dBin (vEq true) (dVar 2) (dLst dNil) ρ st)
noncomputable abbrev bMx : DS := (dExpr (dMeth mAppend (dVar 3) (dCons (dMeth mPopAt (dVar 2) (dCons (dCal 2 F_l_any (dCons (dVar 0) (dCons (dCall gLen (dCons (dVar 2) dNil)) dNil))) dNil)) dNil)))
abbrev lst (ds : List PyData) : SO := .lst (ds.map W.d)
structure MixAt (n c a : Nat) (s : Sto) (left found : List PyData) : Prop where
  ok : DealOk s n c
  na : n < a
  ca : c < a
  len : s.length = a + 2
  l : s[a]? = some (lst left)
  f : s[a + 1]? = some (lst found)
theorem mx_test {n c a : Nat} {s : Sto} {left found : List PyData} {x : Option W} (h : MixAt n c a s left found) (hs : SeqAt.shaped (.list left) = true) : cMx [some (.ref n), x, some (.ref a), some (.ref (a + 1))] s = .ok (!left.isEmpty) s := by
  have e : asD s (.ref a) = some (.list left) := by simp [h.l, allD_map]
  refine asB_ok (dBin_ok (dVar_ok rfl) (dLst_ok (ds := []) rfl (by decide)) ?_)
  simp only [vEq, e]
  show chk _ _ = _
  rw [chk_ok ⟨hs, shaped_nil⟩]
  cases left <;> simp [PyData.eqv, PyData.eqvAll]
theorem dMeth_ok {G : W → List W → Sto → R W} {fo : En → Sto → R W} {fa : En → Sto → R (List W)} {ρ : En} {s s1 s2 : Sto} {m : Nat} {xs ws : List W} {r : R W} (h1 : fo ρ s = .ok (.ref m) s1) (h2 : s1[m]? = some (.lst xs)) (h3 : fa ρ s1 = .ok ws s2) (h4 : G (.ref m) ws s2 = r) : dMeth G fo fa ρ s = r := by
  unfold dMeth
  rw [h1, R.bind_ok]
  dsimp only
  rw [h2]
  dsimp only
  rw [h3, R.bind_ok, h4]
theorem erase_map {α β : Type} (f : α → β) (xs : List α) (j : Nat) : (xs.map f).eraseIdx j = (xs.eraseIdx j).map f := by
  rw [List.eraseIdx_eq_take_drop_succ, List.eraseIdx_eq_take_drop_succ, List.map_append, List.map_take, List.map_drop]
theorem lst_get {s : Sto} {a : Nat} {o : SO} (h : s[a]? = some o) {o' : SO} : (s.set a o')[a]? = some o' := List.getElem?_set_self (List.getElem?_eq_some_iff.mp h).1
theorem mx_turn {n c a : Nat} {s : Sto} {left found : List PyData} {x : Option W} (h : MixAt n c a s left found) (hl : left ≠ []) (hf : found.length + left.length ≤ 1000000) :
    ∃ left' found' s', bMx [some (.ref n), x, some (.ref a), some (.ref (a + 1))] s = .ok (.nx, [some (.ref n), x, some (.ref a), some (.ref (a + 1))]) s' ∧ MixAt n c a s' left' found' ∧ left'.length + 1 = left.length ∧ found'.length = found.length + 1 ∧ (left' ++ found').Perm (left ++ found) ∧ (∀ d ∈ left', d ∈ left) ∧ ∀ i, i < a → i ≠ n → i ≠ c → s'[i]? = s[i]? := by
  have hp : 0 < left.length := List.length_pos_iff.mpr hl
  obtain ⟨r, s1, e, g1, g2, g3, g4⟩ := F_any_ok (k := left.length) h.ok (by omega) (by omega)
  obtain ⟨j, rfl⟩ := Int.eq_ofNat_of_zero_le g1
  have hj : j < left.length := by omega
  have na := h.na
  have ca := h.ca
  have k1 : s1[a]? = some (lst left) := (g3.keep a (by have := h.len; omega) (by omega) (by omega)).trans h.l
  have k2 : s1[a + 1]? = some (lst found) := (g3.keep (a + 1) (by have := h.len; omega) (by omega) (by omega)).trans h.f
  have el : gLen [.ref a] s = .ok (I left.length) s := by simp [h.l]
  have pop : mPopAt (.ref a) [I j] s1 = .ok (.d left[j]) (s1.set a (lst (left.eraseIdx j))) := by
    simp only [mPopAt, k1, Int.toNat_natCast]
    rw [List.getElem?_map, List.getElem?_eq_getElem hj]
    show chk _ _ = _
    rw [chk_ok ⟨by omega, by omega⟩, erase_map]
  have k3 : (s1.set a (lst (left.eraseIdx j)))[a + 1]? = some (lst found) := by rw [List.getElem?_set_ne (by omega)]; exact k2
  have app : mAppend (.ref (a + 1)) [.d left[j]] (s1.set a (lst (left.eraseIdx j))) = .ok (.d .none) ((s1.set a (lst (left.eraseIdx j))).set (a + 1) (lst (found ++ [left[j]]))) := by
    simp only [mAppend, k3]
    rw [chk_ok (by rw [List.length_map, sizeLine_eq]; omega)]
    simp [lst]
  have k4 : ∀ i, i ≠ a → i ≠ a + 1 → ((s1.set a (lst (left.eraseIdx j))).set (a + 1) (lst (found ++ [left[j]])))[i]? = s1[i]? := fun i h1 h2 => by rw [List.getElem?_set_ne (Ne.symm h2), List.getElem?_set_ne (Ne.symm h1)]
  have dk : DealOk ((s1.set a (lst (left.eraseIdx j))).set (a + 1) (lst (found ++ [left[j]]))) n c := by
    obtain ⟨cs, b, h1, h2, r⟩ := g3.ok
    exact ⟨cs, b, (k4 n (by omega) (by omega)).trans h1, (k4 c (by omega) (by omega)).trans h2, r⟩
  refine ⟨left.eraseIdx j, found ++ [left[j]], _, dExpr_ok (dMeth_ok (dVar_ok rfl) h.f (dCons1_ok (dMeth_ok (dVar_ok rfl) h.l (dCons1_ok (dCal_ok (dCons_ok (dVar_ok rfl) (dCons1_ok (dCall_ok (dCons1_ok (dVar_ok rfl)) el))) rfl e)) pop)) app), ⟨dk, na, ca, by simp [g4, h.len], ?_, lst_get k3⟩, ?_, by simp, ?_, ?_, ?_⟩
  · rw [List.getElem?_set_ne (by omega)]; exact lst_get k1
  · rw [List.length_eraseIdx_of_lt hj]; omega
  · have hs : left.Perm (left[j] :: left.eraseIdx j) := by
      rw [List.eraseIdx_eq_take_drop_succ]
      have := List.perm_middle (a := left[j]) (l₁ := left.take j) (l₂ := left.drop (j + 1))
      rw [List.getElem_cons_drop, List.take_append_drop] at this
      exact this
    refine List.Perm.trans ?_ (List.Perm.append_right found hs.symm)
    rw [← List.append_assoc]
    exact (List.perm_append_comm).trans (by simp)
  · exact fun d hd => List.mem_of_mem_eraseIdx hd
  · intro i hi h1 h2
    rw [k4 i (by omega) (by omega)]
    exact g3.keep i (by have := h.len; omega) h1 h2
theorem mx_loop {n c a : Nat} {x : Option W} (k : Nat) : ∀ (s : Sto) (left found : List PyData), left.length = k → MixAt n c a s left found → found.length + left.length ≤ 1000000 → (∀ d ∈ left, Dk 60 d) →
    ∃ found' s', whileN cMx bMx (k + 1) [some (.ref n), x, some (.ref a), some (.ref (a + 1))] s = .ok (.nx, [some (.ref n), x, some (.ref a), some (.ref (a + 1))]) s' ∧ MixAt n c a s' [] found' ∧ found'.Perm (left ++ found) ∧ ∀ i, i < a → i ≠ n → i ≠ c → s'[i]? = s[i]? := by
  induction k with
  | zero =>
    intro s left found hk h hf hd
    have : left = [] := List.length_eq_zero_iff.mp hk
    subst this
    have t := mx_test (x := x) h ((Dk.lst hd).shaped (by decide))
    refine ⟨found, s, ?_, h, by simp, fun _ _ _ _ => rfl⟩
    show (cMx _ s).bind _ = _
    rw [t]; rfl
  | succ k ih =>
    intro s left found hk h hf hd
    have hl : left ≠ [] := by intro z; subst z; cases hk
    have t := mx_test (x := x) h ((Dk.lst hd).shaped (by decide))
    have ht : left.isEmpty = false := by cases left with | nil => exact absurd rfl hl | cons => rfl
    rw [ht] at t
    obtain ⟨l2, f2, s2, e, h2, q1, q2, q3, q5, q4⟩ := mx_turn (x := x) h hl hf
    have hd2 : ∀ d ∈ l2, Dk 60 d := fun d hd' => hd d (q5 d hd')
    obtain ⟨f3, s3, e3, h3, p3, u3⟩ := ih s2 l2 f2 (by omega) h2 (by omega) hd2
    refine ⟨f3, s3, ?_, h3, p3.trans q3, fun i hi a1 a2 => (u3 i hi a1 a2).trans (q4 i hi a1 a2)⟩
    show (cMx _ s).bind _ = _
    rw [t, R.bind_ok, if_pos (by rfl), e, R.bind_ok]
    exact e3
theorem F_mixed_ok {n c : Nat} {st : Sto} {ds : List PyData} (h : DealOk st n c) (hl : ds.length ≤ 1000000) (hd : ∀ d ∈ ds, Dk 60 d) : ∃ es st', F_l_mixed [.ref n, .d (.list ds)] st = .ok (.d (.list es)) st' ∧ es.Perm ds ∧ Dealt n c st st' := by
  obtain ⟨l1, l2⟩ := dealOk_lt h
  have kp : ∀ i, i < st.length → (st ++ [lst ds] ++ [lst []])[i]? = st[i]? := fun i hi => by
    rw [List.append_assoc, List.getElem?_append_left hi]
  have m0 : MixAt n c st.length (st ++ [lst ds] ++ [lst []]) ds [] := ⟨dealOk_keep h kp, l1, l2, by simp, by simp, by simp⟩
  obtain ⟨es, s2, e, h2, p2, u2⟩ := mx_loop (x := some (.d (.list ds))) ds.length _ ds [] rfl m0 (by simpa using hl) hd
  have e1 : (dPar 2 3 (dCons (dCall gListNew (dCons (dVar 1) dNil)) (dCons (dNew dNil) dNil))) [some (.ref n), some (.d (.list ds)), none, none] st = .ok (.nx, [some (.ref n), some (.d (.list ds)), some (.ref st.length), some (.ref (st.length + 1))]) (st ++ [lst ds] ++ [lst []]) := by
    simp [lst]
  have e3 : (dRet (dFz (dVar 3))) [some (.ref n), some (.d (.list ds)), some (.ref st.length), some (.ref (st.length + 1))] s2 = .ok (.rt (.d (.list es)), [some (.ref n), some (.d (.list ds)), some (.ref st.length), some (.ref (st.length + 1))]) (s2.set (st.length + 1) .dead) := by
    refine dRet_ok ?_
    unfold dFz
    simp [h2.f, lst, allD_map, -List.map_map]
  refine ⟨es, _, dDef_rt ((dSeq_nx e1).trans ((dSeq_nx (dWhile_of e (by simp))).trans e3)), by simpa using p2, ⟨by simp [h2.len], fun i hi a1 a2 => ?_, ?_⟩⟩
  · rw [List.getElem?_set_ne (by omega), u2 i hi a1 a2, kp i hi]
  · obtain ⟨cs, b, g1, g2, r⟩ := h2.ok
    exact ⟨cs, b, by rw [List.getElem?_set_ne (by omega)]; exact g1, by rw [List.getElem?_set_ne (by omega)]; exact g2, r⟩
theorem lcL_sub {α : Type} {tg : W → En → Sto → R En} {tt : En → Sto → R Bool} {fe : En → Sto → R W} {ρ : En} {emb g : α → W} {P : Sto → Prop} : ∀ (ws : List α) (s : Sto), P s → (∀ a ∈ ws, ∀ s, P s → ∃ ρ1 b s', tg (emb a) ρ s = .ok ρ1 s ∧ tt ρ1 s = .ok b s' ∧ P s' ∧ (b = true → fe ρ1 s' = .ok (g a) s')) → ∃ (sub : List α) (s' : Sto), sub.Sublist ws ∧ lcL tg tt fe ρ (ws.map emb) s = .ok (sub.map g) s' ∧ P s'
  | [], s, h, _ => ⟨[], s, .slnil, rfl, h⟩
  | a :: ws, s, h, t => by
    obtain ⟨ρ1, b, s1, h1, h2, h3, h4⟩ := t a List.mem_cons_self s h
    obtain ⟨sub, s2, g1, g2, g3⟩ := lcL_sub ws s1 h3 fun b hb => t b (List.mem_cons_of_mem _ hb)
    cases b with
    | true =>
      refine ⟨a :: sub, s2, .cons_cons a g1, ?_, g3⟩
      rw [List.map_cons, lcL_yes h1 h2 (h4 rfl), g2]; rfl
    | false =>
      refine ⟨sub, s2, .cons a g1, ?_, g3⟩
      rw [List.map_cons, lcL_no h1 h2, g2]
theorem perm_unmap {α β : Type} {f : α → β} {g : β → α} {l : List α} {es : List β} (hg : ∀ a, g (f a) = a) (p : es.Perm (l.map f)) : ∃ l' : List α, es = l'.map f ∧ l'.Perm l := by
  refine ⟨es.map g, ?_, ?_⟩
  · rw [List.map_map]
    have : ∀ e ∈ es, f (g e) = e := fun e he => by
      obtain ⟨a, _, rfl⟩ := List.mem_map.mp (p.mem_iff.mp he)
      rw [hg]
    have h2 := List.map_congr_left (f := f ∘ g) (g := id) (l := es) this
    rw [h2, List.map_id]
  · have := p.map g
    rw [List.map_map] at this
    have e : l.map (g ∘ f) = l := by
      have := List.map_congr_left (f := g ∘ f) (g := id) (l := l) fun a _ => hg a
      rw [this, List.map_id]
    rw [e] at this
    exact this
abbrev nI (i : Nat) : PyData := .int (i : Int)
def unI : PyData → Nat
  | .int i => i.toNat
  | _ => 0
theorem rng_ok {ρ : En} {st : Sto} {f : En → Sto → R W} {m : Nat} (h : f ρ st = .ok (I m) st) (hm : m ≤ 1000) : dListRng f ρ st = .ok (.d (.list ((List.range m).map nI))) st := by
  unfold dListRng
  rw [h, R.bind_ok]
  dsimp only
  rw [chk_ok ⟨by omega, by omega⟩, Int.toNat_natCast]
theorem mixed_rng {n c m : Nat} {st : Sto} (h : DealOk st n c) (hm : m ≤ 1000) : ∃ (σ : List Nat) (st' : Sto), F_l_mixed [.ref n, .d (.list ((List.range m).map nI))] st = .ok (.d (.list (σ.map nI))) st' ∧ σ.Perm (List.range m) ∧ Dealt n c st st' := by
  obtain ⟨es, s, e, p, d⟩ := F_mixed_ok (ds := (List.range m).map nI) h (by simp; omega) (fun x hx => by
    obtain ⟨i, _, rfl⟩ := List.mem_map.mp hx
    exact Dk.int _)
  obtain ⟨σ, rfl, q⟩ := perm_unmap (f := nI) (g := unI) (fun a => by simp [unI]) p
  exact ⟨σ, s, e, q, d⟩
abbrev wP (p : P2) : W := .d (pD p)
def InM (m : Nat) (p : P2) : Prop := (0 ≤ p.1 ∧ p.1 < m) ∧ 0 ≤ p.2 ∧ p.2 < m
structure WebAt (n c b m : Nat) (s : Sto) (qs : List P2) : Prop where
  ok : DealOk s n c
  nb : b ≠ n
  cb : b ≠ c
  at_ : s[b]? = some (.lst (qs.map wP))
  inm : ∀ q ∈ qs, InM m q
theorem dPar_ok {i j : Nat} {fa : En → Sto → R (List W)} {ρ : En} {s s1 : Sto} {w u : W} (h : fa ρ s = .ok [w, u] s1) : dPar i j fa ρ s = .ok (.nx, (ρ.set i (some w)).set j (some u)) s1 := by unfold dPar; rw [h]; rfl
theorem dNew_ok {fa : En → Sto → R (List W)} {ρ : En} {s s1 : Sto} {ws : List W} (h : fa ρ s = .ok ws s1) (hl : ws.length ≤ sizeLine) : dNew fa ρ s = .ok (.ref s1.length) (s1 ++ [.lst ws]) := by unfold dNew; rw [h, R.bind_ok, chk_ok hl]
theorem dLcN_ok {f : En → Sto → R (List W)} {ρ : En} {s s1 : Sto} {ws : List W} (h : f ρ s = .ok ws s1) : dLcN f ρ s = .ok (.ref s1.length) (s1 ++ [.lst ws]) := by unfold dLcN; rw [h]; rfl
theorem dFrz_ok {i b : Nat} {ρ : En} {s : Sto} {ds : List PyData} (h : ρ[i]? = some (some (.ref b))) (h2 : s[b]? = some (.lst (ds.map W.d))) : dFrz i ρ s = .ok (.nx, ρ.set i (some (.d (.list ds)))) (s.set b .dead) := by
  unfold dFrz
  rw [h]
  simp [h2, allD_map, -List.map_map]
theorem any_ok {n c k : Nat} {st : Sto} (h : DealOk st n c) (h0 : 0 < k) (h1 : k < 1000000) : ∃ (j : Nat) (st' : Sto), F_l_any [.ref n, I k] st = .ok (I j) st' ∧ j < k ∧ Dealt n c st st' ∧ st'.length = st.length := by
  obtain ⟨r, s, e, g1, g2, g3, g4⟩ := F_any_ok (k := (k : Int)) h (by omega) (by omega)
  obtain ⟨j, rfl⟩ := Int.eq_ofNat_of_zero_le g1
  exact ⟨j, s, e, by omega, g3, g4⟩
def mm (p : P2) : P2 := (min p.1 p.2, max p.1 p.2)
theorem lcL_filter2 {α : Type} {tg : W → En → Sto → R En} {tt : En → Sto → R Bool} {fe : En → Sto → R W} {ρ : En} {s : Sto} {emb g : α → W} {p : α → Bool} (ws : List α) (h : ∀ a ∈ ws, ∃ ρ1, tg (emb a) ρ s = .ok ρ1 s ∧ tt ρ1 s = .ok (p a) s ∧ (p a = true → fe ρ1 s = .ok (g a) s)) : lcL tg tt fe ρ (ws.map emb) s = .ok ((ws.filter p).map g) s := lcL_filter ws h
end BL
namespace BL
open PySem PySem.Spec PyProof.Rows L2 Y
theorem all_show {xs : List PyData} (h : ∀ x ∈ xs, x.showable = true) : PyData.showableAll xs = true := by
  induction xs with
  | nil => rfl
  | cons x xs ih => rw [PyData.showableAll, h x List.mem_cons_self, ih fun y hy => h y (List.mem_cons_of_mem _ hy)]; rfl
theorem all_short {xs : List PyData} (h : ∀ x ∈ xs, x.intsShort 13 = true) : PyData.intsShortAll 13 xs = true := by
  induction xs with
  | nil => rfl
  | cons x xs ih => rw [PyData.intsShortAll, h x List.mem_cons_self, ih fun y hy => h y (List.mem_cons_of_mem _ hy)]; rfl
theorem all_wt {xs : List PyData} {k : Nat} (h : ∀ x ∈ xs, x.weight ≤ k) : PyData.weightAll xs ≤ (k + 1) * xs.length := by
  induction xs with
  | nil => simp [PyData.weightAll]
  | cons x xs ih =>
    have h1 := h x List.mem_cons_self
    have h2 := ih fun y hy => h y (List.mem_cons_of_mem _ hy)
    rw [PyData.weightAll, List.length_cons, Nat.mul_add, Nat.mul_one]
    omega
/-- small data: a level deeper -/
structure Sm (k w : Nat) (d : PyData) : Prop where
  dk : Dk k d
  sh : d.showable = true
  st : d.intsShort 13 = true
  wt : d.weight ≤ w
theorem Sm.int {k : Nat} {i : Int} (h1 : i.natAbs < 1024) : Sm k 10 (.int i) := by
  have l : i.natAbs.log2 < 10 := by
    by_cases h0 : i.natAbs = 0
    · rw [h0]; decide
    · rw [Nat.log2_lt h0]; omega
  refine ⟨Dk.int _, ?_, ?_, ?_⟩
  · rw [PyData.showable, decide_eq_true_eq]; exact Nat.lt_of_lt_of_le l (by decide)
  · rw [PyData.intsShort, decide_eq_true_eq]; exact PyData.shown_int_le (by omega)
  · rw [PyData.weight]; split <;> omega
theorem Sm.tup {k w n : Nat} {xs : List PyData} (h : ∀ x ∈ xs, Sm k w x) (hl : xs.length ≤ n) : Sm (k + 1) ((w + 1) * n) (.tuple xs) :=
  ⟨Dk.tup fun x hx => (h x hx).dk, by rw [PyData.showable]; exact all_show fun x hx => (h x hx).sh, by rw [PyData.intsShort]; exact all_short fun x hx => (h x hx).st, by
    rw [PyData.weight]
    exact Nat.le_trans (all_wt fun x hx => (h x hx).wt) (Nat.mul_le_mul_left _ hl)⟩
theorem Sm.up {k w w' : Nat} {d : PyData} (h : Sm k w d) (hw : w ≤ w') : Sm k w' d := ⟨h.dk, h.sh, h.st, Nat.le_trans h.wt hw⟩
theorem Sm.deep {k k' w : Nat} {d : PyData} (h : Sm k w d) (hk : k ≤ k') : Sm k' w d := ⟨⟨h.dk.1, Nat.le_trans h.dk.2 hk⟩, h.sh, h.st, h.wt⟩
theorem Sm.repr {k w : Nat} {d : PyData} {st : Sto} (h : Sm k w d) (hk : k ≤ 64) (hw : w ≤ 2 ^ 20) : gRepr [.d d] st = .ok (.d (.str d.shown)) st := repr_ok h.dk hk h.sh h.st h.wt hw
theorem Sm.bool {k w : Nat} {b : Bool} : Sm k w (.bool b) := ⟨Dk.bl _, by cases b <;> rfl, by cases b <;> rfl, by cases b <;> exact Nat.zero_le _⟩
theorem Sm.none {k w : Nat} : Sm k w .none := ⟨Dk.non, rfl, rfl, Nat.zero_le _⟩
theorem Sm.shaped {k w : Nat} {d : PyData} (h : Sm k w d) (hk : k ≤ 64) : SeqAt.shaped d = true := h.dk.shaped hk
theorem Sm.nat {k i : Nat} (h1 : i < 1024) : Sm k 10 (nI i) := Sm.int (by omega)
theorem Sm.lst {k w n : Nat} {xs : List PyData} (h : ∀ x ∈ xs, Sm k w x) (hl : xs.length ≤ n) : Sm (k + 1) ((w + 1) * n) (.list xs) :=
  ⟨Dk.lst fun x hx => (h x hx).dk, by rw [PyData.showable]; exact all_show fun x hx => (h x hx).sh, by rw [PyData.intsShort]; exact all_short fun x hx => (h x hx).st, by
    rw [PyData.weight]
    exact Nat.le_trans (all_wt fun x hx => (h x hx).wt) (Nat.mul_le_mul_left _ hl)⟩
/-- the same data shown twice is the same text -/
theorem ne_repr {f g : En → Sto → R W} {ρ : En} {s s1 s2 : Sto} {k w : Nat} {d : PyData} (hd : Sm k w d) (hk : k ≤ 64) (hw : w ≤ 2 ^ 20) (h1 : f ρ s = .ok (.d d) s1) (h2 : g ρ s1 = .ok (.d d) s2) :
    asB (dBin (vEq true) (dCall gRepr (dCons f dNil)) (dCall gRepr (dCons g dNil)) ρ s) = .ok false s2 :=
  asB_ok (dBin_ok (dCall_ok (dCons1_ok h1) (hd.repr hk hw)) (dCall_ok (dCons1_ok h2) (hd.repr hk hw)) (by simp [vEq]))
abbrev E2 := Nat × Nat
abbrev eD (e : E2) : PyData := .tuple [nI e.1, nI e.2]
abbrev lotD (l : List Nat) : PyData := .tuple (l.map nI)
abbrev webN (m : Nat) (es : List E2) : PyData := .tuple [nI m, .tuple (es.map eD)]
/-- a web: rising pairs of people -/
structure WebN (m : Nat) (es : List E2) : Prop where
  h1 : 1 ≤ m
  hm : m ≤ 20
  len : es.length < 64
  lt : ∀ e ∈ es, e.1 < e.2 ∧ e.2 < m
  nd : es.Nodup
  pw : es.Pairwise (fun a b => a.1 < b.1 ∨ (a.1 = b.1 ∧ a.2 < b.2))
theorem shaped_lot (l : List Nat) : SeqAt.shaped (lotD l) = true := (Dk.tup (k := 0) fun x hx => by
    obtain ⟨u, _, rfl⟩ := List.mem_map.mp hx
    exact Dk.int _).shaped (by decide)
theorem any_nat (l : List Nat) (i : Nat) : ((l.map nI).any fun z => PyData.eqv z (nI i)) = decide (i ∈ l) := by
  induction l with
  | nil => simp
  | cons a l ih =>
    rw [List.map_cons, List.any_cons, ih]
    have e : PyData.eqv (nI a) (nI i) = decide (i = a) := by
      show ((a : Int) == (i : Int)) = _
      rw [Bool.eq_iff_iff, beq_iff_eq, decide_eq_true_eq]
      omega
    rw [e]
    by_cases h1 : i = a <;> simp [h1]
theorem vIn_nat {l : List Nat} {i : Nat} {st : Sto} : vIn false (.d (nI i)) (.d (lotD l)) st = .ok (.d (.bool (decide (i ∈ l)))) st := by
  show chk _ _ = _
  rw [chk_ok ⟨shaped_int _, shaped_lot l⟩, ← any_nat, Bool.false_xor]
theorem vNotIn_nat {l : List Nat} {i : Nat} {st : Sto} : vIn true (.d (nI i)) (.d (lotD l)) st = .ok (.d (.bool (!decide (i ∈ l)))) st := by
  show chk _ _ = _
  rw [chk_ok ⟨shaped_int _, shaped_lot l⟩, ← any_nat]
  simp
theorem vEq_nat {i j : Nat} {st : Sto} : vEq false (.d (nI i)) (.d (nI j)) st = .ok (.d (.bool (decide (i = j)))) st := by
  show chk _ _ = _
  rw [chk_ok ⟨shaped_int _, shaped_int _⟩]
  congr 3
  show ((false ^^ ((i : Int) == (j : Int))) : Bool) = _
  rw [Bool.false_xor, Bool.eq_iff_iff, beq_iff_eq, decide_eq_true_eq]
  omega
theorem vEq_int {i j : Int} {st : Sto} : vEq false (.d (.int i)) (.d (.int j)) st = .ok (.d (.bool (decide (i = j)))) st := by
  show chk _ _ = _
  rw [chk_ok ⟨shaped_int _, shaped_int _⟩]
  congr 3
  show (false ^^ (i == j)) = _
  rw [Bool.false_xor, Bool.eq_iff_iff, beq_iff_eq, decide_eq_true_eq]
theorem vNe_int {i j : Int} {st : Sto} : vEq true (.d (.int i)) (.d (.int j)) st = .ok (.d (.bool (!decide (i = j)))) st := by
  show chk _ _ = _
  rw [chk_ok ⟨shaped_int _, shaped_int _⟩]
  congr 3
  show (true ^^ (i == j)) = _
  rw [Bool.true_xor, Bool.not_inj_iff, Bool.eq_iff_iff, beq_iff_eq, decide_eq_true_eq]
theorem vAdd_nat {i j : Nat} {st : Sto} : vAdd (.d (nI i)) (.d (nI j)) st = .ok (.d (nI (i + j))) st := rfl
theorem gLen_map {α : Type} {f : α → PyData} {l : List α} {st : Sto} : gLen [.d (.list (l.map f))] st = .ok (.d (nI l.length)) st := by rw [gLen_list, List.length_map]
theorem gLen_tmap {α : Type} {f : α → PyData} {l : List α} {st : Sto} : gLen [.d (.tuple (l.map f))] st = .ok (.d (nI l.length)) st := by rw [gLen_tup, List.length_map]
theorem vIx_lmap {α : Type} {f : α → PyData} {l : List α} {j : Nat} {x : α} {st : Sto} (h : l[j]? = some x) : vIx (.d (.list (l.map f))) (.d (nI j)) st = .ok (.d (f x)) st := vIx_list (by rw [List.getElem?_map, h]; rfl)
theorem vIx_ref {n : Nat} {ws : List W} {j : Nat} {x : W} {st : Sto} (h1 : st[n]? = some (.lst ws)) (h : ws[j]? = some x) : vIx (.ref n) (.d (nI j)) st = .ok x st := by
  have e : atI ws (j : Int) = some x := atI_nat h
  simp [vIx, h1, e]
theorem le_line {n : Nat} (h : n ≤ 1000000) : n ≤ sizeLine := by rw [sizeLine_eq]; omega
section
variable {ρ ρ' : En} {s s1 s2 s3 : Sto} {w u v : W} {ws us : List W} {f g k : En → Sto → R W} {fa ga : En → Sto → R (List W)} {t t' : En → Sto → R Bool} {b b' : Bool} {r : R (Fl × En)}
theorem tup_ok {ds : List PyData} (h1 : fa ρ s = .ok ws s1) (h2 : allD ws = some ds) (h3 : ds.length ≤ 1000000) : dTup fa ρ s = .ok (.d (.tuple ds)) s1 := by
  have := allD_eq h2; subst this; exact dTup_ok h1 (le_line h3)
theorem lst_ok {ds : List PyData} (h1 : fa ρ s = .ok ws s1) (h2 : allD ws = some ds) (h3 : ds.length ≤ 1000000) : dLst fa ρ s = .ok (.d (.list ds)) s1 := by
  have := allD_eq h2; subst this; exact dLst_ok h1 (le_line h3)
theorem and_ok (h1 : t ρ s = .ok b s) (h2 : t' ρ s = .ok b' s) : dAnd t t' ρ s = .ok (b && b') s := by
  cases b with
  | true => exact dAnd_t h1 h2
  | false => exact dAnd_f h1
theorem or_ok (h1 : t ρ s = .ok b s) (h2 : t' ρ s = .ok b' s) : dOr t t' ρ s = .ok (b || b') s := by
  cases b with
  | true => exact dOr_t h1
  | false => exact dOr_f h1 h2
theorem to {F G : DS} (h : F ρ s = .ok (.nx, ρ') s1) (k : G ρ' s1 = r) : dSeq F G ρ s = r := (dSeq_nx h).trans k
theorem out {F G : DS} (h : F ρ s = .ok (.rt w, ρ') s1) (k : .ok (.rt w, ρ') s1 = r) : dSeq F G ρ s = r := (dSeq_rt h).trans k
theorem tupleOf_list {ds : List PyData} {st : Sto} : gTupleOf [.d (.list ds)] st = .ok (.d (.tuple ds)) st := by simp
end
end BL
namespace BL
open PySem PySem.Spec PyProof.Rows L2 Y
theorem whileN_ok {c : En → Sto → R Bool} {body : DS} {P : Nat → En → Sto → Prop} {Q : En → Sto → Prop}
    (step : ∀ k ρ s, P k ρ s → (∃ s1, c ρ s = .ok false s1 ∧ Q ρ s1) ∨ ∃ s1 ρ2 s2 k', c ρ s = .ok true s1 ∧ body ρ s1 = .ok (.nx, ρ2) s2 ∧ k' < k ∧ P k' ρ2 s2) :
    ∀ (n k : Nat) (ρ : En) (s : Sto), k < n → P k ρ s → ∃ ρ' s', whileN c body n ρ s = .ok (.nx, ρ') s' ∧ Q ρ' s'
  | 0, _, _, _, h, _ => absurd h (Nat.not_lt_zero _)
  | n + 1, k, ρ, s, h, p => by
    rcases step k ρ s p with ⟨s1, h1, h2⟩ | ⟨s1, ρ2, s2, k', h1, h2, h3, h4⟩
    · exact ⟨ρ, s1, by unfold whileN; rw [h1, R.bind_ok, if_neg (by simp)], h2⟩
    · obtain ⟨ρ', s', g1, g2⟩ := whileN_ok step n k' ρ2 s2 (by omega) h4
      refine ⟨ρ', s', ?_, g2⟩
      unfold whileN
      rw [h1, R.bind_ok, if_pos rfl, h2, R.bind_ok]
      exact g1
theorem while_ok {c : En → Sto → R Bool} {body : DS} {P : Nat → En → Sto → Prop} {Q : En → Sto → Prop}
    (step : ∀ k ρ s, P k ρ s → (∃ s1, c ρ s = .ok false s1 ∧ Q ρ s1) ∨ ∃ s1 ρ2 s2 k', c ρ s = .ok true s1 ∧ body ρ s1 = .ok (.nx, ρ2) s2 ∧ k' < k ∧ P k' ρ2 s2)
    (k : Nat) (ρ : En) (s : Sto) (p : P k ρ s) : ∃ ρ' s', dWhile c body ρ s = .ok (.nx, ρ') s' ∧ Q ρ' s' := by
  obtain ⟨ρ', s', h1, h2⟩ := whileN_ok step (k + 1) k ρ s (by omega) p
  exact ⟨ρ', s', dWhile_of h1 (by simp), h2⟩
theorem dForS_ok {f : En → Sto → R W} {tg : W → En → Sto → R En} {body : DS} {ρ : En} {s s1 : Sto} {n : Nat} {ws : List W} {r : R (Fl × En)} (h1 : f ρ s = .ok (.ref n) s1) (h2 : s1[n]? = some (.lst ws)) (h3 : forS n ws tg body ws ρ s1 = r) : dForS f tg body ρ s = r := by
  unfold dForS
  rw [h1, R.bind_ok]
  dsimp only
  rw [h2]
  exact h3
theorem forL_ok {α : Type} {tg : W → En → Sto → R En} {body : DS} {emb : α → W} {P : List α → En → Sto → Prop} (all : List α)
    (step : ∀ pre a post ρ s, all = pre ++ a :: post → P pre ρ s → ∃ ρ1 s1 ρ2 s2, tg (emb a) ρ s = .ok ρ1 s1 ∧ body ρ1 s1 = .ok (.nx, ρ2) s2 ∧ P (pre ++ [a]) ρ2 s2)
    {ρ : En} {s : Sto} (p : P [] ρ s) : ∃ ρ' s', forL tg body (all.map emb) ρ s = .ok (.nx, ρ') s' ∧ P all ρ' s' := forL_inv all step all [] ρ s rfl p
/-- a comprehension without a test -/
theorem lcL_acc {α : Type} {tg : W → En → Sto → R En} {fe : En → Sto → R W} {ρ : En} {emb : α → W} {P : List α → List W → Sto → Prop} (all : List α)
    (step : ∀ pre a post us s, all = pre ++ a :: post → P pre us s → ∃ ρ1 s1 u s2, tg (emb a) ρ s = .ok ρ1 s1 ∧ fe ρ1 s1 = .ok u s2 ∧ P (pre ++ [a]) (us ++ [u]) s2) :
    ∀ (post pre : List α) (us : List W) (s : Sto), all = pre ++ post → P pre us s → ∃ vs s', lcL tg (fun _ st => .ok true st) fe ρ (post.map emb) s = .ok vs s' ∧ P all (us ++ vs) s'
  | [], pre, us, s, h, p => ⟨[], s, rfl, by rw [h, List.append_nil, List.append_nil]; exact p⟩
  | a :: post, pre, us, s, h, p => by
    obtain ⟨ρ1, s1, u, s2, h1, h2, h3⟩ := step pre a post us s h p
    obtain ⟨vs, s', g1, g2⟩ := lcL_acc all step post (pre ++ [a]) (us ++ [u]) s2 (by rw [h]; simp) h3
    refine ⟨u :: vs, s', ?_, by rw [List.append_assoc] at g2; exact g2⟩
    show lcL tg _ fe ρ (emb a :: post.map emb) s = _
    unfold lcL
    rw [h1]
    simp only [R.nox, R.bind_ok, if_true]
    rw [h2]
    simp only [R.nox, R.bind_ok]
    rw [g1]
    rfl
theorem dLcS_ok {vs : List Nat} {f : En → Sto → R W} {tg : W → En → Sto → R En} {tt : En → Sto → R Bool} {fe : En → Sto → R W} {ρ : En} {s s1 s2 : Sto} {n : Nat} {ws us : List W} (h1 : f ρ s = .ok (.ref n) s1) (h2 : s1[n]? = some (.lst ws)) (h3 : lcS n ws tg tt fe (wipeE ρ vs) ws s1 = .ok us s2) (h4 : us.length ≤ sizeLine) : dLcS vs f tg tt fe ρ s = .ok us s2 := by
  unfold dLcS
  rw [h1, R.bind_ok]
  dsimp only
  rw [h2]
  dsimp only
  rw [h3, R.bind_ok, chk_ok h4]
theorem lcS_filter {α : Type} {n : Nat} {all : List W} {tg : W → En → Sto → R En} {tt : En → Sto → R Bool} {fe : En → Sto → R W} {ρ : En} {s : Sto} {emb g : α → W} {p : α → Bool} (hn : s[n]? = some (.lst all)) : ∀ (ws : List α), (∀ a ∈ ws, ∃ ρ1, tg (emb a) ρ s = .ok ρ1 s ∧ tt ρ1 s = .ok (p a) s ∧ (p a = true → fe ρ1 s = .ok (g a) s)) → lcS n all tg tt fe ρ (ws.map emb) s = .ok ((ws.filter p).map g) s
  | [], _ => by show lcS n all tg tt fe ρ [] s = _; unfold lcS; rw [if_pos hn]; rfl
  | a :: ws, h => by
    obtain ⟨ρ1, h1, h2, h3⟩ := h a List.mem_cons_self
    have ih := lcS_filter hn ws fun b hb => h b (List.mem_cons_of_mem _ hb)
    show lcS n all tg tt fe ρ (emb a :: ws.map emb) s = _
    unfold lcS
    rw [if_pos hn, h1]
    simp only [R.nox, R.bind_ok]
    rw [h2]
    simp only [R.nox, R.bind_ok]
    cases hp : p a with
    | true =>
      rw [if_pos rfl, h3 hp]
      simp only [R.nox, R.bind_ok]
      rw [ih, List.filter_cons_of_pos hp]
      rfl
    | false =>
      rw [if_neg (by simp), ih, List.filter_cons_of_neg (by simp [hp])]
abbrev nW (i : Nat) : W := .d (nI i)
theorem append_ok {n : Nat} {xs : List W} {w : W} {st : Sto} (h : st[n]? = some (.lst xs)) (hl : xs.length < 1000000) : mAppend (.ref n) [w] st = .ok (.d .none) (st.set n (.lst (xs ++ [w]))) := by
  unfold mAppend
  simp only [h]
  exact chk_ok (by rw [sizeLine_eq]; omega)
theorem setIx_ok {fe fo fi : En → Sto → R W} {ρ : En} {s s1 s2 s3 : Sto} {w : W} {n i : Nat} {xs : List W} (h1 : fe ρ s = .ok w s1) (h2 : fo ρ s1 = .ok (.ref n) s2) (h3 : fi ρ s2 = .ok (nW i) s3) (h4 : s3[n]? = some (.lst xs)) (h5 : i < xs.length) : dSetIx fe fo fi ρ s = .ok (.nx, ρ) (s3.set n (.lst (xs.set i w))) := by
  unfold dSetIx
  rw [h1, R.bind_ok, h2, R.bind_ok, h3, R.bind_ok]
  dsimp only
  rw [h4]
  dsimp only
  have e : ixN xs.length (i : Int) = some i := by
    unfold ixN
    simp
    omega
  rw [e]
end BL
namespace BL
open PySem PySem.Spec PyProof.Rows L2 Y
noncomputable def B_rows_of : DS :=
  (dSeq (dSet 1 (dLcN (dLc [4] (dRng1 (dCons (dBin vIx (dVar 0) (dLit (.int 0))) dNil)) (tName 4) (fun _ st => .ok true st) (dNew dNil))))
    (dSeq (dFor (dIter (dBin vIx (dVar 0) (dLit (.int 1)))) (tTup' 2 (tCons' (tName 2) (tCons' (tName 3) tNil')))
    (dSeq (dExpr (dMeth mAppend (dBin vIx (dVar 1) (dVar 2)) (dCons (dVar 3) dNil)))
    (dExpr (dMeth mAppend (dBin vIx (dVar 1) (dVar 3)) (dCons (dVar 2) dNil)))))
    (dRet (dVar 1))))
noncomputable def F_rows_of : Fn := dDef 5 B_rows_of
def nbs (es : List E2) (i : Nat) : List Nat := es.flatMap fun e => if e.1 = i then [e.2] else if e.2 = i then [e.1] else []
theorem nbs_snoc (es : List E2) (e : E2) (i : Nat) : nbs (es ++ [e]) i = nbs es i ++ (if e.1 = i then [e.2] else if e.2 = i then [e.1] else []) := by
  unfold nbs; rw [List.flatMap_append]; simp
theorem nbs_len (es : List E2) (i : Nat) : (nbs es i).length ≤ es.length := by
  induction es with
  | nil => exact Nat.le_refl _
  | cons e es ih =>
    have : nbs (e :: es) i = (if e.1 = i then [e.2] else if e.2 = i then [e.1] else []) ++ nbs es i := rfl
    rw [this, List.length_append, List.length_cons]
    split
    · simp; omega
    · split <;> simp <;> omega
def Adj (es : List E2) (u v : Nat) : Prop := (u, v) ∈ es ∨ (v, u) ∈ es
theorem Adj.symm {es : List E2} {u v : Nat} (h : Adj es u v) : Adj es v u := h.elim .inr .inl
theorem mem_nbs {es : List E2} {u v : Nat} (hs : ∀ e ∈ es, e.1 < e.2) : v ∈ nbs es u ↔ Adj es u v := by
  unfold nbs Adj
  rw [List.mem_flatMap]
  constructor
  · rintro ⟨⟨a, b⟩, he, hv⟩
    simp only at hv
    split at hv
    · rename_i q; subst q; rw [List.mem_singleton.mp hv]; exact .inl he
    · split at hv
      · rename_i q; subst q; rw [List.mem_singleton.mp hv]; exact .inr he
      · cases hv
  · rintro (h | h)
    · exact ⟨_, h, by simp⟩
    · refine ⟨_, h, ?_⟩
      have := hs _ h
      simp only at this ⊢
      rw [if_neg (by omega), if_pos trivial]
      exact List.mem_singleton.mpr rfl
/-- the rows of neighbours lie at R -/
structure RowsAt (s : Sto) (L m : Nat) (nb : Nat → List Nat) : Prop where
  top : s[L + m]? = some (.lst ((List.range m).map fun i => .ref (L + i)))
  row : ∀ i, i < m → s[L + i]? = some (.lst ((nb i).map nW))
theorem RowsAt.keep {s s' : Sto} {L m : Nat} {nb : Nat → List Nat} (h : RowsAt s L m nb) (k : ∀ i, i ≤ L + m → s'[i]? = s[i]?) : RowsAt s' L m nb :=
  ⟨(k _ (Nat.le_refl _)).trans h.top, fun i hi => (k _ (by omega)).trans (h.row i hi)⟩
theorem RowsAt.get {s : Sto} {L m : Nat} {nb : Nat → List Nat} (h : RowsAt s L m nb) {u : Nat} (hu : u < m) : vIx (.ref (L + m)) (nW u) s = .ok (.ref (L + u)) s :=
  vIx_ref h.top (by rw [List.getElem?_map, List.getElem?_range hu]; rfl)
theorem rows_of_ok {m : Nat} {es : List E2} (hw : ∀ e ∈ es, e.1 < e.2 ∧ e.2 < m) (hl : es.length ≤ 1000) (hm : m ≤ 1000) (s : Sto) :
    ∃ s', F_rows_of [.d (webN m es)] s = .ok (.ref (s.length + m)) s' ∧ s'.length = s.length + m + 1 ∧ (∀ i, i < s.length → s'[i]? = s[i]?) ∧ RowsAt s' s.length m (nbs es) := by
  obtain ⟨vs, s1, e1, e2, e3⟩ := lcL_acc (tg := tName 4) (fe := dNew dNil) (ρ := [some (.d (webN m es)), none, none, none, none]) (emb := fun i : Nat => W.d (.int i)) (P := fun pre us t => us = (List.range pre.length).map (fun i => W.ref (s.length + i)) ∧ t = s ++ List.replicate pre.length (.lst [])) (List.range m)
    (fun pre a post us t ea p => by
      obtain ⟨rfl, rfl⟩ := p
      refine ⟨_, _, _, _, rfl, dNew_ok rfl (by decide), ?_, ?_⟩
      · rw [List.length_append, List.length_replicate, List.length_append, List.length_singleton, List.range_succ, List.map_append]; rfl
      · rw [List.append_assoc, List.length_append, List.length_singleton, List.replicate_succ']) (List.range m) [] [] s rfl ⟨rfl, by simp⟩
  rw [List.nil_append, List.length_range] at e2
  rw [List.length_range] at e3
  subst e2 e3
  have g1 : (dSet 1 (dLcN (dLc [4] (dRng1 (dCons (dBin vIx (dVar 0) (dLit (.int 0))) dNil)) (tName 4) (fun _ st => .ok true st) (dNew dNil)))) [some (.d (webN m es)), none, none, none, none] s =
      .ok (.nx, [some (.d (webN m es)), some (.ref (s.length + m)), none, none, none]) (s ++ List.replicate m (.lst []) ++ [.lst ((List.range m).map fun i => W.ref (s.length + i))]) := by
    have := dSet_ok (i := 1) (dLcN_ok (dLc_ok (vs := [4]) (dRng1_ok (j := m) (dCons1_ok (dBin_ok (f := dVar 0) (g := dLit (.int 0)) (ρ := [some (.d (webN m es)), none, none, none, none]) (s := s) (dVar_ok rfl) rfl (vIx_tup (j := 0) rfl))) (by omega)) e1 (le_line (by rw [List.length_map, List.length_range]; omega))))
    rw [List.length_append, List.length_replicate] at this
    exact this
  obtain ⟨ρ', s2, f1, ⟨x, y, rfl⟩, f2, f3, f4⟩ := forL_ok (tg := tTup' 2 (tCons' (tName 2) (tCons' (tName 3) tNil'))) (body := dSeq (dExpr (dMeth mAppend (dBin vIx (dVar 1) (dVar 2)) (dCons (dVar 3) dNil))) (dExpr (dMeth mAppend (dBin vIx (dVar 1) (dVar 3)) (dCons (dVar 2) dNil)))) (emb := fun e => W.d (eD e))
    (P := fun pre ρ t => (∃ x y, ρ = [some (.d (webN m es)), some (.ref (s.length + m)), x, y, none]) ∧ t.length = s.length + m + 1 ∧ (∀ i, i < s.length → t[i]? = s[i]?) ∧ RowsAt t s.length m (nbs pre)) es
    (fun pre e post ρ t ea p => by
      obtain ⟨⟨x, y, rfl⟩, p1, p2, p3⟩ := p
      obtain ⟨u, v⟩ := e
      have hmem : (u, v) ∈ es := by rw [ea]; simp
      obtain ⟨h1, h2⟩ := hw _ hmem
      simp only at h1 h2
      have hpl : pre.length < es.length := by rw [ea]; simp
      have hn := nbs_len pre u
      have hn2 := nbs_len pre v
      have q1 := append_ok (w := nW v) (p3.row u (by omega)) (by rw [List.length_map]; omega)
      have p4 : RowsAt (t.set (s.length + u) (.lst ((nbs pre u).map nW ++ [nW v]))) s.length m (fun i => if i = u then nbs pre u ++ [v] else nbs pre i) := by
        refine ⟨by rw [List.getElem?_set_ne (by omega)]; exact p3.top, fun i hi => ?_⟩
        by_cases z : i = u
        · subst z; rw [List.getElem?_set_self (by omega), if_pos rfl]; simp
        · rw [List.getElem?_set_ne (by omega), if_neg z]; exact p3.row i hi
      have r2 := p4.row v (by omega)
      rw [if_neg (by omega)] at r2
      have q2 := append_ok (w := nW u) r2 (by rw [List.length_map]; omega)
      refine ⟨[some (.d (webN m es)), some (.ref (s.length + m)), some (nW u), some (nW v), none], t, _, _, rfl,
        to (dExpr_ok (dMeth_ok (dBin_ok (dVar_ok rfl) (dVar_ok rfl) (p3.get (by omega))) (p3.row u (by omega)) (dCons1_ok (dVar_ok rfl)) q1)) (dExpr_ok (dMeth_ok (dBin_ok (dVar_ok rfl) (dVar_ok rfl) (p4.get (by omega))) r2 (dCons1_ok (dVar_ok rfl)) q2)), ⟨_, _, rfl⟩, by simp [p1], fun i hi => ?_, ?_⟩
      · rw [List.getElem?_set_ne (by omega), List.getElem?_set_ne (by omega)]; exact p2 i hi
      · refine ⟨by rw [List.getElem?_set_ne (by omega)]; exact p4.top, fun i hi => ?_⟩
        rw [nbs_snoc]
        by_cases z : i = v
        · subst z
          rw [List.getElem?_set_self (by rw [List.length_set]; omega)]
          simp only
          rw [if_neg (by omega), if_pos trivial]; simp
        · rw [List.getElem?_set_ne (by omega), p4.row i hi]
          simp only
          by_cases z2 : i = u
          · subst z2; rw [if_pos rfl, if_pos rfl]
          · rw [if_neg z2, if_neg (by omega), if_neg (by omega), List.append_nil])
    (ρ := [some (.d (webN m es)), some (.ref (s.length + m)), none, none, none]) (s := s ++ List.replicate m (.lst []) ++ [.lst ((List.range m).map fun i => W.ref (s.length + i))])
    ⟨⟨none, none, rfl⟩, by simp; omega, fun i hi => by rw [List.append_assoc, List.getElem?_append_left hi], ⟨by
      rw [List.getElem?_append_right (by simp)]
      simp, fun i hi => by
      rw [List.append_assoc, List.getElem?_append_right (by omega), List.getElem?_append_left (by simp; omega), List.getElem?_replicate, if_pos (by omega)]
      rfl⟩⟩
  refine ⟨s2, dDef_rt (ρ' := [some (.d (webN m es)), some (.ref (s.length + m)), x, y, none]) (to g1 (to (dFor_ok (dIter_ok (x := .tuple (es.map eD)) (dBin_ok (dVar_ok rfl) rfl (vIx_tup (j := 1) rfl)) rfl) ?_) (dRet_ok (dVar_ok rfl)))), f2, f3, f4⟩
  rw [map_d]
  exact f1
end BL
namespace MB
theorem count_flip {V : List Nat} (hV : V.Nodup) {x : Nat} (hx : x ∈ V) {p q : Nat → Bool} (hp : p x = false) (hq : q x = true) (h : ∀ v ∈ V, v ≠ x → p v = q v) : V.countP q = V.countP p + 1 := by
  induction V with
  | nil => cases hx
  | cons a V ih =>
    have hn := List.nodup_cons.mp hV
    by_cases e : a = x
    · subst e
      have : V.countP p = V.countP q := List.countP_congr fun v hv => by
        have := h v (List.mem_cons_of_mem _ hv) fun z => hn.1 (z ▸ hv)
        rw [this]
      rw [List.countP_cons_of_pos hq, List.countP_cons_of_neg (by simp [hp]), this]
    · have hx' : x ∈ V := by
        rcases List.mem_cons.mp hx with z | z
        · exact absurd z.symm e
        · exact z
      have i := ih hn.2 hx' fun v hv => h v (List.mem_cons_of_mem _ hv)
      have ha := h a List.mem_cons_self e
      rw [List.countP_cons, List.countP_cons, i, ha]
      omega
variable (adj : Nat → Nat → Prop)
/-- a plan: each one's partner, himself if he has none -/
structure Mt (V : List Nat) (m : Nat → Nat) : Prop where
  mem : ∀ v ∈ V, m v ∈ V
  inv : ∀ v ∈ V, m (m v) = v
  adj : ∀ v ∈ V, m v ≠ v → adj v (m v)
def miss (V : List Nat) (m : Nat → Nat) : Nat := V.countP fun v => decide (m v = v)
/-- a largest plan -/
structure Mx (V : List Nat) (m : Nat → Nat) : Prop where
  mt : Mt adj V m
  least : ∀ m', Mt adj V m' → miss V m ≤ miss V m'
def swap (m : Nat → Nat) (u v : Nat) : Nat → Nat := fun w => if w = u then v else if w = v then u else m w
variable {adj} (sym : ∀ u v, adj u v → adj v u)
include sym
theorem mt_swap {V : List Nat} {m : Nat → Nat} (h : Mt adj V m) {u v : Nat} (hu : u ∈ V) (hv : v ∈ V) (ne : u ≠ v) (a : adj u v) (mu : m u = u) (mv : m v = v) : Mt adj V (swap m u v) := by
  refine ⟨fun w hw => ?_, fun w hw => ?_, fun w hw hn => ?_⟩
  · unfold swap
    split
    · exact hv
    · split
      · exact hu
      · exact h.mem w hw
  · unfold swap
    by_cases e1 : w = u
    · subst e1; simp [Ne.symm ne]
    · by_cases e2 : w = v
      · subst e2; simp [e1]
      · have h1 : m w ≠ u := fun z => e1 (by have := h.inv w hw; rw [z, mu] at this; exact this.symm)
        have h2 : m w ≠ v := fun z => e2 (by have := h.inv w hw; rw [z, mv] at this; exact this.symm)
        simp [e1, e2, h1, h2, h.inv w hw]
  · unfold swap at hn ⊢
    by_cases e1 : w = u
    · subst e1; simpa using a
    · by_cases e2 : w = v
      · subst e2; simp [e1]; exact sym _ _ a
      · simp [e1, e2] at hn ⊢; exact h.adj w hw hn
theorem miss_swap {V : List Nat} (hV : V.Nodup) {m : Nat → Nat} {u v : Nat} (hu : u ∈ V) (hv : v ∈ V) (ne : u ≠ v) (mu : m u = u) (mv : m v = v) : miss V m = miss V (swap m u v) + 2 := by
  have h1 := count_flip hV hu (p := fun w => decide (m w = w) && decide (w ≠ u)) (q := fun w => decide (m w = w)) (by simp) (by simp [mu]) (fun w _ hw => by simp [hw])
  have h2 := count_flip hV hv (p := fun w => decide (swap m u v w = w)) (q := fun w => decide (m w = w) && decide (w ≠ u)) (by simp [swap, Ne.symm ne]; exact ne) (by simp [mv, Ne.symm ne]) (fun w _ hw => by
    by_cases e : w = u
    · subst e; simp [swap]; exact Ne.symm ne
    · simp [swap, e, hw])
  unfold miss
  omega
/-- two neighbours are not both left -/
theorem no_adj {V : List Nat} (hV : V.Nodup) {m : Nat → Nat} (h : Mx adj V m) {u v : Nat} (hu : u ∈ V) (hv : v ∈ V) (ne : u ≠ v) (a : adj u v) (mu : m u = u) (mv : m v = v) : False := by
  have h1 := h.least _ (mt_swap sym h.mt hu hv ne a mu mv)
  have h2 := miss_swap sym hV hu hv ne mu mv
  omega
/-- x and y make a pair, whoever had y is left -/
def turn (m : Nat → Nat) (x y : Nat) : Nat → Nat := fun w => if w = x then y else if w = y then x else if w = m y then m y else m w
theorem mt_turn {V : List Nat} {m : Nat → Nat} (h : Mt adj V m) {x y : Nat} (hx : x ∈ V) (hy : y ∈ V) (ne : x ≠ y) (a : adj x y) (mx : m x = x) (my : m y ≠ y) : Mt adj V (turn m x y) := by
  have hz : m (m y) = y := h.inv y hy
  have zx : m y ≠ x := fun e => ne (by rw [e, mx] at hz; exact hz)
  refine ⟨fun w hw => ?_, fun w hw => ?_, fun w hw hn => ?_⟩
  · unfold turn
    split
    · exact hy
    · split
      · exact hx
      · split
        · exact h.mem y hy
        · exact h.mem w hw
  · unfold turn
    by_cases e1 : w = x
    · subst e1; simp [Ne.symm ne]
    · by_cases e2 : w = y
      · subst e2; simp [e1]
      · by_cases e3 : w = m y
        · subst e3; simp [e1, e2]
        · have h1 : m w ≠ x := fun z => e1 (by have := h.inv w hw; rw [z, mx] at this; exact this.symm)
          have h2 : m w ≠ y := fun z => e3 (by have := h.inv w hw; rw [z] at this; exact this.symm)
          have h3 : m w ≠ m y := fun z => e2 (by have := h.inv w hw; rw [z, hz] at this; exact this.symm)
          simp [e1, e2, e3, h1, h2, h3, h.inv w hw]
  · unfold turn at hn ⊢
    by_cases e1 : w = x
    · subst e1; simpa using a
    · by_cases e2 : w = y
      · subst e2; simp [e1]; exact sym _ _ a
      · by_cases e3 : w = m y
        · subst e3; simp [e1, e2] at hn
        · simp [e1, e2, e3] at hn ⊢; exact h.adj w hw hn
theorem miss_turn {V : List Nat} (hV : V.Nodup) {m : Nat → Nat} (h : Mt adj V m) {x y : Nat} (hx : x ∈ V) (hy : y ∈ V) (ne : x ≠ y) (mx : m x = x) (my : m y ≠ y) : miss V (turn m x y) = miss V m := by
  have hz : m (m y) = y := h.inv y hy
  have zx : m y ≠ x := fun e => ne (by rw [e, mx] at hz; exact hz)
  have h1 := count_flip hV hx (p := fun w => decide (m w = w) && decide (w ≠ x)) (q := fun w => decide (m w = w)) (by simp) (by simp [mx]) (fun w _ hw => by simp [hw])
  have h2 := count_flip hV (h.mem y hy) (p := fun w => decide (m w = w) && decide (w ≠ x)) (q := fun w => decide (turn m x y w = w)) (by simp [hz]; intro e; exact absurd e.symm my) (by simp [turn, zx, my]) (fun w _ hw => by
    by_cases e1 : w = x
    · subst e1; simp [turn]; exact Ne.symm ne
    · by_cases e2 : w = y
      · subst e2; simp [turn, e1, my]; exact ne
      · simp [turn, e1, e2, hw])
  unfold miss
  omega
omit sym in
theorem count_lt {V : List Nat} (hV : V.Nodup) {x : Nat} (hx : x ∈ V) {p q : Nat → Bool} (hp : p x = false) (hq : q x = true) (h : ∀ v ∈ V, p v = true → q v = true) : V.countP p < V.countP q := by
  have h1 := count_flip hV hx (p := fun w => q w && decide (w ≠ x)) (q := q) (by simp) hq (fun w _ hw => by simp [hw])
  have h2 : V.countP p ≤ V.countP fun w => q w && decide (w ≠ x) := List.countP_mono_left fun w hw pw => by
    have : w ≠ x := by intro e; subst e; rw [hp] at pw; cases pw
    simp [h w hw pw, this]
  omega
def dis (V : List Nat) (M N : Nat → Nat) : Nat := V.countP fun v => decide (M v ≠ N v)
/-- a way within V -/
inductive Way (adj : Nat → Nat → Prop) (V : List Nat) : Nat → Nat → Prop
  | nil {u : Nat} : u ∈ V → Way adj V u u
  | snoc {u t v : Nat} : Way adj V u t → v ∈ V → adj t v → Way adj V u v
omit sym in
theorem Way.mem {V : List Nat} {u v : Nat} (h : Way adj V u v) : u ∈ V ∧ v ∈ V := by
  induction h with
  | nil h => exact ⟨h, h⟩
  | snoc _ hv _ ih => exact ⟨ih.1, hv⟩
/-- an involution of a list -/
structure Iv (V : List Nat) (m : Nat → Nat) : Prop where
  mem : ∀ v ∈ V, m v ∈ V
  inv : ∀ v ∈ V, m (m v) = v
omit sym in
theorem parity : ∀ (k : Nat) (V : List Nat), V.length ≤ k → V.Nodup → ∀ m, Iv V m → V.length % 2 = miss V m % 2 := by
  intro k
  induction k with
  | zero =>
    intro V hk _ m _
    have : V = [] := List.length_eq_zero_iff.mp (by omega)
    subst this
    rfl
  | succ k ih =>
    intro V hk hV m h
    cases V with
    | nil => rfl
    | cons a W =>
      have hn := List.nodup_cons.mp hV
      have wa : ∀ w ∈ W, w ≠ a := fun w hw e => hn.1 (e ▸ hw)
      by_cases e : m a = a
      · have hW : Iv W m := ⟨fun w hw => by
          have h1 := h.mem w (List.mem_cons_of_mem _ hw)
          rcases List.mem_cons.mp h1 with z | z
          · have := h.inv w (List.mem_cons_of_mem _ hw)
            rw [z, e] at this
            exact absurd this.symm (wa w hw)
          · exact z, fun w hw => h.inv w (List.mem_cons_of_mem _ hw)⟩
        have := ih W (by simp at hk; omega) hn.2 m hW
        unfold miss at this ⊢
        rw [List.countP_cons_of_pos (by simp [e]), List.length_cons]
        omega
      · have hb : m a ∈ W := by
          rcases List.mem_cons.mp (h.mem a List.mem_cons_self) with z | z
          · exact absurd z e
          · exact z
        have he : (W.erase (m a)).Nodup := hn.2.erase _
        have hW : Iv (W.erase (m a)) m := ⟨fun w hw => by
          obtain ⟨w1, w2⟩ := (hn.2.mem_erase_iff).mp hw
          have h1 := h.mem w (List.mem_cons_of_mem _ w2)
          refine (hn.2.mem_erase_iff).mpr ⟨fun z => ?_, ?_⟩
          · have := h.inv w (List.mem_cons_of_mem _ w2)
            rw [z, h.inv a List.mem_cons_self] at this
            exact wa w w2 this.symm
          · rcases List.mem_cons.mp h1 with z | z
            · have := h.inv w (List.mem_cons_of_mem _ w2)
              rw [z] at this
              exact absurd this.symm w1
            · exact z, fun w hw => h.inv w (List.mem_cons_of_mem _ (List.mem_of_mem_erase hw))⟩
        have hl : (W.erase (m a)).length + 1 = W.length := by
          rw [List.length_erase_of_mem hb]
          have := List.length_pos_of_mem hb
          omega
        have := ih (W.erase (m a)) (by simp at hk; omega) he m hW
        have hp : W.Perm (m a :: W.erase (m a)) := List.perm_cons_erase hb
        have hc : miss W m = miss (W.erase (m a)) m := by
          unfold miss
          rw [hp.countP_eq, List.countP_cons_of_neg]
          simp only [decide_eq_true_eq]
          rw [h.inv a List.mem_cons_self]
          exact fun z => e z.symm
        have hc2 : miss (a :: W) m = miss W m := by
          unfold miss
          rw [List.countP_cons_of_neg (by simp [e])]
        rw [hc2, hc, List.length_cons]
        omega
omit sym in
theorem mx_ex (V : List Nat) : ∃ m, Mx adj V m := by
  have key : ∀ (k : Nat) (m : Nat → Nat), Mt adj V m → miss V m ≤ k → ∃ m, Mx adj V m := by
    intro k
    induction k with
    | zero => intro m h hk; exact ⟨m, h, fun m' _ => by omega⟩
    | succ k ih =>
      intro m h hk
      by_cases z : ∃ m', Mt adj V m' ∧ miss V m' < miss V m
      · obtain ⟨m', h1, h2⟩ := z
        exact ih m' h1 (by omega)
      · exact ⟨m, h, fun m' h' => Nat.not_lt.mp fun q => z ⟨m', h', q⟩⟩
  exact key _ id ⟨fun v hv => hv, fun v _ => rfl, fun v _ h => absurd rfl h⟩ (Nat.le_refl _)
/-- a lot whose taking away leaves many odd classes -/
structure Bar (adj : Nat → Nat → Prop) (V S L : List Nat) (f : Nat → Nat) : Prop where
  sn : S.Nodup
  ss : ∀ v ∈ S, v ∈ V
  same : ∀ u v, u ∈ V → v ∈ V → u ∉ S → v ∉ S → adj u v → f u = f v
  ln : L.Nodup
  odd : ∀ l ∈ L, (V.countP fun v => decide (v ∉ S) && decide (f v = l)) % 2 = 1
omit sym in
theorem Way.trans {V : List Nat} {a b c : Nat} (h : Way adj V a b) (g : Way adj V b c) : Way adj V a c := by
  induction g with
  | nil _ => exact h
  | snoc _ hv a ih => exact ih.snoc hv a
theorem Way.symm {V : List Nat} {a b : Nat} (h : Way adj V a b) : Way adj V b a := by
  induction h with
  | nil h => exact .nil h
  | snoc w hv a ih => exact Way.trans (.snoc (.nil hv) w.mem.2 (sym _ _ a)) ih
omit sym in
theorem sub_len : ∀ (l m : List Nat), l.Nodup → (∀ x ∈ l, x ∈ m) → l.length ≤ m.length
  | [], _, _, _ => Nat.zero_le _
  | a :: l, m, h, hs => by
    have hn := List.nodup_cons.mp h
    have ha := hs a List.mem_cons_self
    have := sub_len l (m.erase a) hn.2 fun x hx => (List.mem_erase_of_ne (fun e : x = a => hn.1 (by rw [← e]; exact hx))).mpr (hs x (List.mem_cons_of_mem _ hx))
    rw [List.length_erase_of_mem ha] at this
    have := List.length_pos_of_mem ha
    simp only [List.length_cons]
    omega
omit sym in
/-- no lot leaves more odd classes than a plan leaves people, and it has people -/
theorem weak {V S L : List Nat} {f : Nat → Nat} (hV : V.Nodup) (b : Bar adj V S L f) {M : Nat → Nat} (hM : Mt adj V M) : L.length ≤ S.length + miss V M := by
  have pick : ∀ l ∈ L, ∃ x ∈ V, x ∉ S ∧ f x = l ∧ (M x = x ∨ M x ∈ S) := fun l hl => Classical.byContradiction fun no => by
    have hn : ∀ x ∈ V, x ∉ S → f x = l → M x ≠ x ∧ M x ∉ S := fun x hx hs hf => ⟨fun e => no ⟨x, hx, hs, hf, .inl e⟩, fun e => no ⟨x, hx, hs, hf, .inr e⟩⟩
    have hW : (V.filter fun v => decide (v ∉ S) && decide (f v = l)).Nodup := hV.filter _
    have iv : Iv (V.filter fun v => decide (v ∉ S) && decide (f v = l)) M := ⟨fun w hw => by
      obtain ⟨w1, w2⟩ := List.mem_filter.mp hw
      simp only [Bool.and_eq_true, decide_eq_true_eq] at w2
      obtain ⟨n1, n2⟩ := hn w w1 w2.1 w2.2
      refine List.mem_filter.mpr ⟨hM.mem w w1, ?_⟩
      simp only [Bool.and_eq_true, decide_eq_true_eq]
      exact ⟨n2, by rw [← b.same w (M w) w1 (hM.mem w w1) w2.1 n2 (hM.adj w w1 n1)]; exact w2.2⟩, fun w hw => hM.inv w (List.mem_filter.mp hw).1⟩
    have pr := parity _ _ (Nat.le_refl _) hW M iv
    have m0 : miss (V.filter fun v => decide (v ∉ S) && decide (f v = l)) M = 0 := by
      unfold miss
      rw [List.countP_eq_zero]
      intro w hw
      obtain ⟨w1, w2⟩ := List.mem_filter.mp hw
      simp only [Bool.and_eq_true, decide_eq_true_eq] at w2 ⊢
      exact (hn w w1 w2.1 w2.2).1
    have := b.odd l hl
    rw [List.countP_eq_length_filter, pr, m0] at this
    cases this
  have : ∃ g : Nat → Nat, ∀ l ∈ L, g l ∈ V ∧ g l ∉ S ∧ f (g l) = l ∧ (M (g l) = g l ∨ M (g l) ∈ S) :=
    ⟨fun l => @dite _ (l ∈ L) (Classical.propDecidable _) (fun h => Classical.choose (pick l h)) (fun _ => 0), fun l hl => by
      dsimp only
      rw [dif_pos hl]
      exact Classical.choose_spec (pick l hl)⟩
  obtain ⟨g, hg⟩ := this
  let e : Nat → Nat := fun l => M (g l)
  have inj : ∀ a ∈ L, ∀ c ∈ L, e a = e c → a = c := fun a ha c hc z => by
    obtain ⟨a1, a2, a3, a4⟩ := hg a ha
    obtain ⟨c1, c2, c3, c4⟩ := hg c hc
    have h1 := hM.inv (g a) a1
    have h2 := hM.inv (g c) c1
    have z : M (g a) = M (g c) := z
    rw [← a3, ← c3, ← h1, ← h2, z]
  have nd : (L.map e).Nodup := by
    unfold List.Nodup
    rw [List.pairwise_map]
    exact List.Pairwise.imp_of_mem (fun {a c} ha hc ne z => ne (inj a ha c hc z)) b.ln
  have sub : ∀ x ∈ L.map e, x ∈ S ++ V.filter fun v => decide (M v = v) := fun x hx => by
    obtain ⟨l, hl, rfl⟩ := List.mem_map.mp hx
    obtain ⟨a1, a2, a3, a4⟩ := hg l hl
    rcases a4 with h | h
    · exact List.mem_append_right _ (List.mem_filter.mpr ⟨by show M (g l) ∈ V; rw [h]; exact a1, by show decide (M (M (g l)) = M (g l)) = true; rw [h, h]; simp⟩)
    · exact List.mem_append_left _ h
  have := sub_len _ _ nd sub
  rw [List.length_map, List.length_append] at this
  unfold miss
  rw [List.countP_eq_length_filter]
  exact this
end MB
namespace BL
open PySem PySem.Spec PyProof.Rows L2 Y
inductive Rch (es : List E2) : Nat → Nat → Prop
  | nil (u : Nat) : Rch es u u
  | snoc {u t v : Nat} : Rch es u t → Adj es t v → Rch es u v
theorem Rch.trans {es : List E2} {a b c : Nat} (h : Rch es a b) (g : Rch es b c) : Rch es a c := by
  induction g with
  | nil => exact h
  | snoc _ e ih => exact .snoc ih e
theorem Rch.symm {es : List E2} {a b : Nat} (h : Rch es a b) : Rch es b a := by
  induction h with
  | nil => exact .nil _
  | snoc _ e ih => exact (Rch.snoc (.nil _) e.symm).trans ih
/-- nobody reaches one without a pair, but himself -/
theorem Rch.alone {es : List E2} {a b : Nat} (h : Rch es a b) (no : ∀ w, ¬ Adj es w b) : a = b := by
  cases h with
  | nil => rfl
  | snoc _ e => exact absurd e (no _)
def outE (l : List Nat) (e : E2) : Bool := !decide (e.1 ∈ l) && !decide (e.2 ∈ l)
abbrev bools (m : Nat) (b : Nat → Bool) : SO := .lst ((List.range m).map fun i => .d (.bool (b i)))
theorem bools_get {m : Nat} {b : Nat → Bool} {s : Sto} {B v : Nat} (h : s[B]? = some (bools m b)) (hv : v < m) : vIx (.ref B) (nW v) s = .ok (.d (.bool (b v))) s :=
  vIx_ref h (by rw [List.getElem?_map, List.getElem?_range hv]; rfl)
theorem nodup_lt {l : List Nat} {m : Nat} (h : l.Nodup) (hl : ∀ v ∈ l, v < m) : l.length ≤ m := by
  have := MB.sub_len l (List.range m) h fun v hv => List.mem_range.mpr (hl v hv)
  simpa using this
end BL
namespace BL
open PySem PySem.Spec PyProof.Rows L2 Y
def IsHead (es : List E2) (l : List Nat) (p : Nat) : Prop := p ∉ l ∧ ∀ w, w < p → ¬ Rch es w p
open Classical in
noncomputable def partOf (m : Nat) (es : List E2) (h : Nat) : List Nat := (List.range m).filter fun v => decide (Rch es h v)
open Classical in
noncomputable def heads (es : List E2) (l : List Nat) (k : Nat) : List Nat := (List.range k).filter fun p => decide (IsHead es l p)
noncomputable def cano (m : Nat) (es : List E2) (l : List Nat) : List (List Nat) := (heads es l m).map (partOf m es)
theorem out_adj {es : List E2} {l : List Nat} {u v : Nat} : Adj (es.filter (outE l)) u v ↔ Adj es u v ∧ u ∉ l ∧ v ∉ l := by
  unfold Adj outE
  simp only [List.mem_filter, Bool.and_eq_true, Bool.not_eq_true', decide_eq_false_iff_not]
  constructor
  · rintro (⟨a, b, c⟩ | ⟨a, b, c⟩)
    · exact ⟨.inl a, b, c⟩
    · exact ⟨.inr a, c, b⟩
  · rintro ⟨a | a, b, c⟩
    · exact .inl ⟨a, b, c⟩
    · exact .inr ⟨a, c, b⟩
noncomputable def oddPs (m : Nat) (es : List E2) (l : List Nat) : List (List Nat) := (cano m (es.filter (outE l)) l).filter fun c => decide (c.length % 2 = 1)
end BL
namespace BL
open PySem PySem.Spec PyProof.Rows L2 Y
def Lev (es : List E2) (h : Nat) : Nat → Nat → Prop
  | 0, v => h = v
  | r + 1, v => Lev es h r v ∨ ∃ u, Lev es h r u ∧ Adj es u v
theorem mem_heads {es : List E2} {l : List Nat} {k h : Nat} : h ∈ heads es l k ↔ h < k ∧ IsHead es l h := by
  unfold heads
  rw [List.mem_filter, List.mem_range, @decide_eq_true_eq _ (Classical.propDecidable _)]
end BL
namespace BL
open PySem PySem.Spec PyProof.Rows L2 Y
def allL : Nat → List (List Nat)
  | 0 => [[]]
  | k + 1 => allL k ++ (allL k).map (· ++ [k])
theorem allL_len : ∀ k, (allL k).length = 2 ^ k
  | 0 => rfl
  | k + 1 => by rw [allL, List.length_append, List.length_map, allL_len k, Nat.pow_succ]; omega
theorem allL_mem {l : List Nat} : ∀ {k : Nat}, l ∈ allL k → l.Pairwise (· < ·) ∧ ∀ x ∈ l, x < k
  | 0, h => by
    have : l = [] := List.mem_singleton.mp h
    subst this
    exact ⟨.nil, fun _ z => nomatch z⟩
  | k + 1, h => by
    rcases List.mem_append.mp h with h | h
    · obtain ⟨a, b⟩ := allL_mem h
      exact ⟨a, fun x hx => Nat.lt_succ_of_lt (b x hx)⟩
    · obtain ⟨q, hq, rfl⟩ := List.mem_map.mp h
      obtain ⟨a, b⟩ := allL_mem hq
      refine ⟨List.pairwise_append.mpr ⟨a, by simp, fun x hx y hy => by rw [List.mem_singleton.mp hy]; exact b x hx⟩, fun x hx => ?_⟩
      rcases List.mem_append.mp hx with hx | hx
      · exact Nat.lt_succ_of_lt (b x hx)
      · rw [List.mem_singleton.mp hx]; omega
theorem allL_filter (p : Nat → Bool) : ∀ k, (List.range k).filter p ∈ allL k
  | 0 => by simp [allL]
  | k + 1 => by
    rw [List.range_succ, List.filter_append, allL]
    cases h : p k with
    | true =>
      rw [List.filter_cons_of_pos h, List.filter_nil]
      exact List.mem_append_right _ (List.mem_map.mpr ⟨_, allL_filter p k, rfl⟩)
    | false =>
      rw [List.filter_cons_of_neg (by simp [h]), List.filter_nil, List.append_nil]
      exact List.mem_append_left _ (allL_filter p k)
def hit (e o : E2) : Bool := decide (o.1 ∈ [e.1, e.2]) || decide (o.2 ∈ [e.1, e.2])
def stepP (found : List (List E2)) (e : E2) : List (List E2) := found ++ (found.filter fun p => (p.filter (hit e)).isEmpty).map (· ++ [e])
def allP (es : List E2) : List (List E2) := es.foldl stepP [[]]
theorem allP_snoc (es : List E2) (e : E2) : allP (es ++ [e]) = stepP (allP es) e := by unfold allP; rw [List.foldl_append]; rfl
def Dis (a b : E2) : Prop := (a.1 ≠ b.1 ∧ a.1 ≠ b.2) ∧ a.2 ≠ b.1 ∧ a.2 ≠ b.2
theorem hit_dis {e o : E2} : hit e o = false ↔ Dis o e := by
  unfold hit Dis
  simp [not_or]
theorem free_iff {p : List E2} {e : E2} : (p.filter (hit e)).isEmpty = true ↔ ∀ o ∈ p, Dis o e := by
  rw [List.isEmpty_iff, List.filter_eq_nil_iff]
  exact ⟨fun h o ho => hit_dis.mp (by simpa using h o ho), fun h o ho => by simpa using hit_dis.mpr (h o ho)⟩
theorem allP_mem {p : List E2} : ∀ (n : Nat) (es : List E2), es.length = n → (p ∈ allP es ↔ p.Sublist es ∧ p.Pairwise Dis)
  | 0, es, h => by
    have := List.length_eq_zero_iff.mp h
    subst this
    show p ∈ [[]] ↔ _
    rw [List.mem_singleton, List.sublist_nil]
    exact ⟨fun h => ⟨h, by subst h; exact .nil⟩, fun h => h.1⟩
  | n + 1, es, h => by
    rcases List.eq_nil_or_concat es with rfl | ⟨pre, e, rfl⟩
    · cases h
    · rw [List.concat_eq_append] at h ⊢
      have ih := fun q : List E2 => allP_mem (p := q) n pre (by simpa using h)
      rw [allP_snoc, stepP, List.mem_append, ih p, List.sublist_append_iff]
      constructor
      · rintro (⟨a, b⟩ | h)
        · exact ⟨⟨p, [], by simp, a, List.nil_sublist _⟩, b⟩
        · obtain ⟨q, hq, rfl⟩ := List.mem_map.mp h
          obtain ⟨h1, h2⟩ := List.mem_filter.mp hq
          obtain ⟨a, b⟩ := (ih q).mp h1
          refine ⟨⟨q, [e], rfl, a, List.Sublist.refl _⟩, List.pairwise_append.mpr ⟨b, by simp, fun x hx y hy => ?_⟩⟩
          rw [List.mem_singleton.mp hy]
          exact free_iff.mp h2 x hx
      · rintro ⟨⟨l1, l2, rfl, a, b⟩, c⟩
        obtain ⟨c1, c2, c3⟩ := List.pairwise_append.mp c
        cases b with
        | cons _ b =>
          have := List.sublist_nil.mp b
          subst this
          rw [List.append_nil] at c ⊢
          exact .inl ⟨a, c1⟩
        | cons_cons _ b =>
          have := List.sublist_nil.mp b
          subst this
          exact .inr (List.mem_map.mpr ⟨l1, List.mem_filter.mpr ⟨(ih l1).mpr ⟨a, c1⟩, free_iff.mpr fun o ho => c3 o ho e (by simp)⟩, rfl⟩)
abbrev planD (p : List E2) : PyData := .tuple (p.map eD)
end BL
namespace BL
open PySem PySem.Spec PyProof.Rows L2 Y
theorem sub_len {α : Type} [DecidableEq α] : ∀ (l m : List α), l.Nodup → (∀ x ∈ l, x ∈ m) → l.length ≤ m.length
  | [], _, _, _ => Nat.zero_le _
  | a :: l, m, h, hs => by
    obtain ⟨h1, h2⟩ := List.nodup_cons.mp h
    have ha : a ∈ m := hs a List.mem_cons_self
    have := sub_len l (m.erase a) h2 fun x hx => (List.mem_erase_of_ne (fun z => h1 (by rw [← z]; exact hx))).mpr (hs x (List.mem_cons_of_mem _ hx))
    rw [List.length_erase_of_mem ha] at this
    have hp : 0 < m.length := List.length_pos_of_mem ha
    rw [List.length_cons]
    omega
section
variable {m : Nat} {fe : List E2} {l : List Nat}
theorem head_ex (iso : ∀ {u v : Nat}, Adj fe u v → u ∉ l ∧ v ∉ l) (lt : ∀ {u v : Nat}, Adj fe u v → u < m ∧ v < m) : ∀ (v : Nat), v < m → v ∉ l → ∃ h, h ∈ heads fe l m ∧ Rch fe h v := by
  intro v hv hvl
  have : ∀ n w, w ≤ n → w < m → w ∉ l → Rch fe w v → ∃ h, h ∈ heads fe l m ∧ Rch fe h v := by
    intro n
    induction n with
    | zero =>
      intro w hw hm hl hr
      refine ⟨w, mem_heads.mpr ⟨hm, hl, fun u hu => by omega⟩, hr⟩
    | succ n ih =>
      intro w hw hm hl hr
      by_cases hh : IsHead fe l w
      · exact ⟨w, mem_heads.mpr ⟨hm, hh⟩, hr⟩
      · have : ∃ u, u < w ∧ Rch fe u w := Classical.byContradiction fun no => hh ⟨hl, fun u hu z => no ⟨u, hu, z⟩⟩
        obtain ⟨u, h1, h2⟩ := this
        have hul : u ∉ l := fun z => by
          have := (h2.symm).alone fun x q => (iso q).2 z
          omega
        exact ih u (by omega) (by omega) hul (h2.trans hr)
  exact this v v (Nat.le_refl _) hv hvl (.nil _)
theorem head_uniq {h k v : Nat} (hh : h ∈ heads fe l m) (hk : k ∈ heads fe l m) (r1 : Rch fe h v) (r2 : Rch fe k v) : h = k := by
  have a := (mem_heads.mp hh).2.2
  have b := (mem_heads.mp hk).2.2
  rcases Nat.lt_trichotomy h k with q | q | q
  · exact absurd (r1.trans r2.symm) (b h q)
  · exact q
  · exact absurd (r2.trans r1.symm) (a k q)
open Classical in
noncomputable def hdOf (m : Nat) (fe : List E2) (l : List Nat) (v : Nat) : Nat := if h : ∃ h, h ∈ heads fe l m ∧ Rch fe h v then Classical.choose h else m
theorem hdOf_eq {h v : Nat} (hh : h ∈ heads fe l m) (r : Rch fe h v) : hdOf m fe l v = h := by
  have ex : ∃ h, h ∈ heads fe l m ∧ Rch fe h v := ⟨h, hh, r⟩
  unfold hdOf
  rw [dif_pos ex]
  exact head_uniq (Classical.choose_spec ex).1 hh (Classical.choose_spec ex).2 r
theorem heads_nodup : (heads fe l m).Nodup := by unfold heads; exact List.nodup_range.filter _
noncomputable def oddHs (m : Nat) (fe : List E2) (l : List Nat) : List Nat := (heads fe l m).filter fun h => decide ((partOf m fe h).length % 2 = 1)
theorem oddPs_len (es : List E2) : (oddPs m es l).length = (oddHs m (es.filter (outE l)) l).length := by
  unfold oddPs cano oddHs
  rw [List.filter_map, List.length_map]
  rfl
end
section
variable {m : Nat} {es : List E2} (hes : ∀ e ∈ es, e.1 < e.2 ∧ e.2 < m)
include hes
theorem adj_lt {u v : Nat} (h : Adj es u v) : u < m ∧ v < m := by
  rcases h with h | h <;> (have := hes _ h; simp only at this; omega)
theorem spare_le {M : Nat → Nat} (hM : MB.Mx (Adj es) (List.range m) M) {l : List Nat} (h : l ∈ allL m) : (oddPs m es l).length ≤ l.length + MB.miss (List.range m) M := by
  obtain ⟨h1, h2⟩ := allL_mem h
  have lt := fun {u v : Nat} (q : Adj (es.filter (outE l)) u v) => adj_lt hes (out_adj.mp q).1
  have iso := fun {u v : Nat} (q : Adj (es.filter (outE l)) u v) => (out_adj.mp q).2
  have part_f : ∀ k ∈ heads (es.filter (outE l)) l m, (List.range m).countP (fun v => decide (v ∉ l) && decide (hdOf m (es.filter (outE l)) l v = k)) = (partOf m (es.filter (outE l)) k).length := by
    intro k hk
    rw [List.countP_eq_length_filter]
    congr 1
    refine List.filter_congr fun v hv => ?_
    have hv := List.mem_range.mp hv
    rw [Bool.eq_iff_iff, Bool.and_eq_true, decide_eq_true_eq, decide_eq_true_eq, @decide_eq_true_eq _ (Classical.propDecidable _)]
    constructor
    · rintro ⟨a, b⟩
      obtain ⟨h, q1, q2⟩ := head_ex iso lt v hv a
      rw [hdOf_eq q1 q2] at b
      rw [← b]; exact q2
    · intro r
      refine ⟨fun z => ?_, hdOf_eq hk r⟩
      have := r.alone fun x q => (iso q).2 z
      subst this
      exact (mem_heads.mp hk).2.1 z
  have bar : MB.Bar (Adj es) (List.range m) l (oddHs m (es.filter (outE l)) l) (hdOf m (es.filter (outE l)) l) := by
    refine ⟨h1.imp fun {a b} q => by omega, fun v hv => List.mem_range.mpr (h2 v hv), fun u v hu hv hul hvl a => ?_, heads_nodup.filter _, fun k hk => ?_⟩
    · obtain ⟨h, q1, q2⟩ := head_ex iso lt u (List.mem_range.mp hu) hul
      rw [hdOf_eq q1 q2, hdOf_eq q1 (q2.snoc (out_adj.mpr ⟨a, hul, hvl⟩))]
    · obtain ⟨k1, k2⟩ := List.mem_filter.mp hk
      have := part_f k k1
      have k2 := of_decide_eq_true k2
      rw [← this] at k2
      exact k2
  have := MB.weak (List.nodup_range) bar hM.mt
  rw [oddPs_len]
  exact this
end
end BL
namespace Y
open PySem PySem.Spec PyProof.Rows L2
abbrev Ke := L2.Key
def keyW : W → Option Ke
  | .d (.int i) => some (.inl i)
  | .d (.str x) => some (.inr x)
  | _ => none
def getW {κ β : Type} [DecidableEq κ] (kvs : List (κ × β)) (k : κ) : Option β := (kvs.find? fun p => decide (p.1 = k)).map (·.2)
def putW {κ β : Type} [DecidableEq κ] (kvs : List (κ × β)) (k : κ) (w : β) : List (κ × β) :=
  if (kvs.any fun p => decide (p.1 = k)) = true then kvs.map (fun p => if p.1 = k then (p.1, w) else p) else kvs ++ [(k, w)]
section
variable {K : PySem.W.Frag} {Z Z0 : Addr → Prop} {θ θ1 : List (Option Addr)} {H H1 : Hp} {st : Sto} {F : W → V → Prop}
theorem KR.len {κ : Type} {kvs : List (κ × W)} {vs : List (κ × V)} (h : Paired (KR F) kvs vs) : kvs.length = vs.length := h.length
theorem SR.pushO {p : Addr} {so : SO} {ho : HO} (S : SR K Z0 θ st H) (hp : H p = none) (r : OR K (Zs Z0 (θ ++ [some p])) (θ ++ [some p]) (upd H p ho) p so) : SR K Z0 (θ ++ [some p]) (st ++ [so]) (upd H p ho) := by
  have nz := S.notZ hp
  have np : ∀ n a, θ[n]? = some (some a) → a ≠ p := fun n a h1 e => nz (.inl (e ▸ List.mem_of_getElem? h1))
  refine ⟨by simp [S.len], fun m n a h1 h2 => ?_, fun n a o h1 h2 => ?_, fun n h => ?_, fun a h => ?_, fun a h => ?_⟩
  · rcases getElem?_snoc h1 with h1 | ⟨e1, h1⟩ <;> rcases getElem?_snoc h2 with h2 | ⟨e2, h2⟩
    · exact S.nd m n a h1 h2
    · cases h2; exact absurd rfl (np _ _ h1)
    · cases h1; exact absurd rfl (np _ _ h2)
    · omega
  · rcases getElem?_snoc h1 with h1 | ⟨e1, h1⟩
    · have hl : n < st.length := by rw [← S.len]; exact (List.getElem?_eq_some_iff.mp h1).1
      rw [List.getElem?_append_left hl] at h2
      exact OR.ext (Ext.push hp) (upd_ne (np _ _ h1)) (S.obj n a o h1 h2)
    · cases h1
      rw [e1, S.len, List.getElem?_append_right (Nat.le_refl _)] at h2
      have : o = so := by simpa using h2.symm
      subst this
      exact r
  · rcases getElem?_snoc h with h | ⟨_, h⟩
    · have e := S.dd n h
      rw [List.getElem?_append_left (List.getElem?_eq_some_iff.mp e).1]; exact e
    · cases h
  · have hn := S.z0 a h
    cases e : H a with
    | none => exact absurd e hn
    | some u => rw [upd_ne (ne_of_none e hp), e]; simp
  · rcases List.mem_append.mp h with h | h
    · exact S.dis a h
    · have : a = p := by simpa using h
      subst this
      exact fun z => S.z0 a z hp
theorem Post.newO {C : Ct} {Q : V → Hp → Prop} {p : Addr} {so : SO} {ho : HO} (h : Post C Z0 θ H (relW C.K Z0) (.ok (.ref st.length) (st ++ [so])) Q) (S : SR C.K Z0 θ st H) (hp : H p = none) (r : OR C.K (Zs Z0 (θ ++ [some p])) (θ ++ [some p]) (upd H p ho) p so) : Q (.ref p) (upd H p ho) :=
  h (θ ++ [some p]) _ (.ref p) (Ext.push hp) (S.pushO hp r) ⟨some p, by rw [← S.len, List.getElem?_append_right (Nat.le_refl _), Nat.sub_self]; rfl, fun a e => by cases e; rfl⟩
end
/-- {} -/
def dNewD : En → Sto → R W := fun _ st => .ok (.ref st.length) (st ++ [.dct []])
/-- k in d, k not in d -/
def vInD (neg : Bool) : W → W → Sto → R W := fun k a st => match a, keyW k with
  | .ref n, some k => match st[n]? with
    | some (.dct kvs) => .ok (.d (.bool (neg ^^ (getW kvs k).isSome))) st
    | some (.lki kvs) => .ok (.d (.bool (neg ^^ (getW kvs k).isSome))) st
    | _ => .bad
  | _, _ => .bad
/-- d[k] = e -/
def dPutD (fe fo fi : En → Sto → R W) : DS := fun ρ st => (fe ρ st).bind fun w s => (fo ρ s).bind fun o s => (fi ρ s).bind fun i s => match o, keyW i with
  | .ref n, some k => match s[n]? with
    | some (.dct kvs) => chk (kvs.length < sizeLine) (.ok (.nx, ρ) (s.set n (.dct (putW kvs k w))))
    | _ => .bad
  | _, _ => .bad
section
variable {X : Cx} {C : Ct} {o i e : Expr} {pos pos' : Pos} {fe fo fi : En → Sto → R W}
/-- {k: v for target in iter if ..} -/
def dcL (tg : W → En → Sto → R En) (tt : En → Sto → R Bool) (fk fv : En → Sto → R W) (ρ : En) : List (Ke × W) → List W → Sto → R (List (Ke × W))
  | acc, [], st => .ok acc st
  | acc, w :: ws, st => (tg w ρ st).nox.bind fun ρ1 s1 => (tt ρ1 s1).nox.bind fun b s2 => if b = true then (fk ρ1 s2).nox.bind fun kw s3 => (fv ρ1 s3).nox.bind fun u s4 => match keyW kw with
      | some k => if acc.length < sizeLine then dcL tg tt fk fv ρ (putW acc k u) ws s4 else .bad
      | none => .bad
    else dcL tg tt fk fv ρ acc ws s2
def dDc (vs : List Nat) (fi : En → Sto → R (List W)) (tg : W → En → Sto → R En) (tt : En → Sto → R Bool) (fk fv : En → Sto → R W) : En → Sto → R W := fun ρ st => (fi ρ st).bind fun ws s => (dcL tg tt fk fv (wipeE ρ vs) [] ws s).bind fun kvs s2 => .ok (.ref s2.length) (s2 ++ [.dct kvs])
end
theorem u1 {k : Nat} {A : Around} (r : Room k A) : A.units + 1 < cLine := by have := u65 r; omega
end Y
namespace Y
open PySem PySem.Spec PyProof.Rows L2
def putA (f : Str) (w : W) : List (Str × W) → List (Str × W)
  | [] => [(f, w)]
  | (g, x) :: r => if g = f then (g, w) :: r else (g, x) :: putA f w r
/-- o.f -/
def dAttr (c f : Str) (fo : En → Sto → R W) : En → Sto → R W := fun ρ st => (fo ρ st).bind fun w s => match w with
  | .ref n => match s[n]? with
    | some (.obj c' fs) => if c' = c then (match fs.lookup f with
      | some w => .ok w s
      | none => .bad) else .bad
    | _ => .bad
  | _ => .bad
/-- o.f = e -/
def dSetAttr (c f : Str) (fe fo : En → Sto → R W) : DS := fun ρ st => (fe ρ st).bind fun w s => (fo ρ s).bind fun o s => match o with
  | .ref n => match s[n]? with
    | some (.obj c' fs) => if c' = c ∧ fs.length < 900 then .ok (.nx, ρ) (s.set n (.obj c (putA f w fs))) else .bad
    | _ => .bad
  | _ => .bad
/-- o.m(..) -/
def dMeC (c m : Str) (n : Nat) (F : Fn) (fo : En → Sto → R W) (fa : En → Sto → R (List W)) : En → Sto → R W := fun ρ st => (fo ρ st).bind fun u s => match u with
  | .ref k => match s[k]? with
    | some (.obj c' fs) => if c' = c ∧ fs.lookup m = none then (fa ρ s).bind fun ws s => chk (ws.length + 1 = n) (F (.ref k :: ws) s) else .bad
    | _ => .bad
  | _ => .bad
/-- C(..) -/
def dMake (c : Str) (n : Nat) (F : Fn) (fa : En → Sto → R (List W)) : En → Sto → R W := fun ρ st => (fa ρ st).bind fun ws s => chk (ws.length + 1 = n) ((F (.ref s.length :: ws) (s ++ [.obj c []])).bind fun r s2 => match r with
  | .d .none => .ok (.ref s.length) s2
  | _ => .bad)
end Y
namespace Y
open PySem PySem.Spec PyProof.Rows L2
section
variable {X : Cx} {C : Ct}
def mExtend : W → List W → Sto → R W := fun u ws st => match u, ws with
  | .ref n, [.ref m] => match st[n]?, st[m]? with
    | some (.lst xs), some (.lst ys) => chk (xs.length + ys.length ≤ sizeLine) (.ok (.d .none) (st.set n (.lst (xs ++ ys))))
    | _, _ => .bad
  | _, _ => .bad
def dListRngN (fe : En → Sto → R W) : En → Sto → R W := fun ρ st => (fe ρ st).bind fun w s => match w with
  | .d (.int n) => chk (0 ≤ n ∧ n ≤ 16777216) (.ok (.ref s.length) (s ++ [.lst ((List.range n.toNat).map fun i : Nat => .d (.int i))]))
  | _ => .bad
end
end Y
namespace Y
open PySem PySem.Spec PyProof.Rows L2
end Y
namespace BM
/-- the way from v on: pairs of one reached evenly and his mate, till a root -/
inductive Pth (μ lk : Nat → Option Nat) : Nat → List (Nat × Nat) → Nat → Prop
  | nil {v : Nat} : μ v = none → Pth μ lk v [] v
  | cons {v m p : Nat} {S : List (Nat × Nat)} {r : Nat} : μ v = some m → lk m = some p → Pth μ lk p S r → Pth μ lk v ((v, m) :: S) r
def flat (S : List (Nat × Nat)) : List Nat := S.flatMap fun e => [e.1, e.2]
def verts (S : List (Nat × Nat)) (r : Nat) : List Nat := flat S ++ [r]
theorem flat_cons (e : Nat × Nat) (S : List (Nat × Nat)) : flat (e :: S) = e.1 :: e.2 :: flat S := rfl
theorem flat_app (S T : List (Nat × Nat)) : flat (S ++ T) = flat S ++ flat T := by unfold flat; rw [List.flatMap_append]
theorem mem_flat {S : List (Nat × Nat)} {x : Nat} : x ∈ flat S ↔ ∃ e ∈ S, x = e.1 ∨ x = e.2 := by
  unfold flat
  rw [List.mem_flatMap]
  constructor
  · rintro ⟨e, he, h⟩
    refine ⟨e, he, ?_⟩
    rcases List.mem_cons.mp h with h | h
    · exact .inl h
    · exact .inr (List.mem_singleton.mp h)
  · rintro ⟨e, he, h | h⟩
    · exact ⟨e, he, by rw [h]; simp⟩
    · exact ⟨e, he, by rw [h]; simp⟩
section
variable {μ lk : Nat → Option Nat}
theorem Pth.det {v : Nat} {S : List (Nat × Nat)} {r : Nat} (h : Pth μ lk v S r) : ∀ {S' : List (Nat × Nat)} {r' : Nat}, Pth μ lk v S' r' → S = S' ∧ r = r' := by
  induction h with
  | nil h0 =>
    intro S' r' g
    cases g with
    | nil _ => exact ⟨rfl, rfl⟩
    | cons g0 _ _ => rw [h0] at g0; cases g0
  | cons h0 h1 _ ih =>
    intro S' r' g
    cases g with
    | nil g0 => rw [h0] at g0; cases g0
    | cons g0 g1 g2 =>
      rw [h0] at g0; cases g0
      rw [h1] at g1; cases g1
      obtain ⟨a, b⟩ := ih g2
      exact ⟨by rw [a], b⟩
/-- the way is cut in two -/
theorem Pth.split {v : Nat} {U W : List (Nat × Nat)} {r : Nat} : Pth μ lk v (U ++ W) r → ∃ e, Pth μ lk e W r ∧ (∀ (lk' : Nat → Option Nat) (W' : List (Nat × Nat)) (r' : Nat), (∀ p ∈ U, lk' p.2 = lk p.2) → Pth μ lk' e W' r' → Pth μ lk' v (U ++ W') r') ∧ (W ≠ [] → ∃ y, W.head? = some (e, y)) ∧ (W = [] → e = r) := by
  induction U generalizing v with
  | nil =>
    intro h
    refine ⟨v, h, fun lk' W' r' _ g => g, fun hn => ?_, fun hn => ?_⟩
    · cases h with
      | nil _ => exact absurd rfl hn
      | cons _ _ _ => exact ⟨_, rfl⟩
    · subst hn
      cases h
      rfl
  | cons u U ih =>
    intro h
    cases h with
    | cons h0 h1 h2 =>
      obtain ⟨e, g1, g2, g3, g4⟩ := ih h2
      refine ⟨e, g1, fun lk' W' r' hk g => ?_, g3, g4⟩
      exact .cons h0 ((hk _ List.mem_cons_self).trans h1) (g2 lk' W' r' (fun p hp => hk p (List.mem_cons_of_mem _ hp)) g)
theorem Pth.mates {v : Nat} {S : List (Nat × Nat)} {r : Nat} (h : Pth μ lk v S r) : (∀ e ∈ S, μ e.1 = some e.2) ∧ μ r = none := by
  induction h with
  | nil h0 => exact ⟨fun _ z => (nomatch z), h0⟩
  | cons h0 _ _ ih =>
    refine ⟨fun e he => ?_, ih.2⟩
    rcases List.mem_cons.mp he with rfl | he
    · exact h0
    · exact ih.1 e he
end
structure St where
  lk : Nat → Option Nat
  bs : Nat → Nat
  ev : Nat → Bool
/-- the parent of a base -/
def Par (μ : Nat → Option Nat) (s : St) (b c : Nat) : Prop := ∃ o p, μ b = some o ∧ s.lk o = some p ∧ c = s.bs p
inductive Anc (μ : Nat → Option Nat) (s : St) : Nat → Nat → Prop
  | nil {b : Nat} : Anc μ s b b
  | cons {b c d : Nat} : Par μ s b c → Anc μ s c d → Anc μ s b d
/-- what is always so -/
structure Inv (adj : Nat → Nat → Prop) (μ : Nat → Option Nat) (rk : Nat → Nat) (s : St) : Prop where
  ms : ∀ u v, μ u = some v → μ v = some u
  i0 : ∀ v, s.ev v = false → s.bs v = v
  i5 : ∀ v, s.ev v = true → s.ev (s.bs v) = true ∧ s.bs (s.bs v) = s.bs v
  i1 : ∀ b, s.ev b = true → s.bs b = b → μ b = none ∨ ∃ o p, μ b = some o ∧ s.ev o = false ∧ s.lk o = some p ∧ s.ev p = true ∧ adj o p ∧ rk (s.bs p) < rk b
  i2 : ∀ v, s.ev v = true → s.bs v ≠ v → ∃ m p, μ v = some m ∧ s.ev m = true ∧ s.bs m = s.bs v ∧ s.lk m = some p ∧ s.ev p = true ∧ s.bs p = s.bs v ∧ adj m p
  i3 : ∀ o, s.ev o = false → s.lk o ≠ none → ∃ d, μ o = some d ∧ s.ev d = true ∧ s.bs d = d
  i4 : ∀ v, s.ev v = true → ∃ S r, Pth μ s.lk v S r ∧ (verts S r).Nodup
/-- whose class one belongs to -/
def Kl (μ : Nat → Option Nat) (s : St) (x b : Nat) : Prop := (s.ev x = true ∧ s.bs x = b) ∨ (s.ev x = false ∧ μ x = some b ∧ s.ev b = true ∧ s.bs b = b)
theorem Kl.fn {μ : Nat → Option Nat} {s : St} {x b c : Nat} (h : Kl μ s x b) (g : Kl μ s x c) : b = c := by
  rcases h with ⟨h1, h2⟩ | ⟨h1, h2, _⟩ <;> rcases g with ⟨g1, g2⟩ | ⟨g1, g2, _⟩
  · exact h2.symm.trans g2
  · rw [h1] at g1; cases g1
  · rw [h1] at g1; cases g1
  · rw [h2] at g2; cases g2; rfl
theorem Anc.trans {μ : Nat → Option Nat} {s : St} {a b c : Nat} (h : Anc μ s a b) (g : Anc μ s b c) : Anc μ s a c := by
  induction h with
  | nil => exact g
  | cons p _ ih => exact .cons p (ih g)
section
variable {adj : Nat → Nat → Prop} {μ : Nat → Option Nat} {rk : Nat → Nat} {s : St} (I : Inv adj μ rk s)
include I
theorem Anc.ev_rk {b c : Nat} (h : Anc μ s b c) (hb : s.ev b = true) (hb2 : s.bs b = b) : s.ev c = true ∧ s.bs c = c ∧ rk c ≤ rk b ∧ (b ≠ c → rk c < rk b) := by
  induction h with
  | nil => exact ⟨hb, hb2, Nat.le_refl _, fun z => absurd rfl z⟩
  | @cons b c d p _ ih =>
    obtain ⟨o, p', h1, h2, rfl⟩ := p
    rcases I.i1 b hb hb2 with h | ⟨o', p'', g1, g2, g3, g4, _, g6⟩
    · rw [h] at h1; cases h1
    · rw [h1] at g1; cases g1
      rw [h2] at g3; cases g3
      obtain ⟨e1, e2⟩ := I.i5 _ g4
      obtain ⟨f1, f2, f3, _⟩ := ih e1 e2
      exact ⟨f1, f2, by omega, fun _ => by omega⟩
theorem Anc.anti {b c : Nat} (h : Anc μ s b c) (g : Anc μ s c b) (hb : s.ev b = true) (hb2 : s.bs b = b) : b = c := by
  obtain ⟨c1, c2, c3, c4⟩ := Anc.ev_rk I h hb hb2
  obtain ⟨_, _, d3, d4⟩ := Anc.ev_rk I g c1 c2
  refine Classical.byContradiction fun z => ?_
  have := c4 z
  omega
/-- a step of the way: the next one is of the same class, or of the parent's -/
theorem step_cl {v m p : Nat} (hv : s.ev v = true) (h1 : μ v = some m) (h2 : s.lk m = some p) : s.ev p = true ∧ adj m p ∧ Kl μ s m (s.bs v) ∧ ((s.bs v = v ∧ Par μ s v (s.bs p) ∧ s.ev m = false) ∨ (s.bs v ≠ v ∧ s.bs p = s.bs v ∧ s.ev m = true ∧ s.bs m = s.bs v)) := by
  by_cases hb : s.bs v = v
  · rcases I.i1 v hv hb with h | ⟨o, p', g1, g2, g3, g4, g5, _⟩
    · rw [h] at h1; cases h1
    · rw [h1] at g1; cases g1
      rw [h2] at g3; cases g3
      exact ⟨g4, g5, by rw [hb]; exact .inr ⟨g2, I.ms _ _ h1, hv, hb⟩, .inl ⟨hb, ⟨m, p, h1, h2, rfl⟩, g2⟩⟩
  · obtain ⟨m', p', g1, g2, g3, g4, g5, g6, g7⟩ := I.i2 v hv hb
    rw [h1] at g1; cases g1
    rw [h2] at g4; cases g4
    exact ⟨g5, g7, .inl ⟨g2, g3⟩, .inr ⟨hb, g6, g2, g3⟩⟩
theorem bs_step {v m p : Nat} (hv : s.ev v = true) (h1 : μ v = some m) (h2 : s.lk m = some p) : Anc μ s (s.bs v) (s.bs p) := by
  obtain ⟨_, _, _, h | h⟩ := step_cl I hv h1 h2
  · rw [h.1]; exact .cons h.2.1 .nil
  · rw [h.2.1]; exact .nil
theorem path_ev {v : Nat} {S : List (Nat × Nat)} {r : Nat} (h : Pth μ s.lk v S r) (hv : s.ev v = true) : (∀ e ∈ S, s.ev e.1 = true ∧ Anc μ s (s.bs v) (s.bs e.1) ∧ Kl μ s e.2 (s.bs e.1)) ∧ s.ev r = true ∧ Anc μ s (s.bs v) (s.bs r) := by
  induction h with
  | nil _ => exact ⟨fun _ z => (nomatch z), hv, .nil⟩
  | cons h1 h2 _ ih =>
    obtain ⟨a, b, c, _⟩ := step_cl I hv h1 h2
    obtain ⟨d1, d2, d3⟩ := ih a
    have st := bs_step I hv h1 h2
    refine ⟨fun e he => ?_, d2, st.trans d3⟩
    rcases List.mem_cons.mp he with rfl | he
    · exact ⟨hv, .nil, c⟩
    · obtain ⟨x, y, z⟩ := d1 e he
      exact ⟨x, st.trans y, z⟩
/-- whatever is on the way belongs to an ancestor -/
theorem path_K {v : Nat} {S : List (Nat × Nat)} {r : Nat} (h : Pth μ s.lk v S r) (hv : s.ev v = true) : ∀ x ∈ verts S r, ∃ b, Anc μ s (s.bs v) b ∧ Kl μ s x b := by
  obtain ⟨h1, h2, h3⟩ := path_ev I h hv
  intro x hx
  rcases List.mem_append.mp hx with hx | hx
  · obtain ⟨e, he, q⟩ := mem_flat.mp hx
    obtain ⟨a, b, c⟩ := h1 e he
    rcases q with rfl | rfl
    · exact ⟨_, b, .inl ⟨a, rfl⟩⟩
    · exact ⟨_, b, c⟩
  · rw [List.mem_singleton.mp hx]
    exact ⟨_, h3, .inl ⟨h2, rfl⟩⟩
/-- what stands ahead of one on the way belongs below -/
theorem ahead_K {U : List (Nat × Nat)} : ∀ {v : Nat} {x y : Nat} {W : List (Nat × Nat)} {r : Nat}, Pth μ s.lk v (U ++ (x, y) :: W) r → s.ev v = true → ∀ u ∈ flat U, ∃ b, Anc μ s b (s.bs x) ∧ Kl μ s u b := by
  induction U with
  | nil => intro v x y W r _ _ u hu; cases hu
  | cons e U ih =>
    intro v x y W r h hv u hu
    cases h with
    | cons h1 h2 h3 =>
      rename_i m p
      obtain ⟨a, b, c, _⟩ := step_cl I hv h1 h2
      have st := bs_step I hv h1 h2
      rw [flat_cons] at hu
      have up : Anc μ s (s.bs p) (s.bs x) := by
        obtain ⟨q1, _, _⟩ := path_ev I h3 a
        exact (q1 (x, y) (List.mem_append_right _ List.mem_cons_self)).2.1
      rcases List.mem_cons.mp hu with rfl | hu
      · exact ⟨_, st.trans up, .inl ⟨hv, rfl⟩⟩
      · rcases List.mem_cons.mp hu with rfl | hu
        · exact ⟨_, st.trans up, c⟩
        · exact ih h3 a u hu
/-- the way from one till a class above him -/
theorem seg {v : Nat} {S : List (Nat × Nat)} {r b0 : Nat} (h : Pth μ s.lk v S r) (hv : s.ev v = true) (ha : Anc μ s (s.bs v) b0) : ∃ S1 S2 e, S = S1 ++ S2 ∧ Pth μ s.lk e S2 r ∧ s.ev e = true ∧ s.bs e = b0 ∧ (∀ p ∈ S1, s.bs p.1 ≠ b0 ∧ Anc μ s (s.bs p.1) b0) ∧
    (∀ lk', (∀ p ∈ S1, lk' p.2 = s.lk p.2) → ∀ S' r', Pth μ lk' e S' r' → Pth μ lk' v (S1 ++ S') r') ∧ (S1 = [] → e = v) := by
  induction h with
  | @nil v h0 =>
    have hb : s.bs v = v := Classical.byContradiction fun z => by
      obtain ⟨m, p, g, _⟩ := I.i2 v hv z
      rw [h0] at g; cases g
    have : s.bs v = b0 := by
      cases ha with
      | nil => rfl
      | cons p _ =>
        obtain ⟨o, _, g, _⟩ := p
        rw [hb, h0] at g; cases g
    exact ⟨[], [], v, rfl, .nil h0, hv, this, (fun _ z => nomatch z), fun lk' _ S' r' g => g, fun _ => rfl⟩
  | @cons v m p S r h1 h2 h3 ih =>
    by_cases hb : s.bs v = b0
    · exact ⟨[], (v, m) :: S, v, rfl, .cons h1 h2 h3, hv, hb, (fun _ z => nomatch z), fun lk' _ S' r' g => g, fun _ => rfl⟩
    · obtain ⟨a, b, c, d⟩ := step_cl I hv h1 h2
      have hp : Anc μ s (s.bs p) b0 := by
        rcases d with ⟨d1, d2, _⟩ | ⟨_, d2, _⟩
        · cases ha with
          | nil => exact absurd rfl hb
          | cons q q' =>
            obtain ⟨o, p', g1, g2, rfl⟩ := q
            rw [d1, h1] at g1; cases g1
            rw [h2] at g2; cases g2
            exact q'
        · rw [d2]; exact ha
      obtain ⟨S1, S2, e, rfl, f2, f3, f4, f5, f6, _⟩ := ih a hp
      refine ⟨(v, m) :: S1, S2, e, rfl, f2, f3, f4, fun q hq => ?_, fun lk' hk S' r' g => ?_, fun z => nomatch z⟩
      · rcases List.mem_cons.mp hq with rfl | hq
        · exact ⟨hb, ha⟩
        · exact f5 q hq
      · exact .cons h1 ((hk _ List.mem_cons_self).trans h2) (f6 lk' (fun q hq => hk q (List.mem_cons_of_mem _ hq)) S' r' g)
/-- within such a way stand the bases of all its classes -/
theorem seg_base {S1 S2 : List (Nat × Nat)} {e b0 : Nat} : ∀ {v r : Nat}, Pth μ s.lk v (S1 ++ S2) r → s.ev v = true → s.bs e = b0 → (∀ p ∈ S1, s.bs p.1 ≠ b0) → (∀ U x y, S1 = U ++ [(x, y)] → s.lk y = some e) → ∀ p ∈ S1, ∃ o, (s.bs p.1, o) ∈ S1 ∧ s.bs (s.bs p.1) = s.bs p.1 := by
  induction S1 with
  | nil => intro v r _ _ _ _ _ p hp; cases hp
  | cons q S1 ih =>
    intro v r h hv he hS hlast p hp
    cases h with
    | cons h1 h2 h3 =>
      rename_i m pn
      obtain ⟨a, b, c, d⟩ := step_cl I hv h1 h2
      have e0 : S1 = [] → e = pn := fun z => by
        have := hlast [] v m (by rw [z]; rfl)
        rw [h2] at this; cases this; rfl
      have rc := ih h3 a he (fun p hp => hS p (List.mem_cons_of_mem _ hp)) (fun U x y hU => hlast ((v, m) :: U) x y (by rw [hU]; rfl))
      have hvb : s.bs v ≠ b0 := hS (v, m) List.mem_cons_self
      rcases List.mem_cons.mp hp with rfl | hp
      · rcases d with ⟨d1, _, _⟩ | ⟨d1, d2, _⟩
        · exact ⟨m, by rw [d1]; exact List.mem_cons_self, by rw [d1]; exact d1⟩
        · -- the next one is of the same class, so he stands in the row, too
          cases S1 with
          | nil => exact absurd ((congrArg s.bs (e0 rfl)).symm.trans he |> fun z => d2.symm.trans z) hvb
          | cons q2 S1 =>
            have hq2 : q2.1 = pn := by cases h3; rfl
            obtain ⟨o, k1, k2⟩ := rc q2 List.mem_cons_self
            rw [hq2, d2] at k1 k2
            exact ⟨o, List.mem_cons_of_mem _ k1, k2⟩
      · obtain ⟨o, k1, k2⟩ := rc p hp
        exact ⟨o, List.mem_cons_of_mem _ k1, k2⟩
end
end BM
namespace BM
theorem flat_perm : ∀ S : List (Nat × Nat), (flat S).Perm (S.map (·.1) ++ S.map (·.2))
  | [] => .nil
  | e :: S => by
    rw [flat_cons, List.map_cons, List.map_cons, List.cons_append]
    exact .cons _ ((List.Perm.cons _ (flat_perm S)).trans List.perm_middle.symm)
theorem flat_ne {S : List (Nat × Nat)} (h : (flat S).Nodup) {p q : Nat × Nat} (hp : p ∈ S) (hq : q ∈ S) : p.2 ≠ q.1 := fun e => by
  have := (flat_perm S).nodup_iff.mp h
  exact (List.nodup_append.mp this).2.2 q.1 (List.mem_map.mpr ⟨q, hq, rfl⟩) p.2 (List.mem_map.mpr ⟨p, hp, rfl⟩) e.symm
theorem flat_rev : ∀ X : List (Nat × Nat), flat (X.reverse.map Prod.swap) = (flat X).reverse
  | [] => rfl
  | e :: X => by
    rw [List.reverse_cons, List.map_append, flat_app, flat_rev X, flat_cons, List.reverse_cons, List.reverse_cons, List.append_assoc]
    rfl
theorem fst_flat {S : List (Nat × Nat)} {p : Nat × Nat} (h : p ∈ S) : p.1 ∈ flat S := mem_flat.mpr ⟨p, h, .inl rfl⟩
theorem snd_flat {S : List (Nat × Nat)} {p : Nat × Nat} (h : p ∈ S) : p.2 ∈ flat S := mem_flat.mpr ⟨p, h, .inr rfl⟩
def prevM (z : Nat) (X : List (Nat × Nat)) : Nat := match X.getLast? with
  | none => z
  | some e => e.2
structure Ring (adj : Nat → Nat → Prop) (μ : Nat → Option Nat) (s : St) (one other b0 : Nat) (S1 T1 : List (Nat × Nat)) (r1 : Nat) (S2 T2 : List (Nat × Nat)) (r2 : Nat) (lkN : Nat → Option Nat) : Prop where
  h1 : Pth μ s.lk one (S1 ++ T1) r1
  n1 : (verts (S1 ++ T1) r1).Nodup
  h2 : Pth μ s.lk other (S2 ++ T2) r2
  n2 : (verts (S2 ++ T2) r2).Nodup
  v1 : s.ev one = true
  v2 : s.ev other = true
  sy : ∀ u v, adj u v → adj v u
  a : adj one other
  c1 : ∀ p ∈ S1, s.bs p.1 ≠ b0 ∧ Anc μ s (s.bs p.1) b0
  c2 : ∀ p ∈ S2, s.bs p.1 ≠ b0 ∧ Anc μ s (s.bs p.1) b0
  t1 : ∀ x ∈ verts T1 r1, ∃ b, Anc μ s b0 b ∧ Kl μ s x b
  t2 : ∀ x ∈ verts T2 r2, ∃ b, Anc μ s b0 b ∧ Kl μ s x b
  m : ∀ b, Anc μ s (s.bs one) b → Anc μ s (s.bs other) b → Anc μ s b0 b
  l1 : ∀ U x y, S1 = U ++ [(x, y)] → ∃ e, s.lk y = some e ∧ s.bs e = b0 ∧ s.ev e = true
  l2 : ∀ U x y, S2 = U ++ [(x, y)] → ∃ e, s.lk y = some e ∧ s.bs e = b0 ∧ s.ev e = true
  z1 : S1 = [] → s.bs one = b0
  z2 : S2 = [] → s.bs other = b0
  b : s.ev b0 = true ∧ s.bs b0 = b0
  N : ∀ x, x ∉ S1.map (·.1) → x ∉ S2.map (·.1) → lkN x = s.lk x
  N1 : ∀ X p q Y, S1 = X ++ (p, q) :: Y → lkN p = some (prevM other X)
  N2 : ∀ X p q Y, S2 = X ++ (p, q) :: Y → lkN p = some (prevM one X)
section
variable {adj : Nat → Nat → Prop} {μ : Nat → Option Nat} {rk : Nat → Nat} {s : St} {one other b0 : Nat} {S1 T1 : List (Nat × Nat)} {r1 : Nat} {S2 T2 : List (Nat × Nat)} {r2 : Nat} {lkN : Nat → Option Nat}
theorem Ring.swap (R : Ring adj μ s one other b0 S1 T1 r1 S2 T2 r2 lkN) : Ring adj μ s other one b0 S2 T2 r2 S1 T1 r1 lkN :=
  ⟨R.h2, R.n2, R.h1, R.n1, R.v2, R.v1, R.sy, R.sy _ _ R.a, R.c2, R.c1, R.t2, R.t1, fun b x y => R.m b y x, R.l2, R.l1, R.z2, R.z1, R.b, fun x p q => R.N x q p, R.N2, R.N1⟩
variable (I : Inv adj μ rk s) (R : Ring adj μ s one other b0 S1 T1 r1 S2 T2 r2 lkN)
include I R
theorem Ring.cls {x : Nat} (hx : x ∈ flat S1) : ∃ b, Kl μ s x b ∧ Anc μ s (s.bs one) b ∧ ¬ Anc μ s b0 b := by
  obtain ⟨e, he, q⟩ := mem_flat.mp hx
  obtain ⟨k1, k2⟩ := R.c1 e he
  obtain ⟨g1, _, _⟩ := path_ev I R.h1 R.v1
  obtain ⟨g2, g3, g4⟩ := g1 e (List.mem_append_left _ he)
  have no : ¬ Anc μ s b0 (s.bs e.1) := fun z => k1 (Anc.anti I k2 z (I.i5 _ g2).1 (I.i5 _ g2).2)
  rcases q with rfl | rfl
  · exact ⟨_, .inl ⟨g2, rfl⟩, g3, no⟩
  · exact ⟨_, g4, g3, no⟩
theorem Ring.d12 {x : Nat} (h : x ∈ flat S1) (g : x ∈ flat S2) : False := by
  obtain ⟨b, k1, k2, k3⟩ := R.cls I h
  obtain ⟨c, l1, l2, _⟩ := R.swap.cls I g
  cases k1.fn l1
  exact k3 (R.m b k2 l2)
theorem Ring.d1t {x : Nat} (h : x ∈ flat S1) (g : x ∈ verts T2 r2) : False := by
  obtain ⟨b, k1, _, k3⟩ := R.cls I h
  obtain ⟨c, l1, l2⟩ := R.t2 x g
  cases k1.fn l2
  exact k3 l1
theorem Ring.nd1 : (flat S1).Nodup := by
  have := R.n1
  unfold verts at this
  rw [flat_app, List.append_assoc] at this
  exact (List.nodup_append.mp this).1
theorem Ring.dd {x : Nat} (h : x ∈ flat S1) (g : x ∈ verts T1 r1) : False := by
  have := R.n1
  unfold verts at this
  rw [flat_app, List.append_assoc] at this
  exact (List.nodup_append.mp this).2.2 x h x g rfl
theorem verts_flat {S : List (Nat × Nat)} {r x : Nat} (h : x ∈ flat S) : x ∈ verts S r := List.mem_append_left _ h
/-- no mate of one's way is turned -/
theorem Ring.keep1 {e : Nat × Nat} (he : e ∈ S1 ++ T1) : lkN e.2 = s.lk e.2 := by
  refine R.N _ (fun z => ?_) fun z => ?_
  · obtain ⟨q, hq, e2⟩ := List.mem_map.mp z
    rcases List.mem_append.mp he with he | he
    · exact flat_ne (R.nd1 I) he hq e2.symm
    · exact R.dd I (fst_flat hq) (by rw [e2]; exact verts_flat I R (snd_flat he))
  · obtain ⟨q, hq, e2⟩ := List.mem_map.mp z
    rcases List.mem_append.mp he with he | he
    · exact R.d12 I (snd_flat he) (by rw [← e2]; exact fst_flat hq)
    · exact R.swap.d1t I (fst_flat hq) (by rw [e2]; exact verts_flat I R (snd_flat he))
theorem Ring.new1 : Pth μ lkN one (S1 ++ T1) r1 := by
  have h := R.h1
  have k := fun e he => R.keep1 I (e := e) he
  generalize S1 ++ T1 = S at h k
  clear R I
  induction h with
  | nil h => exact .nil h
  | cons h1 h2 _ ih => exact .cons h1 ((k _ List.mem_cons_self).trans h2) (ih fun e he => k e (List.mem_cons_of_mem _ he))
/-- back along one's way, and over -/
theorem Ring.back : ∀ (n : Nat) (X : List (Nat × Nat)), X.length = n → ∀ p m Y, S1 = X ++ (p, m) :: Y → Pth μ lkN m ((m, p) :: (X.reverse.map Prod.swap ++ (S2 ++ T2))) r2
  | n, X, hn, p, m, Y, hS => by
    have mt : μ m = some p := I.ms _ _ ((R.h1.mates.1 (p, m) (by rw [hS]; simp)))
    have l := R.N1 X p m Y hS
    rcases List.eq_nil_or_concat X with rfl | ⟨X', e, rfl⟩
    · have l' : lkN p = some other := l
      have nw := R.swap.new1 I
      exact .cons mt l' nw
    · rw [List.concat_eq_append] at hS l hn ⊢
      obtain ⟨p', m'⟩ := e
      have l2 : lkN p = some m' := by rw [l]; unfold prevM; rw [List.getLast?_append]; rfl
      have ih := Ring.back X'.length X' rfl p' m' ((p, m) :: Y) (by rw [hS]; simp)
      rw [List.reverse_append, List.map_append]
      exact .cons mt l2 ih
termination_by n => n
decreasing_by
  simp only [List.length_append, List.length_singleton] at hn
  omega
theorem Ring.back_nd {X Y : List (Nat × Nat)} {p m : Nat} (hS : S1 = X ++ (p, m) :: Y) : (verts ((m, p) :: (X.reverse.map Prod.swap ++ (S2 ++ T2))) r2).Nodup ∧ ∀ x ∈ verts ((m, p) :: (X.reverse.map Prod.swap ++ (S2 ++ T2))) r2, x ∈ flat S1 ∨ x ∈ verts (S2 ++ T2) r2 := by
  have e : verts ((m, p) :: (X.reverse.map Prod.swap ++ (S2 ++ T2))) r2 = (m :: p :: (flat X).reverse) ++ verts (S2 ++ T2) r2 := by
    unfold verts
    rw [flat_cons, flat_app, flat_rev]
    simp
  have nd := R.nd1 I
  rw [hS, flat_app, flat_cons] at nd
  obtain ⟨a1, a2, a3⟩ := List.nodup_append.mp nd
  have hin : ∀ x ∈ m :: p :: (flat X).reverse, x ∈ flat S1 := fun x hx => by
    rw [hS, flat_app, flat_cons]
    simp only [List.mem_cons, List.mem_reverse] at hx
    simp only [List.mem_append, List.mem_cons]
    rcases hx with h | h | h
    · exact .inr (.inr (.inl h))
    · exact .inr (.inl h)
    · exact .inl h
  rw [e]
  refine ⟨List.nodup_append.mpr ⟨?_, R.n2, fun x hx y hy z => ?_⟩, fun x hx => (List.mem_append.mp hx).imp (hin x) id⟩
  · obtain ⟨b1, b2⟩ := List.nodup_cons.mp a2
    refine List.nodup_cons.mpr ⟨fun h => ?_, List.nodup_cons.mpr ⟨fun h => ?_, (List.reverse_perm _).nodup_iff.mpr a1⟩⟩
    · rcases List.mem_cons.mp h with h | h
      · subst h
        exact b1 List.mem_cons_self
      · exact a3 m (List.mem_reverse.mp h) m (by simp) rfl
    · exact a3 p (List.mem_reverse.mp h) p (by simp) rfl
  · subst z
    have h1 := hin x hx
    unfold verts at hy
    rw [flat_app, List.append_assoc] at hy
    rcases List.mem_append.mp hy with h | h
    · exact R.d12 I h1 h
    · exact R.d1t I h1 h
/-- a way of before that comes upon a mate of one's way -/
theorem Ring.hit {v : Nat} {U W : List (Nat × Nat)} {x y r : Nat} (hv : s.ev v = true) (h : Pth μ s.lk v (U ++ (x, y) :: W) r) (nd : (verts (U ++ (x, y) :: W) r).Nodup) (hU : ∀ e ∈ U, e.1 ∉ S1.map (·.2) ∧ e.1 ∉ S2.map (·.2)) (hx : x ∈ S1.map (·.2)) :
    ∃ S r', Pth μ lkN v S r' ∧ (verts S r').Nodup := by
  obtain ⟨⟨p, m⟩, hpm, rfl⟩ := List.mem_map.mp hx
  simp only at h nd ⊢
  obtain ⟨X, Y, hS⟩ := List.append_of_mem hpm
  have mt : μ m = some p := I.ms _ _ (R.h1.mates.1 (p, m) (List.mem_append_left _ hpm))
  have hy : y = p := by
    have := h.mates.1 (m, y) (by simp)
    simp only at this
    rw [mt] at this; cases this; rfl
  subst hy
  have evs := path_ev I h hv
  have evm : s.ev m = true := (evs.1 (m, y) (by simp)).1
  -- mates of pairs of U are not turned
  have keepU : ∀ e ∈ U, lkN e.2 = s.lk e.2 := fun e he => by
    have me := h.mates.1 e (List.mem_append_left _ he)
    refine R.N _ (fun z => ?_) fun z => ?_
    · obtain ⟨q, hq, e2⟩ := List.mem_map.mp z
      have := R.h1.mates.1 q (List.mem_append_left _ hq)
      rw [e2, I.ms _ _ me] at this
      exact (hU e he).1 (List.mem_map.mpr ⟨q, hq, (Option.some.inj this).symm⟩)
    · obtain ⟨q, hq, e2⟩ := List.mem_map.mp z
      have := R.h2.mates.1 q (List.mem_append_left _ hq)
      rw [e2, I.ms _ _ me] at this
      exact (hU e he).2 (List.mem_map.mpr ⟨q, hq, (Option.some.inj this).symm⟩)
  obtain ⟨e, g1, g2, g3, _⟩ := h.split
  have he : e = m := by
    obtain ⟨w, g⟩ := g3 (by simp)
    simp at g
    exact g.1.symm
  subst he
  have bk := R.back I X.length X rfl y e Y hS
  obtain ⟨bn, bin⟩ := R.back_nd I hS
  refine ⟨_, _, g2 lkN _ _ keepU bk, ?_⟩
  have ev2 : verts (U ++ ((e, y) :: (X.reverse.map Prod.swap ++ (S2 ++ T2)))) r2 = flat U ++ verts ((e, y) :: (X.reverse.map Prod.swap ++ (S2 ++ T2))) r2 := by
    unfold verts; rw [flat_app, List.append_assoc]
  rw [ev2]
  have ndU : (flat U).Nodup := by
    unfold verts at nd
    rw [flat_app, List.append_assoc] at nd
    exact (List.nodup_append.mp nd).1
  -- one of U who stands on one of both ways
  have side : ∀ {o' : Nat} {Sk Tk : List (Nat × Nat)} {rk' : Nat}, Pth μ s.lk o' (Sk ++ Tk) rk' → (∀ q ∈ U, q.1 ∉ Sk.map (·.2)) → (∀ z ∈ Sk ++ Tk, z.1 ≠ e) → ∀ u ∈ flat U, u ∈ flat Sk → False := by
    intro o' Sk Tk rk' hk hUk hne u hu huk
    obtain ⟨q, hq, qu⟩ := mem_flat.mp hu
    obtain ⟨p', hp', pu⟩ := mem_flat.mp huk
    have mq := h.mates.1 q (List.mem_append_left _ hq)
    have mp := hk.mates.1 p' (List.mem_append_left _ hp')
    -- q's person is a person of the way
    have qp : q.1 = p'.1 := by
      rcases qu with rfl | rfl <;> rcases pu with pu | pu
      · exact pu
      · exact absurd (List.mem_map.mpr ⟨p', hp', pu.symm⟩) (hUk q hq)
      · have := I.ms _ _ mq
        rw [pu, mp] at this
        exact absurd (List.mem_map.mpr ⟨p', hp', Option.some.inj this⟩) (hUk q hq)
      · have a := I.ms _ _ mq
        have b := I.ms _ _ mp
        rw [pu] at a
        rw [b] at a
        exact (Option.some.inj a).symm
    obtain ⟨U1, U2, hU12⟩ := List.append_of_mem hq
    obtain ⟨V1, V2, hV12⟩ := List.append_of_mem hp'
    have hh := h
    rw [hU12, List.append_assoc, List.cons_append] at hh
    obtain ⟨e3, a1, _, a3, _⟩ := hh.split
    have ea : e3 = q.1 := by
      obtain ⟨w, g⟩ := a3 (by simp)
      simp at g
      rw [g]
    rw [hV12, List.append_assoc, List.cons_append] at hk
    obtain ⟨e4, b1, _, b3, _⟩ := hk.split
    have eb : e4 = p'.1 := by
      obtain ⟨w, g⟩ := b3 (by simp)
      simp at g
      rw [g]
    rw [ea, qp] at a1
    rw [eb] at b1
    have eq := (a1.det b1).1
    have : (e, y) ∈ p' :: (V2 ++ Tk) := by rw [← eq]; simp
    refine hne (e, y) ?_ rfl
    rw [hV12]
    simp only [List.append_assoc, List.cons_append, List.mem_append, List.mem_cons] at this ⊢
    rcases this with h | h | h
    · exact .inr (.inl h)
    · exact .inr (.inr (.inl h))
    · exact .inr (.inr (.inr h))
  have he1 : e ∈ flat S1 := snd_flat hpm
  refine List.nodup_append.mpr ⟨ndU, bn, fun u hu w hw z => ?_⟩
  subst z
  rcases bin u hw with h1 | h1
  · refine side R.h1 (fun q hq => (hU q hq).1) (fun z hz q => ?_) u hu h1
    rcases List.mem_append.mp hz with hz | hz
    · exact flat_ne (R.nd1 I) hpm hz q.symm
    · exact R.dd I he1 (by rw [← q]; exact verts_flat I R (fst_flat hz))
  · unfold verts at h1
    rw [flat_app, List.append_assoc] at h1
    rcases List.mem_append.mp h1 with h1 | h1
    · refine side R.h2 (fun q hq => (hU q hq).2) (fun z hz q => ?_) u hu h1
      rcases List.mem_append.mp hz with hz | hz
      · exact R.d12 I he1 (by rw [← q]; exact fst_flat hz)
      · exact R.d1t I he1 (by rw [← q]; exact verts_flat I R (fst_flat hz))
    · obtain ⟨b, k1, k2⟩ := ahead_K I h hv u hu
      obtain ⟨b', l1, l2⟩ := R.t2 u h1
      cases k2.fn l2
      obtain ⟨c, m1, _, m3⟩ := R.cls I he1
      have : c = s.bs e := by
        rcases m1 with ⟨_, m1⟩ | ⟨m1, _⟩
        · exact m1.symm
        · rw [evm] at m1; cases m1
      subst this
      exact m3 (l1.trans k1)
end
end BM
namespace BM
theorem first {α : Type} (P : α → Prop) : ∀ S : List α, (∀ e ∈ S, ¬ P e) ∨ ∃ U e W, S = U ++ e :: W ∧ P e ∧ ∀ u ∈ U, ¬ P u
  | [] => .inl fun _ z => nomatch z
  | a :: S => by
    by_cases h : P a
    · exact .inr ⟨[], a, S, rfl, h, fun _ z => nomatch z⟩
    · rcases first P S with g | ⟨U, e, W, rfl, g1, g2⟩
      · exact .inl fun e he => by
          rcases List.mem_cons.mp he with rfl | he
          · exact h
          · exact g e he
      · exact .inr ⟨a :: U, e, W, rfl, g1, fun u hu => by
          rcases List.mem_cons.mp hu with rfl | hu
          · exact h
          · exact g2 u hu⟩
/-- what counts as closed -/
def Cl (s : St) (S1 S2 : List (Nat × Nat)) (x : Nat) : Prop := ∃ p ∈ S1 ++ S2, x = s.bs p.1 ∨ x = s.bs p.2
section
variable {adj : Nat → Nat → Prop} {μ : Nat → Option Nat} {rk : Nat → Nat} {s : St} {one other b0 : Nat} {S1 T1 : List (Nat × Nat)} {r1 : Nat} {S2 T2 : List (Nat × Nat)} {r2 : Nat} {lkN : Nat → Option Nat}
variable (I : Inv adj μ rk s) (R : Ring adj μ s one other b0 S1 T1 r1 S2 T2 r2 lkN)
include I R
theorem Ring.base1 : ∀ p ∈ S1, ∃ o, (s.bs p.1, o) ∈ S1 ∧ s.bs (s.bs p.1) = s.bs p.1 := by
  rcases List.eq_nil_or_concat S1 with h0 | ⟨U, e, h0⟩
  · intro p hp; rw [h0] at hp; cases hp
  · rw [List.concat_eq_append] at h0
    obtain ⟨e', g1, g2, _⟩ := R.l1 U e.1 e.2 h0
    refine seg_base (e := e') (b0 := b0) I R.h1 R.v1 g2 (fun p hp => (R.c1 p hp).1) fun U' x y h => ?_
    rw [h0] at h
    have := List.append_inj_right' h rfl
    simp only [List.cons.injEq, and_true] at this
    have : e.2 = y := by rw [this]
    rw [← this]; exact g1
theorem Ring.evp {p : Nat × Nat} (hp : p ∈ S1) : s.ev p.1 = true ∧ Kl μ s p.2 (s.bs p.1) ∧ μ p.1 = some p.2 ∧ μ p.2 = some p.1 := by
  obtain ⟨g1, _, _⟩ := path_ev I R.h1 R.v1
  obtain ⟨a, _, c⟩ := g1 p (List.mem_append_left _ hp)
  have m := R.h1.mates.1 p (List.mem_append_left _ hp)
  exact ⟨a, c, m, I.ms _ _ m⟩
theorem Ring.cl_iff1 {p : Nat × Nat} (hp : p ∈ S1) : s.bs p.2 = s.bs p.1 ∧ s.ev p.2 = true ∨ s.bs p.2 = p.2 ∧ s.ev p.2 = false := by
  obtain ⟨_, k, _, _⟩ := R.evp I hp
  rcases k with ⟨k1, k2⟩ | ⟨k1, _⟩
  · exact .inl ⟨k2, k1⟩
  · exact .inr ⟨I.i0 _ k1, k1⟩
/-- next to one's way, within the new class -/
theorem Ring.next1 {bs' : Nat → Nat} {ev' : Nat → Bool} (hb : ∀ v, (Cl s S1 S2 (s.bs v) → bs' v = b0) ∧ (¬ Cl s S1 S2 (s.bs v) → bs' v = s.bs v)) (he : ∀ v, ev' v = true ↔ s.ev v = true ∨ Cl s S1 S2 (s.bs v)) {p m : Nat} (hp : (p, m) ∈ S1) : ∃ z, lkN p = some z ∧ ev' z = true ∧ bs' z = b0 ∧ adj p z := by
  obtain ⟨X, Y, hS⟩ := List.append_of_mem hp
  have l := R.N1 X p m Y hS
  rcases List.eq_nil_or_concat X with rfl | ⟨X', e, rfl⟩
  · have e : p = one := by
      have := R.h1
      rw [hS] at this
      cases this; rfl
    refine ⟨other, l, (he _).mpr (.inl R.v2), ?_, e ▸ R.a⟩
    by_cases c : Cl s S1 S2 (s.bs other)
    · exact (hb other).1 c
    · rw [(hb other).2 c]
      cases h2 : S2 with
      | nil => exact R.z2 h2
      | cons q S =>
        refine absurd ⟨q, List.mem_append_right _ (by rw [h2]; simp), .inl ?_⟩ c
        have := R.h2
        rw [h2] at this
        cases this; rfl
  · rw [List.concat_eq_append] at l hS
    obtain ⟨p', m'⟩ := e
    have l2 : lkN p = some m' := by rw [l]; unfold prevM; rw [List.getLast?_append]; rfl
    have hp' : (p', m') ∈ S1 := by rw [hS]; simp
    have cm : Cl s S1 S2 (s.bs m') := ⟨(p', m'), List.mem_append_left _ hp', .inr rfl⟩
    refine ⟨m', l2, (he _).mpr (.inr cm), (hb m').1 cm, ?_⟩
    -- p stands behind m' on the way
    have h1 := R.h1
    rw [hS, List.append_assoc, List.append_assoc] at h1
    obtain ⟨e, g1, _, g3, _⟩ := h1.split
    have ee : e = p' := by
      obtain ⟨w, g⟩ := g3 (by simp)
      simp at g
      exact g.1.symm
    subst ee
    cases g1 with
    | cons a1 a2 a3 =>
      rename_i pn
      have : pn = p := by
        have q : Pth μ s.lk pn ((p, m) :: (Y ++ T1)) r1 := a3
        cases q; rfl
      subst this
      obtain ⟨_, ad, _⟩ := step_cl I (R.evp I hp').1 a1 a2
      exact R.sy _ _ ad
end
end BM
namespace BM
section
variable {adj : Nat → Nat → Prop} {μ : Nat → Option Nat} {rk : Nat → Nat} {s : St} {one other b0 : Nat} {S1 T1 : List (Nat × Nat)} {r1 : Nat} {S2 T2 : List (Nat × Nat)} {r2 : Nat} {lkN : Nat → Option Nat} {bs' : Nat → Nat} {ev' : Nat → Bool}
theorem Cl.swap {x : Nat} (h : Cl s S1 S2 x) : Cl s S2 S1 x := by
  obtain ⟨p, hp, q⟩ := h
  exact ⟨p, by simp only [List.mem_append] at hp ⊢; exact hp.symm, q⟩
variable (I : Inv adj μ rk s) (R : Ring adj μ s one other b0 S1 T1 r1 S2 T2 r2 lkN)
include I R
/-- a closed even class: its base and the base's mate stand on a way -/
theorem Ring.closed_base {d : Nat} (c : Cl s S1 S2 d) (hd : s.ev d = true) : s.bs d = d ∧ d ≠ b0 ∧ Anc μ s d b0 ∧ ∃ o, (d, o) ∈ S1 ∨ (d, o) ∈ S2 := by
  obtain ⟨p, hp, q⟩ := c
  rcases List.mem_append.mp hp with hp | hp
  · have e : d = s.bs p.1 := by
      rcases q with q | q
      · exact q
      · rcases R.cl_iff1 I hp with ⟨h, _⟩ | ⟨h, h2⟩
        · exact q.trans h
        · rw [q, h, h2] at hd; cases hd
    obtain ⟨o, h1, h2⟩ := R.base1 I p hp
    subst e
    exact ⟨h2, (R.c1 p hp).1, (R.c1 p hp).2, o, .inl h1⟩
  · have e : d = s.bs p.1 := by
      rcases q with q | q
      · exact q
      · rcases R.swap.cl_iff1 I hp with ⟨h, _⟩ | ⟨h, h2⟩
        · exact q.trans h
        · rw [q, h, h2] at hd; cases hd
    obtain ⟨o, h1, h2⟩ := R.swap.base1 I p hp
    subst e
    exact ⟨h2, (R.c2 p hp).1, (R.c2 p hp).2, o, .inr h1⟩
theorem Ring.closed_odd {o : Nat} (c : Cl s S1 S2 o) (ho : s.ev o = false) : ∃ p, (p, o) ∈ S1 ∨ (p, o) ∈ S2 := by
  obtain ⟨p, hp, q⟩ := c
  rcases List.mem_append.mp hp with hp | hp
  · have a := (R.evp I hp).1
    rcases q with q | q
    · have := (I.i5 _ a).1
      rw [← q, ho] at this; cases this
    · rcases R.cl_iff1 I hp with ⟨h, _⟩ | ⟨h, h2⟩
      · have := (I.i5 _ a).1
        rw [← h, ← q, ho] at this; cases this
      · exact ⟨p.1, .inl (by rw [q, h]; exact hp)⟩
  · have a := (R.swap.evp I hp).1
    rcases q with q | q
    · have := (I.i5 _ a).1
      rw [← q, ho] at this; cases this
    · rcases R.swap.cl_iff1 I hp with ⟨h, _⟩ | ⟨h, h2⟩
      · have := (I.i5 _ a).1
        rw [← h, ← q, ho] at this; cases this
      · exact ⟨p.1, .inr (by rw [q, h]; exact hp)⟩
theorem Ring.b0_open : ¬ Cl s S1 S2 b0 := fun c => by
  have := (R.closed_base I c R.b.1).2.1
  exact this rfl
/-- who is turned is even and closed -/
theorem Ring.turned {x : Nat} (h : lkN x ≠ s.lk x) : ∃ m, (x, m) ∈ S1 ∨ (x, m) ∈ S2 := by
  by_cases h1 : x ∈ S1.map (·.1)
  · obtain ⟨p, hp, rfl⟩ := List.mem_map.mp h1
    exact ⟨p.2, .inl hp⟩
  · by_cases h2 : x ∈ S2.map (·.1)
    · obtain ⟨p, hp, rfl⟩ := List.mem_map.mp h2
      exact ⟨p.2, .inr hp⟩
    · exact absurd (R.N x h1 h2) h
theorem Ring.pers {x m : Nat} (h : (x, m) ∈ S1 ∨ (x, m) ∈ S2) : s.ev x = true ∧ Cl s S1 S2 (s.bs x) ∧ μ x = some m ∧ μ m = some x ∧ Cl s S1 S2 (s.bs m) := by
  rcases h with h | h
  · obtain ⟨a, _, b, c⟩ := R.evp I h
    exact ⟨a, ⟨_, List.mem_append_left _ h, .inl rfl⟩, b, c, ⟨_, List.mem_append_left _ h, .inr rfl⟩⟩
  · obtain ⟨a, _, b, c⟩ := R.swap.evp I h
    exact ⟨a, ⟨_, List.mem_append_right _ h, .inl rfl⟩, b, c, ⟨_, List.mem_append_right _ h, .inr rfl⟩⟩
variable (hb : ∀ v, (Cl s S1 S2 (s.bs v) → bs' v = b0) ∧ (¬ Cl s S1 S2 (s.bs v) → bs' v = s.bs v)) (he : ∀ v, ev' v = true ↔ s.ev v = true ∨ Cl s S1 S2 (s.bs v))
include hb he
theorem Ring.next {x m : Nat} (h : (x, m) ∈ S1 ∨ (x, m) ∈ S2) : ∃ z, lkN x = some z ∧ ev' z = true ∧ bs' z = b0 ∧ adj x z := by
  rcases h with h | h
  · exact R.next1 I hb he h
  · exact R.swap.next1 I (fun v => ⟨fun c => (hb v).1 c.swap, fun c => (hb v).2 fun d => c d.swap⟩) (fun v => by rw [he v]; exact ⟨fun q => q.imp id Cl.swap, fun q => q.imp id Cl.swap⟩) h
/-- all that was so is so behind a closing -/
theorem Ring.inv : Inv adj μ rk ⟨lkN, bs', ev'⟩ := by
  have bN := R.b0_open I
  have b0b : bs' b0 = b0 := by rw [(hb b0).2 (by rw [R.b.2]; exact bN)]; exact R.b.2
  have evb0 : ev' b0 = true := (he b0).mpr (.inl R.b.1)
  have notev : ∀ v, ev' v = false → s.ev v = false ∧ ¬ Cl s S1 S2 (s.bs v) := fun v h => by
    have : ¬ (s.ev v = true ∨ Cl s S1 S2 (s.bs v)) := fun z => by rw [(he v).mpr z] at h; cases h
    exact ⟨by simpa using fun z => this (.inl z), fun z => this (.inr z)⟩
  have cls : ∀ v, ev' v = true → ¬ Cl s S1 S2 (s.bs v) → s.ev v = true := fun v h c => ((he v).mp h).resolve_right c
  refine ⟨I.ms, fun v h => ?_, fun v h => ?_, fun b h hbb => ?_, fun v h hv => ?_, fun o h ho => ?_, fun v h => ?_⟩
  · obtain ⟨h1, h2⟩ := notev v h
    show bs' v = v
    rw [(hb v).2 h2]; exact I.i0 v h1
  · show ev' (bs' v) = true ∧ bs' (bs' v) = bs' v
    by_cases c : Cl s S1 S2 (s.bs v)
    · rw [(hb v).1 c]; exact ⟨evb0, b0b⟩
    · have e := cls v h c
      obtain ⟨e1, e2⟩ := I.i5 v e
      rw [(hb v).2 c]
      exact ⟨(he _).mpr (.inl e1), by rw [(hb _).2 (by rw [e2]; exact c)]; exact e2⟩
  · -- bases
    replace hbb : bs' b = b := hbb
    have c : ¬ Cl s S1 S2 (s.bs b) := fun c => by
      have := (hb b).1 c
      rw [hbb] at this
      rw [this, R.b.2] at c
      exact bN c
    have e := cls b h c
    have ob : s.bs b = b := by rw [← (hb b).2 c]; exact hbb
    rcases I.i1 b e ob with g | ⟨o, p, g1, g2, g3, g4, g5, g6⟩
    · exact .inl g
    · have oc : ¬ Cl s S1 S2 (s.bs o) := fun z => by
        rw [I.i0 o g2] at z
        obtain ⟨q, hq⟩ := R.closed_odd I z g2
        obtain ⟨q1, q2, q3, q4, _⟩ := R.pers I hq
        rw [I.ms _ _ g1] at q4
        cases q4
        exact c q2
      refine .inr ⟨o, p, g1, ?_, ?_, (he p).mpr (.inl g4), g5, ?_⟩
      · show ev' o = false
        rw [← Bool.not_eq_true, he o]
        rintro (z | z)
        · rw [g2] at z; cases z
        · exact oc z
      · show lkN o = some p
        refine Classical.byContradiction fun z => ?_
        obtain ⟨m, hm⟩ := R.turned I (x := o) (fun w => z (w.trans g3))
        have := (R.pers I hm).1
        rw [g2] at this; cases this
      · show rk (bs' p) < rk b
        by_cases cp : Cl s S1 S2 (s.bs p)
        · rw [(hb p).1 cp]
          obtain ⟨e1, e2⟩ := I.i5 p g4
          obtain ⟨_, q2, q3, _⟩ := R.closed_base I cp e1
          have := (Anc.ev_rk I q3 e1 e2).2.2.2 q2
          omega
        · rw [(hb p).2 cp]; exact g6
  · -- within a class
    replace hv : bs' v ≠ v := hv
    by_cases c : Cl s S1 S2 (s.bs v)
    · have bv : bs' v = b0 := (hb v).1 c
      -- what the mate m leads on to
      have fin : ∀ m, μ v = some m → ev' m = true → bs' m = b0 → (∃ z, lkN m = some z ∧ ev' z = true ∧ bs' z = b0 ∧ adj m z) → ∃ m p, μ v = some m ∧ ev' m = true ∧ bs' m = bs' v ∧ lkN m = some p ∧ ev' p = true ∧ bs' p = bs' v ∧ adj m p := by
        rintro m h1 h2 h3 ⟨z, z1, z2, z3, z4⟩
        exact ⟨m, z, h1, h2, h3.trans bv.symm, z1, z2, z3.trans bv.symm, z4⟩
      cases hev : s.ev v with
      | false =>
        rw [I.i0 v hev] at c
        obtain ⟨p, hp⟩ := R.closed_odd I c hev
        obtain ⟨q1, q2, q3, q4, _⟩ := R.pers I hp
        exact fin p q4 ((he p).mpr (.inl q1)) ((hb p).1 q2) (R.next I hb he hp)
      | true =>
        by_cases hvb : s.bs v = v
        · rw [hvb] at c
          obtain ⟨_, _, _, o, ho⟩ := R.closed_base I c hev
          obtain ⟨_, _, q3, q4, q5⟩ := R.pers I ho
          refine fin o q3 ((he o).mpr (.inr q5)) ((hb o).1 q5) ?_
          -- the base's mate leads where it led
          rcases I.i1 v hev hvb with g | ⟨o', p, g1, g2, g3, g4, g5, _⟩
          · rw [q3] at g; cases g
          · rw [q3] at g1; cases g1
            have lk : lkN o = some p := by
              refine Classical.byContradiction fun z => ?_
              obtain ⟨m, hm⟩ := R.turned I (x := o) (fun w => z (w.trans g3))
              have := (R.pers I hm).1
              rw [g2] at this; cases this
            refine ⟨p, lk, (he p).mpr (.inl g4), ?_, g5⟩
            by_cases cp : Cl s S1 S2 (s.bs p)
            · exact (hb p).1 cp
            · rw [(hb p).2 cp]
              -- p is of the class b0, or stands on the way
              have key : ∀ {one' other' : Nat} {Sa Ta : List (Nat × Nat)} {ra : Nat} {Sb Tb : List (Nat × Nat)} {rb : Nat}, Ring adj μ s one' other' b0 Sa Ta ra Sb Tb rb lkN → (∀ q ∈ Sa, Cl s S1 S2 (s.bs q.1)) → (v, o) ∈ Sa → s.bs p = b0 := by
                intro one' other' Sa Ta ra Sb Tb rb Ra hSa hin
                obtain ⟨X, Y, hS⟩ := List.append_of_mem hin
                have hh := Ra.h1
                rw [hS, List.append_assoc, List.cons_append] at hh
                obtain ⟨e, a1, _, a3, _⟩ := hh.split
                have ee : e = v := by
                  obtain ⟨w, g⟩ := a3 (by simp)
                  simp at g
                  exact g.1.symm
                subst ee
                cases a1 with
                | cons _ b2 b3 =>
                  rename_i pn
                  rw [g3] at b2; cases b2
                  cases hY : Y with
                  | nil =>
                    obtain ⟨e', w1, w2, _⟩ := Ra.l1 X e o (by rw [hS, hY])
                    rw [g3] at w1; cases w1
                    exact w2
                  | cons q Y' =>
                    rw [hY] at b3
                    have : q.1 = p := by
                      have b3' : Pth μ s.lk p (q :: (Y' ++ Ta)) ra := b3
                      cases b3'; rfl
                    refine absurd (hSa q (by rw [hS, hY]; simp)) ?_
                    rw [this]; exact cp
              rcases ho with ho | ho
              · exact key R (fun q hq => ⟨q, List.mem_append_left _ hq, .inl rfl⟩) ho
              · exact key R.swap (fun q hq => ⟨q, List.mem_append_right _ hq, .inl rfl⟩) ho
        · obtain ⟨m, p, g1, g2, g3, g4, g5, g6, g7⟩ := I.i2 v hev hvb
          refine fin m g1 ((he m).mpr (.inl g2)) ((hb m).1 (by rw [g3]; exact c)) ?_
          by_cases t : lkN m = s.lk m
          · exact ⟨p, t.trans g4, (he p).mpr (.inl g5), (hb p).1 (by rw [g6]; exact c), g7⟩
          · obtain ⟨m', hm'⟩ := R.turned I t
            exact R.next I hb he hm'
    · have e := cls v h c
      have bv := (hb v).2 c
      rw [bv] at hv
      obtain ⟨m, p, g1, g2, g3, g4, g5, g6, g7⟩ := I.i2 v e hv
      refine ⟨m, p, g1, (he m).mpr (.inl g2), ?_, ?_, (he p).mpr (.inl g5), ?_, g7⟩
      · show bs' m = bs' v
        rw [(hb m).2 (by rw [g3]; exact c), bv]; exact g3
      · show lkN m = some p
        refine Classical.byContradiction fun z => ?_
        obtain ⟨m', hm⟩ := R.turned I (x := m) (fun w => z (w.trans g4))
        have := (R.pers I hm).2.1
        rw [g3] at this
        exact c this
      · show bs' p = bs' v
        rw [(hb p).2 (by rw [g6]; exact c), bv]; exact g6
  · -- oddly reached
    obtain ⟨h1, h2⟩ := notev o h
    replace ho : lkN o ≠ none := ho
    have lk : lkN o = s.lk o := by
      refine Classical.byContradiction fun z => ?_
      obtain ⟨m, hm⟩ := R.turned I z
      have := (R.pers I hm).1
      rw [h1] at this; cases this
    rw [lk] at ho
    obtain ⟨d, g1, g2, g3⟩ := I.i3 o h1 ho
    refine ⟨d, g1, (he d).mpr (.inl g2), ?_⟩
    show bs' d = d
    rw [(hb d).2 ?_]
    · exact g3
    · rw [g3]
      intro c
      obtain ⟨_, _, _, o', ho'⟩ := R.closed_base I c g2
      obtain ⟨_, _, q3, _, q5⟩ := R.pers I ho'
      rw [I.ms _ _ g1] at q3
      cases q3
      exact h2 q5
  · -- ways
    show ∃ S r, Pth μ lkN v S r ∧ (verts S r).Nodup
    cases hev : s.ev v with
    | true =>
      obtain ⟨S, r, g1, g2⟩ := I.i4 v hev
      rcases first (fun e : Nat × Nat => e.1 ∈ S1.map (·.2) ∨ e.1 ∈ S2.map (·.2)) S with no | ⟨U, e, W, rfl, h1, h2⟩
      · refine ⟨S, r, ?_, g2⟩
        have k : ∀ e ∈ S, lkN e.2 = s.lk e.2 := fun e hee => by
          refine Classical.byContradiction fun z => ?_
          obtain ⟨m, hm⟩ := R.turned I z
          obtain ⟨_, _, q3, _, _⟩ := R.pers I hm
          rw [I.ms _ _ (g1.mates.1 e hee)] at q3
          refine no e hee ?_
          rcases hm with hm | hm
          · exact .inl (List.mem_map.mpr ⟨_, hm, (Option.some.inj q3).symm⟩)
          · exact .inr (List.mem_map.mpr ⟨_, hm, (Option.some.inj q3).symm⟩)
        clear g2 no h hev
        induction g1 with
        | nil h => exact .nil h
        | cons h1 h2 _ ih => exact .cons h1 ((k _ List.mem_cons_self).trans h2) (ih fun e he => k e (List.mem_cons_of_mem _ he))
      · obtain ⟨x, y⟩ := e
        rcases h1 with h1 | h1
        · exact R.hit I hev g1 g2 (fun u hu => not_or.mp (h2 u hu)) h1
        · exact R.swap.hit I hev g1 g2 (fun u hu => (not_or.mp (h2 u hu)).symm) h1
    | false =>
      have c : Cl s S1 S2 v := by
        have := ((he v).mp h).resolve_left (by rw [hev]; simp)
        rw [I.i0 v hev] at this
        exact this
      obtain ⟨p, hp | hp⟩ := R.closed_odd I c hev
      · obtain ⟨X, Y, hS⟩ := List.append_of_mem hp
        exact ⟨_, _, R.back I X.length X rfl p v Y hS, (R.back_nd I hS).1⟩
      · obtain ⟨X, Y, hS⟩ := List.append_of_mem hp
        exact ⟨_, _, R.swap.back I X.length X rfl p v Y hS, (R.swap.back_nd I hS).1⟩
end
end BM
namespace BM
def upd {α : Type} (f : Nat → α) (x : Nat) (a : α) : Nat → α := fun v => if v = x then a else f v
theorem upd_eq {α : Type} (f : Nat → α) (x : Nat) (a : α) : upd f x a x = a := if_pos rfl
theorem upd_ne {α : Type} {f : Nat → α} {x v : Nat} {a : α} (h : v ≠ x) : upd f x a v = f v := if_neg h
section
variable {adj : Nat → Nat → Prop} {μ : Nat → Option Nat} {rk : Nat → Nat} {s : St}
theorem Pth.same {lk lk' : Nat → Option Nat} {v : Nat} {S : List (Nat × Nat)} {r : Nat} (h : Pth μ lk v S r) (k : ∀ e ∈ S, lk' e.2 = lk e.2) : Pth μ lk' v S r := by
  induction h with
  | nil h => exact .nil h
  | cons h1 h2 _ ih => exact .cons h1 ((k _ List.mem_cons_self).trans h2) (ih fun e he => k e (List.mem_cons_of_mem _ he))
theorem Inv.start (ms : ∀ u v, μ u = some v → μ v = some u) {ev : Nat → Bool} (h : ∀ v, ev v = true → μ v = none) : Inv adj μ rk ⟨fun _ => none, id, ev⟩ := by
  refine ⟨ms, fun _ _ => rfl, fun v h => ⟨h, rfl⟩, fun b hb _ => .inl (h b hb), fun v _ z => absurd rfl z, fun o _ z => absurd rfl z, fun v hv => ⟨[], v, .nil (h v hv), ?_⟩⟩
  show [v].Nodup
  simp
variable (I : Inv adj μ rk s)
include I
/-- the mate of one linked to nobody, not reached evenly, is not reached evenly -/
theorem Inv.mate_free {q d : Nat} (hq : s.ev q = false) (hl : s.lk q = none) (hm : μ q = some d) : s.ev d = false := by
  rw [← Bool.not_eq_true]
  intro hd
  have md := I.ms _ _ hm
  by_cases hb : s.bs d = d
  · rcases I.i1 d hd hb with h | ⟨o, p, g1, g2, g3, _⟩
    · rw [md] at h; cases h
    · rw [md] at g1; cases g1
      rw [hl] at g3; cases g3
  · obtain ⟨m, p, g1, g2, _⟩ := I.i2 d hd hb
    rw [md] at g1; cases g1
    rw [hq] at g2; cases g2
theorem Inv.link {p q d : Nat} {rk' : Nat → Nat} (hp : s.ev p = true) (hq : s.ev q = false) (hl : s.lk q = none) (hm : μ q = some d) (hne : d ≠ q) (ha : adj q p)
    (hr : ∀ v, s.ev v = true → rk' v = rk v) (hr2 : rk (s.bs p) < rk' d) : Inv adj μ rk' ⟨upd s.lk q (some p), s.bs, upd s.ev d true⟩ := by
  have hd := I.mate_free hq hl hm
  have md := I.ms _ _ hm
  have ned : ∀ v, s.ev v = true → v ≠ d := fun v h z => by rw [z, hd] at h; cases h
  have neq : ∀ v, s.ev v = true → v ≠ q := fun v h z => by rw [z, hq] at h; cases h
  have keep : ∀ v, s.ev v = true → upd s.ev d true v = true := fun v h => by rw [upd_ne (ned v h)]; exact h
  have old : ∀ v, upd s.ev d true v = false → v ≠ d ∧ s.ev v = false := fun v h => by
    have n : v ≠ d := fun z => by rw [z, upd_eq] at h; cases h
    rw [upd_ne n] at h
    exact ⟨n, h⟩
  have out : ∀ v S r, Pth μ s.lk v S r → s.ev v = true → q ∉ verts S r ∧ d ∉ verts S r := fun v S r h hv => by
    constructor
    · intro z
      obtain ⟨b, _, k | ⟨_, k, k2, _⟩⟩ := path_K I h hv q z
      · rw [hq] at k; cases k.1
      · rw [hm] at k; cases k
        rw [hd] at k2; cases k2
    · intro z
      obtain ⟨b, _, k | ⟨_, k, k2, _⟩⟩ := path_K I h hv d z
      · rw [hd] at k; cases k.1
      · rw [md] at k; cases k
        rw [hq] at k2; cases k2
  have sm : ∀ v S r, Pth μ s.lk v S r → s.ev v = true → Pth μ (upd s.lk q (some p)) v S r := fun v S r h hv => h.same fun e he => upd_ne fun z => (out v S r h hv).1 (List.mem_append_left _ (mem_flat.mpr ⟨e, he, .inr z.symm⟩))
  refine ⟨I.ms, fun v h => I.i0 v (old v h).2, fun v h => ?_, fun b h hb => ?_, fun v h hv => ?_, fun o h ho => ?_, fun v h => ?_⟩
  · show upd s.ev d true (s.bs v) = true ∧ s.bs (s.bs v) = s.bs v
    by_cases e : v = d
    · subst e
      rw [I.i0 v hd]
      exact ⟨upd_eq _ _ _, I.i0 v hd⟩
    · replace h : upd s.ev d true v = true := h
      rw [upd_ne e] at h
      exact ⟨keep _ (I.i5 v h).1, (I.i5 v h).2⟩
  · by_cases e : b = d
    · subst e
      refine .inr ⟨q, p, md, ?_, upd_eq _ _ _, keep p hp, ha, ?_⟩
      · show upd s.ev b true q = false
        rw [upd_ne (Ne.symm hne)]; exact hq
      · show rk' (s.bs p) < rk' b
        rw [hr _ (I.i5 p hp).1]; exact hr2
    · replace h : upd s.ev d true b = true := h
      rw [upd_ne e] at h
      rcases I.i1 b h hb with g | ⟨o, p', g1, g2, g3, g4, g5, g6⟩
      · exact .inl g
      · refine .inr ⟨o, p', g1, ?_, ?_, keep p' g4, g5, ?_⟩
        · show upd s.ev d true o = false
          rw [upd_ne fun z => ?_]
          · exact g2
          · subst z
            have := I.ms _ _ g1
            rw [md] at this; cases this
            rw [hq] at h; cases h
        · show upd s.lk q (some p) o = some p'
          rw [upd_ne fun z => ?_]
          · exact g3
          · subst z; rw [hl] at g3; cases g3
        · show rk' (s.bs p') < rk' b
          rw [hr _ (I.i5 p' g4).1, hr _ h]; exact g6
  · have e : v ≠ d := fun z => by subst z; exact hv (I.i0 v hd)
    replace h : upd s.ev d true v = true := h
    rw [upd_ne e] at h
    obtain ⟨m, p', g1, g2, g3, g4, g5, g6, g7⟩ := I.i2 v h hv
    exact ⟨m, p', g1, keep m g2, g3, (upd_ne (neq m g2)).trans g4, keep p' g5, g6, g7⟩
  · obtain ⟨n, h2⟩ := old o h
    by_cases e : o = q
    · subst e
      exact ⟨d, hm, upd_eq _ _ _, I.i0 d hd⟩
    · replace ho : upd s.lk q (some p) o ≠ none := ho
      rw [upd_ne e] at ho
      obtain ⟨d', g1, g2, g3⟩ := I.i3 o h2 ho
      exact ⟨d', g1, keep d' g2, g3⟩
  · show ∃ S r, Pth μ (upd s.lk q (some p)) v S r ∧ (verts S r).Nodup
    by_cases e : v = d
    · subst e
      obtain ⟨S, r, g1, g2⟩ := I.i4 p hp
      obtain ⟨o1, o2⟩ := out p S r g1 hp
      refine ⟨(v, q) :: S, r, .cons md (upd_eq _ _ _) (sm p S r g1 hp), ?_⟩
      show (v :: q :: verts S r).Nodup
      refine List.nodup_cons.mpr ⟨fun z => ?_, List.nodup_cons.mpr ⟨o1, g2⟩⟩
      rcases List.mem_cons.mp z with z | z
      · exact hne z
      · exact o2 z
    · replace h : upd s.ev d true v = true := h
      rw [upd_ne e] at h
      obtain ⟨S, r, g1, g2⟩ := I.i4 v h
      exact ⟨S, r, sm v S r g1 h, g2⟩
end
end BM
namespace BM
/-- steps by mates and links -/
inductive Wk (μ lk : Nat → Option Nat) : Nat → List (Nat × Nat) → Nat → Prop
  | nil {v : Nat} : Wk μ lk v [] v
  | cons {v m p e : Nat} {S : List (Nat × Nat)} : μ v = some m → lk m = some p → Wk μ lk p S e → Wk μ lk v ((v, m) :: S) e
theorem Pth.wk {μ lk : Nat → Option Nat} {U W : List (Nat × Nat)} {r : Nat} : ∀ {v : Nat}, Pth μ lk v (U ++ W) r → ∃ e, Wk μ lk v U e ∧ Pth μ lk e W r := by
  induction U with
  | nil => intro v h; exact ⟨v, .nil, h⟩
  | cons u U ih =>
    intro v h
    cases h with
    | cons a b c =>
      obtain ⟨e, h1, h2⟩ := ih c
      exact ⟨e, .cons a b h1, h2⟩
theorem Pth.from {μ lk : Nat → Option Nat} {v v' : Nat} {W : List (Nat × Nat)} {r : Nat} (h : Pth μ lk v W r) (g : Pth μ lk v' W r) : v = v' := by
  cases h with
  | nil _ => cases g; rfl
  | cons _ _ _ => cases g; rfl
theorem Wk.last {μ lk : Nat → Option Nat} {U : List (Nat × Nat)} {x y : Nat} : ∀ {v e : Nat}, Wk μ lk v (U ++ [(x, y)]) e → lk y = some e := by
  induction U with
  | nil =>
    intro v e h
    cases h with
    | cons _ b c => cases c; exact b
  | cons u U ih =>
    intro v e h
    cases h with
    | cons _ _ c => exact ih c
def turnL : List (Nat × Nat) → Nat → (Nat → Option Nat) → Nat → Option Nat
  | [], _, lk => lk
  | (p, m) :: X, b, lk => turnL X m (upd lk p (some b))
theorem turnL_out : ∀ {X : List (Nat × Nat)} {b : Nat} {lk : Nat → Option Nat} {x : Nat}, x ∉ X.map (·.1) → turnL X b lk x = lk x
  | [], _, _, _, _ => rfl
  | (p, m) :: X, b, lk, x, h => by
    rw [List.map_cons, List.mem_cons, not_or] at h
    show turnL X m (upd lk p (some b)) x = lk x
    rw [turnL_out h.2, upd_ne h.1]
theorem prevM_cons (b : Nat) (e : Nat × Nat) (A : List (Nat × Nat)) : prevM b (e :: A) = prevM e.2 A := by
  unfold prevM
  cases A with
  | nil => rfl
  | cons a A => rfl
theorem turnL_at : ∀ {A : List (Nat × Nat)} {p q : Nat} {Y : List (Nat × Nat)} {b : Nat} {lk : Nat → Option Nat}, ((A ++ (p, q) :: Y).map (·.1)).Nodup → turnL (A ++ (p, q) :: Y) b lk p = some (prevM b A)
  | [], p, q, Y, b, lk, h => by
    show turnL Y q (upd lk p (some b)) p = some (prevM b [])
    rw [turnL_out (List.nodup_cons.mp h).1, upd_eq]
    rfl
  | e :: A, p, q, Y, b, lk, h => by
    show turnL (A ++ (p, q) :: Y) e.2 (upd lk e.1 (some b)) p = _
    rw [turnL_at (List.nodup_cons.mp h).2, prevM_cons]
section
variable {adj : Nat → Nat → Prop} {μ : Nat → Option Nat} {rk : Nat → Nat} {s : St} (I : Inv adj μ rk s)
include I
theorem seg_cls {one b0 : Nat} {S T : List (Nat × Nat)} {r : Nat} (h : Pth μ s.lk one (S ++ T) r) (v : s.ev one = true) (c : ∀ p ∈ S, s.bs p.1 ≠ b0 ∧ Anc μ s (s.bs p.1) b0) {x : Nat} (hx : x ∈ flat S) : ∃ b, Kl μ s x b ∧ Anc μ s (s.bs one) b ∧ ¬ Anc μ s b0 b := by
  obtain ⟨e, he, q⟩ := mem_flat.mp hx
  obtain ⟨k1, k2⟩ := c e he
  obtain ⟨g1, _, _⟩ := path_ev I h v
  obtain ⟨g2, g3, g4⟩ := g1 e (List.mem_append_left _ he)
  have no : ¬ Anc μ s b0 (s.bs e.1) := fun z => k1 (Anc.anti I k2 z (I.i5 _ g2).1 (I.i5 _ g2).2)
  rcases q with rfl | rfl
  · exact ⟨_, .inl ⟨g2, rfl⟩, g3, no⟩
  · exact ⟨_, g4, g3, no⟩
theorem fst_nodup {S : List (Nat × Nat)} (h : (flat S).Nodup) : (S.map (·.1)).Nodup := (List.nodup_append.mp ((flat_perm S).nodup_iff.mp h)).1
theorem Inv.ring {one other b0 : Nat} (sy : ∀ u v, adj u v → adj v u) (v1 : s.ev one = true) (v2 : s.ev other = true) (a : adj one other) (a1 : Anc μ s (s.bs one) b0) (a2 : Anc μ s (s.bs other) b0)
    (m : ∀ b, Anc μ s (s.bs one) b → Anc μ s (s.bs other) b → Anc μ s b0 b) :
    ∃ S1 T1 r1 S2 T2 r2 e1 e2, Ring adj μ s one other b0 S1 T1 r1 S2 T2 r2 (turnL S2 one (turnL S1 other s.lk)) ∧ Wk μ s.lk one S1 e1 ∧ s.bs e1 = b0 ∧ Wk μ s.lk other S2 e2 ∧ s.bs e2 = b0 := by
  have side : ∀ v, s.ev v = true → Anc μ s (s.bs v) b0 → ∃ S T r e, Pth μ s.lk v (S ++ T) r ∧ (verts (S ++ T) r).Nodup ∧ (∀ p ∈ S, s.bs p.1 ≠ b0 ∧ Anc μ s (s.bs p.1) b0) ∧ (∀ x ∈ verts T r, ∃ b, Anc μ s b0 b ∧ Kl μ s x b) ∧ Wk μ s.lk v S e ∧ s.bs e = b0 ∧ s.ev e = true ∧ (S = [] → s.bs v = b0) := by
    intro v hv ha
    obtain ⟨S, r, h1, h2⟩ := I.i4 v hv
    obtain ⟨S1, S2, e, rfl, g1, g2, g3, g4, _, g6⟩ := seg I h1 hv ha
    obtain ⟨e', w1, w2⟩ := h1.wk
    cases g1.from w2
    refine ⟨S1, S2, r, e, h1, h2, g4, fun x hx => ?_, w1, g3, g2, fun z => by rw [← g6 z]; exact g3⟩
    rw [← g3]
    exact path_K I g1 g2 x hx
  obtain ⟨S1, T1, r1, e1, h1, n1, c1, t1, w1, x1, y1, z1⟩ := side one v1 a1
  obtain ⟨S2, T2, r2, e2, h2, n2, c2, t2, w2, x2, y2, z2⟩ := side other v2 a2
  have nd : ∀ {S T : List (Nat × Nat)} {r : Nat}, (verts (S ++ T) r).Nodup → (flat S).Nodup := fun h => by
    unfold verts at h
    rw [flat_app, List.append_assoc] at h
    exact (List.nodup_append.mp h).1
  have d12 : ∀ x, x ∈ flat S1 → x ∈ flat S2 → False := fun x h g => by
    obtain ⟨b, k1, k2, k3⟩ := seg_cls I h1 v1 c1 h
    obtain ⟨c, l1, l2, _⟩ := seg_cls I h2 v2 c2 g
    cases k1.fn l1
    exact k3 (m b k2 l2)
  have b0e := Anc.ev_rk I a1 (I.i5 _ v1).1 (I.i5 _ v1).2
  refine ⟨S1, T1, r1, S2, T2, r2, e1, e2, ⟨h1, n1, h2, n2, v1, v2, sy, a, c1, c2, t1, t2, m, fun U x y e => ⟨e1, by subst e; exact w1.last, x1, y1⟩, fun U x y e => ⟨e2, by subst e; exact w2.last, x2, y2⟩, z1, z2, ⟨b0e.1, b0e.2.1⟩, ?_, ?_, ?_⟩, w1, x1, w2, x2⟩
  · intro x hx1 hx2
    rw [turnL_out hx2, turnL_out hx1]
  · intro X p q Y e
    have hp : p ∈ flat S1 := by rw [e]; exact fst_flat (p := (p, q)) (by simp)
    have : p ∉ S2.map (·.1) := fun z => by
      obtain ⟨w, hw, e2⟩ := List.mem_map.mp z
      exact d12 p hp (by rw [← e2]; exact fst_flat hw)
    rw [turnL_out this, e]
    exact turnL_at (by rw [← e]; exact fst_nodup I (nd n1))
  · intro X p q Y e
    rw [e]
    exact turnL_at (by rw [← e]; exact fst_nodup I (nd n2))
end
end BM
namespace BM
/-- steps in turns: true where the first one is no pair yet -/
inductive Alt (adj : Nat → Nat → Prop) (μ : Nat → Option Nat) : Bool → List Nat → Prop
  | one {b : Bool} {x : Nat} : Alt adj μ b [x]
  | new {x y : Nat} {W : List Nat} : adj x y → Alt adj μ false (y :: W) → Alt adj μ true (x :: y :: W)
  | old {x y : Nat} {W : List Nat} : μ x = some y → Alt adj μ true (y :: W) → Alt adj μ false (x :: y :: W)
theorem Alt.mono {adj : Nat → Nat → Prop} {μ ν : Nat → Option Nat} {b : Bool} {w : List Nat} (h : Alt adj μ b w) : (∀ x y, x ∈ w → y ∈ w → μ x = some y → ν x = some y) → Alt adj ν b w := by
  induction h with
  | one => intro _; exact .one
  | new a _ ih => intro k; exact .new a (ih fun x y hx hy => k x y (List.mem_cons_of_mem _ hx) (List.mem_cons_of_mem _ hy))
  | old a _ ih => intro k; exact .old (k _ _ List.mem_cons_self (by simp) a) (ih fun x y hx hy => k x y (List.mem_cons_of_mem _ hx) (List.mem_cons_of_mem _ hy))
def lastD : List Nat → Nat
  | [] => 0
  | [x] => x
  | _ :: y :: W => lastD (y :: W)
theorem lastD_mem : ∀ {w : List Nat}, w ≠ [] → lastD w ∈ w
  | [], h => absurd rfl h
  | [x], _ => List.mem_cons_self
  | _ :: y :: W, _ => List.mem_cons_of_mem _ (lastD_mem (w := y :: W) (by simp))
theorem lastD_snoc (w : List Nat) (x : Nat) : lastD (w ++ [x]) = x := by
  induction w with
  | nil => rfl
  | cons a w ih =>
    cases w with
    | nil => rfl
    | cons b w => exact ih
def headD (w : List Nat) : Nat := w.headD 0
/-- as the program turns -/
def tw (f : Nat → Option Nat) : List Nat → Nat → Option Nat
  | a :: b :: W => tw (upd (upd f a (some b)) b (some a)) W
  | _ => f
/-- the same, each person's mate let go ahead of it -/
def tn (f : Nat → Option Nat) : List Nat → Nat → Option Nat
  | [] => f
  | [x] => upd f x none
  | [a, b] => upd (upd f a (some b)) b (some a)
  | a :: b :: c :: W => tn (upd (upd (upd f a (some b)) b (some a)) c none) (c :: W)
theorem tw_tn : ∀ (n : Nat) (w : List Nat), w.length = n → ∀ f, w ≠ [] → w.Nodup → tw (upd f (lastD w) none) w = tn f w
  | n, [], _, f, h, _ => absurd rfl h
  | n, [x], _, f, _, _ => rfl
  | n, [a, b], _, f, _, nd => by
    show upd (upd (upd f b none) a (some b)) b (some a) = upd (upd f a (some b)) b (some a)
    funext v
    by_cases e : v = b
    · rw [e, upd_eq, upd_eq]
    · rw [upd_ne e, upd_ne e]
      by_cases e2 : v = a
      · rw [e2, upd_eq, upd_eq]
      · rw [upd_ne e2, upd_ne e2, upd_ne e]
  | n, a :: b :: c :: W, hn, f, _, nd => by
    obtain ⟨n1, nd⟩ := List.nodup_cons.mp nd
    obtain ⟨n2, nd⟩ := List.nodup_cons.mp nd
    have hl : lastD (c :: W) ∈ c :: W := lastD_mem (by simp)
    have la : lastD (c :: W) ≠ a := fun z => n1 (by rw [← z]; exact List.mem_cons_of_mem _ hl)
    have lb : lastD (c :: W) ≠ b := fun z => n2 (by rw [← z]; exact hl)
    have ih := tw_tn (c :: W).length (c :: W) rfl (upd (upd (upd f a (some b)) b (some a)) c none) (by simp) nd
    show tw (upd (upd (upd f (lastD (c :: W)) none) a (some b)) b (some a)) (c :: W) = tn (upd (upd (upd f a (some b)) b (some a)) c none) (c :: W)
    rw [← ih]
    have ag : ∀ v, v ≠ c ∨ v = lastD (c :: W) → upd (upd (upd f (lastD (c :: W)) none) a (some b)) b (some a) v = upd (upd (upd (upd f a (some b)) b (some a)) c none) (lastD (c :: W)) none v := by
      intro v hv
      by_cases e1 : v = lastD (c :: W)
      · rw [e1, upd_eq, upd_ne lb, upd_ne la, upd_eq]
      · have hc := hv.resolve_right e1
        rw [upd_ne e1, upd_ne hc]
        by_cases e2 : v = b
        · rw [e2, upd_eq, upd_eq]
        · rw [upd_ne e2, upd_ne e2]
          by_cases e3 : v = a
          · rw [e3, upd_eq, upd_eq]
          · rw [upd_ne e3, upd_ne e3, upd_ne e1]
    cases W with
    | nil =>
      show upd _ b _ = upd _ c none
      funext v
      exact ag v (by
        by_cases e : v = c
        · exact .inr e
        · exact .inl e)
    | cons d W =>
      show tw (upd (upd _ c (some d)) d (some c)) W = tw (upd (upd _ c (some d)) d (some c)) W
      congr 1
      funext v
      by_cases e : v = d
      · rw [e, upd_eq, upd_eq]
      · rw [upd_ne e, upd_ne e]
        by_cases e2 : v = c
        · rw [e2, upd_eq, upd_eq]
        · rw [upd_ne e2, upd_ne e2]
          exact ag v (.inl e2)
termination_by n => n
decreasing_by
  simp only [List.length_cons] at hn ⊢
  omega
theorem up3 {f : Nat → Option Nat} {a b : Nat} (ms : ∀ u v, f u = some v → f v = some u) (ha : f a = none) (hb : f b = none) (ne : a ≠ b) : (∀ u v, upd (upd f a (some b)) b (some a) u = some v → upd (upd f a (some b)) b (some a) v = some u) := by
  intro u v h
  by_cases e : u = b
  · subst e
    rw [upd_eq] at h
    cases h
    rw [upd_ne ne, upd_eq]
  · rw [upd_ne e] at h
    by_cases e2 : u = a
    · subst e2
      rw [upd_eq] at h
      cases h
      rw [upd_eq]
    · rw [upd_ne e2] at h
      have g := ms u v h
      have n1 : v ≠ b := fun z => by rw [z, hb] at g; cases g
      have n2 : v ≠ a := fun z => by rw [z, ha] at g; cases g
      rw [upd_ne n1, upd_ne n2]; exact g
theorem up2 {f : Nat → Option Nat} {b c : Nat} (ms : ∀ u v, f u = some v → f v = some u) (hb : f b = some c) : ∀ u v, upd (upd f b none) c none u = some v → upd (upd f b none) c none v = some u := by
  intro u v h
  by_cases e : u = c
  · subst e; rw [upd_eq] at h; cases h
  · rw [upd_ne e] at h
    by_cases e2 : u = b
    · subst e2; rw [upd_eq] at h; cases h
    · rw [upd_ne e2] at h
      have g := ms u v h
      have n1 : v ≠ c := fun z => by
        subst z
        rw [ms _ _ hb] at g
        exact e2 (Option.some.inj g).symm
      have n2 : v ≠ b := fun z => by
        subst z
        rw [hb] at g
        exact e (Option.some.inj g).symm
      rw [upd_ne n1, upd_ne n2]; exact g
/-- what a turning leaves: again mates, and who has one -/
theorem tn_ok {adj : Nat → Nat → Prop} (sy : ∀ u v, adj u v → adj v u) : ∀ (n : Nat) (w : List Nat), w.length = n → ∀ f : Nat → Option Nat, (∀ u v, f u = some v → f v = some u) → (∀ u v, f u = some v → adj u v) → w ≠ [] → f (headD w) = none → w.Nodup → Alt adj f true w → (w.length % 2 = 0 → f (lastD w) = none) →
    (∀ u v, tn f w u = some v → tn f w v = some u) ∧ (∀ u v, tn f w u = some v → adj u v) ∧ (w.length % 2 = 0 → ∀ x, tn f w x ≠ none ↔ f x ≠ none ∨ x = headD w ∨ x = lastD w) ∧ (w.length % 2 = 1 → ∀ x, tn f w x ≠ none ↔ (f x ≠ none ∨ x = headD w) ∧ x ≠ lastD w)
  | n, [], _, f, _, _, h, _, _, _, _ => absurd rfl h
  | n, [x], _, f, ms, ad, _, hd, nd, _, _ => by
    have e : tn f [x] = f := by
      funext v
      show upd f x none v = f v
      by_cases e : v = x
      · rw [e, upd_eq]; exact hd.symm
      · exact upd_ne e
    rw [e]
    refine ⟨ms, ad, fun z => absurd z (by simp), fun _ y => ?_⟩
    show f y ≠ none ↔ (f y ≠ none ∨ y = x) ∧ y ≠ x
    constructor
    · intro h
      exact ⟨.inl h, fun z => h (by rw [z]; exact hd)⟩
    · rintro ⟨h, g⟩
      exact h.resolve_right g
  | n, [a, b], _, f, ms, ad, _, hd, nd, al, ev => by
    have ha : f a = none := hd
    have hb : f b = none := ev (by simp)
    have ne : a ≠ b := fun z => (List.nodup_cons.mp nd).1 (by rw [z]; simp)
    have aab : adj a b := by cases al with | new h _ => exact h
    refine ⟨up3 ms ha hb ne, fun u v h => ?_, fun _ x => ?_, fun z => absurd z (by simp)⟩
    · replace h : upd (upd f a (some b)) b (some a) u = some v := h
      by_cases e : u = b
      · subst e; rw [upd_eq] at h; cases h; exact sy _ _ aab
      · rw [upd_ne e] at h
        by_cases e2 : u = a
        · subst e2; rw [upd_eq] at h; cases h; exact aab
        · rw [upd_ne e2] at h; exact ad _ _ h
    · show upd (upd f a (some b)) b (some a) x ≠ none ↔ f x ≠ none ∨ x = a ∨ x = b
      by_cases e : x = b
      · subst e; rw [upd_eq]; simp
      · rw [upd_ne e]
        by_cases e2 : x = a
        · subst e2; rw [upd_eq]; simp
        · rw [upd_ne e2]; simp [e, e2]
  | n, a :: b :: c :: W, hn, f, ms, ad, _, hd, nd, al, ev => by
    have ha : f a = none := hd
    have nd0 := nd
    obtain ⟨n1, nd⟩ := List.nodup_cons.mp nd
    obtain ⟨n2, nd⟩ := List.nodup_cons.mp nd
    have ab : a ≠ b := fun z => n1 (by rw [z]; simp)
    have ac : a ≠ c := fun z => n1 (by rw [z]; simp)
    have bc : b ≠ c := fun z => n2 (by rw [z]; simp)
    obtain ⟨aab, hbc, al'⟩ : adj a b ∧ f b = some c ∧ Alt adj f true (c :: W) := by
      cases al with
      | new h1 h2 => cases h2 with | old h3 h4 => exact ⟨h1, h3, h4⟩
    -- first b and c are let go, then a and b made one pair
    have e : upd (upd (upd f a (some b)) b (some a)) c none = upd (upd (upd (upd f b none) c none) a (some b)) b (some a) := by
      funext v
      by_cases e1 : v = c
      · subst e1; rw [upd_eq, upd_ne (Ne.symm bc), upd_ne (Ne.symm ac), upd_eq]
      · rw [upd_ne e1]
        by_cases e2 : v = b
        · subst e2; rw [upd_eq, upd_eq]
        · rw [upd_ne e2, upd_ne e2]
          by_cases e3 : v = a
          · subst e3; rw [upd_eq, upd_eq]
          · rw [upd_ne e3, upd_ne e3, upd_ne e1, upd_ne e2]
    have g0 := up2 ms hbc
    have ga : upd (upd f b none) c none a = none := by rw [upd_ne ac, upd_ne ab]; exact ha
    have gb : upd (upd f b none) c none b = none := by rw [upd_ne bc, upd_eq]
    have g1 := up3 g0 ga gb ab
    rw [← e] at g1
    have eqo : ∀ v, v ≠ a → v ≠ b → v ≠ c → upd (upd (upd f a (some b)) b (some a)) c none v = f v := fun v h1 h2 h3 => by rw [upd_ne h3, upd_ne h2, upd_ne h1]
    have gcn : upd (upd (upd f a (some b)) b (some a)) c none c = none := upd_eq _ _ _
    have gan : upd (upd (upd f a (some b)) b (some a)) c none a = some b := by rw [upd_ne ac, upd_ne ab, upd_eq]
    have gbn : upd (upd (upd f a (some b)) b (some a)) c none b = some a := by rw [upd_ne bc, upd_eq]
    generalize hg : upd (upd (upd f a (some b)) b (some a)) c none = g at *
    have gad : ∀ u v, g u = some v → adj u v := fun u v h => by
      by_cases e1 : u = c
      · subst e1; rw [gcn] at h; cases h
      · by_cases e2 : u = b
        · subst e2; rw [gbn] at h; cases h; exact sy _ _ aab
        · by_cases e3 : u = a
          · subst e3; rw [gan] at h; cases h; exact aab
          · rw [eqo u e3 e2 e1] at h; exact ad _ _ h
    have gal : Alt adj g true (c :: W) := by
      cases al' with
      | one => exact .one
      | new h1 h2 =>
        rename_i d W
        refine .new h1 (h2.mono fun x y hx hy h => ?_)
        have xa : x ≠ a := fun z => n1 (by rw [← z]; exact List.mem_cons_of_mem _ (List.mem_cons_of_mem _ hx))
        have xb : x ≠ b := fun z => n2 (by rw [← z]; exact List.mem_cons_of_mem _ hx)
        have xc : x ≠ c := fun z => (List.nodup_cons.mp nd).1 (by rw [← z]; exact hx)
        rw [eqo x xa xb xc]; exact h
    have hl : lastD (c :: W) ∈ c :: W := lastD_mem (by simp)
    have la : lastD (c :: W) ≠ a := fun z => n1 (by rw [← z]; exact List.mem_cons_of_mem _ hl)
    have lb : lastD (c :: W) ≠ b := fun z => n2 (by rw [← z]; exact hl)
    have lns : (c :: W).length % 2 = (a :: b :: c :: W).length % 2 := by simp only [List.length_cons]; omega
    have gev : (c :: W).length % 2 = 0 → g (lastD (c :: W)) = none := fun z => by
      by_cases q : lastD (c :: W) = c
      · rw [q]; exact gcn
      · rw [eqo _ la lb q]; exact ev (by rw [← lns]; exact z)
    obtain ⟨r1, r2, r3, r4⟩ := tn_ok sy (c :: W).length (c :: W) rfl g g1 gad (by simp) gcn nd gal gev
    have et : tn f (a :: b :: c :: W) = tn g (c :: W) := by show tn (upd (upd (upd f a (some b)) b (some a)) c none) (c :: W) = _; rw [hg]
    rw [et]
    have fb : f b ≠ none := by rw [hbc]; simp
    have fc : f c ≠ none := by rw [ms _ _ hbc]; simp
    have srv : ∀ x, (g x ≠ none ∨ x = c) ↔ (f x ≠ none ∨ x = a) := fun x => by
      by_cases e1 : x = c
      · subst e1; simp [fc]
      · by_cases e2 : x = b
        · subst e2; simp [gbn, hbc]
        · by_cases e3 : x = a
          · subst e3; simp [gan]
          · rw [eqo x e3 e2 e1]; simp [e1, e3]
    refine ⟨r1, r2, fun z x => ?_, fun z x => ?_⟩
    · have := r3 (by rw [lns]; exact z) x
      show tn g (c :: W) x ≠ none ↔ f x ≠ none ∨ x = a ∨ x = lastD (c :: W)
      rw [this]
      have := srv x
      show g x ≠ none ∨ x = c ∨ x = lastD (c :: W) ↔ _
      rw [← or_assoc, this, or_assoc]
    · have := r4 (by rw [lns]; exact z) x
      show tn g (c :: W) x ≠ none ↔ (f x ≠ none ∨ x = a) ∧ x ≠ lastD (c :: W)
      rw [this]
      show (g x ≠ none ∨ x = c) ∧ _ ↔ _
      rw [srv x]
termination_by n => n
decreasing_by
  simp only [List.length_cons] at hn ⊢
  omega
end BM
namespace BM
theorem verts_cons (e : Nat × Nat) (S : List (Nat × Nat)) (r : Nat) : verts (e :: S) r = e.1 :: e.2 :: verts S r := rfl
theorem verts_head {μ lk : Nat → Option Nat} {v : Nat} {S : List (Nat × Nat)} {r : Nat} (h : Pth μ lk v S r) : ∃ W, verts S r = v :: W := by
  cases h with
  | nil _ => exact ⟨[], rfl⟩
  | cons _ _ _ => exact ⟨_, rfl⟩
theorem verts_odd : ∀ (S : List (Nat × Nat)) (r : Nat), (verts S r).length % 2 = 1
  | [], _ => rfl
  | e :: S, r => by
    have := verts_odd S r
    rw [verts_cons, List.length_cons, List.length_cons]
    omega
theorem verts_rev_head (S : List (Nat × Nat)) (r : Nat) (W : List Nat) : headD ((verts S r).reverse ++ W) = r := by
  unfold verts headD
  simp
theorem lastD_app : ∀ (A : List Nat) {B : List Nat}, B ≠ [] → lastD (A ++ B) = lastD B
  | [], _, _ => rfl
  | a :: A, B, h => by
    have := lastD_app A h
    cases hb : A ++ B with
    | nil => exact absurd (List.append_eq_nil_iff.mp hb).2 h
    | cons c C =>
      rw [hb] at this
      show lastD (a :: (A ++ B)) = _
      rw [hb]
      exact this
theorem verts_last (S : List (Nat × Nat)) (r : Nat) : lastD (verts S r) = r := lastD_snoc _ _
section
variable {adj : Nat → Nat → Prop} {μ : Nat → Option Nat} {rk : Nat → Nat} {s : St} (I : Inv adj μ rk s)
include I
theorem alt_rev (sy : ∀ u v, adj u v → adj v u) {v : Nat} {S : List (Nat × Nat)} {r : Nat} (h : Pth μ s.lk v S r) (hv : s.ev v = true) : ∀ W, Alt adj μ true (v :: W) → Alt adj μ true ((verts S r).reverse ++ W) := by
  induction h with
  | nil _ => intro W h; exact h
  | @cons v m p S r h1 h2 h3 ih =>
    intro W h
    obtain ⟨a, b, _⟩ := step_cl I hv h1 h2
    have := ih a (m :: v :: W) (.new (sy _ _ b) (.old (I.ms _ _ h1) h))
    rw [verts_cons]
    simpa using this
theorem alt_fwd {v : Nat} {S : List (Nat × Nat)} {r : Nat} (h : Pth μ s.lk v S r) (hv : s.ev v = true) : Alt adj μ false (verts S r) := by
  induction h with
  | nil _ => exact .one
  | @cons v m p S r h1 h2 h3 ih =>
    obtain ⟨a, b, _⟩ := step_cl I hv h1 h2
    have := ih a
    obtain ⟨W, e⟩ := verts_head h3
    rw [e] at this
    rw [verts_cons, e]
    exact .old h1 (.new b this)
/-- the way told to one reached evenly -/
theorem way_even (sy : ∀ u v, adj u v → adj v u) {v : Nat} {S : List (Nat × Nat)} {r : Nat} (h : Pth μ s.lk v S r) (nd : (verts S r).Nodup) (hv : s.ev v = true) :
    Alt adj μ true (verts S r).reverse ∧ (verts S r).reverse.Nodup ∧ headD (verts S r).reverse = r ∧ lastD (verts S r).reverse = v ∧ (verts S r).reverse.length % 2 = 1 ∧ μ r = none := by
  refine ⟨?_, (List.reverse_perm _).nodup_iff.mpr nd, ?_, ?_, by rw [List.length_reverse]; exact verts_odd S r, h.mates.2⟩
  · have := alt_rev I sy h hv [] .one
    rwa [List.append_nil] at this
  · have := verts_rev_head S r []
    rwa [List.append_nil] at this
  · obtain ⟨W, e⟩ := verts_head h
    rw [e, List.reverse_cons]
    exact lastD_snoc _ _
/-- on to one who has nobody -/
theorem way_out (sy : ∀ u v, adj u v → adj v u) {v q : Nat} {S : List (Nat × Nat)} {r : Nat} (h : Pth μ s.lk v S r) (nd : (verts S r).Nodup) (hv : s.ev v = true) (a : adj v q) (hq : s.ev q = false) (hm : μ q = none) :
    Alt adj μ true ((verts S r).reverse ++ [q]) ∧ ((verts S r).reverse ++ [q]).Nodup ∧ headD ((verts S r).reverse ++ [q]) = r ∧ lastD ((verts S r).reverse ++ [q]) = q ∧ ((verts S r).reverse ++ [q]).length % 2 = 0 ∧ μ r = none := by
  refine ⟨alt_rev I sy h hv [q] (.new a .one), ?_, verts_rev_head S r [q], lastD_snoc _ _, ?_, h.mates.2⟩
  · refine List.nodup_append.mpr ⟨(List.reverse_perm _).nodup_iff.mpr nd, by simp, fun x hx y hy z => ?_⟩
    rw [List.mem_singleton.mp hy] at z
    subst z
    obtain ⟨b, _, k | ⟨_, k, _⟩⟩ := path_K I h hv x (List.mem_reverse.mp hx)
    · rw [hq] at k; cases k.1
    · rw [hm] at k; cases k
  · have := verts_odd S r
    rw [List.length_append, List.length_reverse, List.length_singleton]
    omega
/-- between two roots -/
theorem way_two (sy : ∀ u v, adj u v → adj v u) {v u : Nat} {S T : List (Nat × Nat)} {r t : Nat} (h : Pth μ s.lk v S r) (nd : (verts S r).Nodup) (hv : s.ev v = true) (g : Pth μ s.lk u T t) (nd2 : (verts T t).Nodup) (hu : s.ev u = true) (a : adj v u)
    (no : ∀ b, Anc μ s (s.bs v) b → Anc μ s (s.bs u) b → False) :
    Alt adj μ true ((verts S r).reverse ++ verts T t) ∧ ((verts S r).reverse ++ verts T t).Nodup ∧ headD ((verts S r).reverse ++ verts T t) = r ∧ lastD ((verts S r).reverse ++ verts T t) = t ∧ ((verts S r).reverse ++ verts T t).length % 2 = 0 ∧ μ r = none ∧ μ t = none := by
  have af := alt_fwd I g hu
  obtain ⟨W, e⟩ := verts_head g
  refine ⟨alt_rev I sy h hv _ (by rw [e] at af ⊢; exact .new a af), ?_, verts_rev_head S r _, ?_, ?_, h.mates.2, g.mates.2⟩
  · refine List.nodup_append.mpr ⟨(List.reverse_perm _).nodup_iff.mpr nd, nd2, fun x hx y hy z => ?_⟩
    subst z
    obtain ⟨b, b1, b2⟩ := path_K I h hv x (List.mem_reverse.mp hx)
    obtain ⟨c, c1, c2⟩ := path_K I g hu x hy
    cases b2.fn c2
    exact no b b1 c1
  · rw [lastD_app _ (by rw [e]; simp)]; exact verts_last T t
  · have := verts_odd S r
    have := verts_odd T t
    rw [List.length_append, List.length_reverse]
    omega
end
/-- the bases from one on till a root -/
inductive Ch (μ : Nat → Option Nat) (s : St) : Nat → List Nat → Prop
  | nil {b : Nat} : μ b = none → Ch μ s b [b]
  | cons {b o p : Nat} {L : List Nat} : μ b = some o → s.lk o = some p → Ch μ s (s.bs p) L → Ch μ s b (b :: L)
section
variable {adj : Nat → Nat → Prop} {μ : Nat → Option Nat} {rk : Nat → Nat} {s : St}
theorem Ch.mem {b : Nat} {L : List Nat} (h : Ch μ s b L) : ∀ x, x ∈ L ↔ Anc μ s b x := by
  induction h with
  | nil h0 =>
    intro x
    rw [List.mem_singleton]
    constructor
    · rintro rfl; exact .nil
    · intro h
      cases h with
      | nil => rfl
      | cons p _ =>
        obtain ⟨o, _, g, _⟩ := p
        rw [h0] at g; cases g
  | cons h1 h2 _ ih =>
    intro x
    rw [List.mem_cons, ih x]
    constructor
    · rintro (rfl | h)
      · exact .nil
      · exact .cons ⟨_, _, h1, h2, rfl⟩ h
    · intro h
      cases h with
      | nil => exact .inl rfl
      | cons p h =>
        obtain ⟨o, q, g1, g2, rfl⟩ := p
        rw [h1] at g1; cases g1
        rw [h2] at g2; cases g2
        exact .inr h
theorem Ch.suffix {A : List Nat} {x : Nat} {B : List Nat} : ∀ {b : Nat}, Ch μ s b (A ++ x :: B) → Ch μ s x (x :: B) := by
  induction A with
  | nil => intro b h; cases h with
    | nil h => exact .nil h
    | cons a b c => exact .cons a b c
  | cons a A ih =>
    intro b h
    cases hA : A ++ x :: B with
    | nil => simp at hA
    | cons c C =>
      rw [List.cons_append] at h
      rw [hA] at h ih
      cases h with
      | cons _ _ h => exact ih h
theorem Ch.ex (I : Inv adj μ rk s) : ∀ (n b : Nat), rk b ≤ n → s.ev b = true → s.bs b = b → ∃ L, Ch μ s b L := by
  intro n
  induction n with
  | zero =>
    intro b h hb hb2
    rcases I.i1 b hb hb2 with g | ⟨o, p, _, _, _, _, _, g⟩
    · exact ⟨_, .nil g⟩
    · omega
  | succ n ih =>
    intro b h hb hb2
    rcases I.i1 b hb hb2 with g | ⟨o, p, g1, _, g3, g4, _, g⟩
    · exact ⟨_, .nil g⟩
    · obtain ⟨L, hL⟩ := ih (s.bs p) (by omega) (I.i5 p g4).1 (I.i5 p g4).2
      exact ⟨_, .cons g1 g3 hL⟩
/-- the first base in common -/
theorem Ch.meet {c d : Nat} {L A B : List Nat} {b0 : Nat} (h : Ch μ s c L) (g : Ch μ s d (A ++ b0 :: B)) (hb : b0 ∈ L) (hA : ∀ a ∈ A, a ∉ L) : Anc μ s c b0 ∧ Anc μ s d b0 ∧ ∀ b, Anc μ s c b → Anc μ s d b → Anc μ s b0 b := by
  refine ⟨(h.mem b0).mp hb, (g.mem b0).mp (by simp), fun b h1 h2 => ?_⟩
  have m1 := (h.mem b).mpr h1
  have m2 := (g.mem b).mpr h2
  rcases List.mem_append.mp m2 with z | z
  · exact absurd m1 (hA b z)
  · exact (g.suffix.mem b).mp z
theorem Ch.apart {c d : Nat} {L M : List Nat} (h : Ch μ s c L) (g : Ch μ s d M) (hA : ∀ a ∈ M, a ∉ L) (b : Nat) (h1 : Anc μ s c b) (h2 : Anc μ s d b) : False := hA b ((g.mem b).mpr h2) ((h.mem b).mpr h1)
end
end BM
namespace BM
structure Fo (adj : Nat → Nat → Prop) (μ : Nat → Option Nat) (rt : Nat → Prop) (s : St) (found : List Nat) : Prop where
  inv : Inv adj μ (fun v => found.idxOf v) s
  fnd : ∀ v, s.ev v = true ↔ v ∈ found
  nd : found.Nodup
  rt : ∀ v, s.ev v = true → μ v = none → rt v
def Sc (s : St) (done : Nat → Nat → Prop) : Prop := ∀ v q, done v q → s.ev v = true ∧ ((s.ev q = true ∧ s.bs q = s.bs v) ∨ (s.lk q ≠ none ∧ (s.ev q = true → ¬ done q v)))
theorem Inv.rank {adj : Nat → Nat → Prop} {μ : Nat → Option Nat} {rk rk' : Nat → Nat} {s : St} (I : Inv adj μ rk s) (h : ∀ v, s.ev v = true → s.bs v = v → rk' v = rk v) : Inv adj μ rk' s := by
  refine ⟨I.ms, I.i0, I.i5, fun b hb hb2 => ?_, I.i2, I.i3, I.i4⟩
  rcases I.i1 b hb hb2 with g | ⟨o, p, g1, g2, g3, g4, g5, g6⟩
  · exact .inl g
  · refine .inr ⟨o, p, g1, g2, g3, g4, g5, ?_⟩
    rw [h _ (I.i5 p g4).1 (I.i5 p g4).2, h b hb hb2]
    exact g6
theorem Sc.go {s s' : St} {done : Nat → Nat → Prop} (h : Sc s done) (he : ∀ v, s.ev v = true → s'.ev v = true) (hb : ∀ u v, s.ev u = true → s.ev v = true → s.bs u = s.bs v → s'.bs u = s'.bs v) (hl : ∀ v, s.lk v ≠ none → s'.lk v ≠ none) : Sc s' done := by
  intro v q hd
  obtain ⟨h1, h2⟩ := h v q hd
  refine ⟨he v h1, ?_⟩
  rcases h2 with ⟨a, b⟩ | ⟨a, b⟩
  · exact .inl ⟨he q a, hb q v a h1 b⟩
  · refine .inr ⟨hl q a, fun z d => ?_⟩
    exact b (h q v d).1 d
theorem Sc.add {s : St} {done : Nat → Nat → Prop} (h : Sc s done) {x y : Nat} (hx : s.ev x = true) (ne : x ≠ y) (hy : (s.ev y = true ∧ s.bs y = s.bs x) ∨ (s.ev y = false ∧ s.lk y ≠ none)) : Sc s (fun v q => done v q ∨ (v = x ∧ q = y)) := by
  rintro v q (hd | ⟨rfl, rfl⟩)
  · obtain ⟨h1, h2⟩ := h v q hd
    refine ⟨h1, ?_⟩
    rcases h2 with h2 | ⟨a, b⟩
    · exact .inl h2
    · by_cases e : q = x ∧ v = y
      · obtain ⟨rfl, rfl⟩ := e
        rcases hy with hy | hy
        · exact .inl ⟨hx, hy.2.symm⟩
        · rw [hy.1] at h1; cases h1
      · exact .inr ⟨a, fun z d => d.elim (b z) e⟩
  · refine ⟨hx, ?_⟩
    rcases hy with hy | hy
    · exact .inl hy
    · exact .inr ⟨hy.2, fun z => by rw [hy.1] at z; cases z⟩
section
variable {adj : Nat → Nat → Prop} {μ : Nat → Option Nat} {rt : Nat → Prop} {s : St} {found : List Nat}
theorem Fo.link (F : Fo adj μ rt s found) {p q d : Nat} (hp : s.ev p = true) (hq : s.ev q = false) (hl : s.lk q = none) (hm : μ q = some d) (hne : d ≠ q) (ha : adj q p) :
    Fo adj μ rt ⟨upd s.lk q (some p), s.bs, upd s.ev d true⟩ (found ++ [d]) := by
  have hd := F.inv.mate_free hq hl hm
  have nd : d ∉ found := fun z => by rw [(F.fnd d).mpr z] at hd; cases hd
  have id : ∀ v, s.ev v = true → (found ++ [d]).idxOf v = found.idxOf v := fun v h => by
    rw [List.idxOf_append, if_pos ((F.fnd v).mp h)]
  refine ⟨F.inv.link hp hq hl hm hne ha id ?_, fun v => ?_, ?_, fun v h h2 => ?_⟩
  · have m : s.bs p ∈ found := (F.fnd _).mp (F.inv.i5 p hp).1
    show (found ++ [d]).idxOf d > found.idxOf (s.bs p)
    have := List.idxOf_lt_length_of_mem m
    rw [List.idxOf_append, if_neg nd]
    omega
  · show upd s.ev d true v = true ↔ v ∈ found ++ [d]
    rw [List.mem_append, List.mem_singleton, ← F.fnd v]
    by_cases e : v = d
    · subst e; rw [upd_eq]; simp
    · rw [upd_ne e]; simp [e]
  · exact List.nodup_append.mpr ⟨F.nd, by simp, fun x hx y hy z => nd (by rw [← List.mem_singleton.mp hy, ← z]; exact hx)⟩
  · by_cases e : v = d
    · subst e
      rw [F.inv.ms _ _ hm] at h2; cases h2
    · replace h : upd s.ev d true v = true := h
      rw [upd_ne e] at h
      exact F.rt v h h2
theorem Fo.ring (F : Fo adj μ rt s found) {one other b0 : Nat} {S1 T1 : List (Nat × Nat)} {r1 : Nat} {S2 T2 : List (Nat × Nat)} {r2 : Nat} {lkN : Nat → Option Nat} (R : Ring adj μ s one other b0 S1 T1 r1 S2 T2 r2 lkN) {bs' : Nat → Nat} {ev' : Nat → Bool} {new : List Nat}
    (hb : ∀ v, (Cl s S1 S2 (s.bs v) → bs' v = b0) ∧ (¬ Cl s S1 S2 (s.bs v) → bs' v = s.bs v)) (he : ∀ v, ev' v = true ↔ s.ev v = true ∨ Cl s S1 S2 (s.bs v)) (hn : new.Nodup) (hn2 : ∀ v, v ∈ new ↔ s.ev v = false ∧ Cl s S1 S2 (s.bs v)) :
    Fo adj μ rt ⟨lkN, bs', ev'⟩ (found ++ new) := by
  have I := F.inv
  have dis : ∀ v, v ∈ found → v ∉ new := fun v h g => by
    have := ((hn2 v).mp g).1
    rw [(F.fnd v).mpr h] at this; cases this
  refine ⟨(R.inv I hb he).rank fun v h h2 => ?_, fun v => ?_, List.nodup_append.mpr ⟨F.nd, hn, fun x hx y hy z => dis x hx (by rw [z]; exact hy)⟩, fun v h h2 => ?_⟩
  · replace h : ev' v = true := h
    replace h2 : bs' v = v := h2
    have : s.ev v = true := by
      rcases (he v).mp h with h | c
      · exact h
      · rw [← h2, (hb v).1 c]; exact R.b.1
    rw [List.idxOf_append, if_pos ((F.fnd v).mp this)]
  · show ev' v = true ↔ _
    rw [he v, List.mem_append, ← F.fnd v, hn2 v]
    cases s.ev v <;> simp
  · replace h : ev' v = true := h
    by_cases e : s.ev v = true
    · exact F.rt v e h2
    · have ef : s.ev v = false := by simpa using e
      have c := ((he v).mp h).resolve_left e
      rw [I.i0 v ef] at c
      obtain ⟨p, hp⟩ := R.closed_odd I c ef
      obtain ⟨_, _, _, h4, _⟩ := R.pers I hp
      rw [h2] at h4; cases h4
theorem Fo.ring_sc (F : Fo adj μ rt s found) {one other b0 : Nat} {S1 T1 : List (Nat × Nat)} {r1 : Nat} {S2 T2 : List (Nat × Nat)} {r2 : Nat} {lkN : Nat → Option Nat} (R : Ring adj μ s one other b0 S1 T1 r1 S2 T2 r2 lkN) {bs' : Nat → Nat} {ev' : Nat → Bool}
    (hb : ∀ v, (Cl s S1 S2 (s.bs v) → bs' v = b0) ∧ (¬ Cl s S1 S2 (s.bs v) → bs' v = s.bs v)) (he : ∀ v, ev' v = true ↔ s.ev v = true ∨ Cl s S1 S2 (s.bs v)) {done : Nat → Nat → Prop} (sc : Sc s done) (ne : one ≠ other) :
    Sc ⟨lkN, bs', ev'⟩ (fun v q => done v q ∨ (v = one ∧ q = other)) := by
  have I := F.inv
  refine Sc.add (sc.go (fun v h => (he v).mpr (.inl h)) (fun u v _ _ e => ?_) fun v h z => ?_) ((he one).mpr (.inl R.v1)) ne (.inl ⟨(he other).mpr (.inl R.v2), ?_⟩)
  · show bs' u = bs' v
    by_cases c : Cl s S1 S2 (s.bs u)
    · rw [(hb u).1 c, (hb v).1 (by rw [← e]; exact c)]
    · rw [(hb u).2 c, (hb v).2 (by rw [← e]; exact c), e]
  · replace z : lkN v = none := z
    by_cases e : lkN v = s.lk v
    · exact h (by rw [← e]; exact z)
    · obtain ⟨m, hm⟩ := R.turned I e
      obtain ⟨w, g, _⟩ := R.next I hb he hm
      rw [g] at z; cases z
  · -- both ends belong to the new class
    have side : ∀ {v : Nat} {S T : List (Nat × Nat)} {r : Nat}, Pth μ s.lk v (S ++ T) r → (S = [] → s.bs v = b0) → (∀ p ∈ S, Cl s S1 S2 (s.bs p.1)) → bs' v = b0 := by
      intro v S T r h z c
      by_cases k : Cl s S1 S2 (s.bs v)
      · exact (hb v).1 k
      · rw [(hb v).2 k]
        cases S with
        | nil => exact z rfl
        | cons q S =>
          refine absurd (c q List.mem_cons_self) ?_
          have : q.1 = v := by cases h; rfl
          rw [this]; exact k
    show bs' other = bs' one
    rw [side R.h1 R.z1 fun p hp => ⟨p, List.mem_append_left _ hp, .inl rfl⟩, side R.h2 R.z2 fun p hp => ⟨p, List.mem_append_right _ hp, .inl rfl⟩]
theorem Fo.link_sc (F : Fo adj μ rt s found) {p q d : Nat} (hp : s.ev p = true) (hq : s.ev q = false) (hl : s.lk q = none) (hm : μ q = some d) (hne : d ≠ q) {done : Nat → Nat → Prop} (sc : Sc s done) :
    Sc ⟨upd s.lk q (some p), s.bs, upd s.ev d true⟩ (fun v w => done v w ∨ (v = p ∧ w = q)) := by
  have pq : p ≠ q := fun z => by rw [z, hq] at hp; cases hp
  have ek : ∀ v, s.ev v = true → upd s.ev d true v = true := fun v h => by
    by_cases e : v = d
    · rw [e, upd_eq]
    · rw [upd_ne e]; exact h
  refine Sc.add (sc.go (s' := ⟨upd s.lk q (some p), s.bs, upd s.ev d true⟩) ek (fun _ _ _ _ e => e) fun v h => ?_) (ek p hp) pq (.inr ⟨?_, ?_⟩)
  · show upd s.lk q (some p) v ≠ none
    by_cases e : v = q
    · rw [e, upd_eq]; simp
    · rw [upd_ne e]; exact h
  · show upd s.ev d true q = false
    rw [upd_ne (Ne.symm hne)]; exact hq
  · show upd s.lk q (some p) q ≠ none
    rw [upd_eq]; simp
/-- what a search without a way leaves -/
theorem Sc.closed {done : Nat → Nat → Prop} (sc : Sc s done) (sy : ∀ u v, adj u v → adj v u) (all : ∀ v q, s.ev v = true → adj v q → done v q) {v q : Nat} (hv : s.ev v = true) (a : adj v q) : (s.ev q = true ∧ s.bs q = s.bs v) ∨ (s.ev q = false ∧ s.lk q ≠ none) := by
  rcases (sc v q (all v q hv a)).2 with h | ⟨h1, h2⟩
  · exact .inl h
  · by_cases e : s.ev q = true
    · exact absurd (all q v e (sy _ _ a)) (h2 e)
    · exact .inr ⟨by simpa using e, h1⟩
theorem Fo.start (ms : ∀ u v, μ u = some v → μ v = some u) {roots : List Nat} (hn : roots.Nodup) (hr : ∀ v ∈ roots, μ v = none ∧ rt v) : Fo adj μ rt ⟨fun _ => none, id, fun v => roots.contains v⟩ roots := by
  refine ⟨Inv.start ms fun v h => (hr v (by simpa using h)).1, fun v => by simp, hn, fun v h _ => (hr v (by simpa using h)).2⟩
end
end BM
namespace BM
open MB
/-- no plan serves all outside S in the classes of L, if L has more than S -/
theorem weak2 {adj : Nat → Nat → Prop} {V S L : List Nat} {f : Nat → Nat} (hV : V.Nodup) (b : Bar adj V S L f) {M : Nat → Nat} (hM : Mt adj V M) (all : ∀ x ∈ V, x ∉ S → f x ∈ L → M x ≠ x) : L.length ≤ S.length := by
  have pick : ∀ l ∈ L, ∃ x ∈ V, x ∉ S ∧ f x = l ∧ M x ∈ S := fun l hl => Classical.byContradiction fun no => by
    have hn : ∀ x ∈ V, x ∉ S → f x = l → M x ≠ x ∧ M x ∉ S := fun x hx hs hf => ⟨all x hx hs (by rw [hf]; exact hl), fun e => no ⟨x, hx, hs, hf, e⟩⟩
    have hW : (V.filter fun v => decide (v ∉ S) && decide (f v = l)).Nodup := hV.filter _
    have iv : Iv (V.filter fun v => decide (v ∉ S) && decide (f v = l)) M := ⟨fun w hw => by
      obtain ⟨w1, w2⟩ := List.mem_filter.mp hw
      simp only [Bool.and_eq_true, decide_eq_true_eq] at w2
      obtain ⟨n1, n2⟩ := hn w w1 w2.1 w2.2
      refine List.mem_filter.mpr ⟨hM.mem w w1, ?_⟩
      simp only [Bool.and_eq_true, decide_eq_true_eq]
      exact ⟨n2, by rw [← b.same w (M w) w1 (hM.mem w w1) w2.1 n2 (hM.adj w w1 n1)]; exact w2.2⟩, fun w hw => hM.inv w (List.mem_filter.mp hw).1⟩
    have pr := parity _ _ (Nat.le_refl _) hW M iv
    have m0 : miss (V.filter fun v => decide (v ∉ S) && decide (f v = l)) M = 0 := by
      unfold miss
      rw [List.countP_eq_zero]
      intro w hw
      obtain ⟨w1, w2⟩ := List.mem_filter.mp hw
      simp only [Bool.and_eq_true, decide_eq_true_eq] at w2 ⊢
      exact (hn w w1 w2.1 w2.2).1
    have := b.odd l hl
    rw [List.countP_eq_length_filter, pr, m0] at this
    cases this
  have : ∃ g : Nat → Nat, ∀ l ∈ L, g l ∈ V ∧ g l ∉ S ∧ f (g l) = l ∧ M (g l) ∈ S :=
    ⟨fun l => @dite _ (l ∈ L) (Classical.propDecidable _) (fun h => Classical.choose (pick l h)) (fun _ => 0), fun l hl => by
      dsimp only
      rw [dif_pos hl]
      exact Classical.choose_spec (pick l hl)⟩
  obtain ⟨g, hg⟩ := this
  have inj : ∀ a ∈ L, ∀ c ∈ L, M (g a) = M (g c) → a = c := fun a ha c hc z => by
    obtain ⟨a1, a2, a3, a4⟩ := hg a ha
    obtain ⟨c1, c2, c3, c4⟩ := hg c hc
    have h1 := hM.inv (g a) a1
    have h2 := hM.inv (g c) c1
    rw [← a3, ← c3, ← h1, ← h2, z]
  have nd : (L.map fun l => M (g l)).Nodup := by
    unfold List.Nodup
    rw [List.pairwise_map]
    exact List.Pairwise.imp_of_mem (fun {a c} ha hc ne z => ne (inj a ha c hc z)) b.ln
  have := sub_len _ S nd fun x hx => by
    obtain ⟨l, hl, rfl⟩ := List.mem_map.mp hx
    exact (hg l hl).2.2.2
  rwa [List.length_map] at this
section
variable {adj : Nat → Nat → Prop} {μ : Nat → Option Nat} {rk : Nat → Nat} {s : St}
def oddS (V : List Nat) (s : St) : List Nat := V.filter fun v => !s.ev v && (s.lk v).isSome
def baseL (V : List Nat) (s : St) : List Nat := V.filter fun v => s.ev v && decide (s.bs v = v)
def labF (s : St) (t v : Nat) : Nat := if s.ev v = true then s.bs v else t
theorem mem_oddS {V : List Nat} {v : Nat} : v ∈ oddS V s ↔ v ∈ V ∧ s.ev v = false ∧ s.lk v ≠ none := by
  unfold oddS
  rw [List.mem_filter]
  cases s.ev v <;> cases s.lk v <;> simp
theorem mem_baseL {V : List Nat} {v : Nat} : v ∈ baseL V s ↔ v ∈ V ∧ s.ev v = true ∧ s.bs v = v := by
  unfold baseL
  rw [List.mem_filter]
  simp
variable (I : Inv adj μ rk s)
include I
theorem Inv.barrier {V : List Nat} (hV : V.Nodup) {t : Nat} (ht : t ∉ V) (cl : ∀ v q, s.ev v = true → adj v q → (s.ev q = true ∧ s.bs q = s.bs v) ∨ (s.ev q = false ∧ s.lk q ≠ none)) (sy : ∀ u v, adj u v → adj v u)
    (evV : ∀ v, s.ev v = true → v ∈ V) (mV : ∀ u v, μ u = some v → v ∈ V) (irr : ∀ v, μ v ≠ some v) {R : List Nat} (hR : R.Nodup) (hR2 : ∀ r ∈ R, s.ev r = true ∧ μ r = none) :
    Bar adj V (oddS V s) (baseL V s) (labF s t) ∧ (oddS V s).length + R.length ≤ (baseL V s).length ∧ (∀ v, labF s t v ∈ baseL V s → s.ev v = true) := by
  refine ⟨⟨hV.filter _, fun v h => (mem_oddS.mp h).1, fun u v hu hv nu nv a => ?_, hV.filter _, fun l hl => ?_⟩, ?_, fun v h => ?_⟩
  · unfold labF
    by_cases eu : s.ev u = true
    · rcases cl u v eu a with ⟨h1, h2⟩ | ⟨h1, h2⟩
      · rw [if_pos eu, if_pos h1, h2]
      · exact absurd (mem_oddS.mpr ⟨hv, h1, h2⟩) nv
    · by_cases ev : s.ev v = true
      · rcases cl v u ev (sy _ _ a) with ⟨h1, h2⟩ | ⟨h1, h2⟩
        · exact absurd h1 eu
        · exact absurd (mem_oddS.mpr ⟨hu, h1, h2⟩) nu
      · rw [if_neg eu, if_neg ev]
  · obtain ⟨lV, le, lb⟩ := mem_baseL.mp hl
    have hW : (V.filter fun v => decide (v ∉ oddS V s) && decide (labF s t v = l)).Nodup := hV.filter _
    have mem : ∀ v, v ∈ (V.filter fun v => decide (v ∉ oddS V s) && decide (labF s t v = l)) ↔ s.ev v = true ∧ s.bs v = l := fun v => by
      rw [List.mem_filter]
      simp only [Bool.and_eq_true, decide_eq_true_eq]
      constructor
      · rintro ⟨h1, h2, h3⟩
        unfold labF at h3
        by_cases e : s.ev v = true
        · rw [if_pos e] at h3; exact ⟨e, h3⟩
        · rw [if_neg e] at h3; exact absurd (by rw [h3]; exact lV) ht
      · rintro ⟨h1, h2⟩
        refine ⟨evV v h1, fun z => ?_, by unfold labF; rw [if_pos h1]; exact h2⟩
        rw [(mem_oddS.mp z).2.1] at h1; cases h1
    have iv : Iv (V.filter fun v => decide (v ∉ oddS V s) && decide (labF s t v = l)) (fun v => if v = l then l else (μ v).getD v) := by
      have key : ∀ v, s.ev v = true → s.bs v = l → v ≠ l → ∃ m, μ v = some m ∧ s.ev m = true ∧ s.bs m = l ∧ m ≠ l := fun v h1 h2 h3 => by
        obtain ⟨m, p, g1, g2, g3, _⟩ := I.i2 v h1 (fun z => h3 (z.symm.trans h2))
        refine ⟨m, g1, g2, g3.trans h2, fun z => ?_⟩
        subst z
        have gm := I.ms _ _ g1
        rcases I.i1 m le lb with h | ⟨o, p', k1, k2, _⟩
        · rw [h] at gm; cases gm
        · rw [gm] at k1; cases k1
          rw [h1] at k2; cases k2
      refine ⟨fun v hv => ?_, fun v hv => ?_⟩
      · rw [mem] at hv ⊢
        by_cases e : v = l
        · rw [if_pos e]; exact ⟨le, lb⟩
        · obtain ⟨m, g1, g2, g3, _⟩ := key v hv.1 hv.2 e
          rw [if_neg e, g1]; exact ⟨g2, g3⟩
      · rw [mem] at hv
        show (if (if v = l then l else (μ v).getD v) = l then l else _) = v
        by_cases e : v = l
        · rw [if_pos e, if_pos rfl]; exact e.symm
        · obtain ⟨m, g1, g2, g3, g4⟩ := key v hv.1 hv.2 e
          rw [if_neg e, g1]
          show (if m = l then l else (μ m).getD m) = v
          rw [if_neg g4, I.ms _ _ g1]; rfl
    rw [List.countP_eq_length_filter, parity _ _ (Nat.le_refl _) hW _ iv]
    -- only the base has nobody
    have : miss (V.filter fun v => decide (v ∉ oddS V s) && decide (labF s t v = l)) (fun v => if v = l then l else (μ v).getD v) = 1 := by
      have z := count_flip (V := V.filter fun v => decide (v ∉ oddS V s) && decide (labF s t v = l)) hW ((mem l).mpr ⟨le, lb⟩) (p := fun _ => false) (q := fun v => decide ((if v = l then l else (μ v).getD v) = v)) rfl (by simp) fun v hv ne => by
        rw [mem] at hv
        obtain ⟨m, p, g1, _⟩ := I.i2 v hv.1 (fun z => ne (z.symm.trans hv.2))
        rw [if_neg ne, g1]
        symm
        rw [decide_eq_false_iff_not]
        intro z
        exact irr v (by rw [g1]; exact congrArg some z)
      unfold miss
      rw [z]
      simp
    rw [this]
  · have nd : ((oddS V s).map (fun o => (μ o).getD o) ++ R).Nodup := by
      have mt : ∀ o ∈ oddS V s, ∃ d, μ o = some d ∧ s.ev d = true ∧ s.bs d = d := fun o ho => I.i3 o (mem_oddS.mp ho).2.1 (mem_oddS.mp ho).2.2
      refine List.nodup_append.mpr ⟨?_, hR, fun x hx y hy z => ?_⟩
      · unfold List.Nodup
        rw [List.pairwise_map]
        refine List.Pairwise.imp_of_mem (fun {a c} ha hc ne z => ne ?_) (hV.filter _ : (oddS V s).Nodup)
        obtain ⟨d, h1, _⟩ := mt a ha
        obtain ⟨d', g1, _⟩ := mt c hc
        rw [h1, g1] at z
        have z : d = d' := z
        subst z
        have := I.ms _ _ h1
        rw [I.ms _ _ g1] at this
        exact (Option.some.inj this).symm
      · obtain ⟨o, ho, rfl⟩ := List.mem_map.mp hx
        obtain ⟨d, h1, _⟩ := mt o ho
        rw [h1] at z
        have z : d = y := z
        have := I.ms _ _ h1
        rw [z, (hR2 y hy).2] at this; cases this
    have := sub_len _ (baseL V s) nd fun x hx => by
      rcases List.mem_append.mp hx with hx | hx
      · obtain ⟨o, ho, rfl⟩ := List.mem_map.mp hx
        obtain ⟨d, h1, h2, h3⟩ := I.i3 o (mem_oddS.mp ho).2.1 (mem_oddS.mp ho).2.2
        rw [h1]
        exact mem_baseL.mpr ⟨mV _ _ h1, h2, h3⟩
      · obtain ⟨h1, h2⟩ := hR2 x hx
        refine mem_baseL.mpr ⟨evV x h1, h1, Classical.byContradiction fun z => ?_⟩
        obtain ⟨m, p, g, _⟩ := I.i2 x h1 z
        rw [h2] at g; cases g
    rw [List.length_append, List.length_map] at this
    exact this
  · unfold labF at h
    by_cases e : s.ev v = true
    · exact e
    · rw [if_neg e] at h
      exact absurd (mem_baseL.mp h).1 ht
end
end BM
namespace BM
open MB
/-- a plan with too few pairs: another one serves all whom it serves, and somebody more -/
theorem grow_ex {adj : Nat → Nat → Prop} (sy : ∀ u v, adj u v → adj v u) {V : List Nat} (hV : V.Nodup) {M N : Nat → Nat} (hM : Mt adj V M) (hN : Mt adj V N) (lt : miss V N < miss V M) :
    ∃ N', Mt adj V N' ∧ (∀ v ∈ V, M v ≠ v → N' v ≠ v) ∧ ∃ r ∈ V, M r = r ∧ N' r ≠ r := by
  have key : ∀ (k : Nat) (N : Nat → Nat), Mx adj V N → dis V M N ≤ k → ∃ N', Mx adj V N' ∧ ∀ v ∈ V, M v ≠ v → N' v ≠ v := by
    intro k
    induction k with
    | zero =>
      intro N h hk
      refine ⟨N, h, fun v hv g e => ?_⟩
      unfold dis at hk
      have := List.countP_eq_zero.mp (Nat.le_zero.mp hk) v hv
      simp only [ne_eq, decide_not, Bool.not_eq_true', decide_eq_false_iff_not, Decidable.not_not] at this
      exact g (this.trans e)
    | succ k ih =>
      intro N h hk
      by_cases z : ∀ v ∈ V, M v ≠ v → N v ≠ v
      · exact ⟨N, h, z⟩
      · have : ∃ x, x ∈ V ∧ M x ≠ x ∧ N x = x := Classical.byContradiction fun no => z fun v hv g e => no ⟨v, hv, g, e⟩
        obtain ⟨x, hx, mx, nx⟩ := this
        have hy := hM.mem x hx
        have ne : x ≠ M x := Ne.symm mx
        have a := hM.adj x hx mx
        have ny : N (M x) ≠ M x := fun e => no_adj sy hV h hx hy ne a nx e
        have t1 := mt_turn sy h.mt hx hy ne a nx ny
        have t2 := miss_turn sy hV h.mt hx hy ne nx ny
        refine ih (turn N x (M x)) ⟨t1, fun m' hm' => by rw [t2]; exact h.least m' hm'⟩ ?_
        have lt : dis V M (turn N x (M x)) < dis V M N := by
          unfold dis
          refine count_lt hV hx ?_ ?_ fun v hv p => ?_
          · unfold turn; rw [if_pos rfl]; simp
          · rw [nx]; simpa using mx
          · simp only [ne_eq, decide_not, Bool.not_eq_true', decide_eq_false_iff_not] at p ⊢
            intro q
            apply p
            unfold turn
            by_cases e1 : v = x
            · rw [if_pos e1, e1]
            · rw [if_neg e1]
              by_cases e2 : v = M x
              · rw [if_pos e2, e2, hM.inv x hx]
              · rw [if_neg e2]
                by_cases e3 : v = N (M x)
                · -- M v is M x, so v is x
                  have : N v = M x := by rw [e3]; exact h.mt.inv _ hy
                  rw [this] at q
                  have := congrArg M q
                  rw [hM.inv v hv, hM.inv x hx] at this
                  exact absurd this e1
                · rw [if_neg e3]; exact q
        omega
  obtain ⟨X, hX⟩ := mx_ex (adj := adj) V
  obtain ⟨N', h1, h2⟩ := key _ X hX (Nat.le_refl _)
  refine ⟨N', h1.mt, h2, Classical.byContradiction fun no => ?_⟩
  have : miss V M ≤ miss V N' := by
    unfold miss
    refine List.countP_mono_left fun v hv e => ?_
    simp only [decide_eq_true_eq] at e ⊢
    exact Classical.byContradiction fun q => no ⟨v, hv, e, q⟩
  have := h1.least N hN
  omega
section
variable {adj : Nat → Nat → Prop} {μ : Nat → Option Nat} {rk : Nat → Nat} {s : St}
/-- partners as a plan of MB's -/
def mF (μ : Nat → Option Nat) (v : Nat) : Nat := (μ v).getD v
theorem mF_ne {v : Nat} (irr : ∀ v, μ v ≠ some v) : mF μ v = v ↔ μ v = none := by
  unfold mF
  cases h : μ v with
  | none => simp
  | some w =>
    simp only [Option.getD_some, reduceCtorEq, iff_false]
    intro e
    exact irr v (by rw [h, e])
theorem mF_mt {V : List Nat} (ms : ∀ u v, μ u = some v → μ v = some u) (mV : ∀ u v, μ u = some v → v ∈ V) (ad : ∀ u v, μ u = some v → adj u v) : Mt adj V (mF μ) := by
  refine ⟨fun v hv => ?_, fun v hv => ?_, fun v hv h => ?_⟩ <;> unfold mF at *
  · cases h : μ v with
    | none => exact hv
    | some w => exact mV v w h
  · cases h : μ v with
    | none => simp [h]
    | some w => simp [ms v w h]
  · cases e : μ v with
    | none => rw [e] at h; exact absurd rfl h
    | some w => exact ad v w e
variable (I : Inv adj μ rk s)
include I
theorem Inv.none_serves {V : List Nat} (hV : V.Nodup) {t : Nat} (ht : t ∉ V) (cl : ∀ v q, s.ev v = true → adj v q → (s.ev q = true ∧ s.bs q = s.bs v) ∨ (s.ev q = false ∧ s.lk q ≠ none)) (sy : ∀ u v, adj u v → adj v u)
    (evV : ∀ v, s.ev v = true → v ∈ V) (mV : ∀ u v, μ u = some v → v ∈ V) (irr : ∀ v, μ v ≠ some v) {r : Nat} (hr : s.ev r = true) (hr2 : μ r = none) {N : Nat → Nat} (hN : Mt adj V N) (all : ∀ x, s.ev x = true → N x ≠ x) : False := by
  obtain ⟨b, h1, h2⟩ := I.barrier hV ht cl sy evV mV irr (R := [r]) (by simp) (fun x hx => by rw [List.mem_singleton.mp hx]; exact ⟨hr, hr2⟩)
  have := weak2 hV b hN fun x _ _ hx => all x (h2 x hx)
  simp only [List.length_singleton] at h1
  omega
end
end BM
namespace BL
open PySem PySem.Spec PyProof.Rows L2 Y
abbrev oW (o : Option Nat) : W := match o with
  | none => .d .none
  | some v => nW v
abbrev olist (m : Nat) (f : Nat → Option Nat) : SO := .lst ((List.range m).map fun i => oW (f i))
abbrev nlist (m : Nat) (f : Nat → Nat) : SO := .lst ((List.range m).map fun i => nW (f i))
/-- rows at L + m, partners at M, wanted at V, the object at n, behind it its own four lists -/
def fsF (R M V n : Nat) : List (Str × W) := [("rows", .ref R), ("mates", .ref M), ("wanted", .ref V), ("links", .ref (n + 1)), ("bases", .ref (n + 2)), ("evenly", .ref (n + 3)), ("found", .ref (n + 4))]
theorem fs_rows {R M V n : Nat} : (fsF R M V n).lookup ("rows" : Str) = some (W.ref R) := by rfl
theorem fs_mates {R M V n : Nat} : (fsF R M V n).lookup ("mates" : Str) = some (W.ref M) := by rfl
theorem fs_wanted {R M V n : Nat} : (fsF R M V n).lookup ("wanted" : Str) = some (W.ref V) := by rfl
theorem fs_links {R M V n : Nat} : (fsF R M V n).lookup ("links" : Str) = some (W.ref (n + 1)) := by rfl
theorem fs_bases {R M V n : Nat} : (fsF R M V n).lookup ("bases" : Str) = some (W.ref (n + 2)) := by rfl
theorem fs_evenly {R M V n : Nat} : (fsF R M V n).lookup ("evenly" : Str) = some (W.ref (n + 3)) := by rfl
theorem fs_found {R M V n : Nat} : (fsF R M V n).lookup ("found" : Str) = some (W.ref (n + 4)) := by rfl
structure FoS (m L M V n : Nat) (nb : Nat → List Nat) (μ : Nat → Option Nat) (wa : Nat → Bool) (s : BM.St) (found : List Nat) (t : Sto) : Prop where
  ob : t[n]? = some (.obj "Forest" (fsF (L + m) M V n))
  rw : RowsAt t L m nb
  mt : t[M]? = some (olist m μ)
  wt : t[V]? = some (bools m wa)
  lk : t[n + 1]? = some (olist m s.lk)
  bs : t[n + 2]? = some (nlist m s.bs)
  ev : t[n + 3]? = some (bools m s.ev)
  fd : t[n + 4]? = some (.lst (found.map nW))
  lo : L + m < n ∧ M < n ∧ V < n
/-- nothing ahead of the object changes, and nothing behind its lists -/
def Kp (n : Nat) (t t' : Sto) : Prop := t.length ≤ t'.length ∧ ∀ i, i < t.length → i ≤ n ∨ n + 5 ≤ i → t'[i]? = t[i]?
theorem Kp.refl {n : Nat} {t : Sto} : Kp n t t := ⟨Nat.le_refl _, fun _ _ _ => rfl⟩
theorem Kp.trans {n : Nat} {a b c : Sto} (h : Kp n a b) (g : Kp n b c) : Kp n a c := ⟨Nat.le_trans h.1 g.1, fun i hi hn => (g.2 i (Nat.lt_of_lt_of_le hi h.1) hn).trans (h.2 i hi hn)⟩
theorem Kp.app {n : Nat} {t u : Sto} : Kp n t (t ++ u) := ⟨by simp, fun i hi _ => List.getElem?_append_left hi⟩
theorem Kp.set {n i : Nat} {t : Sto} {o : SO} (h : n < i) (h2 : i < n + 5) : Kp n t (t.set i o) := ⟨by simp, fun j hj hn => List.getElem?_set_ne (by omega)⟩
theorem lt_of_get {t : Sto} {i : Nat} {o : SO} (h : t[i]? = some o) : i < t.length := (List.getElem?_eq_some_iff.mp h).1
section
variable {m L M V n : Nat} {nb : Nat → List Nat} {μ : Nat → Option Nat} {wa : Nat → Bool} {s : BM.St} {found : List Nat} {t : Sto}
theorem FoS.app (h : FoS m L M V n nb μ wa s found t) (u : Sto) : FoS m L M V n nb μ wa s found (t ++ u) := by
  have k : ∀ {i : Nat} {o : SO}, t[i]? = some o → (t ++ u)[i]? = some o := fun q => by rw [List.getElem?_append_left (lt_of_get q)]; exact q
  exact ⟨k h.ob, ⟨k h.rw.top, fun i hi => k (h.rw.row i hi)⟩, k h.mt, k h.wt, k h.lk, k h.bs, k h.ev, k h.fd, h.lo⟩
/-- one place behind the object's lists is written -/
theorem FoS.past (h : FoS m L M V n nb μ wa s found t) {i : Nat} (hi : n + 5 ≤ i) (o : SO) : FoS m L M V n nb μ wa s found (t.set i o) := by
  have l := h.lo
  have k : ∀ {j : Nat} {o' : SO}, j ≤ n + 4 → t[j]? = some o' → (t.set i o)[j]? = some o' := fun hj q => by rw [List.getElem?_set_ne (by omega)]; exact q
  exact ⟨k (by omega) h.ob, ⟨k (by omega) h.rw.top, fun i hi => k (by omega) (h.rw.row i hi)⟩, k (by omega) h.mt, k (by omega) h.wt, k (by omega) h.lk, k (by omega) h.bs, k (by omega) h.ev, k (by omega) h.fd, h.lo⟩
theorem attr_ok {f : Str} {w : W} {fo : En → Sto → R W} {ρ : En} {t0 : Sto} {fs : List (Str × W)} (h1 : fo ρ t0 = .ok (.ref n) t) (h : t[n]? = some (.obj "Forest" fs)) (h2 : fs.lookup f = some w) : dAttr "Forest" f fo ρ t0 = .ok w t := by
  unfold dAttr
  rw [h1, R.bind_ok]
  simp only [h, h2, if_true]
theorem mec_ok {f : Str} {k : Nat} {F : Fn} {fo : En → Sto → R W} {fa : En → Sto → R (List W)} {ρ : En} {t0 t1 : Sto} {ws : List W} {r : R W} {fs : List (Str × W)} (h1 : fo ρ t0 = .ok (.ref n) t) (h : t[n]? = some (.obj "Forest" fs)) (h2 : fs.lookup f = none) (h3 : fa ρ t = .ok ws t1) (h4 : ws.length + 1 = k) (h5 : F (.ref n :: ws) t1 = r) : dMeC "Forest" f k F fo fa ρ t0 = r := by
  unfold dMeC
  rw [h1, R.bind_ok]
  simp only [h, h2, true_and, if_true]
  rw [h3, R.bind_ok, chk_ok h4, h5]
theorem dDef_nx {k : Nat} {B : DS} {ws : List W} {t t' : Sto} {ρ' : En} (h : B (ws.map some ++ List.replicate (k - ws.length) none) t = .ok (.nx, ρ') t') : dDef k B ws t = .ok (.d .none) t' := by
  unfold dDef
  rw [h]
  rfl
theorem olist_get {f : Nat → Option Nat} {i v : Nat} (h : t[i]? = some (olist m f)) (hv : v < m) : vIx (.ref i) (nW v) t = .ok (oW (f v)) t := vIx_ref h (by rw [List.getElem?_map, List.getElem?_range hv]; rfl)
theorem nlist_get {f : Nat → Nat} {i v : Nat} (h : t[i]? = some (nlist m f)) (hv : v < m) : vIx (.ref i) (nW v) t = .ok (nW (f v)) t := vIx_ref h (by rw [List.getElem?_map, List.getElem?_range hv]; rfl)
theorem map_set {α : Type} {g : Nat → W} {G : α → W} {f : Nat → α} {v : Nat} (x : α) : ((List.range m).map fun i => G (f i)).set v (G x) = (List.range m).map fun i => G (BM.upd f v x i) := by
  apply List.ext_getElem?
  intro i
  rw [List.getElem?_set]
  by_cases h1 : v = i
  · subst h1
    by_cases h2 : v < m
    · rw [if_pos rfl, if_pos (by simpa using h2), List.getElem?_map, List.getElem?_range h2, Option.map_some, BM.upd_eq]
    · rw [if_pos rfl, if_neg (by simpa using h2), List.getElem?_map, List.getElem?_eq_none (by simpa using h2)]
      rfl
  · rw [if_neg h1, List.getElem?_map, List.getElem?_map]
    by_cases h2 : i < m
    · rw [List.getElem?_range h2, Option.map_some, Option.map_some, BM.upd_ne (fun z => h1 z.symm)]
    · rw [List.getElem?_eq_none (by simpa using h2)]; rfl
/-- the last one of a list of the store -/
theorem vIx_last {ws : List W} {w : W} {i : Nat} (h : t[i]? = some (.lst (ws ++ [w]))) : vIx (.ref i) (.d (.int (-1))) t = .ok w t := by
  have e : atI (ws ++ [w]) (-1) = some w := by
    unfold atI
    have e2 : ixN (ws ++ [w]).length (-1) = some ws.length := by
      unfold ixN
      rw [List.length_append, List.length_singleton]
      simp
      try omega
    rw [e2]
    simp
  simp [vIx, h, e]
end
noncomputable def B_Forest_reach : DS :=
  (dSeq (dSetIx (dLit (.bool true)) (dAttr "Forest" "evenly" (dVar 0)) (dVar 1))
    (dExpr (dMeth mAppend (dAttr "Forest" "found" (dVar 0)) (dCons (dVar 1) dNil))))
noncomputable def F_Forest_reach : Fn := dDef 2 B_Forest_reach
section
variable {m L M V n : Nat} {nb : Nat → List Nat} {μ : Nat → Option Nat} {wa : Nat → Bool} {s : BM.St} {found : List Nat} {t : Sto}
theorem FoS.reach (h : FoS m L M V n nb μ wa s found t) {p : Nat} (hp : p < m) (hl : found.length < 1000) : ∃ t', F_Forest_reach [.ref n, nW p] t = .ok (.d .none) t' ∧ FoS m L M V n nb μ wa ⟨s.lk, s.bs, BM.upd s.ev p true⟩ (found ++ [p]) t' ∧ Kp n t t' := by
  have l := h.lo
  have hf := lt_of_get h.fd
  have g1 : dSetIx (dLit (.bool true)) (dAttr "Forest" "evenly" (dVar 0)) (dVar 1) [some (.ref n), some (nW p)] t = .ok (.nx, [some (.ref n), some (nW p)]) (t.set (n + 3) (bools m (BM.upd s.ev p true))) := by
    have := setIx_ok (fe := dLit (.bool true)) (fo := dAttr "Forest" "evenly" (dVar 0)) (fi := dVar 1) (ρ := [some (.ref n), some (nW p)]) (s := t) rfl (attr_ok (dVar_ok rfl) h.ob fs_evenly) (dVar_ok rfl) h.ev (by simpa using hp)
    rw [this]
    rw [map_set (g := nW) (G := fun b : Bool => W.d (.bool b)) (f := s.ev) (v := p) true]
  have h2 : (t.set (n + 3) (bools m (BM.upd s.ev p true)))[n + 4]? = some (.lst (found.map nW)) := by rw [List.getElem?_set_ne (by omega)]; exact h.fd
  have o2 : (t.set (n + 3) (bools m (BM.upd s.ev p true)))[n]? = some (.obj "Forest" (fsF (L + m) M V n)) := by rw [List.getElem?_set_ne (by omega)]; exact h.ob
  refine ⟨_, dDef_nx (to g1 (dExpr_ok (dMeth_ok (attr_ok (dVar_ok rfl) o2 fs_found) h2 (dCons1_ok (dVar_ok rfl)) (append_ok h2 (by rw [List.length_map]; omega))))), ?_, (Kp.set (by omega) (by omega)).trans (Kp.set (by omega) (by omega))⟩
  have k : ∀ {j : Nat} {o' : SO}, j ≠ n + 3 → j ≠ n + 4 → t[j]? = some o' → ((t.set (n + 3) (bools m (BM.upd s.ev p true))).set (n + 4) (.lst (found.map nW ++ [nW p])))[j]? = some o' := fun h1 h2 q => by rw [List.getElem?_set_ne (by omega), List.getElem?_set_ne (by omega)]; exact q
  refine ⟨k (by omega) (by omega) h.ob, ⟨k (by omega) (by omega) h.rw.top, fun i hi => k (by omega) (by omega) (h.rw.row i hi)⟩, k (by omega) (by omega) h.mt, k (by omega) (by omega) h.wt, k (by omega) (by omega) h.lk, k (by omega) (by omega) h.bs, ?_, ?_, h.lo⟩
  · rw [List.getElem?_set_ne (by omega), List.getElem?_set_self (by omega)]
  · rw [List.getElem?_set_self (by rw [List.length_set]; exact hf)]; simp
end
end BL
namespace BL
open PySem PySem.Spec PyProof.Rows L2 Y
theorem allD_nats (l : List Nat) : allD (l.map nW) = some (l.map nI) := by
  have := allD_map (l.map nI)
  rwa [List.map_map] at this
theorem vIsN {o : Option Nat} {t : Sto} : vIs true (oW o) (.d .none) t = .ok (.d (.bool o.isSome)) t := by cases o <;> rfl
theorem vIsY {o : Option Nat} {t : Sto} : vIs false (oW o) (.d .none) t = .ok (.d (.bool o.isNone)) t := by cases o <;> rfl
theorem mExtend_ok {i j : Nat} {xs ys : List W} {t : Sto} (h1 : t[i]? = some (.lst xs)) (h2 : t[j]? = some (.lst ys)) (hl : xs.length + ys.length ≤ 1000000) : mExtend (.ref i) [.ref j] t = .ok (.d .none) (t.set i (.lst (xs ++ ys))) := by
  unfold mExtend
  simp only [h1, h2]
  exact chk_ok (le_line hl)
theorem rev_ok {f : En → Sto → R W} {ρ : En} {t t1 : Sto} {i : Nat} {l : List Nat} (h1 : f ρ t = .ok (.ref i) t1) (h2 : t1[i]? = some (.lst (l.map nW))) : dRev f ρ t = .ok (.d (.list (l.reverse.map nI))) t1 := by
  unfold dRev
  rw [h1, R.bind_ok]
  simp only [asD, h2, allD_nats, Option.map_some]
  rw [List.map_reverse]
theorem frz_ok {f : En → Sto → R W} {ρ : En} {t t1 : Sto} {i : Nat} {l : List Nat} (h1 : f ρ t = .ok (.ref i) t1) (h2 : t1[i]? = some (.lst (l.map nW))) : dFz f ρ t = .ok (.d (.list (l.map nI))) (t1.set i .dead) := by
  unfold dFz
  rw [h1, R.bind_ok]
  unfold freeze
  simp only [h2, allD_nats]
/-- what lies behind the object: a list of one's own at i, and what was there ahead -/
theorem Kp.mine {n i : Nat} {t t' : Sto} {o : SO} (h : Kp n t t') (hi : t.length ≤ i) : Kp n t (t'.set i o) :=
  ⟨by simpa using h.1, fun j hj hn => by rw [List.getElem?_set_ne (by omega)]; exact h.2 j hj hn⟩
noncomputable def B_Forest_way_to : DS :=
  (dSeq (dSet 2 (dNew (dCons (dVar 1) dNil)))
    (dSeq (dWhile (fun ρ st => asB (dBin (vIs true) (dBin vIx (dAttr "Forest" "mates" (dVar 0)) (dBin vIx (dVar 2) (dUn vNeg (dLit (.int 1))))) (dLit .none) ρ st))
    (dSeq (dSet 3 (dBin vIx (dAttr "Forest" "mates" (dVar 0)) (dBin vIx (dVar 2) (dUn vNeg (dLit (.int 1))))))
    (dExpr (dMeth mExtend (dVar 2) (dCons (dNew (dCons (dVar 3) (dCons (dBin vIx (dAttr "Forest" "links" (dVar 0)) (dVar 3)) dNil))) dNil)))))
    (dRet (dRev (dVar 2)))))
noncomputable def F_Forest_way_to : Fn := dDef 4 B_Forest_way_to
noncomputable def B_Forest_bases_above : DS :=
  (dSeq (dSet 2 (dNew (dCons (dBin vIx (dAttr "Forest" "bases" (dVar 0)) (dVar 1)) dNil)))
    (dSeq (dWhile (fun ρ st => asB (dBin (vIs true) (dBin vIx (dAttr "Forest" "mates" (dVar 0)) (dBin vIx (dVar 2) (dUn vNeg (dLit (.int 1))))) (dLit .none) ρ st))
    (dExpr (dMeth mAppend (dVar 2) (dCons (dBin vIx (dAttr "Forest" "bases" (dVar 0)) (dBin vIx (dAttr "Forest" "links" (dVar 0)) (dBin vIx (dAttr "Forest" "mates" (dVar 0)) (dBin vIx (dVar 2) (dUn vNeg (dLit (.int 1))))))) dNil))))
    (dRet (dFz (dVar 2)))))
noncomputable def F_Forest_bases_above : Fn := dDef 3 B_Forest_bases_above
section
variable {m L M V n : Nat} {nb : Nat → List Nat} {μ : Nat → Option Nat} {wa : Nat → Bool} {s : BM.St} {found : List Nat} {t : Sto}
theorem last_map {ws : List Nat} {x : Nat} : (ws ++ [x]).map nW = ws.map nW ++ [nW x] := by simp
theorem FoS.len (h : FoS m L M V n nb μ wa s found t) : n + 5 ≤ t.length := lt_of_get h.fd
theorem FoS.way_to (h : FoS m L M V n nb μ wa s found t) {v r : Nat} {S : List (Nat × Nat)} (p : BM.Pth μ s.lk v S r) (hm : ∀ y ∈ BM.verts S r, y < m) (hl : (BM.verts S r).length ≤ 1000) :
    ∃ t', F_Forest_way_to [.ref n, nW v] t = .ok (.d (.list ((BM.verts S r).reverse.map nI))) t' ∧ FoS m L M V n nb μ wa s found t' ∧ Kp n t t' := by
  have hn := h.len
  obtain ⟨ρ', t', e1, x, A, y, e2, e3, e4, e5, e6⟩ := while_ok (c := (fun ρ st => asB (dBin (vIs true) (dBin vIx (dAttr "Forest" "mates" (dVar 0)) (dBin vIx (dVar 2) (dUn vNeg (dLit (.int 1))))) (dLit .none) ρ st)))
    (body := (dSeq (dSet 3 (dBin vIx (dAttr "Forest" "mates" (dVar 0)) (dBin vIx (dVar 2) (dUn vNeg (dLit (.int 1))))))
    (dExpr (dMeth mExtend (dVar 2) (dCons (dNew (dCons (dVar 3) (dCons (dBin vIx (dAttr "Forest" "links" (dVar 0)) (dVar 3)) dNil))) dNil)))))
    (P := fun k ρ u => ∃ x A y T, ρ = [some (.ref n), some (nW v), some (.ref t.length), x] ∧ FoS m L M V n nb μ wa s found u ∧ Kp n t u ∧ u[t.length]? = some (.lst ((A ++ [y]).map nW)) ∧ BM.Pth μ s.lk y T r ∧ BM.verts S r = A ++ BM.verts T r ∧ k = T.length)
    (Q := fun ρ u => ∃ x A y, ρ = [some (.ref n), some (nW v), some (.ref t.length), x] ∧ FoS m L M V n nb μ wa s found u ∧ Kp n t u ∧ u[t.length]? = some (.lst ((A ++ [y]).map nW)) ∧ BM.verts S r = A ++ [y])
    (fun k ρ u hP => by
      obtain ⟨x, A, y, T, rfl, g1, g2, g3, g4, g5, rfl⟩ := hP
      have hy : y < m := by
        obtain ⟨W, e⟩ := BM.verts_head g4
        exact hm y (by rw [g5, e]; simp)
      rw [last_map] at g3
      have ix : dBin vIx (dVar 2) (dUn vNeg (dLit (.int 1))) [some (.ref n), some (nW v), some (.ref t.length), x] u = .ok (nW y) u := dBin_ok (dVar_ok rfl) (dUn_ok rfl rfl) (vIx_last g3)
      have mt : dBin vIx (dAttr "Forest" "mates" (dVar 0)) (dBin vIx (dVar 2) (dUn vNeg (dLit (.int 1)))) [some (.ref n), some (nW v), some (.ref t.length), x] u = .ok (oW (μ y)) u := dBin_ok (attr_ok (dVar_ok rfl) g1.ob fs_mates) ix (olist_get g1.mt hy)
      have cd := asB_ok (dBin_ok mt (rfl : dLit .none _ _ = _) vIsN)
      cases g4 with
      | nil h0 =>
        refine .inl ⟨u, by rw [h0] at cd; exact cd, x, A, _, rfl, g1, g2, by rw [last_map]; exact g3, by rw [g5]; rfl⟩
      | @cons y mt' p' T' _ h0 h1 h2 =>
        have hmt : mt' < m := hm mt' (by rw [g5, BM.verts_cons]; simp)
        rw [h0] at mt cd
        have s1 : dSet 3 (dBin vIx (dAttr "Forest" "mates" (dVar 0)) (dBin vIx (dVar 2) (dUn vNeg (dLit (.int 1))))) [some (.ref n), some (nW v), some (.ref t.length), x] u = .ok (.nx, [some (.ref n), some (nW v), some (.ref t.length), some (nW mt')]) u := dSet_ok mt
        have lk : dBin vIx (dAttr "Forest" "links" (dVar 0)) (dVar 3) [some (.ref n), some (nW v), some (.ref t.length), some (nW mt')] u = .ok (nW p') u := by
          have := dBin_ok (G := vIx) (ρ := [some (.ref n), some (nW v), some (.ref t.length), some (nW mt')]) (attr_ok (f := "links") (fo := dVar 0) (dVar_ok rfl) g1.ob fs_links) (dVar_ok (i := 3) rfl) (olist_get g1.lk hmt)
          rw [h1] at this
          exact this
        have hlt : t.length < u.length := lt_of_get g3
        have al : dCons (dNew (dCons (dVar 3) (dCons (dBin vIx (dAttr "Forest" "links" (dVar 0)) (dVar 3)) dNil))) dNil [some (.ref n), some (nW v), some (.ref t.length), some (nW mt')] u = .ok [.ref u.length] (u ++ [.lst [nW mt', nW p']]) := dCons1_ok (dNew_ok (dCons_ok (dVar_ok rfl) (dCons1_ok lk)) (le_line (by simp)))
        have a1 : (u ++ [SO.lst [nW mt', nW p']])[t.length]? = some (.lst (A.map nW ++ [nW y])) := by rw [List.getElem?_append_left hlt]; exact g3
        have a2 : (u ++ [SO.lst [nW mt', nW p']])[u.length]? = some (.lst [nW mt', nW p']) := by simp
        have hA : A.length + 1 ≤ 1000 := by
          rw [g5, List.length_append] at hl
          have : 0 < (BM.verts ((y, mt') :: T') r).length := by rw [BM.verts_cons]; simp
          omega
        refine .inr ⟨u, _, _, T'.length, cd, to s1 (dExpr_ok (dMeth_ok (dVar_ok rfl) g3 al (mExtend_ok a1 a2 (by simp; omega)))), by simp, some (nW mt'), A ++ [y, mt'], p', T', rfl, ?_, ?_, ?_, h2, by rw [g5, BM.verts_cons]; simp, rfl⟩
        · exact (g1.app _).past (by omega) _
        · exact (g2.trans Kp.app).mine (Nat.le_refl _)
        · rw [List.getElem?_set_self (by simp; omega)]
          simp)
    S.length [some (.ref n), some (nW v), some (.ref t.length), none] (t ++ [.lst [nW v]]) ⟨none, [], v, S, rfl, h.app _, Kp.app, by simp, p, rfl, rfl⟩
  subst e2
  refine ⟨t', dDef_rt (ρ' := [some (.ref n), some (nW v), some (.ref t.length), x]) (to (dSet_ok (i := 2) (dNew_ok (dCons1_ok (dVar_ok rfl)) (le_line (by simp)))) (to e1 (dRet_ok ?_))), e3, e4⟩
  rw [e6]
  exact rev_ok (dVar_ok rfl) e5
theorem FoS.bases_above (h : FoS m L M V n nb μ wa s found t) {v : Nat} {B : List Nat} (hv : v < m) (c : BM.Ch μ s (s.bs v) B) (hm : ∀ y ∈ B, y < m) (hs : ∀ x y, μ x = some y → y < m) (hk : ∀ x y, s.lk x = some y → y < m) (hl : B.length ≤ 1000) :
    ∃ t', F_Forest_bases_above [.ref n, nW v] t = .ok (.d (.list (B.map nI))) t' ∧ FoS m L M V n nb μ wa s found t' ∧ Kp n t t' := by
  have hn := h.len
  have vb : dBin vIx (dAttr "Forest" "bases" (dVar 0)) (dVar 1) [some (.ref n), some (nW v), none] t = .ok (nW (s.bs v)) t := dBin_ok (attr_ok (dVar_ok rfl) h.ob fs_bases) (dVar_ok rfl) (nlist_get h.bs hv)
  obtain ⟨ρ', t', e1, A, y, e2, e3, e4, e5, e6⟩ := while_ok (c := (fun ρ st => asB (dBin (vIs true) (dBin vIx (dAttr "Forest" "mates" (dVar 0)) (dBin vIx (dVar 2) (dUn vNeg (dLit (.int 1))))) (dLit .none) ρ st)))
    (body := (dExpr (dMeth mAppend (dVar 2) (dCons (dBin vIx (dAttr "Forest" "bases" (dVar 0)) (dBin vIx (dAttr "Forest" "links" (dVar 0)) (dBin vIx (dAttr "Forest" "mates" (dVar 0)) (dBin vIx (dVar 2) (dUn vNeg (dLit (.int 1))))))) dNil))))
    (P := fun k ρ u => ∃ A y T, ρ = [some (.ref n), some (nW v), some (.ref t.length)] ∧ FoS m L M V n nb μ wa s found u ∧ Kp n t u ∧ u[t.length]? = some (.lst ((A ++ [y]).map nW)) ∧ BM.Ch μ s y (y :: T) ∧ B = A ++ y :: T ∧ k = T.length)
    (Q := fun ρ u => ∃ A y, ρ = [some (.ref n), some (nW v), some (.ref t.length)] ∧ FoS m L M V n nb μ wa s found u ∧ Kp n t u ∧ u[t.length]? = some (.lst ((A ++ [y]).map nW)) ∧ B = A ++ [y])
    (fun k ρ u hP => by
      obtain ⟨A, y, T, rfl, g1, g2, g3, g4, g5, rfl⟩ := hP
      have hy : y < m := hm y (by rw [g5]; simp)
      rw [last_map] at g3
      have ix : dBin vIx (dVar 2) (dUn vNeg (dLit (.int 1))) [some (.ref n), some (nW v), some (.ref t.length)] u = .ok (nW y) u := dBin_ok (dVar_ok rfl) (dUn_ok rfl rfl) (vIx_last g3)
      have mt : dBin vIx (dAttr "Forest" "mates" (dVar 0)) (dBin vIx (dVar 2) (dUn vNeg (dLit (.int 1)))) [some (.ref n), some (nW v), some (.ref t.length)] u = .ok (oW (μ y)) u := dBin_ok (attr_ok (dVar_ok rfl) g1.ob fs_mates) ix (olist_get g1.mt hy)
      have cd := asB_ok (dBin_ok mt (rfl : dLit .none _ _ = _) vIsN)
      cases g4 with
      | nil h0 =>
        exact .inl ⟨u, by rw [h0] at cd; exact cd, A, y, rfl, g1, g2, by rw [last_map]; exact g3, g5⟩
      | @cons _ o p _ h0 h1 h2 =>
        have ho := hs _ _ h0
        have hp := hk _ _ h1
        rw [h0] at mt cd
        have lk : dBin vIx (dAttr "Forest" "links" (dVar 0)) (dBin vIx (dAttr "Forest" "mates" (dVar 0)) (dBin vIx (dVar 2) (dUn vNeg (dLit (.int 1))))) [some (.ref n), some (nW v), some (.ref t.length)] u = .ok (nW p) u := by
          have := dBin_ok (G := vIx) (attr_ok (f := "links") (fo := dVar 0) (ρ := [some (.ref n), some (nW v), some (.ref t.length)]) (dVar_ok rfl) g1.ob fs_links) mt (olist_get g1.lk ho)
          rw [h1] at this
          exact this
        have bs := dBin_ok (G := vIx) (attr_ok (f := "bases") (fo := dVar 0) (ρ := [some (.ref n), some (nW v), some (.ref t.length)]) (dVar_ok rfl) g1.ob fs_bases) lk (nlist_get g1.bs hp)
        have hlt : t.length < u.length := lt_of_get g3
        obtain ⟨T', eT⟩ : ∃ T', T = s.bs p :: T' := by cases h2 <;> exact ⟨_, rfl⟩
        subst eT
        have hA : A.length + 1 ≤ 1000 := by rw [g5, List.length_append, List.length_cons] at hl; omega
        refine .inr ⟨u, _, _, T'.length, cd, dExpr_ok (dMeth_ok (dVar_ok rfl) g3 (dCons1_ok bs) (append_ok g3 (by simp; omega))), by simp, A ++ [y], s.bs p, T', rfl, g1.past (by omega) _, g2.mine (Nat.le_refl _), ?_, h2, by rw [g5]; simp, rfl⟩
        rw [List.getElem?_set_self (by omega)]
        simp)
    (B.length - 1) [some (.ref n), some (nW v), some (.ref t.length)] (t ++ [.lst [nW (s.bs v)]]) (by
      obtain ⟨T, eT⟩ : ∃ T, B = s.bs v :: T := by cases c <;> exact ⟨_, rfl⟩
      subst eT
      exact ⟨[], s.bs v, T, rfl, h.app _, Kp.app, by simp, c, rfl, by simp⟩)
  subst e2
  refine ⟨t'.set t.length .dead, dDef_rt (ρ' := [some (.ref n), some (nW v), some (.ref t.length)]) (to (dSet_ok (i := 2) (dNew_ok (dCons1_ok vb) (le_line (by simp)))) (to e1 (dRet_ok ?_))), e3.past (by omega) _, e4.mine (Nat.le_refl _)⟩
  rw [e6]
  exact frz_ok (dVar_ok rfl) e5
end
end BL
namespace BL
open PySem PySem.Spec PyProof.Rows L2 Y
theorem getW_any {β : Type} (kvs : List (Y.Ke × β)) (k : Y.Ke) : (getW kvs k).isSome = kvs.any fun p => decide (p.1 = k) := by
  unfold getW
  rw [Option.isSome_map]
  induction kvs with
  | nil => rfl
  | cons p kvs ih =>
    rw [List.find?_cons, List.any_cons]
    cases h : decide (p.1 = k) with
    | true => rfl
    | false => rw [Bool.false_or, ← ih]
theorem getW_put {β : Type} (kvs : List (Y.Ke × β)) (k k' : Y.Ke) (w : β) : (getW (putW kvs k w) k').isSome = ((getW kvs k').isSome || decide (k = k')) := by
  rw [getW_any, getW_any]
  unfold putW
  split
  · rename_i h
    rw [List.any_map]
    have e : (fun p : Y.Ke × β => decide (p.1 = k')) ∘ (fun p => if p.1 = k then (p.1, w) else p) = fun p => decide (p.1 = k') := by
      funext p
      show decide ((if p.1 = k then (p.1, w) else p).1 = k') = _
      split <;> rfl
    rw [e]
    by_cases z : k = k'
    · subst z; rw [h]; rfl
    · simp [z]
  · rw [List.any_append]
    simp
theorem put_len {β : Type} (kvs : List (Y.Ke × β)) (k : Y.Ke) (w : β) : (putW kvs k w).length ≤ kvs.length + 1 := by
  unfold putW
  split
  · rw [List.length_map]; omega
  · simp
/-- the keys are the people of C -/
def KS (kvs : List (Y.Ke × W)) (C : List Nat) : Prop := ∀ x : Nat, (getW kvs (.inl (x : Int))).isSome = decide (x ∈ C)
theorem KS.nil : KS [] [] := fun _ => rfl
theorem KS.put {kvs : List (Y.Ke × W)} {C : List Nat} (h : KS kvs C) (y : Nat) (w : W) : KS (putW kvs (.inl (y : Int)) w) (y :: C) := fun x => by
  rw [getW_put, h x]
  have e : decide ((Sum.inl (y : Int) : Y.Ke) = Sum.inl (x : Int)) = decide (x = y) := by
    rw [Bool.eq_iff_iff, decide_eq_true_eq, decide_eq_true_eq]
    constructor
    · intro q; have := Sum.inl.inj q; omega
    · rintro rfl; rfl
  rw [e]
  simp only [List.mem_cons]
  by_cases z : x = y <;> simp [z]
theorem vInD_ok {p x : Nat} {kvs : List (Y.Ke × W)} {C : List Nat} {t : Sto} (h : t[p]? = some (.dct kvs)) (k : KS kvs C) : vInD false (nW x) (.ref p) t = .ok (.d (.bool (decide (x ∈ C)))) t := by
  have e : keyW (nW x) = some (.inl (x : Int)) := rfl
  unfold vInD
  rw [e]
  dsimp only
  rw [h]
  dsimp only
  rw [k x, Bool.false_xor]
theorem putD_ok {fe fo fi : En → Sto → R W} {ρ : En} {t t1 t2 t3 : Sto} {w : W} {p x : Nat} {kvs : List (Y.Ke × W)} (h1 : fe ρ t = .ok w t1) (h2 : fo ρ t1 = .ok (.ref p) t2) (h3 : fi ρ t2 = .ok (nW x) t3) (h : t3[p]? = some (.dct kvs)) (hl : kvs.length < 1000000) : dPutD fe fo fi ρ t = .ok (.nx, ρ) (t3.set p (.dct (putW kvs (.inl (x : Int)) w))) := by
  have e : keyW (nW x) = some (.inl (x : Int)) := rfl
  unfold dPutD
  rw [h1, R.bind_ok, h2, R.bind_ok, h3, R.bind_ok, e]
  dsimp only
  rw [h]
  exact chk_ok (by rw [sizeLine_eq]; omega)
theorem dcL_nats {tg : W → En → Sto → R En} {fk fv : En → Sto → R W} {ρ : En} {t : Sto} (step : ∀ x : Nat, ∃ ρ1 u, tg (nW x) ρ t = .ok ρ1 t ∧ fk ρ1 t = .ok (nW x) t ∧ fv ρ1 t = .ok u t) : ∀ (l : List Nat) (acc : List (Y.Ke × W)) (C : List Nat), KS acc C → acc.length + l.length ≤ 100000 → ∃ kvs D, dcL tg (fun _ st => .ok true st) fk fv ρ acc (l.map nW) t = .ok kvs t ∧ KS kvs D ∧ ∀ x, x ∈ D ↔ x ∈ l ∨ x ∈ C
  | [], acc, C, k, _ => ⟨acc, C, rfl, k, fun x => by simp⟩
  | a :: l, acc, C, k, hl => by
    obtain ⟨ρ1, u, h1, h2, h3⟩ := step a
    have pl := put_len acc (.inl (a : Int)) u
    rw [List.length_cons] at hl
    obtain ⟨kvs, D, g1, g2, g3⟩ := dcL_nats step l _ _ (k.put a u) (by omega)
    refine ⟨kvs, D, ?_, g2, fun x => by rw [g3 x, List.mem_cons, List.mem_cons]; exact ⟨fun q => q.elim (fun z => .inl (.inr z)) (fun z => z.elim (fun y => .inl (.inl y)) .inr), fun q => q.elim (fun z => z.elim (fun y => .inr (.inl y)) .inl) (fun z => .inr (.inr z))⟩⟩
    have e : keyW (nW a) = some (.inl (a : Int)) := rfl
    show dcL tg _ fk fv ρ acc (nW a :: l.map nW) t = _
    unfold dcL
    rw [h1]
    simp only [R.nox, R.bind_ok, if_true]
    rw [h2]
    simp only [R.nox, R.bind_ok]
    rw [h3]
    simp only [R.nox, R.bind_ok, e]
    rw [if_pos (by rw [sizeLine_eq]; omega)]
    exact g1
theorem forL_first {α : Type} {tg : W → En → Sto → R En} {body : DS} {emb g : α → W} {t : Sto} {J : En → Prop} {p : α → Bool} : ∀ (all : List α), (∀ a ∈ all, ∀ ρ, J ρ → ∃ ρ1, tg (emb a) ρ t = .ok ρ1 t ∧ J ρ1 ∧ (p a = true → body ρ1 t = .ok (.rt (g a), ρ1) t) ∧ (p a = false → body ρ1 t = .ok (.nx, ρ1) t)) → ∀ ρ, J ρ →
    (∃ A a B, all = A ++ a :: B ∧ p a = true ∧ (∀ x ∈ A, p x = false) ∧ ∃ ρ', forL tg body (all.map emb) ρ t = .ok (.rt (g a), ρ') t) ∨ ((∀ x ∈ all, p x = false) ∧ ∃ ρ', forL tg body (all.map emb) ρ t = .ok (.nx, ρ') t)
  | [], _, ρ, _ => .inr ⟨fun _ z => (nomatch z), ρ, rfl⟩
  | a :: all, step, ρ, j => by
    obtain ⟨ρ1, h1, j1, h2, h3⟩ := step a List.mem_cons_self ρ j
    cases hp : p a with
    | true =>
      refine .inl ⟨[], a, all, rfl, hp, fun _ z => (nomatch z), ρ1, ?_⟩
      show forL tg body (emb a :: all.map emb) ρ t = _
      unfold forL
      rw [h1, R.bind_ok, h2 hp, R.bind_ok]
    | false =>
      have e : forL tg body ((a :: all).map emb) ρ t = forL tg body (all.map emb) ρ1 t := by
        show forL tg body (emb a :: all.map emb) ρ t = _
        conv => lhs; unfold forL
        rw [h1, R.bind_ok, h3 hp, R.bind_ok]
      rcases forL_first all (fun b hb => step b (List.mem_cons_of_mem _ hb)) ρ1 j1 with ⟨A, b, B, rfl, q1, q2, ρ', q3⟩ | ⟨q1, ρ', q2⟩
      · refine .inl ⟨a :: A, b, B, rfl, q1, fun x hx => ?_, ρ', e.trans q3⟩
        rcases List.mem_cons.mp hx with rfl | hx
        · exact hp
        · exact q2 x hx
      · refine .inr ⟨fun x hx => ?_, ρ', e.trans q2⟩
        rcases List.mem_cons.mp hx with rfl | hx
        · exact hp
        · exact q1 x hx
noncomputable def B_Forest_meeting_base : DS :=
  (dSeq (dSet 3 (dDc [4] (dIter (dMeC "Forest" "bases_above" 2 F_Forest_bases_above (dVar 0) (dCons (dVar 1) dNil))) (tName 4) (fun _ st => .ok true st) (dVar 4) (dLit (.bool true))))
    (dSeq (dFor (dIter (dMeC "Forest" "bases_above" 2 F_Forest_bases_above (dVar 0) (dCons (dVar 2) dNil))) (tName 4)
    (dIfS (fun ρ st => asB (dBin (vInD false) (dVar 4) (dVar 3) ρ st))
    (dRet (dVar 4))
    dEnd))
    (dRet (dLit .none))))
noncomputable def F_Forest_meeting_base : Fn := dDef 5 B_Forest_meeting_base
section
variable {m L M V n : Nat} {nb : Nat → List Nat} {μ : Nat → Option Nat} {wa : Nat → Bool} {s : BM.St} {found : List Nat} {t : Sto}
theorem FoS.meeting_base (h : FoS m L M V n nb μ wa s found t) {v u : Nat} {A B : List Nat} (hv : v < m) (hu : u < m) (c : BM.Ch μ s (s.bs v) A) (d : BM.Ch μ s (s.bs u) B) (hA : ∀ y ∈ A, y < m) (hB : ∀ y ∈ B, y < m) (hs : ∀ x y, μ x = some y → y < m) (hk : ∀ x y, s.lk x = some y → y < m) (lA : A.length ≤ 1000) (lB : B.length ≤ 1000) :
    ∃ t' o, F_Forest_meeting_base [.ref n, nW v, nW u] t = .ok (oW o) t' ∧ FoS m L M V n nb μ wa s found t' ∧ Kp n t t' ∧ (∀ b0, o = some b0 → ∃ B1 B2, B = B1 ++ b0 :: B2 ∧ b0 ∈ A ∧ ∀ a ∈ B1, a ∉ A) ∧ (o = none → ∀ a ∈ B, a ∉ A) := by
  obtain ⟨t1, e1, f1, k1⟩ := h.bases_above hv c hA hs hk lA
  obtain ⟨kvs, D, e2, e3, e4⟩ := dcL_nats (tg := tName 4) (fk := dVar 4) (fv := dLit (.bool true)) (ρ := [some (.ref n), some (nW v), some (nW u), none, none]) (t := t1) (fun x => ⟨_, _, rfl, rfl, rfl⟩) A [] [] KS.nil (by simp; omega)
  have f2 := f1.app [SO.dct kvs]
  have k2 : Kp n t (t1 ++ [SO.dct kvs]) := k1.trans Kp.app
  obtain ⟨t3, g1, f3, k3⟩ := f2.bases_above hu d hB hs hk lB
  have pd : t3[t1.length]? = some (.dct kvs) := by
    rw [k3.2 _ (by simp) (.inr (by have := f1.len; omega))]
    simp
  have it1 : dIter (dMeC "Forest" "bases_above" 2 F_Forest_bases_above (dVar 0) (dCons (dVar 1) dNil)) [some (.ref n), some (nW v), some (nW u), none, none] t = .ok (A.map nW) t1 := by
    have := dIter_ok (x := .list (A.map nI)) (mec_ok (f := "bases_above") (ρ := [some (.ref n), some (nW v), some (nW u), none, none]) (fa := dCons (dVar 1) dNil) (fo := dVar 0) (dVar_ok rfl) h.ob (by rfl) (dCons1_ok (dVar_ok rfl)) rfl e1) rfl
    rw [List.map_map] at this
    exact this
  have s1 : dSet 3 (dDc [4] (dIter (dMeC "Forest" "bases_above" 2 F_Forest_bases_above (dVar 0) (dCons (dVar 1) dNil))) (tName 4) (fun _ st => .ok true st) (dVar 4) (dLit (.bool true))) [some (.ref n), some (nW v), some (nW u), none, none] t = .ok (.nx, [some (.ref n), some (nW v), some (nW u), some (.ref t1.length), none]) (t1 ++ [SO.dct kvs]) := by
    refine dSet_ok (i := 3) (w := .ref t1.length) ?_
    unfold dDc
    rw [it1, R.bind_ok]
    show ((dcL (tName 4) _ (dVar 4) (dLit (.bool true)) [some (.ref n), some (nW v), some (nW u), none, none] [] (A.map nW) t1).bind _) = _
    rw [e2, R.bind_ok]
  have it : dIter (dMeC "Forest" "bases_above" 2 F_Forest_bases_above (dVar 0) (dCons (dVar 2) dNil)) [some (.ref n), some (nW v), some (nW u), some (.ref t1.length), none] (t1 ++ [SO.dct kvs]) = .ok (B.map nW) t3 := by
    have := dIter_ok (x := .list (B.map nI)) (mec_ok (f := "bases_above") (ρ := [some (.ref n), some (nW v), some (nW u), some (.ref t1.length), none]) (fa := dCons (dVar 2) dNil) (fo := dVar 0) (dVar_ok rfl) f2.ob (by rfl) (dCons1_ok (dVar_ok rfl)) rfl g1) rfl
    rw [List.map_map] at this
    exact this
  rcases forL_first (tg := tName 4) (body := (dIfS (fun ρ st => asB (dBin (vInD false) (dVar 4) (dVar 3) ρ st))
    (dRet (dVar 4))
    dEnd)) (emb := nW) (g := nW) (t := t3) (J := fun ρ => ∃ x, ρ = [some (.ref n), some (nW v), some (nW u), some (.ref t1.length), x]) (p := fun a => decide (a ∈ D)) B
    (fun a _ ρ j => by
      obtain ⟨x, rfl⟩ := j
      have cd := asB_ok (dBin_ok (G := vInD false) (ρ := [some (.ref n), some (nW v), some (nW u), some (.ref t1.length), some (nW a)]) (s := t3) (dVar_ok (i := 4) rfl) (dVar_ok (i := 3) rfl) (vInD_ok pd e3))
      refine ⟨_, rfl, ⟨_, rfl⟩, fun q => ?_, fun q => ?_⟩
      · rw [q] at cd
        exact dIfS_t cd (dRet_ok (dVar_ok rfl))
      · rw [q] at cd
        exact dIfS_f cd rfl) [some (.ref n), some (nW v), some (nW u), some (.ref t1.length), none] ⟨_, rfl⟩ with ⟨B1, b0, B2, rfl, q1, q2, ρ', q3⟩ | ⟨q1, ρ', q2⟩
  · refine ⟨t3, some b0, dDef_rt (ρ' := ρ') (to s1 (out (dFor_ok it q3) rfl)), f3, k2.trans k3, fun b e => ?_, fun e => nomatch e⟩
    cases e
    refine ⟨B1, B2, rfl, ?_, fun a ha z => ?_⟩
    · have := (e4 b0).mp (by simpa using q1)
      simpa using this
    · have := q2 a ha
      simp only [decide_eq_false_iff_not] at this
      exact this ((e4 a).mpr (.inl z))
  · refine ⟨t3, none, dDef_rt (ρ' := ρ') (to s1 (to (dFor_ok it q2) rfl)), f3, k2.trans k3, fun b e => (nomatch e), fun _ a ha z => ?_⟩
    have := q1 a ha
    simp only [decide_eq_false_iff_not] at this
    exact this ((e4 a).mpr (.inl z))
end
end BL
namespace BM
theorem turnL_snoc : ∀ (A : List (Nat × Nat)) (p q b : Nat) (lk : Nat → Option Nat), turnL (A ++ [(p, q)]) b lk = upd (turnL A b lk) p (some (prevM b A))
  | [], _, _, _, _ => rfl
  | e :: A, p, q, b, lk => by
    show turnL (A ++ [(p, q)]) e.2 (upd lk e.1 (some b)) = _
    rw [turnL_snoc A, prevM_cons]
    rfl
theorem prevM_snoc (b : Nat) (A : List (Nat × Nat)) (p q : Nat) : prevM b (A ++ [(p, q)]) = q := by unfold prevM; rw [List.getLast?_append]; rfl
end BM
namespace BL
open PySem PySem.Spec PyProof.Rows L2 Y
theorem vNe_nat {i j : Nat} {t : Sto} : vEq true (nW i) (nW j) t = .ok (.d (.bool (!decide (i = j)))) t := by
  have := vNe_int (i := (i : Int)) (j := (j : Int)) (st := t)
  rw [this]
  congr 4
  rw [Bool.eq_iff_iff]
  simp
  omega
noncomputable def B_Forest_turn_links : DS :=
  (dWhile (fun ρ st => asB (dBin (vEq true) (dBin vIx (dAttr "Forest" "bases" (dVar 0)) (dVar 1)) (dVar 3) ρ st))
    (dSeq (dSet 5 (dBin vIx (dAttr "Forest" "mates" (dVar 0)) (dVar 1)))
    (dSeq (dPutD (dLit (.bool true)) (dVar 4) (dBin vIx (dAttr "Forest" "bases" (dVar 0)) (dVar 1)))
    (dSeq (dPutD (dLit (.bool true)) (dVar 4) (dBin vIx (dAttr "Forest" "bases" (dVar 0)) (dVar 5)))
    (dSeq (dSetIx (dVar 2) (dAttr "Forest" "links" (dVar 0)) (dVar 1))
    (dSeq (dSet 2 (dVar 5))
    (dSet 1 (dBin vIx (dAttr "Forest" "links" (dVar 0)) (dVar 5)))))))))
noncomputable def F_Forest_turn_links : Fn := dDef 6 B_Forest_turn_links
section
variable {m L M V n : Nat} {nb : Nat → List Nat} {μ : Nat → Option Nat} {wa : Nat → Bool} {s : BM.St} {found : List Nat} {t : Sto}
theorem FoS.setlk (h : FoS m L M V n nb μ wa s found t) (v w : Nat) : FoS m L M V n nb μ wa ⟨BM.upd s.lk v (some w), s.bs, s.ev⟩ found (t.set (n + 1) (olist m (BM.upd s.lk v (some w)))) := by
  have l := h.lo
  have hf := lt_of_get h.lk
  have k : ∀ {j : Nat} {o' : SO}, j ≠ n + 1 → t[j]? = some o' → (t.set (n + 1) (olist m (BM.upd s.lk v (some w))))[j]? = some o' := fun h1 q => by rw [List.getElem?_set_ne (by omega)]; exact q
  exact ⟨k (by omega) h.ob, ⟨k (by omega) h.rw.top, fun i hi => k (by omega) (h.rw.row i hi)⟩, k (by omega) h.mt, k (by omega) h.wt, List.getElem?_set_self hf, k (by omega) h.bs, k (by omega) h.ev, k (by omega) h.fd, h.lo⟩
/-- all but p is as it was -/
def Kq (n p : Nat) (t t' : Sto) : Prop := t'.length = t.length ∧ ∀ i, i ≤ n ∨ n + 5 ≤ i → i ≠ p → t'[i]? = t[i]?
theorem Kq.set {n p i : Nat} {t t' : Sto} {o : SO} (h : Kq n p t t') (hi : i = p ∨ (n < i ∧ i < n + 5)) : Kq n p t (t'.set i o) :=
  ⟨by simpa using h.1, fun j hj hp => by rw [List.getElem?_set_ne (by omega)]; exact h.2 j hj hp⟩
theorem FoS.turn_links (h : FoS m L M V n nb μ wa s found t) {p : Nat} {kvs : List (Y.Ke × W)} {C : List Nat} (hp : n + 5 ≤ p) (pd : t[p]? = some (.dct kvs)) (ks : KS kvs C) {one behind base e : Nat} {S : List (Nat × Nat)} (w : BM.Wk μ s.lk one S e) (hb : ∀ q ∈ S, s.bs q.1 ≠ base) (he : s.bs e = base) (hm : ∀ y ∈ BM.flat S, y < m) (hem : e < m) (nd : (BM.flat S).Nodup) (hl : S.length ≤ 1000) (kl : kvs.length ≤ 10000) :
    ∃ t' kvs' C', F_Forest_turn_links [.ref n, nW one, nW behind, nW base, .ref p] t = .ok (.d .none) t' ∧ FoS m L M V n nb μ wa ⟨BM.turnL S behind s.lk, s.bs, s.ev⟩ found t' ∧ t'[p]? = some (.dct kvs') ∧ KS kvs' C' ∧ (∀ x, x ∈ C' ↔ x ∈ C ∨ ∃ q ∈ S, x = s.bs q.1 ∨ x = s.bs q.2) ∧ kvs'.length ≤ kvs.length + 2 * S.length ∧ Kq n p t t' := by
  obtain ⟨ρ', t', e1, e2, kvs', C', e3, e4, e5, e6, e7⟩ := while_ok (c := (fun ρ st => asB (dBin (vEq true) (dBin vIx (dAttr "Forest" "bases" (dVar 0)) (dVar 1)) (dVar 3) ρ st)))
    (body := (dSeq (dSet 5 (dBin vIx (dAttr "Forest" "mates" (dVar 0)) (dVar 1)))
    (dSeq (dPutD (dLit (.bool true)) (dVar 4) (dBin vIx (dAttr "Forest" "bases" (dVar 0)) (dVar 1)))
    (dSeq (dPutD (dLit (.bool true)) (dVar 4) (dBin vIx (dAttr "Forest" "bases" (dVar 0)) (dVar 5)))
    (dSeq (dSetIx (dVar 2) (dAttr "Forest" "links" (dVar 0)) (dVar 1))
    (dSeq (dSet 2 (dVar 5))
    (dSet 1 (dBin vIx (dAttr "Forest" "links" (dVar 0)) (dVar 5)))))))))
    (P := fun k ρ u => ∃ A T y x kvs' C', S = A ++ T ∧ ρ = [some (.ref n), some (nW y), some (nW (BM.prevM behind A)), some (nW base), some (.ref p), x] ∧ BM.Wk μ s.lk y T e ∧ FoS m L M V n nb μ wa ⟨BM.turnL A behind s.lk, s.bs, s.ev⟩ found u ∧ u[p]? = some (.dct kvs') ∧ KS kvs' C' ∧ (∀ x, x ∈ C' ↔ x ∈ C ∨ ∃ q ∈ A, x = s.bs q.1 ∨ x = s.bs q.2) ∧ kvs'.length ≤ kvs.length + 2 * A.length ∧ Kq n p t u ∧ k = T.length)
    (Q := fun ρ u => FoS m L M V n nb μ wa ⟨BM.turnL S behind s.lk, s.bs, s.ev⟩ found u ∧ ∃ kvs' C', u[p]? = some (.dct kvs') ∧ KS kvs' C' ∧ (∀ x, x ∈ C' ↔ x ∈ C ∨ ∃ q ∈ S, x = s.bs q.1 ∨ x = s.bs q.2) ∧ kvs'.length ≤ kvs.length + 2 * S.length ∧ Kq n p t u)
    (fun k ρ u hP => by
      obtain ⟨A, T, y, x, kvs', C', hS, rfl, g1, g2, g3, g4, g5, g6, g7, rfl⟩ := hP
      have cd : ∀ (hy : y < m), (fun ρ st => asB (dBin (vEq true) (dBin vIx (dAttr "Forest" "bases" (dVar 0)) (dVar 1)) (dVar 3) ρ st)) [some (.ref n), some (nW y), some (nW (BM.prevM behind A)), some (nW base), some (.ref p), x] u = .ok (!decide (s.bs y = base)) u := fun hy =>
        asB_ok (dBin_ok (dBin_ok (attr_ok (dVar_ok rfl) g2.ob fs_bases) (dVar_ok rfl) (nlist_get g2.bs hy)) (dVar_ok rfl) vNe_nat)
      cases g1 with
      | nil =>
        rw [List.append_nil] at hS
        subst hS
        refine .inl ⟨u, (cd hem).trans (by rw [he]; simp), g2, kvs', C', g3, g4, g5, g6, g7⟩
      | @cons _ mt p' _ T' h0 h1 h2 =>
        have hy : y < m := hm y (by rw [hS, BM.flat_app, BM.flat_cons]; simp)
        have hmt : mt < m := hm mt (by rw [hS, BM.flat_app, BM.flat_cons]; simp)
        have hlen : A.length + 1 ≤ S.length := by rw [hS]; simp
        have c1 := cd hy
        have by' : s.bs y ≠ base := hb (y, mt) (by rw [hS]; simp)
        rw [decide_eq_false by'] at c1
        have s1 : dSet 5 (dBin vIx (dAttr "Forest" "mates" (dVar 0)) (dVar 1)) [some (.ref n), some (nW y), some (nW (BM.prevM behind A)), some (nW base), some (.ref p), x] u = .ok (.nx, [some (.ref n), some (nW y), some (nW (BM.prevM behind A)), some (nW base), some (.ref p), some (nW mt)]) u := by
          have := dBin_ok (G := vIx) (attr_ok (f := "mates") (fo := dVar 0) (ρ := [some (.ref n), some (nW y), some (nW (BM.prevM behind A)), some (nW base), some (.ref p), x]) (dVar_ok rfl) g2.ob fs_mates) (dVar_ok (i := 1) rfl) (olist_get g2.mt hy)
          rw [h0] at this
          exact dSet_ok (i := 5) this
        have l1 := put_len kvs' (.inl (s.bs y : Int)) (.d (.bool true))
        have s2 := putD_ok (fe := dLit (.bool true)) (fo := dVar 4) (fi := dBin vIx (dAttr "Forest" "bases" (dVar 0)) (dVar 1)) (ρ := [some (.ref n), some (nW y), some (nW (BM.prevM behind A)), some (nW base), some (.ref p), some (nW mt)]) (t := u) rfl (dVar_ok rfl) (dBin_ok (attr_ok (dVar_ok rfl) g2.ob fs_bases) (dVar_ok rfl) (nlist_get g2.bs hy)) g3 (by omega)
        have g2' := g2.past hp (.dct (putW kvs' (.inl (s.bs y : Int)) (.d (.bool true))))
        have hpl : p < u.length := lt_of_get g3
        have g3' : (u.set p (.dct (putW kvs' (.inl (s.bs y : Int)) (.d (.bool true)))))[p]? = some (.dct (putW kvs' (.inl (s.bs y : Int)) (.d (.bool true)))) := List.getElem?_set_self hpl
        have k2 := Kq.set (o := .dct (putW kvs' (.inl (s.bs y : Int)) (.d (.bool true)))) g7 (.inl rfl)
        generalize hu1 : u.set p (.dct (putW kvs' (.inl (s.bs y : Int)) (.d (.bool true)))) = u1 at s2 g2' g3' k2
        have l2 := put_len (putW kvs' (.inl (s.bs y : Int)) (.d (.bool true))) (.inl (s.bs mt : Int)) (.d (.bool true))
        have s3 := putD_ok (fe := dLit (.bool true)) (fo := dVar 4) (fi := dBin vIx (dAttr "Forest" "bases" (dVar 0)) (dVar 5)) (ρ := [some (.ref n), some (nW y), some (nW (BM.prevM behind A)), some (nW base), some (.ref p), some (nW mt)]) (t := u1) rfl (dVar_ok rfl) (dBin_ok (attr_ok (dVar_ok rfl) g2'.ob fs_bases) (dVar_ok rfl) (nlist_get g2'.bs hmt)) g3' (by omega)
        have q2 := g2'.past hp (.dct (putW (putW kvs' (.inl (s.bs y : Int)) (.d (.bool true))) (.inl (s.bs mt : Int)) (.d (.bool true))))
        have hpl1 : p < u1.length := lt_of_get g3'
        have q3 : (u1.set p (.dct (putW (putW kvs' (.inl (s.bs y : Int)) (.d (.bool true))) (.inl (s.bs mt : Int)) (.d (.bool true)))))[p]? = some (.dct (putW (putW kvs' (.inl (s.bs y : Int)) (.d (.bool true))) (.inl (s.bs mt : Int)) (.d (.bool true)))) := List.getElem?_set_self hpl1
        have k3 := Kq.set (o := .dct (putW (putW kvs' (.inl (s.bs y : Int)) (.d (.bool true))) (.inl (s.bs mt : Int)) (.d (.bool true)))) k2 (.inl rfl)
        generalize hu2 : u1.set p (.dct (putW (putW kvs' (.inl (s.bs y : Int)) (.d (.bool true))) (.inl (s.bs mt : Int)) (.d (.bool true)))) = u2 at s3 q2 q3 k3
        have s4 : dSetIx (dVar 2) (dAttr "Forest" "links" (dVar 0)) (dVar 1) [some (.ref n), some (nW y), some (nW (BM.prevM behind A)), some (nW base), some (.ref p), some (nW mt)] u2 = .ok (.nx, [some (.ref n), some (nW y), some (nW (BM.prevM behind A)), some (nW base), some (.ref p), some (nW mt)]) (u2.set (n + 1) (olist m (BM.upd (BM.turnL A behind s.lk) y (some (BM.prevM behind A))))) := by
          have := setIx_ok (fe := dVar 2) (fo := dAttr "Forest" "links" (dVar 0)) (fi := dVar 1) (ρ := [some (.ref n), some (nW y), some (nW (BM.prevM behind A)), some (nW base), some (.ref p), some (nW mt)]) (s := u2) (dVar_ok rfl) (attr_ok (dVar_ok rfl) q2.ob fs_links) (dVar_ok rfl) q2.lk (by simpa using hy)
          rw [this]
          have ms := map_set (m := m) (g := nW) (G := oW) (f := BM.turnL A behind s.lk) (v := y) (some (BM.prevM behind A))
          exact congrArg (fun l => R.ok (Fl.nx, [some (W.ref n), some (nW y), some (nW (BM.prevM behind A)), some (nW base), some (W.ref p), some (nW mt)]) (u2.set (n + 1) (SO.lst l))) ms
        have q4 := q2.setlk y (BM.prevM behind A)
        have k4 := Kq.set (i := n + 1) (o := olist m (BM.upd (BM.turnL A behind s.lk) y (some (BM.prevM behind A)))) k3 (.inr (by omega))
        have q5 : (u2.set (n + 1) (olist m (BM.upd (BM.turnL A behind s.lk) y (some (BM.prevM behind A)))))[p]? = some (.dct (putW (putW kvs' (.inl (s.bs y : Int)) (.d (.bool true))) (.inl (s.bs mt : Int)) (.d (.bool true)))) := by rw [List.getElem?_set_ne (by omega)]; exact q3
        generalize hu3 : u2.set (n + 1) (olist m (BM.upd (BM.turnL A behind s.lk) y (some (BM.prevM behind A)))) = u3 at s4 q4 q5 k4
        -- the mate's own link is not turned
        have lmt : BM.upd (BM.turnL A behind s.lk) y (some (BM.prevM behind A)) mt = some p' := by
          have inS : (y, mt) ∈ S := by rw [hS]; simp
          rw [BM.upd_ne (fun z => BM.flat_ne nd inS inS z), BM.turnL_out (fun z => ?_)]
          · exact h1
          · obtain ⟨q, hq, e2⟩ := List.mem_map.mp z
            exact BM.flat_ne nd inS (show q ∈ S by rw [hS]; exact List.mem_append_left _ hq) e2.symm
        have s6 : dSet 1 (dBin vIx (dAttr "Forest" "links" (dVar 0)) (dVar 5)) [some (.ref n), some (nW y), some (nW mt), some (nW base), some (.ref p), some (nW mt)] u3 = .ok (.nx, [some (.ref n), some (nW p'), some (nW mt), some (nW base), some (.ref p), some (nW mt)]) u3 := by
          have := dBin_ok (G := vIx) (attr_ok (f := "links") (fo := dVar 0) (ρ := [some (.ref n), some (nW y), some (nW mt), some (nW base), some (.ref p), some (nW mt)]) (dVar_ok rfl) q4.ob fs_links) (dVar_ok (i := 5) rfl) (olist_get q4.lk hmt)
          exact dSet_ok (i := 1) (this.trans (congrArg (fun o => R.ok (oW o) u3) lmt))
        refine .inr ⟨u, _, u3, T'.length, c1, to s1 (to s2 (to s3 (to s4 (to (dSet_ok (i := 2) (dVar_ok rfl)) s6)))), by simp, A ++ [(y, mt)], T', p', some (nW mt), _, _, by rw [hS]; simp, by rw [BM.prevM_snoc], h2, by rw [BM.turnL_snoc]; exact q4, q5, (g4.put (s.bs y) _).put (s.bs mt) _, fun x => ?_, by rw [List.length_append, List.length_singleton]; omega, k4, rfl⟩
        rw [List.mem_cons, List.mem_cons, g5 x]
        constructor
        · rintro (z | z | z | ⟨q, hq, z⟩)
          · exact .inr ⟨(y, mt), by simp, .inr z⟩
          · exact .inr ⟨(y, mt), by simp, .inl z⟩
          · exact .inl z
          · exact .inr ⟨q, List.mem_append_left _ hq, z⟩
        · rintro (z | ⟨q, hq, z⟩)
          · exact .inr (.inr (.inl z))
          · rcases List.mem_append.mp hq with hq | hq
            · exact .inr (.inr (.inr ⟨q, hq, z⟩))
            · rw [List.mem_singleton.mp hq] at z
              rcases z with z | z
              · exact .inr (.inl z)
              · exact .inl z)
    S.length [some (.ref n), some (nW one), some (nW behind), some (nW base), some (.ref p), none] t ⟨[], S, one, none, kvs, C, rfl, rfl, w, h, pd, ks, fun x => by simp, by simp, ⟨rfl, fun _ _ _ => rfl⟩, rfl⟩
  exact ⟨t', kvs', C', dDef_nx e1, e2, e3, e4, e5, e6, e7⟩
end
end BL
namespace BL
open PySem PySem.Spec PyProof.Rows L2 Y
theorem pairs_range {m : Nat} {f : Nat → Nat} : pairs 0 ((List.range m).map fun i => nI (f i)) = (List.range m).map fun i => W.d (.tuple [nI i, nI (f i)]) := by
  apply List.ext_getElem?
  intro j
  rw [pairs_get, List.getElem?_map, List.getElem?_map]
  by_cases h : j < m
  · rw [List.getElem?_range h]
    simp
  · rw [List.getElem?_eq_none (by simpa using h)]
    rfl
noncomputable def B_Forest_close_ring : DS :=
  (dSeq (dSet 4 dNewD)
    (dSeq (dExpr (dMeC "Forest" "turn_links" 5 F_Forest_turn_links (dVar 0) (dCons (dVar 1) (dCons (dVar 2) (dCons (dVar 3) (dCons (dVar 4) dNil))))))
    (dSeq (dExpr (dMeC "Forest" "turn_links" 5 F_Forest_turn_links (dVar 0) (dCons (dVar 2) (dCons (dVar 1) (dCons (dVar 3) (dCons (dVar 4) dNil))))))
    (dFor (dEnum (dCall gListOf (dCons (dAttr "Forest" "bases" (dVar 0)) dNil))) (tTup' 2 (tCons' (tName 5) (tCons' (tName 6) tNil')))
    (dIfS (fun ρ st => asB (dBin (vInD false) (dVar 6) (dVar 4) ρ st))
    (dSeq (dSetIx (dVar 3) (dAttr "Forest" "bases" (dVar 0)) (dVar 5))
    (dIfS (dNot (fun ρ st => asB ((dBin vIx (dAttr "Forest" "evenly" (dVar 0)) (dVar 5)) ρ st)))
    (dExpr (dMeC "Forest" "reach" 2 F_Forest_reach (dVar 0) (dCons (dVar 5) dNil)))
    dEnd))
    dEnd)))))
noncomputable def F_Forest_close_ring : Fn := dDef 7 B_Forest_close_ring
section
variable {m L M V n : Nat} {nb : Nat → List Nat} {μ : Nat → Option Nat} {wa : Nat → Bool} {s : BM.St} {found : List Nat} {t : Sto}
theorem FoS.setbs (h : FoS m L M V n nb μ wa s found t) (v w : Nat) : FoS m L M V n nb μ wa ⟨s.lk, BM.upd s.bs v w, s.ev⟩ found (t.set (n + 2) (nlist m (BM.upd s.bs v w))) := by
  have l := h.lo
  have hf := lt_of_get h.bs
  have k : ∀ {j : Nat} {o' : SO}, j ≠ n + 2 → t[j]? = some o' → (t.set (n + 2) (nlist m (BM.upd s.bs v w)))[j]? = some o' := fun h1 q => by rw [List.getElem?_set_ne (by omega)]; exact q
  exact ⟨k (by omega) h.ob, ⟨k (by omega) h.rw.top, fun i hi => k (by omega) (h.rw.row i hi)⟩, k (by omega) h.mt, k (by omega) h.wt, k (by omega) h.lk, List.getElem?_set_self hf, k (by omega) h.ev, k (by omega) h.fd, h.lo⟩
theorem FoS.eqS {s' : BM.St} (h : FoS m L M V n nb μ wa s found t) (e1 : s'.lk = s.lk) (e2 : s'.bs = s.bs) (e3 : s'.ev = s.ev) : FoS m L M V n nb μ wa s' found t := by
  obtain ⟨a, b, c⟩ := s
  obtain ⟨a', b', c'⟩ := s'
  dsimp only at e1 e2 e3
  subst e1 e2 e3
  exact h
/-- what a closing makes of bases and of who is reached, behind some people -/
def bsC (pre : List Nat) (C : List Nat) (b0 : Nat) (s : BM.St) (v : Nat) : Nat := if decide (v ∈ pre) && decide (s.bs v ∈ C) then b0 else s.bs v
def evC (pre : List Nat) (C : List Nat) (s : BM.St) (v : Nat) : Bool := s.ev v || (decide (v ∈ pre) && decide (s.bs v ∈ C))
def newC (pre : List Nat) (C : List Nat) (s : BM.St) : List Nat := pre.filter fun v => !s.ev v && decide (s.bs v ∈ C)
theorem FoS.closing (h : FoS m L M V n nb μ wa s found t) {p : Nat} {kvs : List (Y.Ke × W)} {C : List Nat} (hp : n + 5 ≤ p) (pd : t[p]? = some (.dct kvs)) (ks : KS kvs C) {a b0 : Nat} {x1 x2 : W} (hfl : found.length + m ≤ 900) :
    ∃ ρ' t', dFor (dEnum (dCall gListOf (dCons (dAttr "Forest" "bases" (dVar 0)) dNil))) (tTup' 2 (tCons' (tName 5) (tCons' (tName 6) tNil')))
    (dIfS (fun ρ st => asB (dBin (vInD false) (dVar 6) (dVar 4) ρ st))
    (dSeq (dSetIx (dVar 3) (dAttr "Forest" "bases" (dVar 0)) (dVar 5))
    (dIfS (dNot (fun ρ st => asB ((dBin vIx (dAttr "Forest" "evenly" (dVar 0)) (dVar 5)) ρ st)))
    (dExpr (dMeC "Forest" "reach" 2 F_Forest_reach (dVar 0) (dCons (dVar 5) dNil)))
    dEnd))
    dEnd) [some (.ref n), some x1, some x2, some (nW b0), some (.ref p), none, none] t = .ok (.nx, ρ') t' ∧ FoS m L M V n nb μ wa ⟨s.lk, bsC (List.range m) C b0 s, evC (List.range m) C s⟩ (found ++ newC (List.range m) C s) t' ∧ Kp n t t' := by
  obtain ⟨ρ', t', e1, _, e2, e3⟩ := forL_ok (tg := tTup' 2 (tCons' (tName 5) (tCons' (tName 6) tNil'))) (body := (dIfS (fun ρ st => asB (dBin (vInD false) (dVar 6) (dVar 4) ρ st))
    (dSeq (dSetIx (dVar 3) (dAttr "Forest" "bases" (dVar 0)) (dVar 5))
    (dIfS (dNot (fun ρ st => asB ((dBin vIx (dAttr "Forest" "evenly" (dVar 0)) (dVar 5)) ρ st)))
    (dExpr (dMeC "Forest" "reach" 2 F_Forest_reach (dVar 0) (dCons (dVar 5) dNil)))
    dEnd))
    dEnd)) (emb := fun i => W.d (.tuple [nI i, nI (s.bs i)]))
    (P := fun pre ρ u => (∃ x y, ρ = [some (.ref n), some x1, some x2, some (nW b0), some (.ref p), x, y]) ∧ FoS m L M V n nb μ wa ⟨s.lk, bsC pre C b0 s, evC pre C s⟩ (found ++ newC pre C s) u ∧ Kp n t u) (List.range m)
    (fun pre i post ρ u ea hP => by
      obtain ⟨⟨x, y, rfl⟩, g1, g2⟩ := hP
      have him : i < m := List.mem_range.mp (by rw [ea]; simp)
      have hip : i ∉ pre := fun z => by
        have nd := List.nodup_range (n := m)
        rw [ea] at nd
        exact (List.nodup_append.mp nd).2.2 i z i (by simp) rfl
      have hpl : pre.length < m := by
        have := congrArg List.length ea
        rw [List.length_range, List.length_append, List.length_cons] at this
        omega
      have hnl : (newC pre C s).length ≤ pre.length := List.length_filter_le _ _
      have pu : u[p]? = some (.dct kvs) := by rw [g2.2 p (lt_of_get pd) (.inr hp)]; exact pd
      have cd := asB_ok (dBin_ok (G := vInD false) (ρ := [some (.ref n), some x1, some x2, some (nW b0), some (.ref p), some (nW i), some (nW (s.bs i))]) (s := u) (dVar_ok (i := 6) rfl) (dVar_ok (i := 4) rfl) (vInD_ok pu ks))
      by_cases c : s.bs i ∈ C
      · rw [decide_eq_true c] at cd
        -- the base is put
        have ix : dSetIx (dVar 3) (dAttr "Forest" "bases" (dVar 0)) (dVar 5) [some (.ref n), some x1, some x2, some (nW b0), some (.ref p), some (nW i), some (nW (s.bs i))] u = .ok (.nx, [some (.ref n), some x1, some x2, some (nW b0), some (.ref p), some (nW i), some (nW (s.bs i))]) (u.set (n + 2) (nlist m (BM.upd (bsC pre C b0 s) i b0))) := by
          have := setIx_ok (fe := dVar 3) (fo := dAttr "Forest" "bases" (dVar 0)) (fi := dVar 5) (ρ := [some (.ref n), some x1, some x2, some (nW b0), some (.ref p), some (nW i), some (nW (s.bs i))]) (s := u) (dVar_ok rfl) (attr_ok (dVar_ok rfl) g1.ob fs_bases) (dVar_ok rfl) g1.bs (by simpa using him)
          rw [this]
          have ms := map_set (m := m) (g := nW) (G := nW) (f := bsC pre C b0 s) (v := i) b0
          exact congrArg (fun l => R.ok (Fl.nx, [some (W.ref n), some x1, some x2, some (nW b0), some (W.ref p), some (nW i), some (nW (s.bs i))]) (u.set (n + 2) (SO.lst l))) ms
        have q1 := g1.setbs i b0
        have eb : BM.upd (bsC pre C b0 s) i b0 = bsC (pre ++ [i]) C b0 s := by
          funext v
          by_cases e : v = i
          · subst e
            rw [BM.upd_eq]
            unfold bsC
            simp [c]
          · rw [BM.upd_ne e]
            unfold bsC
            simp [e]
        have kp1 : Kp n t (u.set (n + 2) (nlist m (BM.upd (bsC pre C b0 s) i b0))) := g2.trans (Kp.set (by omega) (by omega))
        have evi : evC pre C s i = s.ev i := by unfold evC; simp [hip]
        generalize hu : u.set (n + 2) (nlist m (BM.upd (bsC pre C b0 s) i b0)) = u1 at ix q1 kp1
        have ce := asB_ok (dBin_ok (G := vIx) (attr_ok (f := "evenly") (fo := dVar 0) (ρ := [some (.ref n), some x1, some x2, some (nW b0), some (.ref p), some (nW i), some (nW (s.bs i))]) (dVar_ok rfl) q1.ob fs_evenly) (dVar_ok (i := 5) rfl) (bools_get q1.ev him))
        have ce2 : (fun ρ st => asB ((dBin vIx (dAttr "Forest" "evenly" (dVar 0)) (dVar 5)) ρ st)) [some (.ref n), some x1, some x2, some (nW b0), some (.ref p), some (nW i), some (nW (s.bs i))] u1 = .ok (s.ev i) u1 := ce.trans (congrArg (fun b => R.ok b u1) evi)
        by_cases e : s.ev i = true
        · refine ⟨_, u, _, u1, rfl, dIfS_t cd (to ix (dIfS_f ?_ rfl)), ⟨_, _, rfl⟩, ?_, kp1⟩
          · exact (dNot_ok (t := fun ρ st => asB ((dBin vIx (dAttr "Forest" "evenly" (dVar 0)) (dVar 5)) ρ st)) (ρ := [some (.ref n), some x1, some x2, some (nW b0), some (.ref p), some (nW i), some (nW (s.bs i))]) (s := u1) ce2).trans (by rw [e]; rfl)
          · have ef : evC (pre ++ [i]) C s = evC pre C s := by
              funext v
              by_cases z : v = i
              · subst z; unfold evC; rw [e]; simp
              · unfold evC; simp [z]
            have en : newC (pre ++ [i]) C s = newC pre C s := by unfold newC; rw [List.filter_append]; simp [e]
            rw [en]
            exact q1.eqS rfl eb.symm ef
        · have e' : s.ev i = false := by simpa using e
          obtain ⟨u2, r1, r2, r3⟩ := q1.reach him (by rw [List.length_append]; omega)
          refine ⟨_, u, _, u2, rfl, dIfS_t cd (to ix (dIfS_t ?_ (dExpr_ok (mec_ok (f := "reach") (dVar_ok rfl) q1.ob (by rfl) (dCons1_ok (dVar_ok rfl)) rfl r1)))), ⟨_, _, rfl⟩, ?_, kp1.trans r3⟩
          · exact (dNot_ok (t := fun ρ st => asB ((dBin vIx (dAttr "Forest" "evenly" (dVar 0)) (dVar 5)) ρ st)) (ρ := [some (.ref n), some x1, some x2, some (nW b0), some (.ref p), some (nW i), some (nW (s.bs i))]) (s := u1) ce2).trans (by rw [e']; rfl)
          · have ef : evC (pre ++ [i]) C s = BM.upd (evC pre C s) i true := by
              funext v
              by_cases z : v = i
              · subst z; rw [BM.upd_eq]; unfold evC; simp [c]
              · rw [BM.upd_ne z]; unfold evC; simp [z]
            have en : newC (pre ++ [i]) C s = newC pre C s ++ [i] := by unfold newC; rw [List.filter_append]; simp [e', c]
            rw [en, ← List.append_assoc]
            exact r2.eqS rfl eb.symm ef
      · rw [decide_eq_false c] at cd
        refine ⟨_, u, _, u, rfl, dIfS_f cd rfl, ⟨_, _, rfl⟩, ?_, g2⟩
        have eb : bsC (pre ++ [i]) C b0 s = bsC pre C b0 s := by
          funext v
          by_cases z : v = i
          · subst z; unfold bsC; simp [c]
          · unfold bsC; simp [z]
        have ef : evC (pre ++ [i]) C s = evC pre C s := by
          funext v
          by_cases z : v = i
          · subst z; unfold evC; simp [c]
          · unfold evC; simp [z]
        have en : newC (pre ++ [i]) C s = newC pre C s := by unfold newC; rw [List.filter_append]; simp [c]
        rw [en]
        exact g1.eqS rfl eb ef)
    (ρ := [some (.ref n), some x1, some x2, some (nW b0), some (.ref p), none, none]) (s := t) ⟨⟨_, _, rfl⟩, by
      have : newC [] C s = [] := rfl
      rw [this, List.append_nil]
      exact h.eqS rfl (by funext v; unfold bsC; simp) (by funext v; unfold evC; simp), Kp.refl⟩
  refine ⟨ρ', t', dFor_ok (ws := (List.range m).map fun i => W.d (.tuple [nI i, nI (s.bs i)])) (s1 := t) ?_ e1, e2, e3⟩
  unfold dEnum
  have gl : dCall gListOf (dCons (dAttr "Forest" "bases" (dVar 0)) dNil) [some (.ref n), some x1, some x2, some (nW b0), some (.ref p), none, none] t = .ok (.d (.list ((List.range m).map fun i => nI (s.bs i)))) t := by
    refine dCall_ok (dCons1_ok (attr_ok (dVar_ok rfl) h.ob fs_bases)) ?_
    have al := allD_nats ((List.range m).map s.bs)
    rw [List.map_map, List.map_map] at al
    have al : allD ((List.range m).map fun i => nW (s.bs i)) = some ((List.range m).map fun i => nI (s.bs i)) := al
    unfold gListOf
    simp only [asD, h.bs, al, Option.map_some]
  rw [gl, R.bind_ok]
  dsimp only
  rw [pairs_range]
end
end BL
namespace BM
theorem turnL_vals : ∀ {X : List (Nat × Nat)} {b : Nat} {lk : Nat → Option Nat} {x y : Nat}, turnL X b lk x = some y → lk x = some y ∨ y = b ∨ ∃ q ∈ X, y = q.2
  | [], _, _, _, _, h => .inl h
  | (p, q) :: X, b, lk, x, y, h => by
    have h : turnL X q (upd lk p (some b)) x = some y := h
    rcases turnL_vals h with z | z | ⟨w, hw, z⟩
    · by_cases e : x = p
      · rw [e, upd_eq] at z; cases z; exact .inr (.inl rfl)
      · rw [upd_ne e] at z; exact .inl z
    · exact .inr (.inr ⟨(p, q), List.mem_cons_self, z⟩)
    · exact .inr (.inr ⟨w, List.mem_cons_of_mem _ hw, z⟩)
theorem Wk.same {μ lk lk' : Nat → Option Nat} {v e : Nat} {S : List (Nat × Nat)} (h : Wk μ lk v S e) (k : ∀ q ∈ S, lk' q.2 = lk q.2) : Wk μ lk' v S e := by
  induction h with
  | nil => exact .nil
  | cons h1 h2 _ ih => exact .cons h1 ((k _ List.mem_cons_self).trans h2) (ih fun q hq => k q (List.mem_cons_of_mem _ hq))
theorem Wk.lt {μ lk : Nat → Option Nat} {v e m : Nat} {S : List (Nat × Nat)} (h : Wk μ lk v S e) (hv : v < m) (k : ∀ x y, lk x = some y → y < m) : e < m := by
  induction h with
  | nil => exact hv
  | cons _ h2 _ ih => exact ih (k _ _ h2)
structure Bd (m : Nat) (μ : Nat → Option Nat) (s : St) : Prop where
  mu : ∀ x y, μ x = some y → x < m ∧ y < m
  ev : ∀ v, s.ev v = true → v < m
  bs : ∀ v, v < m → s.bs v < m
  lk : ∀ x y, s.lk x = some y → y < m
end BM
namespace BL
open PySem PySem.Spec PyProof.Rows L2 Y
section
variable {m L M V n : Nat} {nb : Nat → List Nat} {μ : Nat → Option Nat} {wa : Nat → Bool} {s : BM.St} {found : List Nat} {t : Sto} {adj : Nat → Nat → Prop} {rt : Nat → Prop}
theorem FoS.close_ring (h : FoS m L M V n nb μ wa s found t) (F : BM.Fo adj μ rt s found) (bd : BM.Bd m μ s) (hm : m ≤ 400) {one other b0 : Nat} (sy : ∀ u v, adj u v → adj v u) (v1 : s.ev one = true) (v2 : s.ev other = true) (a : adj one other) (ne : one ≠ other) (a1 : BM.Anc μ s (s.bs one) b0) (a2 : BM.Anc μ s (s.bs other) b0)
    (mm : ∀ b, BM.Anc μ s (s.bs one) b → BM.Anc μ s (s.bs other) b → BM.Anc μ s b0 b) :
    ∃ t' s' found', F_Forest_close_ring [.ref n, nW one, nW other, nW b0] t = .ok (.d .none) t' ∧ FoS m L M V n nb μ wa s' found' t' ∧ BM.Fo adj μ rt s' found' ∧ BM.Bd m μ s' ∧ Kp n t t' ∧ (∃ new, found' = found ++ new) ∧ ∀ done, BM.Sc s done → BM.Sc s' (fun v q => done v q ∨ (v = one ∧ q = other)) := by
  have I := F.inv
  obtain ⟨S1, T1, r1, S2, T2, r2, e1, e2, R, w1, x1, w2, x2⟩ := I.ring sy v1 v2 a a1 a2 mm
  have hn := h.len
  have one_lt := bd.ev _ v1
  have other_lt := bd.ev _ v2
  have fl1 : ∀ y ∈ BM.flat S1, y < m := fun y hy => by
    obtain ⟨q, hq, z⟩ := BM.mem_flat.mp hy
    have := bd.mu _ _ (R.evp I hq).2.2.1
    rcases z with rfl | rfl
    · exact this.1
    · exact this.2
  have fl2 : ∀ y ∈ BM.flat S2, y < m := fun y hy => by
    obtain ⟨q, hq, z⟩ := BM.mem_flat.mp hy
    have := bd.mu _ _ (R.swap.evp I hq).2.2.1
    rcases z with rfl | rfl
    · exact this.1
    · exact this.2
  have len : ∀ {S : List (Nat × Nat)}, (BM.flat S).Nodup → (∀ y ∈ BM.flat S, y < m) → S.length ≤ 1000 := fun {S} nd hl => by
    have h1 : ((S.map (·.1)).length) ≤ m := nodup_lt (BM.fst_nodup I nd) fun v hv => by
      obtain ⟨q, hq, rfl⟩ := List.mem_map.mp hv
      exact hl _ (BM.fst_flat hq)
    rw [List.length_map] at h1
    omega
  have l1 := len (R.nd1 I) fl1
  have l2 := len (R.swap.nd1 I) fl2
  have he1 := w1.lt one_lt bd.lk
  have he2 := w2.lt other_lt bd.lk
  have b0_lt : b0 < m := by rw [← x1]; exact bd.bs _ he1
  -- the dict, both sides
  have h0 := h.app [SO.dct []]
  have p0 : (t ++ [SO.dct []])[t.length]? = some (.dct []) := by simp
  obtain ⟨t1, kv1, C1, f1, g1, pd1, ks1, c1, kl1, kq1⟩ := h0.turn_links (behind := other) (p := t.length) hn p0 KS.nil w1 (fun q hq => (R.c1 q hq).1) x1 fl1 he1 (R.nd1 I) l1 (by simp)
  have w2' : BM.Wk μ (BM.turnL S1 other s.lk) other S2 e2 := w2.same fun q hq => BM.turnL_out fun z => by
    obtain ⟨q', hq', e⟩ := List.mem_map.mp z
    exact R.d12 I (BM.fst_flat hq') (by rw [e]; exact BM.snd_flat hq)
  obtain ⟨t2, kv2, C2, f2, g2, pd2, ks2, c2, kl2, kq2⟩ := g1.turn_links (behind := one) (p := t.length) hn pd1 ks1 w2' (fun q hq => (R.c2 q hq).1) x2 fl2 he2 (R.swap.nd1 I) l2 (by simp at kl1; omega)
  have hf : found.length ≤ m := nodup_lt F.nd fun v hv => bd.ev v ((F.fnd v).mpr hv)
  obtain ⟨ρ', t3, f3, g3, kp3⟩ := g2.closing (a := 0) (b0 := b0) (x1 := nW one) (x2 := nW other) hn pd2 ks2 (by omega)
  have kp2 : Kp n t t2 := by
    refine ⟨by rw [kq2.1, kq1.1]; simp, fun i hi hc => ?_⟩
    rw [kq2.2 i hc (by omega), kq1.2 i hc (by omega), List.getElem?_append_left hi]
  have hC : ∀ x, x ∈ C2 ↔ BM.Cl s S1 S2 x := fun x => by
    rw [c2 x, c1 x]
    unfold BM.Cl
    constructor
    · rintro ((z | ⟨q, hq, z⟩) | ⟨q, hq, z⟩)
      · cases z
      · exact ⟨q, List.mem_append_left _ hq, z⟩
      · exact ⟨q, List.mem_append_right _ hq, z⟩
    · rintro ⟨q, hq, z⟩
      rcases List.mem_append.mp hq with hq | hq
      · exact .inl (.inr ⟨q, hq, z⟩)
      · exact .inr ⟨q, hq, z⟩
  have cl_lt : ∀ v, BM.Cl s S1 S2 (s.bs v) → v < m := fun v c => Classical.byContradiction fun no => by
    have ef : s.ev v = false := by
      rw [← Bool.not_eq_true]
      exact fun z => no (bd.ev v z)
    rw [I.i0 v ef] at c
    obtain ⟨q, hq⟩ := R.closed_odd I c ef
    rcases hq with hq | hq
    · exact no (fl1 v (BM.snd_flat hq))
    · exact no (fl2 v (BM.snd_flat hq))
  have hb : ∀ v, (BM.Cl s S1 S2 (s.bs v) → bsC (List.range m) C2 b0 s v = b0) ∧ (¬ BM.Cl s S1 S2 (s.bs v) → bsC (List.range m) C2 b0 s v = s.bs v) := fun v => by
    unfold bsC
    constructor
    · intro c
      rw [if_pos]
      simp [cl_lt v c, (hC _).mpr c]
    · intro c
      rw [if_neg]
      simp only [Bool.and_eq_true, decide_eq_true_eq, not_and]
      exact fun _ z => c ((hC _).mp z)
  have he : ∀ v, evC (List.range m) C2 s v = true ↔ s.ev v = true ∨ BM.Cl s S1 S2 (s.bs v) := fun v => by
    unfold evC
    simp only [Bool.or_eq_true, Bool.and_eq_true, decide_eq_true_eq, List.mem_range, hC]
    exact ⟨fun z => z.imp id fun q => q.2, fun z => z.imp id fun q => ⟨cl_lt v q, q⟩⟩
  have hnew : ∀ v, v ∈ newC (List.range m) C2 s ↔ s.ev v = false ∧ BM.Cl s S1 S2 (s.bs v) := fun v => by
    unfold newC
    simp only [List.mem_filter, List.mem_range, Bool.and_eq_true, Bool.not_eq_true', decide_eq_true_eq, hC]
    exact ⟨fun z => z.2, fun z => ⟨cl_lt v z.2, z⟩⟩
  refine ⟨t3, _, _, ?_, g3, F.ring R hb he ((List.nodup_range).filter _) hnew, ⟨bd.mu, fun v hv => ?_, fun v hv => ?_, fun x y hxy => ?_⟩, kp2.trans kp3, ⟨_, rfl⟩, fun done sc => F.ring_sc R hb he sc ne⟩
  · have o1 := h0.ob
    have q1 := dExpr_ok (mec_ok (f := "turn_links") (k := 5) (F := F_Forest_turn_links) (fo := dVar 0) (fa := (dCons (dVar 1) (dCons (dVar 2) (dCons (dVar 3) (dCons (dVar 4) dNil))))) (ρ := [some (.ref n), some (nW one), some (nW other), some (nW b0), some (.ref t.length), none, none]) (dVar_ok rfl) o1 (by rfl) (dCons_ok (dVar_ok rfl) (dCons_ok (dVar_ok rfl) (dCons_ok (dVar_ok rfl) (dCons1_ok (dVar_ok rfl))))) rfl f1)
    have q2 := dExpr_ok (mec_ok (f := "turn_links") (k := 5) (F := F_Forest_turn_links) (fo := dVar 0) (fa := (dCons (dVar 2) (dCons (dVar 1) (dCons (dVar 3) (dCons (dVar 4) dNil))))) (ρ := [some (.ref n), some (nW one), some (nW other), some (nW b0), some (.ref t.length), none, none]) (dVar_ok rfl) g1.ob (by rfl) (dCons_ok (dVar_ok rfl) (dCons_ok (dVar_ok rfl) (dCons_ok (dVar_ok rfl) (dCons1_ok (dVar_ok rfl))))) rfl f2)
    exact dDef_nx (to (dSet_ok (i := 4) (rfl : dNewD _ _ = _)) (to q1 (to q2 f3)))
  · rcases (he v).mp hv with z | z
    · exact bd.ev v z
    · exact cl_lt v z
  · show bsC (List.range m) C2 b0 s v < m
    unfold bsC
    split
    · exact b0_lt
    · exact bd.bs v hv
  · rcases BM.turnL_vals hxy with z | z | ⟨q, hq, z⟩
    · rcases BM.turnL_vals z with z | z | ⟨q, hq, z⟩
      · exact bd.lk _ _ z
      · rw [z]; exact other_lt
      · rw [z]; exact fl1 _ (BM.snd_flat hq)
    · rw [z]; exact one_lt
    · rw [z]; exact fl2 _ (BM.snd_flat hq)
end
end BL
namespace BM
theorem Ch.nodup {adj : Nat → Nat → Prop} {μ : Nat → Option Nat} {rk : Nat → Nat} {s : St} (I : Inv adj μ rk s) {b : Nat} {L : List Nat} (h : Ch μ s b L) : s.ev b = true → s.bs b = b → L.Nodup := by
  induction h with
  | nil _ => intro _ _; simp
  | @cons b o p L h1 h2 h3 ih =>
    intro e1 e2
    rcases I.i1 b e1 e2 with g | ⟨o', p', g1, _, g3, g4, _, g6⟩
    · rw [h1] at g; cases g
    · rw [h1] at g1; cases g1
      rw [h2] at g3; cases g3
      obtain ⟨q1, q2⟩ := I.i5 p g4
      refine List.nodup_cons.mpr ⟨fun z => ?_, ih q1 q2⟩
      have := (Anc.ev_rk I ((h3.mem b).mp z) q1 q2).2.2.1
      omega
/-- a way that is told -/
structure Grow (adj : Nat → Nat → Prop) (μ : Nat → Option Nat) (rt : Nat → Prop) (wa : Nat → Bool) (m : Nat) (w : List Nat) : Prop where
  ne : w ≠ []
  alt : Alt adj μ true w
  nd : w.Nodup
  rt : rt (headD w)
  hd : μ (headD w) = none
  lt : ∀ x ∈ w, x < m
  last : (w.length % 2 = 0 ∧ μ (lastD w) = none) ∨ (w.length % 2 = 1 ∧ wa (lastD w) = false)
end BM
namespace BL
open PySem PySem.Spec PyProof.Rows L2 Y
theorem vAdd_lists {a b : List PyData} {t : Sto} (h : a.length + b.length ≤ 1000000) : vAdd (.d (.list a)) (.d (.list b)) t = .ok (.d (.list (a ++ b))) t := by
  unfold vAdd
  first
    | rfl
    | exact chk_ok (by rw [sizeLine_eq]; omega)
    | simp [asD, chk, sizeLine_eq]
noncomputable def B_Forest_meet : DS :=
  (dSeq (dIfS (fun ρ st => asB (dBin (vEq false) (dBin vIx (dAttr "Forest" "bases" (dVar 0)) (dVar 1)) (dBin vIx (dAttr "Forest" "bases" (dVar 0)) (dVar 2)) ρ st))
    (dRet (dLit .none))
    dEnd)
    (dSeq (dSet 3 (dMeC "Forest" "meeting_base" 3 F_Forest_meeting_base (dVar 0) (dCons (dVar 1) (dCons (dVar 2) dNil))))
    (dSeq (dIfS (fun ρ st => asB (dBin (vIs false) (dVar 3) (dLit .none) ρ st))
    (dRet (dBin vAdd (dMeC "Forest" "way_to" 2 F_Forest_way_to (dVar 0) (dCons (dVar 1) dNil)) (dRev (dMeC "Forest" "way_to" 2 F_Forest_way_to (dVar 0) (dCons (dVar 2) dNil)))))
    dEnd)
    (dSeq (dExpr (dMeC "Forest" "close_ring" 4 F_Forest_close_ring (dVar 0) (dCons (dVar 1) (dCons (dVar 2) (dCons (dVar 3) dNil)))))
    (dRet (dLit .none))))))
noncomputable def F_Forest_meet : Fn := dDef 4 B_Forest_meet
section
variable {m L M V n : Nat} {nb : Nat → List Nat} {μ : Nat → Option Nat} {wa : Nat → Bool} {s : BM.St} {found : List Nat} {t : Sto} {adj : Nat → Nat → Prop} {rt : Nat → Prop}
theorem verts_lt (F : BM.Fo adj μ rt s found) (bd : BM.Bd m μ s) {v r : Nat} {S : List (Nat × Nat)} (p : BM.Pth μ s.lk v S r) (hv : s.ev v = true) : ∀ y ∈ BM.verts S r, y < m := fun y hy => by
  obtain ⟨b, _, k | ⟨_, k, _⟩⟩ := BM.path_K F.inv p hv y hy
  · exact bd.ev y k.1
  · exact (bd.mu _ _ k).1
theorem root_of (F : BM.Fo adj μ rt s found) {v r : Nat} {S : List (Nat × Nat)} (p : BM.Pth μ s.lk v S r) (hv : s.ev v = true) : rt r := F.rt r (BM.path_ev F.inv p hv).2.1 p.mates.2
theorem FoS.meet (h : FoS m L M V n nb μ wa s found t) (F : BM.Fo adj μ rt s found) (bd : BM.Bd m μ s) (hm : m ≤ 400) {one other : Nat} (sy : ∀ u v, adj u v → adj v u) (v1 : s.ev one = true) (v2 : s.ev other = true) (a : adj one other) (ne : one ≠ other) :
    (∃ t' w, F_Forest_meet [.ref n, nW one, nW other] t = .ok (.d (.list (w.map nI))) t' ∧ Kp n t t' ∧ BM.Grow adj μ rt wa m w) ∨
    ∃ t' s' found', F_Forest_meet [.ref n, nW one, nW other] t = .ok (.d .none) t' ∧ FoS m L M V n nb μ wa s' found' t' ∧ BM.Fo adj μ rt s' found' ∧ BM.Bd m μ s' ∧ Kp n t t' ∧ (∃ new, found' = found ++ new) ∧ ∀ done, BM.Sc s done → BM.Sc s' (fun v q => done v q ∨ (v = one ∧ q = other)) := by
  have I := F.inv
  have l1 := bd.ev _ v1
  have l2 := bd.ev _ v2
  have cd : (fun ρ st => asB (dBin (vEq false) (dBin vIx (dAttr "Forest" "bases" (dVar 0)) (dVar 1)) (dBin vIx (dAttr "Forest" "bases" (dVar 0)) (dVar 2)) ρ st)) [some (.ref n), some (nW one), some (nW other), none] t = .ok (decide (s.bs one = s.bs other)) t :=
    asB_ok (dBin_ok (dBin_ok (attr_ok (dVar_ok rfl) h.ob fs_bases) (dVar_ok rfl) (nlist_get h.bs l1)) (dBin_ok (attr_ok (dVar_ok rfl) h.ob fs_bases) (dVar_ok rfl) (nlist_get h.bs l2)) vEq_nat)
  by_cases e : s.bs one = s.bs other
  · rw [decide_eq_true e] at cd
    exact .inr ⟨t, s, found, dDef_rt (ρ' := [some (.ref n), some (nW one), some (nW other), none]) (out (dIfS_t cd (dRet_ok rfl)) rfl), h, F, bd, Kp.refl, ⟨[], by simp⟩, fun done sc => sc.add v1 ne (.inl ⟨v2, e.symm⟩)⟩
  · rw [decide_eq_false e] at cd
    obtain ⟨b1, b2⟩ := I.i5 _ v1
    obtain ⟨c1, c2⟩ := I.i5 _ v2
    obtain ⟨A, hA⟩ := BM.Ch.ex I _ _ (Nat.le_refl _) b1 b2
    obtain ⟨B, hB⟩ := BM.Ch.ex I _ _ (Nat.le_refl _) c1 c2
    have ltA : ∀ y ∈ A, y < m := fun y hy => bd.ev y (BM.Anc.ev_rk I ((hA.mem y).mp hy) b1 b2).1
    have ltB : ∀ y ∈ B, y < m := fun y hy => bd.ev y (BM.Anc.ev_rk I ((hB.mem y).mp hy) c1 c2).1
    have nA := nodup_lt (hA.nodup I b1 b2) ltA
    have nB := nodup_lt (hB.nodup I c1 c2) ltB
    obtain ⟨t1, o, e1, f1, k1, p1, p2⟩ := h.meeting_base l1 l2 hA hB ltA ltB (fun x y q => (bd.mu x y q).2) bd.lk (by omega) (by omega)
    have s1 : dSet 3 (dMeC "Forest" "meeting_base" 3 F_Forest_meeting_base (dVar 0) (dCons (dVar 1) (dCons (dVar 2) dNil))) [some (.ref n), some (nW one), some (nW other), none] t = .ok (.nx, [some (.ref n), some (nW one), some (nW other), some (oW o)]) t1 :=
      dSet_ok (i := 3) (mec_ok (dVar_ok rfl) h.ob (by rfl) (dCons_ok (dVar_ok rfl) (dCons1_ok (dVar_ok rfl))) rfl e1)
    have c3 : (fun ρ st => asB (dBin (vIs false) (dVar 3) (dLit .none) ρ st)) [some (.ref n), some (nW one), some (nW other), some (oW o)] t1 = .ok o.isNone t1 := asB_ok (dBin_ok (dVar_ok rfl) rfl vIsY)
    cases o with
    | none =>
      -- two roots
      obtain ⟨S, r, q1, q2⟩ := I.i4 one v1
      obtain ⟨T, r2, q3, q4⟩ := I.i4 other v2
      have sl := verts_lt F bd q1 v1
      have tl := verts_lt F bd q3 v2
      have ns := nodup_lt q2 sl
      have nt := nodup_lt q4 tl
      obtain ⟨t2, e2, f2, k2⟩ := f1.way_to q1 sl (by omega)
      obtain ⟨t3, e3, f3, k3⟩ := f2.way_to q3 tl (by omega)
      obtain ⟨g1, g2, g3, g4, g5, g6, g7⟩ := BM.way_two I sy q1 q2 v1 q3 q4 v2 a fun b x y => hA.apart hB (p2 rfl) b x y
      refine .inl ⟨t3, (BM.verts S r).reverse ++ BM.verts T r2, dDef_rt (ρ' := [some (.ref n), some (nW one), some (nW other), some (.d .none)]) (to (dIfS_f cd rfl) (to s1 (out (dIfS_t c3 (dRet_ok ?_)) rfl))), (k1.trans k2).trans k3, ⟨?_, g1, g2, by rw [g3]; exact root_of F q1 v1, by rw [g3]; exact g6, fun x hx => ?_, .inl ⟨g5, by rw [g4]; exact g7⟩⟩⟩
      · have w1 := mec_ok (f := "way_to") (k := 2) (F := F_Forest_way_to) (fo := dVar 0) (fa := dCons (dVar 1) dNil) (ρ := [some (.ref n), some (nW one), some (nW other), some (.d .none)]) (dVar_ok rfl) f1.ob (by rfl) (dCons1_ok (dVar_ok rfl)) rfl e2
        have w2 := mec_ok (f := "way_to") (k := 2) (F := F_Forest_way_to) (fo := dVar 0) (fa := dCons (dVar 2) dNil) (ρ := [some (.ref n), some (nW one), some (nW other), some (.d .none)]) (dVar_ok rfl) f2.ob (by rfl) (dCons1_ok (dVar_ok rfl)) rfl e3
        have w3 : dRev (dMeC "Forest" "way_to" 2 F_Forest_way_to (dVar 0) (dCons (dVar 2) dNil)) [some (.ref n), some (nW one), some (nW other), some (.d .none)] t2 = .ok (.d (.list ((BM.verts T r2).map nI))) t3 := by
          unfold dRev
          rw [w2, R.bind_ok]
          simp only [asD]
          rw [← List.map_reverse, List.reverse_reverse]
        refine dBin_ok w1 w3 ?_
        rw [List.map_append]
        exact vAdd_lists (by simp; omega)
      · obtain ⟨W, eW⟩ := BM.verts_head q3
        rw [eW]; simp
      · rcases List.mem_append.mp hx with hx | hx
        · exact sl x (List.mem_reverse.mp hx)
        · exact tl x hx
    | some b0 =>
      obtain ⟨B1, B2, rfl, hb, hB1⟩ := p1 b0 rfl
      obtain ⟨a1, a2, mm⟩ := hA.meet hB hb hB1
      obtain ⟨t2, s', found', e2, f2, F2, bd2, k2, pre, sc⟩ := f1.close_ring F bd hm sy v1 v2 a ne a1 a2 mm
      exact .inr ⟨t2, s', found', dDef_rt (ρ' := [some (.ref n), some (nW one), some (nW other), some (nW b0)]) (to (dIfS_f cd rfl) (to s1 (to (dIfS_f c3 rfl) (to (dExpr_ok (mec_ok (f := "close_ring") (dVar_ok rfl) f1.ob (by rfl) (dCons_ok (dVar_ok rfl) (dCons_ok (dVar_ok rfl) (dCons1_ok (dVar_ok rfl)))) rfl e2)) (dRet_ok rfl))))), f2, F2, bd2, k1.trans k2, pre, sc⟩
end
end BL
namespace BL
open PySem PySem.Spec PyProof.Rows L2 Y
noncomputable def B_Forest_step : DS :=
  (dSeq (dIfS (fun ρ st => asB ((dBin vIx (dAttr "Forest" "evenly" (dVar 0)) (dVar 2)) ρ st))
    (dRet (dMeC "Forest" "meet" 3 F_Forest_meet (dVar 0) (dCons (dVar 1) (dCons (dVar 2) dNil))))
    dEnd)
    (dSeq (dIfS (fun ρ st => asB (dBin (vIs true) (dBin vIx (dAttr "Forest" "links" (dVar 0)) (dVar 2)) (dLit .none) ρ st))
    (dRet (dLit .none))
    dEnd)
    (dSeq (dIfS (fun ρ st => asB (dBin (vIs false) (dBin vIx (dAttr "Forest" "mates" (dVar 0)) (dVar 2)) (dLit .none) ρ st))
    (dRet (dBin vAdd (dMeC "Forest" "way_to" 2 F_Forest_way_to (dVar 0) (dCons (dVar 1) dNil)) (dLst (dCons (dVar 2) dNil))))
    dEnd)
    (dSeq (dSetIx (dVar 1) (dAttr "Forest" "links" (dVar 0)) (dVar 2))
    (dSeq (dExpr (dMeC "Forest" "reach" 2 F_Forest_reach (dVar 0) (dCons (dBin vIx (dAttr "Forest" "mates" (dVar 0)) (dVar 2)) dNil)))
    (dRet (dLit .none)))))))
noncomputable def F_Forest_step : Fn := dDef 3 B_Forest_step
section
variable {m L M V n : Nat} {nb : Nat → List Nat} {μ : Nat → Option Nat} {wa : Nat → Bool} {s : BM.St} {found : List Nat} {t : Sto} {adj : Nat → Nat → Prop} {rt : Nat → Prop}
theorem FoS.step (h : FoS m L M V n nb μ wa s found t) (F : BM.Fo adj μ rt s found) (bd : BM.Bd m μ s) (hm : m ≤ 400) (irr : ∀ v, μ v ≠ some v) {one other : Nat} (sy : ∀ u v, adj u v → adj v u) (v1 : s.ev one = true) (l2 : other < m) (a : adj one other) (ne : one ≠ other) :
    (∃ t' w, F_Forest_step [.ref n, nW one, nW other] t = .ok (.d (.list (w.map nI))) t' ∧ Kp n t t' ∧ BM.Grow adj μ rt wa m w) ∨
    ∃ t' s' found', F_Forest_step [.ref n, nW one, nW other] t = .ok (.d .none) t' ∧ FoS m L M V n nb μ wa s' found' t' ∧ BM.Fo adj μ rt s' found' ∧ BM.Bd m μ s' ∧ Kp n t t' ∧ (∃ new, found' = found ++ new) ∧ ∀ done, BM.Sc s done → BM.Sc s' (fun v q => done v q ∨ (v = one ∧ q = other)) := by
  have I := F.inv
  have l1 := bd.ev _ v1
  have c1 : (fun ρ st => asB ((dBin vIx (dAttr "Forest" "evenly" (dVar 0)) (dVar 2)) ρ st)) [some (.ref n), some (nW one), some (nW other)] t = .ok (s.ev other) t :=
    asB_ok (dBin_ok (attr_ok (dVar_ok rfl) h.ob fs_evenly) (dVar_ok rfl) (bools_get h.ev l2))
  by_cases e : s.ev other = true
  · rw [e] at c1
    rcases h.meet F bd hm sy v1 e a ne with ⟨t', w, r1, r2, r3⟩ | ⟨t', s', found', r1, r2⟩
    · exact .inl ⟨t', w, dDef_rt (ρ' := [some (.ref n), some (nW one), some (nW other)]) (out (dIfS_t c1 (dRet_ok (mec_ok (f := "meet") (dVar_ok rfl) h.ob (by rfl) (dCons_ok (dVar_ok rfl) (dCons1_ok (dVar_ok rfl))) rfl r1))) rfl), r2, r3⟩
    · exact .inr ⟨t', s', found', dDef_rt (ρ' := [some (.ref n), some (nW one), some (nW other)]) (out (dIfS_t c1 (dRet_ok (mec_ok (f := "meet") (dVar_ok rfl) h.ob (by rfl) (dCons_ok (dVar_ok rfl) (dCons1_ok (dVar_ok rfl))) rfl r1))) rfl), r2⟩
  · have e' : s.ev other = false := by simpa using e
    rw [e'] at c1
    have c2 : (fun ρ st => asB (dBin (vIs true) (dBin vIx (dAttr "Forest" "links" (dVar 0)) (dVar 2)) (dLit .none) ρ st)) [some (.ref n), some (nW one), some (nW other)] t = .ok (s.lk other).isSome t :=
      asB_ok (dBin_ok (dBin_ok (attr_ok (dVar_ok rfl) h.ob fs_links) (dVar_ok rfl) (olist_get h.lk l2)) rfl vIsN)
    have c3 : (fun ρ st => asB (dBin (vIs false) (dBin vIx (dAttr "Forest" "mates" (dVar 0)) (dVar 2)) (dLit .none) ρ st)) [some (.ref n), some (nW one), some (nW other)] t = .ok (μ other).isNone t :=
      asB_ok (dBin_ok (dBin_ok (attr_ok (dVar_ok rfl) h.ob fs_mates) (dVar_ok rfl) (olist_get h.mt l2)) rfl vIsY)
    cases hl : s.lk other with
    | some p =>
      rw [hl] at c2
      exact .inr ⟨t, s, found, dDef_rt (ρ' := [some (.ref n), some (nW one), some (nW other)]) (to (dIfS_f c1 rfl) (out (dIfS_t c2 (dRet_ok rfl)) rfl)), h, F, bd, Kp.refl, ⟨[], by simp⟩, fun done sc => sc.add v1 ne (.inr ⟨e', by rw [hl]; simp⟩)⟩
    | none =>
      rw [hl] at c2
      cases hmt : μ other with
      | none =>
        rw [hmt] at c3
        obtain ⟨S, r, q1, q2⟩ := I.i4 one v1
        have sl := verts_lt F bd q1 v1
        have ns := nodup_lt q2 sl
        obtain ⟨t1, e1, f1, k1⟩ := h.way_to q1 sl (by omega)
        obtain ⟨g1, g2, g3, g4, g5, g6⟩ := BM.way_out I sy q1 q2 v1 a e' hmt
        refine .inl ⟨t1, (BM.verts S r).reverse ++ [other], dDef_rt (ρ' := [some (.ref n), some (nW one), some (nW other)]) (to (dIfS_f c1 rfl) (to (dIfS_f c2 rfl) (out (dIfS_t c3 (dRet_ok ?_)) rfl))), k1, ⟨by simp, g1, g2, by rw [g3]; exact root_of F q1 v1, by rw [g3]; exact g6, fun x hx => ?_, .inl ⟨g5, by rw [g4]; exact hmt⟩⟩⟩
        · have w1 := mec_ok (f := "way_to") (k := 2) (F := F_Forest_way_to) (fo := dVar 0) (fa := dCons (dVar 1) dNil) (ρ := [some (.ref n), some (nW one), some (nW other)]) (dVar_ok rfl) h.ob (by rfl) (dCons1_ok (dVar_ok rfl)) rfl e1
          have w2 : dLst (dCons (dVar 2) dNil) [some (.ref n), some (nW one), some (nW other)] t1 = .ok (.d (.list [nI other])) t1 := lst_ok (ds := [nI other]) (dCons1_ok (dVar_ok rfl)) rfl (by simp)
          refine dBin_ok w1 w2 ?_
          rw [List.map_append]
          exact vAdd_lists (by simp; omega)
        · rcases List.mem_append.mp hx with hx | hx
          · exact sl x (List.mem_reverse.mp hx)
          · rw [List.mem_singleton.mp hx]; exact l2
      | some d =>
        rw [hmt] at c3
        have hd := (bd.mu _ _ hmt).2
        have hne : d ≠ other := fun z => irr other (by rw [hmt, z])
        have ix : dSetIx (dVar 1) (dAttr "Forest" "links" (dVar 0)) (dVar 2) [some (.ref n), some (nW one), some (nW other)] t = .ok (.nx, [some (.ref n), some (nW one), some (nW other)]) (t.set (n + 1) (olist m (BM.upd s.lk other (some one)))) := by
          have := setIx_ok (fe := dVar 1) (fo := dAttr "Forest" "links" (dVar 0)) (fi := dVar 2) (ρ := [some (.ref n), some (nW one), some (nW other)]) (s := t) (dVar_ok rfl) (attr_ok (dVar_ok rfl) h.ob fs_links) (dVar_ok rfl) h.lk (by simpa using l2)
          rw [this]
          have ms := map_set (m := m) (g := nW) (G := oW) (f := s.lk) (v := other) (some one)
          exact congrArg (fun l => R.ok (Fl.nx, [some (W.ref n), some (nW one), some (nW other)]) (t.set (n + 1) (SO.lst l))) ms
        have q1 := h.setlk other one
        have kp1 : Kp n t (t.set (n + 1) (olist m (BM.upd s.lk other (some one)))) := Kp.set (by omega) (by omega)
        generalize hu : t.set (n + 1) (olist m (BM.upd s.lk other (some one))) = u at ix q1 kp1
        have hf : found.length ≤ m := nodup_lt F.nd fun v hv => bd.ev v ((F.fnd v).mpr hv)
        obtain ⟨u2, r1, r2, r3⟩ := q1.reach hd (by omega)
        have mt : dBin vIx (dAttr "Forest" "mates" (dVar 0)) (dVar 2) [some (.ref n), some (nW one), some (nW other)] u = .ok (nW d) u := by
          have := dBin_ok (G := vIx) (attr_ok (f := "mates") (fo := dVar 0) (ρ := [some (.ref n), some (nW one), some (nW other)]) (dVar_ok rfl) q1.ob fs_mates) (dVar_ok (i := 2) rfl) (olist_get q1.mt l2)
          rw [hmt] at this
          exact this
        refine .inr ⟨u2, _, _, dDef_rt (ρ' := [some (.ref n), some (nW one), some (nW other)]) (to (dIfS_f c1 rfl) (to (dIfS_f c2 rfl) (to (dIfS_f c3 rfl) (to ix (to (dExpr_ok (mec_ok (f := "reach") (dVar_ok rfl) q1.ob (by rfl) (dCons1_ok mt) rfl r1)) (dRet_ok rfl)))))), r2, F.link v1 e' hl hmt hne (sy _ _ a), ⟨bd.mu, fun v hv => ?_, bd.bs, fun x y hxy => ?_⟩, kp1.trans r3, ⟨_, rfl⟩, fun done sc => F.link_sc v1 e' hl hmt hne sc⟩
        · replace hv : BM.upd s.ev d true v = true := hv
          by_cases z : v = d
          · rw [z]; exact hd
          · rw [BM.upd_ne z] at hv; exact bd.ev v hv
        · replace hxy : BM.upd s.lk other (some one) x = some y := hxy
          by_cases z : x = other
          · rw [z, BM.upd_eq] at hxy; cases hxy; exact l1
          · rw [BM.upd_ne z] at hxy; exact bd.lk x y hxy
end
end BL
namespace BL
open PySem PySem.Spec PyProof.Rows L2 Y
theorem whileX_ok {c : En → Sto → R Bool} {body : DS} {P : Nat → En → Sto → Prop} {Q : En → Sto → Prop} {G : W → Sto → Prop}
    (step : ∀ k ρ s, P k ρ s → (∃ s1, c ρ s = .ok false s1 ∧ Q ρ s1) ∨ ∃ s1, c ρ s = .ok true s1 ∧ ((∃ w ρ2 s2, body ρ s1 = .ok (.rt w, ρ2) s2 ∧ G w s2) ∨ ∃ ρ2 s2 k', body ρ s1 = .ok (.nx, ρ2) s2 ∧ k' < k ∧ P k' ρ2 s2)) :
    ∀ (n k : Nat) (ρ : En) (s : Sto), k < n → P k ρ s → (∃ w ρ' s', whileN c body n ρ s = .ok (.rt w, ρ') s' ∧ G w s') ∨ ∃ ρ' s', whileN c body n ρ s = .ok (.nx, ρ') s' ∧ Q ρ' s'
  | 0, _, _, _, h, _ => absurd h (Nat.not_lt_zero _)
  | n + 1, k, ρ, s, h, p => by
    rcases step k ρ s p with ⟨s1, h1, h2⟩ | ⟨s1, h1, ⟨w, ρ2, s2, h2, h3⟩ | ⟨ρ2, s2, k', h2, h3, h4⟩⟩
    · exact .inr ⟨ρ, s1, by unfold whileN; rw [h1, R.bind_ok, if_neg (by simp)], h2⟩
    · exact .inl ⟨w, ρ2, s2, by unfold whileN; rw [h1, R.bind_ok, if_pos rfl, h2, R.bind_ok], h3⟩
    · have e : whileN c body (n + 1) ρ s = whileN c body n ρ2 s2 := by
        conv => lhs; unfold whileN
        rw [h1, R.bind_ok, if_pos rfl, h2, R.bind_ok]
      rw [e]
      exact whileX_ok step n k' ρ2 s2 (by omega) h4
theorem dWhileX_ok {c : En → Sto → R Bool} {body : DS} {P : Nat → En → Sto → Prop} {Q : En → Sto → Prop} {G : W → Sto → Prop}
    (step : ∀ k ρ s, P k ρ s → (∃ s1, c ρ s = .ok false s1 ∧ Q ρ s1) ∨ ∃ s1, c ρ s = .ok true s1 ∧ ((∃ w ρ2 s2, body ρ s1 = .ok (.rt w, ρ2) s2 ∧ G w s2) ∨ ∃ ρ2 s2 k', body ρ s1 = .ok (.nx, ρ2) s2 ∧ k' < k ∧ P k' ρ2 s2))
    (k : Nat) (ρ : En) (s : Sto) (p : P k ρ s) : (∃ w ρ' s', dWhile c body ρ s = .ok (.rt w, ρ') s' ∧ G w s') ∨ ∃ ρ' s', dWhile c body ρ s = .ok (.nx, ρ') s' ∧ Q ρ' s' := by
  rcases whileX_ok step (k + 1) k ρ s (by omega) p with ⟨w, ρ', s', h1, h2⟩ | ⟨ρ', s', h1, h2⟩
  · exact .inl ⟨w, ρ', s', dWhile_of h1 (by simp), h2⟩
  · exact .inr ⟨ρ', s', dWhile_of h1 (by simp), h2⟩
theorem forSX_ok {α : Type} {n : Nat} {tg : W → En → Sto → R En} {body : DS} {emb : α → W} {P : List α → En → Sto → Prop} {G : W → Sto → Prop} (all : List α)
    (keep : ∀ pre ρ s, P pre ρ s → s[n]? = some (.lst (all.map emb)))
    (step : ∀ pre a post ρ s, all = pre ++ a :: post → P pre ρ s → ∃ ρ1 s1, tg (emb a) ρ s = .ok ρ1 s1 ∧ ((∃ w ρ2 s2, body ρ1 s1 = .ok (.rt w, ρ2) s2 ∧ G w s2) ∨ ∃ ρ2 s2, body ρ1 s1 = .ok (.nx, ρ2) s2 ∧ P (pre ++ [a]) ρ2 s2)) :
    ∀ (post pre : List α) (ρ : En) (s : Sto), all = pre ++ post → P pre ρ s → (∃ w ρ' s', forS n (all.map emb) tg body (post.map emb) ρ s = .ok (.rt w, ρ') s' ∧ G w s') ∨ ∃ ρ' s', forS n (all.map emb) tg body (post.map emb) ρ s = .ok (.nx, ρ') s' ∧ P all ρ' s'
  | [], pre, ρ, s, h, p => .inr ⟨ρ, s, by show forS n (all.map emb) tg body [] ρ s = _; unfold forS; rw [if_pos (keep pre ρ s p)], by rw [h, List.append_nil]; exact p⟩
  | a :: post, pre, ρ, s, h, p => by
    obtain ⟨ρ1, s1, h1, ⟨w, ρ2, s2, h2, h3⟩ | ⟨ρ2, s2, h2, h3⟩⟩ := step pre a post ρ s h p
    · refine .inl ⟨w, ρ2, s2, ?_, h3⟩
      show forS n (all.map emb) tg body (emb a :: post.map emb) ρ s = _
      unfold forS
      rw [if_pos (keep pre ρ s p), h1, R.bind_ok, h2, R.bind_ok]
    · have e : forS n (all.map emb) tg body ((a :: post).map emb) ρ s = forS n (all.map emb) tg body (post.map emb) ρ2 s2 := by
        show forS n (all.map emb) tg body (emb a :: post.map emb) ρ s = _
        conv => lhs; unfold forS
        rw [if_pos (keep pre ρ s p), h1, R.bind_ok, h2, R.bind_ok]
      rw [e]
      exact forSX_ok all keep step post (pre ++ [a]) ρ2 s2 (by rw [h]; simp) h3
theorem vLt_nat {i j : Nat} {t : Sto} : vLt (nW i) (nW j) t = .ok (.d (.bool (decide (i < j)))) t := by
  have e : decide ((i : Int) < (j : Int)) = decide (i < j) := by rw [Bool.eq_iff_iff, decide_eq_true_eq, decide_eq_true_eq]; omega
  first
    | (show R.ok (W.d (.bool (decide ((i : Int) < (j : Int))))) t = _; rw [e])
    | (unfold vLt; simp [e])
    | simp [vLt, e]
theorem len_ref {i : Nat} {ws : List W} {t : Sto} (h : t[i]? = some (.lst ws)) : gLen [.ref i] t = .ok (.d (nI ws.length)) t := by
  unfold gLen
  simp only [items, h]
noncomputable def B_Forest_turnable : DS :=
  (dSeq (dSet 1 (dLit (.int 0)))
    (dSeq (dWhile (fun ρ st => asB (dBin vLt (dVar 1) (dCall gLen (dCons (dAttr "Forest" "found" (dVar 0)) dNil)) ρ st))
    (dSeq (dSet 2 (dBin vIx (dAttr "Forest" "found" (dVar 0)) (dVar 1)))
    (dSeq (dIfS (dNot (fun ρ st => asB ((dBin vIx (dAttr "Forest" "wanted" (dVar 0)) (dVar 2)) ρ st)))
    (dRet (dMeC "Forest" "way_to" 2 F_Forest_way_to (dVar 0) (dCons (dVar 2) dNil)))
    dEnd)
    (dSeq (dForS (dBin vIx (dAttr "Forest" "rows" (dVar 0)) (dVar 2)) (tName 3)
    (dSeq (dSet 4 (dMeC "Forest" "step" 3 F_Forest_step (dVar 0) (dCons (dVar 2) (dCons (dVar 3) dNil))))
    (dIfS (fun ρ st => asB (dBin (vIs true) (dVar 4) (dLit .none) ρ st))
    (dRet (dVar 4))
    dEnd)))
    (dAug 1 vIadd (dLit (.int 1)))))))
    (dRet (dLit .none))))
noncomputable def F_Forest_turnable : Fn := dDef 5 B_Forest_turnable
section
variable {m L M V n : Nat} {nb : Nat → List Nat} {μ : Nat → Option Nat} {wa : Nat → Bool} {s : BM.St} {found : List Nat} {t : Sto} {adj : Nat → Nat → Prop} {rt : Nat → Prop}
theorem FoS.turnable (h : FoS m L M V n nb μ wa s found t) (F : BM.Fo adj μ rt s found) (bd : BM.Bd m μ s) (hm : m ≤ 400) (irr : ∀ v, μ v ≠ some v) (sy : ∀ u v, adj u v → adj v u) (hnb : ∀ u v, u < m → (v ∈ nb u ↔ adj u v)) (al : ∀ u v, adj u v → v < m ∧ u ≠ v) :
    (∃ t' w, F_Forest_turnable [.ref n] t = .ok (.d (.list (w.map nI))) t' ∧ Kp n t t' ∧ BM.Grow adj μ rt wa m w) ∨
    ∃ t' s' found', F_Forest_turnable [.ref n] t = .ok (.d .none) t' ∧ FoS m L M V n nb μ wa s' found' t' ∧ BM.Fo adj μ rt s' found' ∧ BM.Bd m μ s' ∧ Kp n t t' ∧ (∃ new, found' = found ++ new) ∧ (∀ v, s'.ev v = true → wa v = true) ∧ ∀ v q, s'.ev v = true → adj v q → (s'.ev q = true ∧ s'.bs q = s'.bs v) ∨ (s'.ev q = false ∧ s'.lk q ≠ none) := by
  have W := dWhileX_ok (c := (fun ρ st => asB (dBin vLt (dVar 1) (dCall gLen (dCons (dAttr "Forest" "found" (dVar 0)) dNil)) ρ st)))
    (body := (dSeq (dSet 2 (dBin vIx (dAttr "Forest" "found" (dVar 0)) (dVar 1)))
    (dSeq (dIfS (dNot (fun ρ st => asB ((dBin vIx (dAttr "Forest" "wanted" (dVar 0)) (dVar 2)) ρ st)))
    (dRet (dMeC "Forest" "way_to" 2 F_Forest_way_to (dVar 0) (dCons (dVar 2) dNil)))
    dEnd)
    (dSeq (dForS (dBin vIx (dAttr "Forest" "rows" (dVar 0)) (dVar 2)) (tName 3)
    (dSeq (dSet 4 (dMeC "Forest" "step" 3 F_Forest_step (dVar 0) (dCons (dVar 2) (dCons (dVar 3) dNil))))
    (dIfS (fun ρ st => asB (dBin (vIs true) (dVar 4) (dLit .none) ρ st))
    (dRet (dVar 4))
    dEnd)))
    (dAug 1 vIadd (dLit (.int 1)))))))
    (P := fun k ρ u => ∃ i x y z s1 fd done, ρ = [some (.ref n), some (nW i), x, y, z] ∧ FoS m L M V n nb μ wa s1 fd u ∧ BM.Fo adj μ rt s1 fd ∧ BM.Bd m μ s1 ∧ Kp n t u ∧ (∃ new, fd = found ++ new) ∧ i ≤ fd.length ∧ BM.Sc s1 done ∧ (∀ j v, j < i → fd[j]? = some v → wa v = true ∧ ∀ q, adj v q → done v q) ∧ k = m - i)
    (Q := fun ρ u => ∃ s1 fd done, FoS m L M V n nb μ wa s1 fd u ∧ BM.Fo adj μ rt s1 fd ∧ BM.Bd m μ s1 ∧ Kp n t u ∧ (∃ new, fd = found ++ new) ∧ BM.Sc s1 done ∧ ∀ v ∈ fd, wa v = true ∧ ∀ q, adj v q → done v q)
    (G := fun w u => ∃ l, w = .d (.list (l.map nI)) ∧ Kp n t u ∧ BM.Grow adj μ rt wa m l)
    (fun k ρ u hP => by
      obtain ⟨i, x, y, z, s1, fd, done, rfl, g, F1, bd1, kp, pre, hi, sc, dn, rfl⟩ := hP
      have cd : (fun ρ st => asB (dBin vLt (dVar 1) (dCall gLen (dCons (dAttr "Forest" "found" (dVar 0)) dNil)) ρ st)) [some (.ref n), some (nW i), x, y, z] u = .ok (decide (i < fd.length)) u :=
        asB_ok (dBin_ok (dVar_ok rfl) (dCall_ok (dCons1_ok (attr_ok (dVar_ok rfl) g.ob fs_found)) (len_ref g.fd)) (by rw [List.length_map]; exact vLt_nat))
      by_cases lt : i < fd.length
      · rw [decide_eq_true lt] at cd
        have hv : fd[i]? = some fd[i] := List.getElem?_eq_getElem lt
        generalize fd[i] = v at hv
        have vin : v ∈ fd := List.mem_of_getElem? hv
        have ev : s1.ev v = true := (F1.fnd v).mpr vin
        have vm := bd1.ev v ev
        have fm : fd.length ≤ m := nodup_lt F1.nd fun w hw => bd1.ev w ((F1.fnd w).mpr hw)
        have st1 : dSet 2 (dBin vIx (dAttr "Forest" "found" (dVar 0)) (dVar 1)) [some (.ref n), some (nW i), x, y, z] u = .ok (.nx, [some (.ref n), some (nW i), some (nW v), y, z]) u :=
          dSet_ok (i := 2) (dBin_ok (attr_ok (dVar_ok rfl) g.ob fs_found) (dVar_ok rfl) (vIx_ref g.fd (by rw [List.getElem?_map, hv]; rfl)))
        have cw : dNot (fun ρ st => asB ((dBin vIx (dAttr "Forest" "wanted" (dVar 0)) (dVar 2)) ρ st)) [some (.ref n), some (nW i), some (nW v), y, z] u = .ok (!wa v) u :=
          dNot_ok (asB_ok (dBin_ok (attr_ok (dVar_ok rfl) g.ob fs_wanted) (dVar_ok rfl) (bools_get g.wt vm)))
        refine .inr ⟨u, cd, ?_⟩
        by_cases hw : wa v = true
        · rw [hw] at cw
          -- the row
          have ix : dBin vIx (dAttr "Forest" "rows" (dVar 0)) (dVar 2) [some (.ref n), some (nW i), some (nW v), y, z] u = .ok (.ref (L + v)) u := dBin_ok (attr_ok (dVar_ok rfl) g.ob fs_rows) (dVar_ok rfl) (g.rw.get vm)
          rcases forSX_ok (n := L + v) (tg := tName 3) (emb := nW) (body := (dSeq (dSet 4 (dMeC "Forest" "step" 3 F_Forest_step (dVar 0) (dCons (dVar 2) (dCons (dVar 3) dNil))))
    (dIfS (fun ρ st => asB (dBin (vIs true) (dVar 4) (dLit .none) ρ st))
    (dRet (dVar 4))
    dEnd)))
            (P := fun pre' ρ u' => ∃ y z s2 fd2 done2, ρ = [some (.ref n), some (nW i), some (nW v), y, z] ∧ FoS m L M V n nb μ wa s2 fd2 u' ∧ BM.Fo adj μ rt s2 fd2 ∧ BM.Bd m μ s2 ∧ Kp n t u' ∧ (∃ new, fd2 = fd ++ new) ∧ BM.Sc s2 done2 ∧ (∀ a b, done a b → done2 a b) ∧ ∀ q ∈ pre', done2 v q)
            (G := fun w u => ∃ l, w = .d (.list (l.map nI)) ∧ Kp n t u ∧ BM.Grow adj μ rt wa m l) (nb v)
            (fun pre' ρ u' hq => by
              obtain ⟨y, z, s2, fd2, done2, rfl, q1, _⟩ := hq
              exact q1.rw.row v vm)
            (fun pre' a post ρ u' ea hq => by
              obtain ⟨y, z, s2, fd2, done2, rfl, q1, q2, q3, q4, q5, q6, q7, q8⟩ := hq
              have va : adj v a := (hnb v a vm).mp (by rw [ea]; simp)
              obtain ⟨am, nea⟩ := al v a va
              have ev2 : s2.ev v = true := (q2.fnd v).mpr (by obtain ⟨new, rfl⟩ := q5; exact List.mem_append_left _ vin)
              refine ⟨_, u', rfl, ?_⟩
              rcases q1.step q2 q3 hm irr sy ev2 am va nea with ⟨t', w, r1, r2, r3⟩ | ⟨t', s', found', r1, r2, r3, r4, r5, r6, r7⟩
              · refine .inl ⟨_, [some (.ref n), some (nW i), some (nW v), some (nW a), some (.d (.list (w.map nI)))], t', to (dSet_ok (i := 4) (mec_ok (f := "step") (dVar_ok rfl) q1.ob (by rfl) (dCons_ok (dVar_ok rfl) (dCons1_ok (dVar_ok rfl))) rfl r1)) (dIfS_t (asB_ok (dBin_ok (dVar_ok rfl) rfl rfl)) (dRet_ok (dVar_ok rfl))), w, rfl, q4.trans r2, r3⟩
              · refine .inr ⟨[some (.ref n), some (nW i), some (nW v), some (nW a), some (.d .none)], t', to (dSet_ok (i := 4) (mec_ok (f := "step") (dVar_ok rfl) q1.ob (by rfl) (dCons_ok (dVar_ok rfl) (dCons1_ok (dVar_ok rfl))) rfl r1)) (dIfS_f (asB_ok (dBin_ok (dVar_ok rfl) rfl rfl)) rfl), some (nW a), some (.d .none), s', found', _, rfl, r2, r3, r4, q4.trans r5, ?_, r7 done2 q6, fun c d hcd => .inl (q7 c d hcd), fun q hq => ?_⟩
                · obtain ⟨n1, e1⟩ := q5
                  obtain ⟨n2, e2⟩ := r6
                  exact ⟨n1 ++ n2, by rw [e2, e1, List.append_assoc]⟩
                · rcases List.mem_append.mp hq with hq | hq
                  · exact .inl (q8 q hq)
                  · exact .inr ⟨rfl, List.mem_singleton.mp hq⟩)
            (nb v) [] [some (.ref n), some (nW i), some (nW v), y, z] u rfl ⟨y, z, s1, fd, done, rfl, g, F1, bd1, kp, ⟨[], by simp⟩, sc, fun _ _ q => q, fun _ q => nomatch q⟩ with ⟨w, ρ', u', e1, e2⟩ | ⟨ρ', u', e1, y', z', s2, fd2, done2, rfl, q1, q2, q3, q4, q5, q6, q7, q8⟩
          · exact .inl ⟨w, ρ', u', to st1 (to (dIfS_f cw rfl) (out (dForS_ok ix (g.rw.row v vm) e1) rfl)), e2⟩
          · refine .inr ⟨[some (.ref n), some (nW (i + 1)), some (nW v), y', z'], u', m - (i + 1), to st1 (to (dIfS_f cw rfl) (to (dForS_ok ix (g.rw.row v vm) e1) rfl)), by omega, i + 1, _, _, _, s2, fd2, done2, rfl, q1, q2, q3, q4, ?_, ?_, q6, fun j w hj hw' => ?_, rfl⟩
            · obtain ⟨n1, e1⟩ := pre
              obtain ⟨n2, e2⟩ := q5
              exact ⟨n1 ++ n2, by rw [e2, e1, List.append_assoc]⟩
            · obtain ⟨n2, e2⟩ := q5
              rw [e2, List.length_append]; omega
            · have hw2 : fd[j]? = some w := by
                obtain ⟨n2, e2⟩ := q5
                rw [e2, List.getElem?_append_left (by omega)] at hw'
                exact hw'
              by_cases ej : j = i
              · subst ej
                rw [hv] at hw2; cases hw2
                exact ⟨hw, fun q hq => q8 q ((hnb _ q vm).mpr hq)⟩
              · obtain ⟨d1, d2⟩ := dn j w (by omega) hw2
                exact ⟨d1, fun q hq => q7 _ _ (d2 q hq)⟩
        · have hw' : wa v = false := by simpa using hw
          rw [hw'] at cw
          obtain ⟨S, r, p1, p2⟩ := F1.inv.i4 v ev
          have sl := verts_lt F1 bd1 p1 ev
          have ns := nodup_lt p2 sl
          obtain ⟨t1, e1, f1, k1⟩ := g.way_to p1 sl (by omega)
          obtain ⟨g1, g2, g3, g4, g5, g6⟩ := BM.way_even F1.inv sy p1 p2 ev
          refine .inl ⟨_, [some (.ref n), some (nW i), some (nW v), y, z], t1, to st1 (out (dIfS_t cw (dRet_ok (mec_ok (f := "way_to") (dVar_ok rfl) g.ob (by rfl) (dCons1_ok (dVar_ok rfl)) rfl e1))) rfl), (BM.verts S r).reverse, rfl, kp.trans k1, ⟨?_, g1, g2, by rw [g3]; exact root_of F1 p1 ev, by rw [g3]; exact g6, fun x hx => sl x (List.mem_reverse.mp hx), .inr ⟨g5, by rw [g4]; exact hw'⟩⟩⟩
          obtain ⟨W, eW⟩ := BM.verts_head p1
          rw [eW]; simp
      · rw [decide_eq_false lt] at cd
        refine .inl ⟨u, cd, s1, fd, done, g, F1, bd1, kp, pre, sc, fun v hv => ?_⟩
        obtain ⟨j, hj⟩ := List.getElem?_of_mem hv
        exact dn j v (by have := (List.getElem?_eq_some_iff.mp hj).1; omega) hj)
    m [some (.ref n), some (nW 0), none, none, none] t ⟨0, none, none, none, s, found, fun _ _ => False, rfl, h, F, bd, Kp.refl, ⟨[], by simp⟩, Nat.zero_le _, fun _ _ q => q.elim, fun j v hj => absurd hj (Nat.not_lt_zero _), rfl⟩
  rcases W with ⟨w, ρ', t', e1, l, rfl, e2, e3⟩ | ⟨ρ', t', e1, s1, fd, done, g, F1, bd1, kp, pre, sc, dn⟩
  · exact .inl ⟨t', l, dDef_rt (ρ' := ρ') (to (dSet_ok (i := 1) rfl) (out e1 rfl)), e2, e3⟩
  · exact .inr ⟨t', s1, fd, dDef_rt (ρ' := ρ') (to (dSet_ok (i := 1) rfl) (to e1 (dRet_ok rfl))), g, F1, bd1, kp, pre, fun v hv => (dn v ((F1.fnd v).mp hv)).1, fun v q hv a => sc.closed sy (fun x y hx hxy => (dn x ((F1.fnd x).mp hx)).2 y hxy) hv a⟩
end
end BL
namespace BL
open PySem PySem.Spec PyProof.Rows L2 Y
noncomputable def B_Forest___init__ : DS :=
  (dSeq (dSetAttr "Forest" "rows" (dVar 1) (dVar 0))
    (dSeq (dSetAttr "Forest" "mates" (dVar 2) (dVar 0))
    (dSeq (dSetAttr "Forest" "wanted" (dVar 4) (dVar 0))
    (dSeq (dSetAttr "Forest" "links" (dLcN (dLcS [6] (dVar 1) (tName 6) (fun _ st => .ok true st) (dLit .none))) (dVar 0))
    (dSeq (dSetAttr "Forest" "bases" (dListRngN (dCall gLen (dCons (dVar 1) dNil))) (dVar 0))
    (dSeq (dSetAttr "Forest" "evenly" (dLcN (dLcS [6] (dVar 1) (tName 6) (fun _ st => .ok true st) (dLit (.bool false)))) (dVar 0))
    (dSeq (dSetAttr "Forest" "found" (dNew dNil) (dVar 0))
    (dFor (dIter (dVar 3)) (tName 5)
    (dExpr (dMeC "Forest" "reach" 2 F_Forest_reach (dVar 0) (dCons (dVar 5) dNil)))))))))))
noncomputable def F_Forest___init__ : Fn := dDef 7 B_Forest___init__
theorem setAttr_ok {f : Str} {w : W} {fe fo : En → Sto → R W} {ρ : En} {t t1 t2 : Sto} {n : Nat} {fs : List (Str × W)} (h1 : fe ρ t = .ok w t1) (h2 : fo ρ t1 = .ok (.ref n) t2) (h : t2[n]? = some (.obj "Forest" fs)) (hl : fs.length < 900) : dSetAttr "Forest" f fe fo ρ t = .ok (.nx, ρ) (t2.set n (.obj "Forest" (putA f w fs))) := by
  unfold dSetAttr
  rw [h1, R.bind_ok, h2, R.bind_ok]
  simp only [h, hl, and_self, if_true]
theorem lc_rows {m L : Nat} {nb : Nat → List Nat} {t : Sto} {c : W} (h : RowsAt t L m nb) (hm : m ≤ 1000) {ρ : En} (h1 : ρ[1]? = some (some (.ref (L + m)))) (h6 : 6 < ρ.length) : dLcN (dLcS [6] (dVar 1) (tName 6) (fun _ st => .ok true st) (fun _ st => .ok c st)) ρ t = .ok (.ref t.length) (t ++ [.lst ((List.range m).map fun _ => c)]) := by
  have e := lcS_filter (n := L + m) (all := (List.range m).map fun i => W.ref (L + i)) (tg := tName 6) (tt := fun _ st => .ok true st) (fe := fun _ st => .ok c st) (ρ := wipeE ρ [6]) (s := t) (emb := fun i => W.ref (L + i)) (g := fun _ => c) (p := fun _ => true) h.top (List.range m) fun a _ => ⟨(wipeE ρ [6]).set 6 (some (.ref (L + a))), rfl, rfl, fun _ => rfl⟩
  have ef : (List.range m).filter (fun _ => true) = List.range m := List.filter_eq_self.mpr fun _ _ => rfl
  rw [ef] at e
  exact dLcN_ok (dLcS_ok (vs := [6]) (dVar_ok h1) h.top e (le_line (by simp; omega)))
section
variable {m L M V : Nat} {nb : Nat → List Nat} {μ : Nat → Option Nat} {wa : Nat → Bool} {t : Sto}
theorem init_ok (hr : RowsAt t L m nb) (hm : m ≤ 400) (mt : t[M]? = some (olist m μ)) (wt : t[V]? = some (bools m wa)) (hL : L + m < t.length) {roots : List Nat} (rl : ∀ v ∈ roots, v < m) (rn : roots.Nodup) {P0 : PyData} (hP : seqD P0 = some (roots.map nI)) :
    ∃ t', F_Forest___init__ [.ref t.length, .ref (L + m), .ref M, .d P0, .ref V] (t ++ [.obj "Forest" []]) = .ok (.d .none) t' ∧ FoS m L M V t.length nb μ wa ⟨fun _ => none, id, fun v => decide (v ∈ roots)⟩ roots t' ∧ t.length ≤ t'.length ∧ ∀ i, i < t.length → t'[i]? = t[i]? := by
  have hM := lt_of_get mt
  have hV := lt_of_get wt
  generalize hn : t.length = n at *
  -- the object's place, whatever it holds
  let T : List (Str × W) → List SO → Sto := fun fs u => t ++ SO.obj "Forest" fs :: u
  have ob : ∀ fs u, (T fs u)[n]? = some (.obj "Forest" fs) := fun fs u => by
    show (t ++ SO.obj "Forest" fs :: u)[n]? = _
    rw [List.getElem?_append_right (by omega), hn, Nat.sub_self]; rfl
  have st : ∀ fs u fs', (T fs u).set n (.obj "Forest" fs') = T fs' u := fun fs u fs' => by
    show (t ++ SO.obj "Forest" fs :: u).set n _ = t ++ SO.obj "Forest" fs' :: u
    rw [List.set_append_right _ _ (by omega), hn, Nat.sub_self]; rfl
  have old : ∀ fs u i, i < n → (T fs u)[i]? = t[i]? := fun fs u i hi => List.getElem?_append_left (by omega)
  have rw' : ∀ fs u, RowsAt (T fs u) L m nb := fun fs u => hr.keep fun i hi => old fs u i (by omega)
  have ln : ∀ fs u, (T fs u).length = n + 1 + u.length := fun fs u => by show (t ++ _ :: u).length = _; rw [List.length_append, List.length_cons]; omega
  have nw : ∀ fs u o, T fs u ++ [o] = T fs (u ++ [o]) := fun fs u o => by show (t ++ SO.obj "Forest" fs :: u) ++ [o] = _; rw [List.append_assoc]; rfl
  generalize hρ : ([some (.ref n), some (.ref (L + m)), some (.ref M), some (.d P0), some (.ref V), none, none] : En) = ρ
  have v0 : ∀ u, dVar 0 ρ u = .ok (.ref n) u := fun u => dVar_ok (by rw [← hρ]; rfl)
  have v1 : ∀ u, dVar 1 ρ u = .ok (.ref (L + m)) u := fun u => dVar_ok (by rw [← hρ]; rfl)
  have v2 : ∀ u, dVar 2 ρ u = .ok (.ref M) u := fun u => dVar_ok (by rw [← hρ]; rfl)
  have v4 : ∀ u, dVar 4 ρ u = .ok (.ref V) u := fun u => dVar_ok (by rw [← hρ]; rfl)
  have sa : ∀ {f : Str} {w : W} {fe : En → Sto → R W} {fs fs' : List (Str × W)} {u u' : List SO}, fe ρ (T fs u) = .ok w (T fs u') → putA f w fs = fs' → fs.length < 900 → dSetAttr "Forest" f fe (dVar 0) ρ (T fs u) = .ok (.nx, ρ) (T fs' u') := fun {f w fe fs fs' u u'} h1 h2 h3 => by
    have := setAttr_ok (f := f) h1 (v0 _) (ob fs u') h3
    rw [this, st, h2]
  have a1 := sa (f := "rows") (fe := dVar 1) (fs := []) (fs' := [("rows", .ref (L + m))]) (u := []) (u' := []) (v1 _) (by rfl) (by decide)
  have a2 := sa (f := "mates") (fe := dVar 2) (fs := [("rows", .ref (L + m))]) (fs' := [("rows", .ref (L + m)), ("mates", .ref M)]) (u := []) (u' := []) (v2 _) (by rfl) (by simp)
  have a3 := sa (f := "wanted") (fe := dVar 4) (fs := [("rows", .ref (L + m)), ("mates", .ref M)]) (fs' := [("rows", .ref (L + m)), ("mates", .ref M), ("wanted", .ref V)]) (u := []) (u' := []) (v4 _) (by rfl) (by simp)
  have a4 := sa (f := "links") (fe := dLcN (dLcS [6] (dVar 1) (tName 6) (fun _ st => .ok true st) (dLit .none))) (fs := [("rows", .ref (L + m)), ("mates", .ref M), ("wanted", .ref V)]) (fs' := [("rows", .ref (L + m)), ("mates", .ref M), ("wanted", .ref V), ("links", .ref (n + 1))]) (u := []) (u' := [olist m (fun _ => none)]) (w := .ref (n + 1)) (by
    have := lc_rows (c := .d .none) (rw' [("rows", .ref (L + m)), ("mates", .ref M), ("wanted", .ref V)] []) (by omega) (ρ := ρ) (by rw [← hρ]; rfl) (by rw [← hρ]; simp)
    rw [ln, nw] at this
    exact this) (by rfl) (by simp)
  have a5 := sa (f := "bases") (fe := dListRngN (dCall gLen (dCons (dVar 1) dNil))) (fs := [("rows", .ref (L + m)), ("mates", .ref M), ("wanted", .ref V), ("links", .ref (n + 1))]) (fs' := [("rows", .ref (L + m)), ("mates", .ref M), ("wanted", .ref V), ("links", .ref (n + 1)), ("bases", .ref (n + 2))]) (u := [olist m (fun _ => none)]) (u' := [olist m (fun _ => none), nlist m id]) (w := .ref (n + 2)) (by
    have e1 : dCall gLen (dCons (dVar 1) dNil) ρ (T [("rows", .ref (L + m)), ("mates", .ref M), ("wanted", .ref V), ("links", .ref (n + 1))] [olist m (fun _ => none)]) = .ok (nW m) _ := dCall_ok (dCons1_ok (v1 _)) ((len_ref (rw' _ _).top).trans (by rw [List.length_map, List.length_range]))
    unfold dListRngN
    rw [e1, R.bind_ok]
    dsimp only
    rw [chk_ok (by omega), ln, nw]
    rfl) (by rfl) (by simp)
  have a6 := sa (f := "evenly") (fe := dLcN (dLcS [6] (dVar 1) (tName 6) (fun _ st => .ok true st) (dLit (.bool false)))) (fs := [("rows", .ref (L + m)), ("mates", .ref M), ("wanted", .ref V), ("links", .ref (n + 1)), ("bases", .ref (n + 2))]) (fs' := [("rows", .ref (L + m)), ("mates", .ref M), ("wanted", .ref V), ("links", .ref (n + 1)), ("bases", .ref (n + 2)), ("evenly", .ref (n + 3))]) (u := [olist m (fun _ => none), nlist m id]) (u' := [olist m (fun _ => none), nlist m id, bools m fun _ => false]) (w := .ref (n + 3)) (by
    have := lc_rows (c := .d (.bool false)) (rw' [("rows", .ref (L + m)), ("mates", .ref M), ("wanted", .ref V), ("links", .ref (n + 1)), ("bases", .ref (n + 2))] [olist m (fun _ => none), nlist m id]) (by omega) (ρ := ρ) (by rw [← hρ]; rfl) (by rw [← hρ]; simp)
    rw [ln, nw] at this
    exact this) (by rfl) (by simp)
  have a7 := sa (f := "found") (fe := dNew dNil) (fs := [("rows", .ref (L + m)), ("mates", .ref M), ("wanted", .ref V), ("links", .ref (n + 1)), ("bases", .ref (n + 2)), ("evenly", .ref (n + 3))]) (fs' := fsF (L + m) M V n) (u := [olist m (fun _ => none), nlist m id, bools m fun _ => false]) (u' := [olist m (fun _ => none), nlist m id, bools m fun _ => false, .lst []]) (w := .ref (n + 4)) (by
    have := dNew_ok (fa := dNil) (ρ := ρ) (s := T [("rows", .ref (L + m)), ("mates", .ref M), ("wanted", .ref V), ("links", .ref (n + 1)), ("bases", .ref (n + 2)), ("evenly", .ref (n + 3))] [olist m (fun _ => none), nlist m id, bools m fun _ => false]) rfl (le_line (by simp))
    rw [ln, nw] at this
    exact this) (by rfl) (by simp)
  have at' : ∀ i o, [olist m (fun _ => none), nlist m id, bools m fun _ => false, SO.lst []][i]? = some o → (T (fsF (L + m) M V n) [olist m (fun _ => none), nlist m id, bools m fun _ => false, SO.lst []])[n + 1 + i]? = some o := fun i o h => by
    show (t ++ SO.obj "Forest" (fsF (L + m) M V n) :: _)[n + 1 + i]? = _
    rw [List.getElem?_append_right (by omega), hn, show n + 1 + i - n = i + 1 by omega]
    exact h
  have F0 : FoS m L M V n nb μ wa ⟨fun _ => none, id, fun _ => false⟩ [] (T (fsF (L + m) M V n) [olist m (fun _ => none), nlist m id, bools m fun _ => false, .lst []]) :=
    ⟨ob _ _, rw' _ _, (old _ _ M hM).trans mt, (old _ _ V hV).trans wt, at' 0 _ rfl, at' 1 _ rfl, at' 2 _ rfl, at' 3 _ rfl, ⟨hL, hM, hV⟩⟩
  have lr := nodup_lt rn rl
  obtain ⟨ρ', t', e1, _, e2, e3⟩ := forL_ok (tg := tName 5) (body := (dExpr (dMeC "Forest" "reach" 2 F_Forest_reach (dVar 0) (dCons (dVar 5) dNil)))) (emb := nW)
    (P := fun pre ρ u => (∃ x, ρ = [some (.ref n), some (.ref (L + m)), some (.ref M), some (.d P0), some (.ref V), x, none]) ∧ FoS m L M V n nb μ wa ⟨fun _ => none, id, fun v => decide (v ∈ pre)⟩ pre u ∧ Kp n (T (fsF (L + m) M V n) [olist m (fun _ => none), nlist m id, bools m fun _ => false, .lst []]) u) roots
    (fun pre a post ρ u ea hP => by
      obtain ⟨⟨x, rfl⟩, g1, g2⟩ := hP
      have am := rl a (by rw [ea]; simp)
      have pl : pre.length < roots.length := by rw [ea]; simp
      obtain ⟨u2, r1, r2, r3⟩ := g1.reach am (by omega)
      refine ⟨_, u, _, u2, rfl, dExpr_ok (mec_ok (f := "reach") (dVar_ok rfl) g1.ob (by rfl) (dCons1_ok (dVar_ok rfl)) rfl r1), ⟨_, rfl⟩, r2.eqS rfl rfl ?_, g2.trans r3⟩
      funext v
      show decide (v ∈ pre ++ [a]) = BM.upd (fun v => decide (v ∈ pre)) a true v
      by_cases z : v = a
      · subst z; rw [BM.upd_eq]; simp
      · rw [BM.upd_ne z]; simp [z])
    (ρ := ρ) (s := T (fsF (L + m) M V n) [olist m (fun _ => none), nlist m id, bools m fun _ => false, .lst []]) ⟨⟨none, hρ.symm⟩, F0.eqS rfl rfl (by funext v; simp), Kp.refl⟩
  have it : dIter (dVar 3) ρ (T (fsF (L + m) M V n) [olist m (fun _ => none), nlist m id, bools m fun _ => false, .lst []]) = .ok (roots.map nW) (T (fsF (L + m) M V n) [olist m (fun _ => none), nlist m id, bools m fun _ => false, .lst []]) := by
    have := dIter_ok (f := dVar 3) (ρ := ρ) (s := T (fsF (L + m) M V n) [olist m (fun _ => none), nlist m id, bools m fun _ => false, .lst []]) (x := P0) (dVar_ok (by rw [← hρ]; rfl)) hP
    rw [List.map_map] at this
    exact this
  refine ⟨t', dDef_nx (ρ' := ρ') ?_, e2, ?_, fun i hi => ?_⟩
  · have := to a1 (to a2 (to a3 (to a4 (to a5 (to a6 (to a7 (dFor_ok it e1)))))))
    rw [← hρ] at this
    exact this
  · have := e3.1
    rw [ln] at this
    omega
  · rw [e3.2 i (by rw [ln]; omega) (.inl (by omega))]
    exact old _ _ i hi
end
end BL
namespace BM
/-- a way of k pairs, and one more or none, turned pair by pair -/
theorem tw_snoc : ∀ (k : Nat) (w : List Nat) (f : Nat → Option Nat) (a b : Nat), w.length = 2 * k → tw f (w ++ [a, b]) = upd (upd (tw f w) a (some b)) b (some a)
  | 0, w, f, a, b, h => by
    have : w = [] := List.length_eq_zero_iff.mp (by omega)
    subst this; rfl
  | k + 1, w, f, a, b, h => by
    match w, h with
    | x :: y :: w, h => exact tw_snoc k w _ a b (by simp only [List.length_cons] at h; omega)
    | [x], h => simp at h; omega
    | [], h => simp at h
theorem tw_odd : ∀ (k : Nat) (w : List Nat) (f : Nat → Option Nat), w.length / 2 = k → tw f (w.take (2 * k)) = tw f w
  | 0, w, f, h => by
    match w, h with
    | [], _ => rfl
    | [x], _ => rfl
    | x :: y :: w, h => simp only [List.length_cons] at h; omega
  | k + 1, w, f, h => by
    match w, h with
    | [], h => simp at h
    | [x], h => simp at h
    | x :: y :: w, h =>
      have e : 2 * (k + 1) = 2 * k + 1 + 1 := by omega
      rw [e, List.take_succ_cons, List.take_succ_cons]
      exact tw_odd k w _ (by simp only [List.length_cons] at h; omega)
end BM
namespace BL
open PySem PySem.Spec PyProof.Rows L2 Y
theorem rs {k : Nat} (hk : 1 ≤ k) (h2 : k ≤ 1000) : Builtin.Range.rangeSize 1 (k : Int) 2 = ((k / 2 : Nat) : Int) := by
  unfold Builtin.Range.rangeSize
  simp
  omega
theorem sml {k : Nat} (hk : 1 ≤ k) (h2 : k ≤ 1000) : Builtin.Range.small 1 (k : Int) 2 = true := by
  unfold Builtin.Range.small
  rw [rs hk h2]
  have f : ∀ i : Int, -5000 ≤ i → i ≤ 5000 → Builtin.Range.rangeFitsLong i = true := fun i h1 h2 => by
    unfold Builtin.Range.rangeFitsLong
    simp
    omega
  rw [f 1 (by omega) (by omega), f k (by omega) (by omega), f 2 (by omega) (by omega), f _ (by omega) (by omega), if_pos (by omega), f _ (by omega) (by omega)]
  simp
noncomputable def B_turn_along : DS :=
  (dSeq (dSetIx (dLit .none) (dVar 0) (dBin vIx (dVar 1) (dUn vNeg (dLit (.int 1)))))
    (dFor (dRng3 (dCons (dLit (.int 1)) (dCons (dCall gLen (dCons (dVar 1) dNil)) (dCons (dLit (.int 2)) dNil)))) (tName 2)
    (dSeq (dSetIx (dBin vIx (dVar 1) (dVar 2)) (dVar 0) (dBin vIx (dVar 1) (dBin vSub (dVar 2) (dLit (.int 1)))))
    (dSetIx (dBin vIx (dVar 1) (dBin vSub (dVar 2) (dLit (.int 1)))) (dVar 0) (dBin vIx (dVar 1) (dVar 2))))))
noncomputable def F_turn_along : Fn := dDef 3 B_turn_along
theorem turn_along_ok {m M : Nat} {μ : Nat → Option Nat} {t : Sto} {w : List Nat} (mt : t[M]? = some (olist m μ)) (hw : ∀ x ∈ w, x < m) (ne : w ≠ []) (hl : w.length ≤ 1000) :
    F_turn_along [.ref M, .d (.list (w.map nI))] t = .ok (.d .none) (t.set M (olist m (BM.tw (BM.upd μ (BM.lastD w) none) w))) := by
  have hM := lt_of_get mt
  have pos : 1 ≤ w.length := by cases w with
    | nil => exact absurd rfl ne
    | cons a w => simp
  have set1 : ∀ {u : Sto} {f : Nat → Option Nat} {fe fi : En → Sto → R W} {ρ : En} {x : Nat} {o : Option Nat}, u[M]? = some (olist m f) → x < m → fe ρ u = .ok (oW o) u → dVar 0 ρ u = .ok (.ref M) u → fi ρ u = .ok (nW x) u → dSetIx fe (dVar 0) fi ρ u = .ok (.nx, ρ) (u.set M (olist m (BM.upd f x o))) := fun {u f fe fi ρ x o} h hx h1 h2 h3 => by
    have := setIx_ok h1 h2 h3 h (by simpa using hx)
    rw [this]
    have ms := map_set (m := m) (g := nW) (G := oW) (f := f) (v := x) o
    exact congrArg (fun l => R.ok (Fl.nx, ρ) (u.set M (SO.lst l))) ms
  have gl : ∀ (u : Sto) (f g : Nat → Option Nat), (u.set M (olist m f)).set M (olist m g) = u.set M (olist m g) := fun u f g => List.set_set ..
  have atM : ∀ f, (t.set M (olist m f))[M]? = some (olist m f) := fun f => List.getElem?_set_self hM
  have last : vIx (.d (.list (w.map nI))) (.d (.int (-1))) t = .ok (nW (BM.lastD w)) t := by
    have : ∃ A, w = A ++ [BM.lastD w] := by
      rcases List.eq_nil_or_concat w with rfl | ⟨A, x, rfl⟩
      · exact absurd rfl ne
      · rw [List.concat_eq_append, BM.lastD_snoc]; exact ⟨A, rfl⟩
    obtain ⟨A, eA⟩ := this
    generalize BM.lastD w = z at eA
    subst eA
    have e : atI (List.map (W.d ∘ nI) A ++ [W.d (nI z)]) (-1) = some (nW z) := by
      unfold atI
      have e2 : ixN (List.map (W.d ∘ nI) A ++ [W.d (nI z)]).length (-1) = some A.length := by
        unfold ixN
        rw [List.length_append, List.length_map, List.length_singleton]
        simp
        try omega
      rw [e2]
      simp
    simp [vIx, e]
  have s1 := set1 (fe := dLit .none) (fi := dBin vIx (dVar 1) (dUn vNeg (dLit (.int 1)))) (ρ := [some (.ref M), some (.d (.list (w.map nI))), none]) (o := none) mt (hw _ (BM.lastD_mem ne)) rfl (dVar_ok rfl) (dBin_ok (dVar_ok rfl) (dUn_ok rfl rfl) last)
  -- pair by pair
  have em : (List.range (w.length / 2)).map (fun i : Nat => W.d (.int (1 + (i : Int) * 2))) = (List.range (w.length / 2)).map fun i => nW (2 * i + 1) := List.map_congr_left fun i _ => by
    have : (1 + (i : Int) * 2) = ((2 * i + 1 : Nat) : Int) := by omega
    rw [this]
  obtain ⟨ρ', t', e1, _, rfl⟩ := forL_ok (tg := tName 2) (body := (dSeq (dSetIx (dBin vIx (dVar 1) (dVar 2)) (dVar 0) (dBin vIx (dVar 1) (dBin vSub (dVar 2) (dLit (.int 1)))))
    (dSetIx (dBin vIx (dVar 1) (dBin vSub (dVar 2) (dLit (.int 1)))) (dVar 0) (dBin vIx (dVar 1) (dVar 2))))) (emb := fun i => nW (2 * i + 1))
    (P := fun pre ρ u => (∃ x, ρ = [some (.ref M), some (.d (.list (w.map nI))), x]) ∧ u = t.set M (olist m (BM.tw (BM.upd μ (BM.lastD w) none) (w.take (2 * pre.length))))) (List.range (w.length / 2))
    (fun pre i post ρ u ea hP => by
      obtain ⟨⟨x, rfl⟩, rfl⟩ := hP
      have ei : i = pre.length := by
        have := congrArg (fun l => l[pre.length]?) ea
        simp only [List.getElem?_append_right (Nat.le_refl _), Nat.sub_self, List.getElem?_cons_zero] at this
        have h2 := List.getElem?_eq_some_iff.mp this
        obtain ⟨h3, h4⟩ := h2
        rw [List.getElem_range] at h4
        exact h4.symm
      have il : i < w.length / 2 := List.mem_range.mp (by rw [ea]; simp)
      subst ei
      have h0 : 2 * pre.length < w.length := by omega
      have h1 : 2 * pre.length + 1 < w.length := by omega
      have g0 : w[2 * pre.length]? = some w[2 * pre.length] := List.getElem?_eq_getElem h0
      have g1 : w[2 * pre.length + 1]? = some w[2 * pre.length + 1] := List.getElem?_eq_getElem h1
      have m0 := hw _ (List.mem_of_getElem? g0)
      have m1 := hw _ (List.mem_of_getElem? g1)
      generalize w[2 * pre.length] = a at g0 m0
      generalize w[2 * pre.length + 1] = b at g1 m1
      have sub : ∀ u, dBin vSub (dVar 2) (dLit (.int 1)) [some (.ref M), some (.d (.list (w.map nI))), some (nW (2 * pre.length + 1))] u = .ok (nW (2 * pre.length)) u := fun u => by
        refine dBin_ok (dVar_ok rfl) rfl ?_
        show R.ok (W.d (.int (((2 * pre.length + 1 : Nat) : Int) - 1))) u = _
        have : (((2 * pre.length + 1 : Nat) : Int) - 1) = ((2 * pre.length : Nat) : Int) := by omega
        rw [this]
      have wb : ∀ u, dBin vIx (dVar 1) (dVar 2) [some (.ref M), some (.d (.list (w.map nI))), some (nW (2 * pre.length + 1))] u = .ok (nW b) u := fun u => dBin_ok (dVar_ok rfl) (dVar_ok rfl) (vIx_lmap g1)
      have wa : ∀ u, dBin vIx (dVar 1) (dBin vSub (dVar 2) (dLit (.int 1))) [some (.ref M), some (.d (.list (w.map nI))), some (nW (2 * pre.length + 1))] u = .ok (nW a) u := fun u => dBin_ok (dVar_ok rfl) (sub u) (vIx_lmap g0)
      have q1 := set1 (o := some b) (atM (BM.tw (BM.upd μ (BM.lastD w) none) (w.take (2 * pre.length)))) m0 (wb _) (dVar_ok rfl) (wa _)
      rw [gl] at q1
      have q2 := set1 (o := some a) (atM (BM.upd (BM.tw (BM.upd μ (BM.lastD w) none) (w.take (2 * pre.length))) a (some b))) m1 (wa _) (dVar_ok rfl) (wb _)
      rw [gl] at q2
      refine ⟨_, _, _, _, rfl, to q1 q2, ⟨_, rfl⟩, ?_⟩
      have et : w.take (2 * (pre ++ [pre.length]).length) = w.take (2 * pre.length) ++ [a, b] := by
        rw [List.length_append, List.length_singleton, show 2 * (pre.length + 1) = 2 * pre.length + 1 + 1 by omega, List.take_succ, List.take_succ, g0, g1, List.append_assoc]
        rfl
      rw [et, BM.tw_snoc pre.length _ _ _ _ (by rw [List.length_take]; omega)])
    (ρ := [some (.ref M), some (.d (.list (w.map nI))), none]) (s := t.set M (olist m (BM.upd μ (BM.lastD w) none))) ⟨⟨_, rfl⟩, rfl⟩
  rw [List.length_range, BM.tw_odd _ _ _ rfl] at e1
  refine dDef_nx (ρ' := ρ') (to s1 (dFor_ok (ws := (List.range (w.length / 2)).map fun i => nW (2 * i + 1)) ?_ e1))
  unfold dRng3
  have ga : ∀ u, (dCons (dLit (.int 1)) (dCons (dCall gLen (dCons (dVar 1) dNil)) (dCons (dLit (.int 2)) dNil))) [some (.ref M), some (.d (.list (w.map nI))), none] u = .ok [.d (.int 1), nW w.length, .d (.int 2)] u := fun u => dCons_ok rfl (dCons_ok (dCall_ok (dCons1_ok (dVar_ok rfl)) gLen_map) (dCons1_ok rfl))
  rw [ga, R.bind_ok]
  dsimp only
  rw [chk_ok ⟨by decide, by decide, sml pos hl, by rw [rs pos hl]; omega⟩, rs pos hl]
  unfold rngC
  rw [Int.toNat_natCast, em]
end BL
namespace BL
open PySem PySem.Spec PyProof.Rows L2 Y
end BL
namespace BL
open PySem PySem.Spec PyProof.Rows L2 Y
abbrev oD (o : Option Nat) : PyData := match o with
  | none => .none
  | some v => nI v
theorem oW_d (o : Option Nat) : oW o = .d (oD o) := by cases o <;> rfl
theorem pairs_opt {m : Nat} {f : Nat → Option Nat} : pairs 0 ((List.range m).map fun i => oD (f i)) = (List.range m).map fun i => W.d (.tuple [nI i, oD (f i)]) := by
  apply List.ext_getElem?
  intro j
  rw [pairs_get, List.getElem?_map, List.getElem?_map]
  by_cases h : j < m
  · rw [List.getElem?_range h]
    simp
  · rw [List.getElem?_eq_none (by simpa using h)]
    rfl
end BL
namespace BL
open PySem PySem.Spec PyProof.Rows L2 Y
/-- some plan serves them all -/
def Srv (m : Nat) (es : List E2) (S : List Nat) : Prop := ∃ N, MB.Mt (Adj es) (List.range m) N ∧ ∀ x ∈ S, N x ≠ x
theorem Srv.sub {m : Nat} {es : List E2} {S T : List Nat} (h : Srv m es S) (k : ∀ x ∈ T, x ∈ S) : Srv m es T := let ⟨N, h1, h2⟩ := h; ⟨N, h1, fun x hx => h2 x (k x hx)⟩
open Classical in
noncomputable def keepF (m : Nat) (es : List E2) (acc : List Nat) (p : Nat) : List Nat := if Srv m es (acc ++ [p]) then acc ++ [p] else acc
noncomputable def kept (m : Nat) (es : List E2) (ps : List Nat) : List Nat := ps.foldl (keepF m es) []
theorem kept_snoc {m : Nat} {es : List E2} {ps : List Nat} {p : Nat} : kept m es (ps ++ [p]) = keepF m es (kept m es ps) p := by unfold kept; rw [List.foldl_append]; rfl
theorem keepF_y {m : Nat} {es : List E2} {acc : List Nat} {p : Nat} (h : Srv m es (acc ++ [p])) : keepF m es acc p = acc ++ [p] := if_pos h
theorem keepF_n {m : Nat} {es : List E2} {acc : List Nat} {p : Nat} (h : ¬ Srv m es (acc ++ [p])) : keepF m es acc p = acc := if_neg h
/-- plans as partners -/
structure Ma (m : Nat) (es : List E2) (μ : Nat → Option Nat) : Prop where
  ms : ∀ u v, μ u = some v → μ v = some u
  ad : ∀ u v, μ u = some v → Adj es u v
section
variable {m : Nat} {es : List E2} {μ : Nat → Option Nat} (hes : ∀ e ∈ es, e.1 < e.2 ∧ e.2 < m)
include hes
theorem adj_ne {u v : Nat} (h : Adj es u v) : v < m ∧ u ≠ v := by
  rcases h with h | h
  · have := hes _ h
    simp only at this
    exact ⟨this.2, by omega⟩
  · have := hes _ h
    simp only at this
    exact ⟨by omega, by omega⟩
theorem Ma.irr (h : Ma m es μ) (v : Nat) : μ v ≠ some v := fun q => (adj_ne hes (h.ad v v q)).2 rfl
theorem Ma.mu (h : Ma m es μ) (x y : Nat) (q : μ x = some y) : x < m ∧ y < m := ⟨(adj_ne hes (h.ad y x (h.ms x y q))).1, (adj_ne hes (h.ad x y q)).1⟩
theorem Ma.mt (h : Ma m es μ) : MB.Mt (Adj es) (List.range m) (BM.mF μ) := BM.mF_mt h.ms (fun u v q => List.mem_range.mpr (h.mu hes u v q).2) h.ad
end
theorem make_ok {c : Str} {k : Nat} {F : Fn} {fa : En → Sto → R (List W)} {ρ : En} {s s1 s2 : Sto} {ws : List W} (h1 : fa ρ s = .ok ws s1) (h2 : ws.length + 1 = k) (h3 : F (.ref s1.length :: ws) (s1 ++ [.obj c []]) = .ok (.d .none) s2) : dMake c k F fa ρ s = .ok (.ref s1.length) s2 := by
  unfold dMake
  rw [h1, R.bind_ok, chk_ok h2, h3, R.bind_ok]
abbrev mateD (m : Nat) (μ : Nat → Option Nat) : PyData := .list ((List.range m).map fun i => oD (μ i))
theorem snoc_ind {α : Type} {P : List α → Prop} (h0 : P []) (h1 : ∀ l a, P l → P (l ++ [a])) (l : List α) : P l := by
  have : ∀ n (l : List α), l.length = n → P l := fun n => by
    induction n with
    | zero => intro l hl; rw [List.length_eq_zero_iff.mp hl]; exact h0
    | succ n ih =>
      intro l hl
      rcases List.eq_nil_or_concat l with rfl | ⟨k, a, rfl⟩
      · simp at hl
      · rw [List.concat_eq_append] at hl ⊢
        exact h1 k a (ih k (by simpa using hl))
  exact this _ l rfl
theorem kept_mem {m : Nat} {es : List E2} : ∀ pre : List Nat, ∀ x ∈ kept m es pre, x ∈ pre := by
  refine snoc_ind (fun x hx => hx) fun pre p ih x hx => ?_
  rw [kept_snoc] at hx
  unfold keepF at hx
  split at hx
  · rcases List.mem_append.mp hx with h | h
    · exact List.mem_append_left _ (ih x h)
    · exact List.mem_append_right _ h
  · exact List.mem_append_left _ (ih x hx)
theorem vIs_oW {o : Option Nat} {st : Sto} : vIs false (oW o) (.d .none) st = .ok (.d (.bool o.isNone)) st := by
  cases o <;> simp [vIs, oW]
end BL
namespace BL
open PySem PySem.Spec PyProof.Rows L2 Y
def Pl : PyData → Prop
  | .dict _ => False
  | _ => True
def isBelow (n : Int) : PyData → Bool
  | .int i => decide (0 ≤ i) && decide (i < n)
  | _ => false
def isInt : PyData → Bool
  | .int _ => true
  | _ => false
def tyD : PyData → String
  | .none => "NoneType"
  | .bool _ => "bool"
  | .int _ => "int"
  | .str _ => "str"
  | .list _ => "list"
  | _ => "tuple"
theorem isi_of {d : PyData} {ρ : En} {s : Sto} {i : Nat} {T : String} {b : Bool} (h : Pl d) (hv : ρ[i]? = some (some (.d d))) (hk : kitB (tyD d) T = some b) : dIsi [T] (dVar i) ρ s = .ok (.d (.bool b)) s := by
  unfold dIsi
  rw [dVar_ok hv, R.bind_ok]
  have ht : tyName s (.d d) = some (tyD d) := by
    cases d with
    | dict _ => exact h.elim
    | _ => rfl
  rw [ht]
  simp only [isiB, hk]
  cases b <;> rfl
theorem kb_int : kitB "NoneType" "int" = some false ∧ kitB "bool" "int" = some true ∧ kitB "int" "int" = some true ∧ kitB "str" "int" = some false ∧ kitB "list" "int" = some false ∧ kitB "tuple" "int" = some false := by decide +kernel
theorem kb_bool : kitB "bool" "bool" = some true ∧ kitB "int" "bool" = some false := by decide +kernel
theorem kb_tup : kitB "NoneType" "tuple" = some false ∧ kitB "bool" "tuple" = some false ∧ kitB "int" "tuple" = some false ∧ kitB "str" "tuple" = some false ∧ kitB "list" "tuple" = some false ∧ kitB "tuple" "tuple" = some true := by decide +kernel
noncomputable def B_is_integer : DS :=
  (dRet (dAndV (dIsi ["int"] (dVar 0)) (dNotV (dIsi ["bool"] (dVar 0)))))
noncomputable def F_is_integer : Fn := dDef 1 B_is_integer
theorem F_is_integer_ok {d : PyData} (h : Pl d) : F_is_integer [.d d] [] = .ok (.d (.bool (isInt d))) [] := by
  obtain ⟨k1, k2, k3, k4, k5, k6⟩ := kb_int
  obtain ⟨k7, k8⟩ := kb_bool
  have no : ∀ {b : Bool} {f : En → Sto → R W} {ρ : En}, f ρ [] = .ok (.d (.bool b)) [] → dNotV f ρ [] = .ok (.d (.bool (!b))) [] := fun {b f ρ} e => by unfold dNotV; rw [asB_ok e]; rfl
  cases d with
  | dict _ => exact h.elim
  | none => exact dDef_rt (dRet_ok (dAndV_f (isi_of h rfl k1)))
  | bool _ => exact dDef_rt (dRet_ok (dAndV_t (isi_of h rfl k2) (no (isi_of h rfl k7))))
  | int _ => exact dDef_rt (dRet_ok (dAndV_t (isi_of h rfl k3) (no (isi_of h rfl k8))))
  | str _ => exact dDef_rt (dRet_ok (dAndV_f (isi_of h rfl k4)))
  | list _ => exact dDef_rt (dRet_ok (dAndV_f (isi_of h rfl k5)))
  | tuple _ => exact dDef_rt (dRet_ok (dAndV_f (isi_of h rfl k6)))
noncomputable def B_is_number : DS :=
  (dRet (dAndV (dCalP 1 F_is_integer (dCons (dVar 0) dNil)) (dBin vGe (dVar 0) (dLit (.int 0)))))
noncomputable def F_is_number : Fn := dDef 1 B_is_number
theorem F_is_number_ok {d : PyData} (h : Pl d) : F_is_number [.d d] [] = .ok (.d (.bool (match d with | .int i => decide (0 ≤ i) | _ => false))) [] := by
  have e := F_is_integer_ok h
  cases d with
  | int i => exact dDef_rt (dRet_ok (dAndV_t (dCalP_ok (dCons1_ok (dVar_ok rfl)) rfl rfl e) (dBin_ok (dVar_ok rfl) rfl rfl)))
  | dict _ => exact h.elim
  | _ => exact dDef_rt (dRet_ok (dAndV_f (dCalP_ok (dCons1_ok (dVar_ok rfl)) rfl rfl e)))
noncomputable def B_is_below : DS :=
  (dRet (dAndV (dCalP 1 F_is_number (dCons (dVar 1) dNil)) (dBin vLt (dVar 1) (dVar 0))))
noncomputable def F_is_below : Fn := dDef 2 B_is_below
theorem F_is_below_ok {n : Int} {d : PyData} (h : Pl d) : F_is_below [.d (.int n), .d d] [] = .ok (.d (.bool (isBelow n d))) [] := by
  have e := F_is_number_ok h
  cases d with
  | int i =>
    by_cases h0 : 0 ≤ i
    · simp only [h0, decide_true] at e
      have : isBelow n (.int i) = decide (i < n) := by simp [isBelow, h0]
      rw [this]
      exact dDef_rt (dRet_ok (dAndV_t (dCalP_ok (dCons1_ok (dVar_ok rfl)) rfl rfl e) (dBin_ok (dVar_ok rfl) (dVar_ok rfl) rfl)))
    · simp only [h0, decide_false] at e
      have : isBelow n (.int i) = false := by simp [isBelow, h0]
      rw [this]
      exact dDef_rt (dRet_ok (dAndV_f (dCalP_ok (dCons1_ok (dVar_ok rfl)) rfl rfl e)))
  | dict _ => exact h.elim
  | _ => exact dDef_rt (dRet_ok (dAndV_f (dCalP_ok (dCons1_ok (dVar_ok rfl)) rfl rfl e)))
theorem gAll_ok {bs : List Bool} {st : Sto} : gAll [.d (.list (bs.map .bool))] st = .ok (.d (.bool (bs.all id))) st := by
  simp [gAll, asBools_map]
def isTup : PyData → Bool
  | .tuple _ => true
  | _ => false
theorem isi_tup {d : PyData} {ρ : En} {s : Sto} {i : Nat} (h : Pl d) (hv : ρ[i]? = some (some (.d d))) : dIsi ["tuple"] (dVar i) ρ s = .ok (.d (.bool (isTup d))) s := by
  obtain ⟨k1, k2, k3, k4, k5, k6⟩ := kb_tup
  refine isi_of h hv ?_
  cases d with
  | dict _ => exact h.elim
  | none => exact k1
  | bool _ => exact k2
  | int _ => exact k3
  | str _ => exact k4
  | list _ => exact k5
  | tuple _ => exact k6
noncomputable def B_are_below : DS :=
  (dRet (dAndV (dIsi ["tuple"] (dVar 1)) (dCall gAll (dCons (dLcF (dLc [2] (dIter (dVar 1)) (tName 2) (fun _ st => .ok true st) (dCalP 2 F_is_below (dCons (dVar 0) (dCons (dVar 2) dNil))))) dNil))))
noncomputable def F_are_below : Fn := dDef 3 B_are_below
theorem F_are_below_tup {n : Int} {ds : List PyData} (h : ∀ d ∈ ds, Pl d) (hl : ds.length ≤ 1000) : F_are_below [.d (.int n), .d (.tuple ds)] [] = .ok (.d (.bool (ds.all (isBelow n)))) [] := by
  have e := lcL_map (tg := tName 2) (fe := dCalP 2 F_is_below (dCons (dVar 0) (dCons (dVar 2) dNil))) (ρ := [some (.d (.int n)), some (.d (.tuple ds)), none]) (s := []) (emb := fun d => W.d d) (g := fun d => W.d (.bool (isBelow n d))) ds (fun d hd => ⟨[some (.d (.int n)), some (.d (.tuple ds)), some (.d d)], rfl, dCalP_ok (dCons_ok (dVar_ok rfl) (dCons1_ok (dVar_ok rfl))) rfl rfl (F_is_below_ok (h d hd))⟩)
  rw [← map_d (fun d => PyData.bool (isBelow n d))] at e
  have e3 : ds.map (fun d => PyData.bool (isBelow n d)) = (ds.map (isBelow n)).map .bool := by rw [List.map_map]; rfl
  rw [e3] at e
  have e4 : (ds.map (isBelow n)).all id = ds.all (isBelow n) := by rw [List.all_map]; rfl
  rw [← e4]
  exact dDef_rt (dRet_ok (dAndV_t (isi_tup (d := .tuple ds) trivial rfl) (dCall_ok (dCons1_ok (dLcF_ok (dLc_ok (dIter_ok (dVar_ok rfl) rfl) e (by rw [List.length_map, List.length_map, List.length_map, sizeLine_eq]; omega)))) gAll_ok)))
theorem F_are_below_not {n : Int} {d : PyData} (h : Pl d) (ht : isTup d = false) : F_are_below [.d (.int n), .d d] [] = .ok (.d (.bool false)) [] := by
  have e := isi_tup (ρ := [some (.d (.int n)), some (.d d), none]) (s := []) (i := 1) h rfl
  rw [ht] at e
  exact dDef_rt (dRet_ok (dAndV_f e))
def ascB (is : List Int) : Bool := (List.range (is.length - 1)).all fun i => decide (is.getD i 0 < is.getD (i + 1) 0)
theorem get_int {is : List Int} {i : Nat} (h : i < is.length) : (is.map PyData.int)[i]? = some (.int (is.getD i 0)) := by
  rw [List.getElem?_map, List.getElem?_eq_getElem h]
  simp [h]
noncomputable def B_is_ascending : DS :=
  (dRet (dCall gAll (dCons (dLcF (dLc [1] (dRng2 (dCons (dLit (.int 1)) (dCons (dCall gLen (dCons (dVar 0) dNil)) dNil))) (tName 1) (fun _ st => .ok true st) (dBin vLt (dBin vIx (dVar 0) (dBin vSub (dVar 1) (dLit (.int 1)))) (dBin vIx (dVar 0) (dVar 1))))) dNil)))
noncomputable def F_is_ascending : Fn := dDef 2 B_is_ascending
theorem F_asc_ok {is : List Int} (hl : is.length ≤ 1000) : F_is_ascending [.d (.tuple (is.map .int))] [] = .ok (.d (.bool (ascB is))) [] := by
  have e := lcL_map (tg := tName 1) (fe := dBin vLt (dBin vIx (dVar 0) (dBin vSub (dVar 1) (dLit (.int 1)))) (dBin vIx (dVar 0) (dVar 1))) (ρ := [some (.d (.tuple (is.map .int))), none]) (s := []) (emb := fun i : Nat => W.d (.int (1 + (i : Int)))) (g := fun i : Nat => W.d (.bool (decide (is.getD i 0 < is.getD (i + 1) 0)))) (List.range (is.length - 1)) (fun i hi => by
    have hi := List.mem_range.mp hi
    refine ⟨[some (.d (.tuple (is.map .int))), some (.d (.int (1 + (i : Int))))], rfl, ?_⟩
    have h1 : vSub (.d (.int (1 + (i : Int)))) (.d (.int 1)) [] = .ok (I i) [] := by
      have : (1 : Int) + (i : Int) - 1 = (i : Int) := by omega
      simp only [vSub, Y.vInt, this]
    have h2 : W.d (.int (1 + (i : Int))) = I (i + 1 : Nat) := by
      have : (1 : Int) + (i : Int) = ((i + 1 : Nat) : Int) := by omega
      rw [this]
    exact dBin_ok (dBin_ok (dVar_ok rfl) (dBin_ok (dVar_ok rfl) rfl h1) (vIx_tup (get_int (by omega)))) (dBin_ok (dVar_ok rfl) (dVar_ok rfl) (by rw [h2]; exact vIx_tup (get_int (by omega)))) rfl)
  rw [← map_d (fun i : Nat => PyData.bool (decide (is.getD i 0 < is.getD (i + 1) 0)))] at e
  have e3 : (List.range (is.length - 1)).map (fun i : Nat => PyData.bool (decide (is.getD i 0 < is.getD (i + 1) 0))) = ((List.range (is.length - 1)).map fun i : Nat => decide (is.getD i 0 < is.getD (i + 1) 0)).map .bool := by rw [List.map_map]; rfl
  rw [e3] at e
  have e4 : ((List.range (is.length - 1)).map fun i : Nat => decide (is.getD i 0 < is.getD (i + 1) 0)).all id = ascB is := by unfold ascB; rw [List.all_map]; rfl
  rw [← e4]
  have er : dRng2 (dCons (dLit (.int 1)) (dCons (dCall gLen (dCons (dVar 0) dNil)) dNil)) [some (.d (.tuple (is.map .int))), none] [] = .ok ((List.range (is.length - 1)).map fun i : Nat => W.d (.int (1 + (i : Int)))) [] := by
    have el : dCons (dLit (.int 1)) (dCons (dCall gLen (dCons (dVar 0) dNil)) dNil) [some (.d (.tuple (is.map .int))), none] [] = .ok [.d (.int 1), .d (.int ((is.map PyData.int).length : Nat))] [] := dCons_ok rfl (dCons1_ok (dCall_ok (dCons1_ok (dVar_ok rfl)) gLen_tup))
    unfold dRng2
    rw [el, R.bind_ok]
    dsimp only
    rw [chk_ok (by rw [List.length_map]; omega), List.length_map]
    have : ((is.length : Int) - 1).toNat = is.length - 1 := by omega
    rw [this]
    rfl
  exact dDef_rt (dRet_ok (dCall_ok (dCons1_ok (dLcF_ok (dLc_ok er e (by rw [List.length_map, List.length_map, List.length_map, List.length_range, sizeLine_eq]; omega)))) gAll_ok))
noncomputable def B_are_ascending_below : DS :=
  (dRet (dAndV (dCalP 2 F_are_below (dCons (dVar 0) (dCons (dVar 1) dNil))) (dCalP 1 F_is_ascending (dCons (dVar 1) dNil))))
noncomputable def F_are_ascending_below : Fn := dDef 2 B_are_ascending_below
noncomputable def B_is_lot : DS :=
  (dRet (dCalP 2 F_are_ascending_below (dCons (dVar 0) (dCons (dVar 1) dNil))))
noncomputable def F_is_lot : Fn := dDef 2 B_is_lot
theorem F_lot_tup {n : Int} {ds : List PyData} (h : ∀ d ∈ ds, Pl d) (hl : ds.length ≤ 1000) (hb : ds.all (isBelow n) = false) : F_is_lot [.d (.int n), .d (.tuple ds)] [] = .ok (.d (.bool false)) [] := by
  have e := F_are_below_tup (n := n) h hl
  rw [hb] at e
  have e2 : F_are_ascending_below [.d (.int n), .d (.tuple ds)] [] = .ok (.d (.bool false)) [] := dDef_rt (dRet_ok (dAndV_f (dCalP_ok (dCons_ok (dVar_ok rfl) (dCons1_ok (dVar_ok rfl))) rfl rfl e)))
  exact dDef_rt (dRet_ok (dCalP_ok (dCons_ok (dVar_ok rfl) (dCons1_ok (dVar_ok rfl))) rfl rfl e2))
theorem F_lot_not {n : Int} {d : PyData} (h : Pl d) (ht : isTup d = false) : F_is_lot [.d (.int n), .d d] [] = .ok (.d (.bool false)) [] := by
  have e := F_are_below_not (n := n) h ht
  have e2 : F_are_ascending_below [.d (.int n), .d d] [] = .ok (.d (.bool false)) [] := dDef_rt (dRet_ok (dAndV_f (dCalP_ok (dCons_ok (dVar_ok rfl) (dCons1_ok (dVar_ok rfl))) rfl rfl e)))
  exact dDef_rt (dRet_ok (dCalP_ok (dCons_ok (dVar_ok rfl) (dCons1_ok (dVar_ok rfl))) rfl rfl e2))
theorem F_lot_ints {n : Int} {is : List Int} (hl : is.length ≤ 1000) (hb : (is.map PyData.int).all (isBelow n) = true) : F_is_lot [.d (.int n), .d (.tuple (is.map .int))] [] = .ok (.d (.bool (ascB is))) [] := by
  have e := F_are_below_tup (n := n) (ds := is.map .int) (fun d hd => by
    obtain ⟨i, _, rfl⟩ := List.mem_map.mp hd
    trivial) (by rw [List.length_map]; exact hl)
  rw [hb] at e
  have e2 : F_are_ascending_below [.d (.int n), .d (.tuple (is.map .int))] [] = .ok (.d (.bool (ascB is))) [] := dDef_rt (dRet_ok (dAndV_t (dCalP_ok (dCons_ok (dVar_ok rfl) (dCons1_ok (dVar_ok rfl))) rfl rfl e) (dCalP_ok (dCons1_ok (dVar_ok rfl)) rfl rfl (F_asc_ok hl))))
  exact dDef_rt (dRet_ok (dCalP_ok (dCons_ok (dVar_ok rfl) (dCons1_ok (dVar_ok rfl))) rfl rfl e2))
theorem eq_ints {i j : Int} {st : Sto} : vEq false (.d (.int i)) (.d (.int j)) st = .ok (.d (.bool (decide (i = j)))) st := by
  simp [vEq, shaped_int, PyData.eqv]
  by_cases h : i = j <;> simp [h]
theorem dd_sub {α : Type} [DecidableEq α] : ∀ l : List α, (dd l).Sublist l
  | [] => .slnil
  | a :: l => by
    unfold dd
    split
    · exact (dd_sub l).cons a
    · exact (dd_sub l).cons_cons a
theorem dd_len {α : Type} [DecidableEq α] (l : List α) : (dd l).length = l.length ↔ l.Nodup := by
  constructor
  · intro h
    have := (dd_sub l).eq_of_length h
    rw [← this]; exact nodup_dd l
  · intro h
    exact ((List.perm_ext_iff_of_nodup (nodup_dd l) h).mpr fun x => mem_dd l x).length_eq
abbrev zs (l : List Nat) : List Int := l.map fun i : Nat => (i : Int)
theorem nI_zs (l : List Nat) : l.map nI = (zs l).map .int := by rw [List.map_map]; rfl
theorem asc_pw {is : List Int} (h : is.Pairwise (· < ·)) : ascB is = true := by
  unfold ascB
  rw [List.all_eq_true]
  intro i hi
  have hi := List.mem_range.mp hi
  have := List.pairwise_iff_getElem.mp h i (i + 1) (by omega) (by omega) (by omega)
  simp [List.getD_eq_getElem?_getD, List.getElem?_eq_getElem (show i < is.length by omega), List.getElem?_eq_getElem (show i + 1 < is.length by omega)]
  exact this
theorem below_all {m : Nat} {l : List Nat} (h : ∀ i ∈ l, i < m) : ((zs l).map PyData.int).all (isBelow m) = true := by
  rw [List.all_eq_true]
  intro d hd
  obtain ⟨z, hz, rfl⟩ := List.mem_map.mp hd
  obtain ⟨i, hi, rfl⟩ := List.mem_map.mp hz
  have := h i hi
  simp [isBelow]; omega
/-- a lot -/
structure LotOk (m : Nat) (l : List Nat) : Prop where
  pw : l.Pairwise (· < ·)
  lt : ∀ i ∈ l, i < m
  len : l.length ≤ m
theorem lotOk_of {m : Nat} {l : List Nat} (h : l.Sublist (List.range m)) : LotOk m l :=
  ⟨List.pairwise_lt_range.sublist h, fun i hi => List.mem_range.mp (h.subset hi), by have := h.length_le; simpa using this⟩
theorem pw_zs {l : List Nat} (h : l.Pairwise (· < ·)) : (zs l).Pairwise (· < ·) := by
  rw [List.pairwise_map]
  exact h.imp fun {a b} q => by omega
end BL
namespace BL
open PySem PySem.Spec PyProof.Rows L2 Y
theorem lc_rowsG {m L i j : Nat} {nb : Nat → List Nat} {t : Sto} {c : W} (h : RowsAt t L m nb) (hm : m ≤ 1000) {ρ : En} (h1 : ρ[i]? = some (some (.ref (L + m)))) : dLcN (dLcS [j] (dVar i) (tName j) (fun _ st => .ok true st) (fun _ st => .ok c st)) ρ t = .ok (.ref t.length) (t ++ [.lst ((List.range m).map fun _ => c)]) := by
  have e := lcS_filter (n := L + m) (all := (List.range m).map fun i => W.ref (L + i)) (tg := tName j) (tt := fun _ st => .ok true st) (fe := fun _ st => .ok c st) (ρ := wipeE ρ [j]) (s := t) (emb := fun i => W.ref (L + i)) (g := fun _ => c) (p := fun _ => true) h.top (List.range m) fun a _ => ⟨(wipeE ρ [j]).set j (some (.ref (L + a))), rfl, rfl, fun _ => rfl⟩
  have ef : (List.range m).filter (fun _ => true) = List.range m := List.filter_eq_self.mpr fun _ _ => rfl
  rw [ef] at e
  exact dLcN_ok (dLcS_ok (vs := [j]) (dVar_ok h1) h.top e (le_line (by simp; omega)))
noncomputable def B_plan_of : DS :=
  (dRet (dCall gTupleOf (dCons (dLcF (dLc [1, 2] (dEnum (dVar 0)) (tTup' 2 (tCons' (tName 1) (tCons' (tName 2) tNil'))) (dAnd (fun ρ st => asB (dBin (vIs true) (dVar 2) (dLit .none) ρ st)) (fun ρ st => asB (dBin vLt (dVar 1) (dVar 2) ρ st))) (dTup (dCons (dVar 1) (dCons (dVar 2) dNil))))) dNil)))
noncomputable def F_plan_of : Fn := dDef 3 B_plan_of
/-- the pairs of partners -/
def planP (m : Nat) (μ : Nat → Option Nat) : List E2 := ((List.range m).filter fun u => match μ u with | some v => decide (u < v) | none => false).map fun u => (u, (μ u).getD 0)
theorem plan_of_ok {m : Nat} {μ : Nat → Option Nat} (hm : m ≤ 1000) : F_plan_of [.d (mateD m μ)] [] = .ok (.d (planD (planP m μ))) [] := by
  have en : dEnum (dVar 0) [some (.d (mateD m μ)), none, none] [] = .ok ((List.range m).map fun i => W.d (.tuple [nI i, oD (μ i)])) [] := by
    unfold dEnum
    rw [dVar_ok (w := .d (mateD m μ)) rfl, R.bind_ok]
    dsimp only
    rw [pairs_opt]
  have f1 := lcL_filter2 (tg := tTup' 2 (tCons' (tName 1) (tCons' (tName 2) tNil'))) (tt := dAnd (fun ρ st => asB (dBin (vIs true) (dVar 2) (dLit .none) ρ st)) (fun ρ st => asB (dBin vLt (dVar 1) (dVar 2) ρ st))) (fe := dTup (dCons (dVar 1) (dCons (dVar 2) dNil))) (ρ := [some (.d (mateD m μ)), none, none]) (s := []) (emb := fun i => W.d (.tuple [nI i, oD (μ i)])) (g := fun u => W.d (eD (u, (μ u).getD 0))) (p := fun u => match μ u with | some v => decide (u < v) | none => false) (List.range m) fun a _ => by
    refine ⟨[some (.d (mateD m μ)), some (nW a), some (.d (oD (μ a)))], rfl, ?_, ?_⟩
    · cases h : μ a with
      | none => exact dAnd_f (asB_ok (dBin_ok (dVar_ok rfl) rfl rfl))
      | some v => exact dAnd_t (asB_ok (dBin_ok (dVar_ok rfl) rfl rfl)) (asB_ok (dBin_ok (dVar_ok rfl) (dVar_ok rfl) (by
          show R.ok (W.d (.bool (decide ((a : Int) < (v : Int))))) _ = _
          have : decide ((a : Int) < (v : Int)) = decide (a < v) := decide_eq_decide.mpr (by omega)
          rw [this])))
    · intro hp
      cases h : μ a with
      | none => rw [h] at hp; cases hp
      | some v => exact tup_ok (ds := [nI a, nI v]) (dCons_ok (dVar_ok rfl) (dCons1_ok (dVar_ok rfl))) rfl (by simp)
  have toD : ((List.range m).filter fun u => match μ u with | some v => decide (u < v) | none => false).map (fun u => W.d (eD (u, (μ u).getD 0))) = ((planP m μ).map eD).map W.d := by
    unfold planP
    rw [List.map_map, List.map_map]; rfl
  rw [toD] at f1
  refine dDef_rt (dRet_ok (dCall_ok (dCons1_ok (dLcF_ok (dLc_ok (vs := [1, 2]) en f1 (le_line ?_)))) tupleOf_list))
  unfold planP
  simp only [List.length_map]
  exact Nat.le_trans (List.length_filter_le _ _) (by simp; omega)
/-- all of them are kept -/
theorem kept_srv {m : Nat} {es : List E2} (h0 : Srv m es []) : ∀ ps : List Nat, Srv m es (kept m es ps) := by
  refine snoc_ind h0 fun ps p ih => ?_
  rw [kept_snoc]
  by_cases h : Srv m es (kept m es ps ++ [p])
  · rw [keepF_y h]; exact h
  · rw [keepF_n h]; exact ih
theorem srv_nil {m : Nat} {es : List E2} : Srv m es [] := let ⟨N, h⟩ := MB.mx_ex (adj := Adj es) (List.range m); ⟨N, h.mt, fun x hx => nomatch hx⟩
end BL
namespace Y
open PySem PySem.Spec PyProof.Rows L2
section
variable {K : PySem.W.Frag} {Z Z0 : Addr → Prop} {θ θ1 : List (Option Addr)} {H H1 : Hp} {st : Sto} {F : W → V → Prop}
theorem SR.atT (S : SR K Z0 θ st H) {n : Nat} {ws : List W} {v : V} (h : WR K (Zs Z0 θ) θ H (.ref n) v) (e : st[n]? = some (.tup ws)) : ∃ a vs, v = .ref a ∧ H a = some (.tup vs) ∧ WRs K (Zs Z0 θ) θ H ws vs := by
  obtain ⟨o, h1, h2⟩ := h
  cases o with
  | none => rw [S.dd n h1] at e; cases e
  | some a =>
    obtain ⟨vs, q1, q2⟩ := S.obj n a _ h1 e
    exact ⟨a, vs, h2 a rfl, q1, q2⟩
end
def dNewT (f : En → Sto → R (List W)) : En → Sto → R W := fun ρ st => (f ρ st).bind fun ws s => chk (ws.length ≤ sizeLine) (.ok (.ref s.length) (s ++ [.tup ws]))
def tTupR (n : Nat) (h : List W → En → Sto → R En) : W → En → Sto → R En := fun w ρ st => match w with
  | .ref m => match st[m]? with
    | some (.tup ws) => chk (ws.length = n) (h ws ρ st)
    | _ => .bad
  | _ => .bad
section
variable {X : Cx} {C : Ct}
theorem y_newT {es : List Expr} {pos : Pos} {x1} {f : En → Sto → R (List W)} (h : PA X es (rdA C f)) : PE X (.Tuple es x1 pos) (rdE C (dNewT f)) := PE.imp (pe_tup h) fun σ H Q q => by
  obtain ⟨Z0, θ, ρ, st, S, N, p⟩ := q
  refine ⟨Z0, θ, ρ, st, S, N, Post.bind p fun ws st1 θ1 H1 vs _ e1 S1 w1 p1 => ?_⟩
  exact ⟨by rw [← w1.length]; exact p1.chk.1, fun t ht => Post.newO p1.chk.2 S1 ht ⟨vs, upd_same, WRs.ext (Ext.push ht) w1⟩⟩
theorem y_gtupR {vs : List Nat} {es : List Expr} {k n : Nat} {h : List W → En → Sto → R En} {pos : Pos} (hK : C.K = X.K) (hc : X.calm = true) (hh : PGs X es (rdGs C vs h))
    (hn : (assignEach es X.env).length = n := by rfl) (hst : (assignEach es X.env).findIdx? (·.1) = none := by rfl) : PG X (.Tuple es k pos) (rdG C vs (tTupR n h)) := by
  obtain ⟨K, mg, E⟩ := C
  obtain rfl : K = X.K := hK
  refine PG.imp (pg_tup hc hh hn hst) fun v σ H Q q => ?_
  obtain ⟨Z0, θ, ρ, st, w, S, N, r, p⟩ := q
  unfold tTupR at p
  split at p
  · split at p
    · rename_i ws hw
      obtain ⟨a, us, rfl, h1, h2⟩ := S.atT r hw
      exact ⟨_, _, rfl, tq h1, by rw [← h2.length]; exact p.chk.1, Z0, θ, ρ, st, _, S, N, h2, p.chk.2⟩
    · exact p.elim
  · exact p.elim
end
end Y
namespace BL
open PySem PySem.Spec PyProof.Rows L2 Y
structure PlanOk (m : Nat) (es p : List E2) : Prop where
  sub : ∀ e ∈ p, e ∈ es
  lt : ∀ e ∈ p, e.1 < e.2 ∧ e.2 < m
  dis : p.Pairwise Dis
  pw : p.Pairwise (fun a b => a.1 < b.1 ∨ (a.1 = b.1 ∧ a.2 < b.2))
def pv (p : List E2) : List Nat := p.flatMap fun e => [e.1, e.2]
theorem mem_pv {p : List E2} {x : Nat} : x ∈ pv p ↔ ∃ e ∈ p, x = e.1 ∨ x = e.2 := by
  unfold pv
  rw [List.mem_flatMap]
  constructor
  · rintro ⟨e, he, hx⟩
    exact ⟨e, he, by simpa using hx⟩
  · rintro ⟨e, he, hx⟩
    exact ⟨e, he, by simpa using hx⟩
theorem pv_cons (e : E2) (p : List E2) : pv (e :: p) = e.1 :: e.2 :: pv p := rfl
theorem pv_snoc (p : List E2) (e : E2) : pv (p ++ [e]) = pv p ++ [e.1, e.2] := by unfold pv; rw [List.flatMap_append]; rfl
theorem pv_len (p : List E2) : (pv p).length = 2 * p.length := by
  induction p with
  | nil => rfl
  | cons e p ih => rw [pv_cons, List.length_cons, List.length_cons, ih, List.length_cons]; omega
theorem pv_nodup : ∀ {p : List E2}, p.Pairwise Dis → (∀ e ∈ p, e.1 ≠ e.2) → (pv p).Nodup
  | [], _, _ => List.nodup_nil
  | e :: p, d, l => by
    obtain ⟨d1, d2⟩ := List.pairwise_cons.mp d
    have ih := pv_nodup d2 fun f hf => l f (List.mem_cons_of_mem _ hf)
    have no : ∀ x, x = e.1 ∨ x = e.2 → x ∉ pv p := fun x hx z => by
      obtain ⟨f, hf, hxf⟩ := mem_pv.mp z
      obtain ⟨⟨h1, h2⟩, h3, h4⟩ := d1 f hf
      rcases hx with rfl | rfl <;> rcases hxf with h | h
      · exact h1 h
      · exact h2 h
      · exact h3 h
      · exact h4 h
    rw [pv_cons]
    refine List.nodup_cons.mpr ⟨fun z => ?_, List.nodup_cons.mpr ⟨no _ (.inr rfl), ih⟩⟩
    rcases List.mem_cons.mp z with h | h
    · exact l e List.mem_cons_self h
    · exact no _ (.inl rfl) h
/-- those whom a plan serves, ascending -/
def svd (m : Nat) (p : List E2) : List Nat := (List.range m).filter fun v => decide (v ∈ pv p)
section
variable {m : Nat} {es p : List E2}
theorem PlanOk.pvn (h : PlanOk m es p) : (pv p).Nodup := pv_nodup h.dis fun e he => by have := (h.lt e he).1; omega
theorem PlanOk.pvm (h : PlanOk m es p) : ∀ x ∈ pv p, x < m := fun x hx => by
  obtain ⟨e, he, q⟩ := mem_pv.mp hx
  have := h.lt e he
  rcases q with rfl | rfl <;> omega
theorem PlanOk.len (h : PlanOk m es p) : 2 * p.length ≤ m := by rw [← pv_len]; exact nodup_lt h.pvn h.pvm
theorem mem_svd {x : Nat} : x ∈ svd m p ↔ x < m ∧ x ∈ pv p := by unfold svd; rw [List.mem_filter, List.mem_range]; simp
theorem PlanOk.perm (h : PlanOk m es p) : (svd m p).Perm (pv p) :=
  (List.perm_ext_iff_of_nodup (List.nodup_range.filter _) h.pvn).mpr fun x => by
    show x ∈ svd m p ↔ _
    rw [mem_svd]
    exact ⟨And.right, fun q => ⟨h.pvm x q, q⟩⟩
end
/-- partners of a plan -/
def mo (p : List E2) : Nat → Option Nat := p.foldl (fun f e => BM.upd (BM.upd f e.1 (some e.2)) e.2 (some e.1)) fun _ => none
theorem mo_snoc (p : List E2) (e : E2) : mo (p ++ [e]) = BM.upd (BM.upd (mo p) e.1 (some e.2)) e.2 (some e.1) := by unfold mo; rw [List.foldl_append]; rfl
theorem mo_spec : ∀ p : List E2, p.Pairwise Dis → (∀ e ∈ p, e.1 ≠ e.2) → (∀ e ∈ p, mo p e.1 = some e.2 ∧ mo p e.2 = some e.1) ∧ ∀ x, x ∉ pv p → mo p x = none := by
  refine snoc_ind (fun _ _ => ⟨(fun e h => nomatch h), fun _ _ => rfl⟩) fun p e ih d l => ?_
  obtain ⟨d1, _, d3⟩ := List.pairwise_append.mp d
  obtain ⟨i1, i2⟩ := ih d1 fun f hf => l f (List.mem_append_left _ hf)
  have le := l e (by simp)
  rw [mo_snoc]
  refine ⟨fun f hf => ?_, fun x hx => ?_⟩
  · rcases List.mem_append.mp hf with h | h
    · obtain ⟨⟨h1, h2⟩, h3, h4⟩ := d3 f h e (by simp)
      obtain ⟨j1, j2⟩ := i1 f h
      rw [BM.upd_ne h2, BM.upd_ne h1, BM.upd_ne h4, BM.upd_ne h3]
      exact ⟨j1, j2⟩
    · rw [List.mem_singleton.mp h, BM.upd_eq, BM.upd_ne le, BM.upd_eq]
      exact ⟨rfl, rfl⟩
  · rw [pv_snoc] at hx
    simp only [List.mem_append, List.mem_cons, List.not_mem_nil, or_false, not_or] at hx
    rw [BM.upd_ne hx.2.2, BM.upd_ne hx.2.1]
    exact i2 x hx.1
section
variable {m : Nat} {es p : List E2} (h : PlanOk m es p)
include h
theorem PlanOk.mo1 : ∀ e ∈ p, mo p e.1 = some e.2 ∧ mo p e.2 = some e.1 := (mo_spec p h.dis fun e he => by have := (h.lt e he).1; omega).1
theorem PlanOk.mo0 {x : Nat} : mo p x = none ↔ x ∉ pv p := by
  constructor
  · intro q z
    obtain ⟨e, he, hx⟩ := mem_pv.mp z
    obtain ⟨j1, j2⟩ := h.mo1 e he
    rcases hx with rfl | rfl
    · rw [j1] at q; cases q
    · rw [j2] at q; cases q
  · exact (mo_spec p h.dis fun e he => by have := (h.lt e he).1; omega).2 x
theorem PlanOk.moE {x y : Nat} : mo p x = some y ↔ (x, y) ∈ p ∨ (y, x) ∈ p := by
  constructor
  · intro q
    have : x ∈ pv p := Classical.byContradiction fun z => by rw [h.mo0.mpr z] at q; cases q
    obtain ⟨e, he, hx⟩ := mem_pv.mp this
    obtain ⟨j1, j2⟩ := h.mo1 e he
    rcases hx with rfl | rfl
    · rw [j1] at q; cases q; exact .inl he
    · rw [j2] at q; cases q; exact .inr he
  · rintro (q | q)
    · exact (h.mo1 _ q).1
    · exact (h.mo1 _ q).2
theorem PlanOk.ma : Ma m es (mo p) := ⟨fun u v q => h.moE.mpr ((h.moE.mp q).symm), fun u v q => (h.moE.mp q).elim (fun z => .inl (h.sub _ z)) fun z => .inr (h.sub _ z)⟩
end
section
variable {m : Nat} {es : List E2} {μ : Nat → Option Nat}
theorem mem_planP {e : E2} : e ∈ planP m μ ↔ e.1 < m ∧ μ e.1 = some e.2 ∧ e.1 < e.2 := by
  unfold planP
  rw [List.mem_map]
  constructor
  · rintro ⟨u, hu, rfl⟩
    obtain ⟨h1, h2⟩ := List.mem_filter.mp hu
    cases h : μ u with
    | none => rw [h] at h2; cases h2
    | some v =>
      rw [h] at h2
      exact ⟨List.mem_range.mp h1, rfl, by simpa using h2⟩
  · rintro ⟨h1, h2, h3⟩
    refine ⟨e.1, List.mem_filter.mpr ⟨List.mem_range.mpr h1, by rw [h2]; simpa using h3⟩, ?_⟩
    rw [h2]; rfl
theorem planP_ok (hes : ∀ e ∈ es, e.1 < e.2 ∧ e.2 < m) (h : Ma m es μ) : PlanOk m es (planP m μ) := by
  have sub : ∀ e ∈ planP m μ, e ∈ es := fun e he => by
    obtain ⟨h1, h2, h3⟩ := mem_planP.mp he
    rcases h.ad _ _ h2 with q | q
    · exact q
    · have := (hes _ q).1
      simp only at this
      omega
  have pw : (planP m μ).Pairwise fun a b => a.1 < b.1 := by
    unfold planP
    rw [List.pairwise_map]
    exact (List.pairwise_lt_range.sublist List.filter_sublist)
  refine ⟨sub, fun e he => hes e (sub e he), List.Pairwise.imp_of_mem (fun {a b} ha hb q => ?_) pw, pw.imp fun {a b} q => .inl q⟩
  obtain ⟨a1, a2, a3⟩ := mem_planP.mp ha
  obtain ⟨b1, b2, b3⟩ := mem_planP.mp hb
  have a4 := h.ms _ _ a2
  have b4 := h.ms _ _ b2
  refine ⟨⟨by omega, fun z => ?_⟩, fun z => ?_, fun z => ?_⟩
  · rw [← z, a2] at b4
    have := Option.some.inj b4
    omega
  · rw [z, b2] at a4
    have := Option.some.inj a4
    omega
  · rw [z, b4] at a4
    have := Option.some.inj a4
    omega
theorem planP_pv (hes : ∀ e ∈ es, e.1 < e.2 ∧ e.2 < m) (h : Ma m es μ) {x : Nat} : x ∈ pv (planP m μ) ↔ μ x ≠ none := by
  rw [mem_pv]
  constructor
  · rintro ⟨e, he, rfl | rfl⟩
    · rw [(mem_planP.mp he).2.1]; simp
    · rw [h.ms _ _ (mem_planP.mp he).2.1]; simp
  · intro q
    cases e : μ x with
    | none => exact absurd e q
    | some y =>
      obtain ⟨l1, l2⟩ := h.mu hes x y e
      have ne : x ≠ y := fun z => h.irr hes x (by rw [e, z])
      by_cases z : x < y
      · exact ⟨(x, y), mem_planP.mpr ⟨l1, e, z⟩, .inl rfl⟩
      · exact ⟨(y, x), mem_planP.mpr ⟨l2, h.ms _ _ e, by simp only; omega⟩, .inr rfl⟩
/-- two rising lists of the same things -/
theorem plan_eq {p q : List E2} (hp : p.Pairwise (fun a b => a.1 < b.1 ∨ (a.1 = b.1 ∧ a.2 < b.2))) (hq : q.Pairwise (fun a b => a.1 < b.1 ∨ (a.1 = b.1 ∧ a.2 < b.2))) (h : ∀ e, e ∈ p ↔ e ∈ q) : p = q := by
  have nd : ∀ {l : List E2}, l.Pairwise (fun a b => a.1 < b.1 ∨ (a.1 = b.1 ∧ a.2 < b.2)) → l.Nodup := fun g => g.imp fun {a b} k z => by rw [z] at k; omega
  exact List.Perm.eq_of_pairwise (fun a b _ _ h1 h2 => by exfalso; omega) hp hq ((List.perm_ext_iff_of_nodup (nd hp) (nd hq)).mpr h)
theorem PlanOk.back {p : List E2} (h : PlanOk m es p) : planP m (mo p) = p := by
  refine plan_eq ?_ h.pw fun e => ?_
  · unfold planP
    rw [List.pairwise_map]
    exact (List.pairwise_lt_range.sublist List.filter_sublist).imp fun {a b} q => .inl q
  · rw [mem_planP]
    constructor
    · rintro ⟨h1, h2, h3⟩
      rcases h.moE.mp h2 with q | q
      · exact q
      · have := (h.lt _ q).1
        simp only at this
        omega
    · intro q
      have := h.lt _ q
      exact ⟨by omega, (h.mo1 e q).1, this.1⟩
/-- a plan is its part of the web -/
theorem PlanOk.eqf {p : List E2} (hw : es.Pairwise (fun a b => a.1 < b.1 ∨ (a.1 = b.1 ∧ a.2 < b.2))) (h : PlanOk m es p) : p = es.filter fun e => decide (e ∈ p) :=
  plan_eq h.pw (hw.sublist List.filter_sublist) fun e => by
    rw [List.mem_filter]
    exact ⟨fun q => ⟨h.sub e q, by simpa using q⟩, fun q => by simpa using q.2⟩
theorem PlanOk.all {p : List E2} (hw : es.Pairwise (fun a b => a.1 < b.1 ∨ (a.1 = b.1 ∧ a.2 < b.2))) (h : PlanOk m es p) : p ∈ allP es := (allP_mem _ es rfl).mpr ⟨by rw [h.eqf hw]; exact List.filter_sublist, h.dis⟩
end
end BL
namespace BL
open PySem PySem.Spec PyProof.Rows L2 Y
theorem newT_ok {fa : En → Sto → R (List W)} {ρ : En} {s s1 : Sto} {ws : List W} (h : fa ρ s = .ok ws s1) (hl : ws.length ≤ 1000) : dNewT fa ρ s = .ok (.ref s1.length) (s1 ++ [.tup ws]) := by
  unfold dNewT
  rw [h, R.bind_ok, chk_ok (le_line (by omega))]
/-- a search that found nothing -/
structure Shut (m : Nat) (es : List E2) (μ : Nat → Option Nat) (rs : List Nat) (s : BM.St) (found : List Nat) : Prop where
  fo : BM.Fo (Adj es) μ (fun x => x ∈ rs) s found
  bd : BM.Bd m μ s
  new : ∃ new, found = rs ++ new
  cl : ∀ v q, s.ev v = true → Adj es v q → (s.ev q = true ∧ s.bs q = s.bs v) ∨ (s.ev q = false ∧ s.lk q ≠ none)
theorem forest_ok3 {m L M V : Nat} {es : List E2} {μ : Nat → Option Nat} {wa : Nat → Bool} {t : Sto} (hes : ∀ e ∈ es, e.1 < e.2 ∧ e.2 < m) (hr : RowsAt t L m (nbs es)) (hm : m ≤ 400) (mt : t[M]? = some (olist m μ)) (wt : t[V]? = some (bools m wa)) (hL : L + m < t.length)
    (ma : Ma m es μ) {rs : List Nat} (rl : ∀ x ∈ rs, x < m ∧ μ x = none) (rn : rs.Nodup) {P0 : PyData} (hP : seqD P0 = some (rs.map nI)) :
    ∃ t1, F_Forest___init__ [.ref t.length, .ref (L + m), .ref M, .d P0, .ref V] (t ++ [.obj "Forest" []]) = .ok (.d .none) t1 ∧ t1[t.length]? = some (.obj "Forest" (fsF (L + m) M V t.length)) ∧
      ((∃ t2 w, F_Forest_turnable [.ref t.length] t1 = .ok (.d (.list (w.map nI))) t2 ∧ BM.Grow (Adj es) μ (fun x => x ∈ rs) wa m w ∧ t.length ≤ t2.length ∧ ∀ i, i < t.length → t2[i]? = t[i]?) ∨
      ∃ t2 s' found', F_Forest_turnable [.ref t.length] t1 = .ok (.d .none) t2 ∧ FoS m L M V t.length (nbs es) μ wa s' found' t2 ∧ Shut m es μ rs s' found' ∧ (∀ v, s'.ev v = true → wa v = true) ∧ t.length ≤ t2.length ∧ ∀ i, i < t.length → t2[i]? = t[i]?) := by
  obtain ⟨t1, e1, f1, k1, k2⟩ := init_ok (roots := rs) hr hm mt wt hL (fun v hv => (rl v hv).1) rn hP
  have F0 := BM.Fo.start (adj := Adj es) (rt := fun x => x ∈ rs) ma.ms (roots := rs) rn (fun v hv => ⟨(rl v hv).2, hv⟩)
  have f1 : FoS m L M V t.length (nbs es) μ wa ⟨fun _ => none, id, fun v => rs.contains v⟩ rs t1 := f1.eqS rfl rfl (by funext v; show rs.contains v = decide (v ∈ rs); simp)
  have bd : BM.Bd m μ ⟨fun _ => none, id, fun v => rs.contains v⟩ := ⟨ma.mu hes, fun v hv => (rl v (by simpa using hv)).1, fun v hv => hv, fun x y q => nomatch q⟩
  refine ⟨t1, e1, f1.ob, ?_⟩
  rcases f1.turnable F0 bd hm (ma.irr hes) (fun u v q => q.symm) (fun u v _ => mem_nbs fun e he => (hes e he).1) (fun u v q => adj_ne hes q) with ⟨t2, w, r1, r2, r3⟩ | ⟨t2, s', found', r1, r2, r3, r4, r5, r6, r7, r8⟩
  · exact .inl ⟨t2, w, r1, r3, Nat.le_trans k1 r2.1, fun i hi => (r2.2 i (Nat.lt_of_lt_of_le hi k1) (.inl (by omega))).trans (k2 i hi)⟩
  · exact .inr ⟨t2, s', found', r1, r2, ⟨r3, r4, r6, r8⟩, r7, Nat.le_trans k1 r5.1, fun i hi => (r5.2 i (Nat.lt_of_lt_of_le hi k1) (.inl (by omega))).trans (k2 i hi)⟩
section
variable {m : Nat} {es : List E2} {μ : Nat → Option Nat} {rs found : List Nat} {s : BM.St} (hes : ∀ e ∈ es, e.1 < e.2 ∧ e.2 < m)
include hes
theorem Shut.none_serves (h : Shut m es μ rs s found) (ma : Ma m es μ) {r : Nat} (hr : r ∈ rs) (h0 : μ r = none) {N : Nat → Nat} (hN : MB.Mt (Adj es) (List.range m) N) (all : ∀ x, s.ev x = true → N x ≠ x) : False := by
  have hmem : s.ev r = true := (h.fo.fnd r).mpr (by obtain ⟨new, e⟩ := h.new; rw [e]; exact List.mem_append_left _ hr)
  exact h.fo.inv.none_serves (List.nodup_range) (t := m) (by simp) h.cl (fun u v q => q.symm) (fun v hv => List.mem_range.mpr (h.bd.ev v hv)) (fun u v q => List.mem_range.mpr (h.bd.mu u v q).2) (ma.irr hes) hmem h0 hN all
end
end BL
namespace BL
open PySem PySem.Spec PyProof.Rows L2 Y
section
variable {m : Nat} {es : List E2} {μ : Nat → Option Nat} (hes : ∀ e ∈ es, e.1 < e.2 ∧ e.2 < m)
include hes
theorem Ma.svd_len (h : Ma m es μ) : 2 * (planP m μ).length = (List.range m).countP fun v => decide (μ v ≠ none) := by
  have po := planP_ok hes h
  rw [← pv_len, ← po.perm.length_eq]
  unfold svd
  rw [← List.countP_eq_length_filter]
  exact List.countP_congr fun v _ => by simp only [decide_eq_true_eq]; exact planP_pv hes h
theorem Ma.miss (h : Ma m es μ) : MB.miss (List.range m) (BM.mF μ) + 2 * (planP m μ).length = m := by
  rw [h.svd_len hes]
  unfold MB.miss
  have := List.length_eq_countP_add_countP (fun v => decide (BM.mF μ v = v)) (l := List.range m)
  rw [List.length_range] at this
  have e : (List.range m).countP (fun v => !decide (BM.mF μ v = v)) = (List.range m).countP fun v => decide (μ v ≠ none) := List.countP_congr fun v _ => by
    simp only [Bool.not_eq_true', decide_eq_false_iff_not, decide_eq_true_eq]
    exact not_congr (BM.mF_ne (h.irr hes))
  simp only [decide_eq_true_eq] at this
  have e2 : (List.range m).countP (fun a => decide (¬BM.mF μ a = a)) = (List.range m).countP fun v => decide (μ v ≠ none) := List.countP_congr fun v _ => by
    simp only [decide_eq_true_eq]
    exact not_congr (BM.mF_ne (h.irr hes))
  omega
theorem PlanOk.miss {p : List E2} (h : PlanOk m es p) : MB.miss (List.range m) (BM.mF (mo p)) + 2 * p.length = m := by
  have := h.ma.miss hes
  rw [h.back] at this
  exact this
end
/-- the last of a way is not its first -/
theorem head_last {w : List Nat} (nd : w.Nodup) (ev : w.length % 2 = 0) (ne : w ≠ []) : BM.headD w ≠ BM.lastD w := by
  match w, ne with
  | [x], _ => simp at ev
  | a :: b :: W, _ =>
    have : BM.lastD (b :: W) ∈ b :: W := BM.lastD_mem (by simp)
    intro z
    exact (List.nodup_cons.mp nd).1 (by
      have e : BM.lastD (a :: b :: W) = BM.lastD (b :: W) := rfl
      rw [e] at z
      rw [show a = BM.headD (a :: b :: W) from rfl, z]
      exact this)
/-- two more are served -/
structure Grown (m : Nat) (es : List E2) (μ μ' : Nat → Option Nat) (a b : Nat) : Prop where
  ma : Ma m es μ'
  ne : a ≠ b
  fa : μ a = none
  fb : μ b = none
  lt : a < m ∧ b < m
  iff : ∀ x, μ' x ≠ none ↔ μ x ≠ none ∨ x = a ∨ x = b
theorem grow_of {m : Nat} {es : List E2} {μ : Nat → Option Nat} {rt : Nat → Prop} {w : List Nat} (ma : Ma m es μ) (gr : BM.Grow (Adj es) μ rt (fun _ => true) m w) : Grown m es μ (BM.tn μ w) (BM.headD w) (BM.lastD w) := by
  have ev : w.length % 2 = 0 ∧ μ (BM.lastD w) = none := by
    rcases gr.last with h | ⟨_, h⟩
    · exact h
    · cases h
  obtain ⟨q1, q2, q3, q4⟩ := BM.tn_ok (adj := Adj es) (fun u v q => q.symm) _ w rfl μ ma.ms ma.ad gr.ne gr.hd gr.nd gr.alt (fun _ => ev.2)
  have hm : BM.headD w ∈ w := by
    match w, gr.ne with
    | a :: W, _ => exact List.mem_cons_self
  exact ⟨⟨q1, q2⟩, head_last gr.nd ev.1 gr.ne, gr.hd, ev.2, ⟨gr.lt _ hm, gr.lt _ (BM.lastD_mem gr.ne)⟩, q3 ev.1⟩
section
variable {m : Nat} {es : List E2} {μ μ' : Nat → Option Nat} {a b : Nat} (hes : ∀ e ∈ es, e.1 < e.2 ∧ e.2 < m)
include hes
theorem Grown.len (h : Grown m es μ μ' a b) (ma : Ma m es μ) : (planP m μ').length = (planP m μ).length + 1 := by
  have p1 := planP_ok hes ma
  have p2 := planP_ok hes h.ma
  have na : a ∉ pv (planP m μ) := fun z => (planP_pv hes ma).mp z h.fa
  have nb : b ∉ pv (planP m μ) := fun z => (planP_pv hes ma).mp z h.fb
  have nd : (a :: b :: pv (planP m μ)).Nodup := List.nodup_cons.mpr ⟨fun z => (List.mem_cons.mp z).elim h.ne na, List.nodup_cons.mpr ⟨nb, p1.pvn⟩⟩
  have pm : (pv (planP m μ')).Perm (a :: b :: pv (planP m μ)) := (List.perm_ext_iff_of_nodup p2.pvn nd).mpr fun x => by
    rw [planP_pv hes h.ma, h.iff x, List.mem_cons, List.mem_cons, planP_pv hes ma]
    constructor
    · rintro (q | q | q)
      · exact .inr (.inr q)
      · exact .inl q
      · exact .inr (.inl q)
    · rintro (q | q | q)
      · exact .inr (.inl q)
      · exact .inr (.inr q)
      · exact .inl q
  have := pm.length_eq
  rw [pv_len, List.length_cons, List.length_cons, pv_len] at this
  omega
end
noncomputable def B_largest_plan : DS :=
  (dSeq (dSet 1 (dCal 1 F_rows_of (dCons (dVar 0) dNil)))
    (dSeq (dSet 2 (dLcN (dLcS [6] (dVar 1) (tName 6) (fun _ st => .ok true st) (dLit .none))))
    (dSeq (dSet 3 (dLcN (dLcS [6] (dVar 1) (tName 6) (fun _ st => .ok true st) (dLit (.bool true)))))
    (dSeq (dFor (dRng1 (dCons (dBin vIx (dVar 0) (dLit (.int 0))) dNil)) (tName 4)
    (dIfS (fun ρ st => asB (dBin (vIs false) (dBin vIx (dVar 2) (dVar 4)) (dLit .none) ρ st))
    (dSeq (dSet 5 (dMeC "Forest" "turnable" 1 F_Forest_turnable (dMake "Forest" 5 F_Forest___init__ (dCons (dVar 1) (dCons (dVar 2) (dCons (dLst (dCons (dVar 4) dNil)) (dCons (dVar 3) dNil))))) dNil))
    (dIfS (fun ρ st => asB (dBin (vIs true) (dVar 5) (dLit .none) ρ st))
    (dExpr (dCal 2 F_turn_along (dCons (dVar 2) (dCons (dVar 5) dNil))))
    dEnd))
    dEnd))
    (dSeq (dFrz 2)
    (dRet (dCalP 1 F_plan_of (dCons (dVar 2) dNil))))))))
noncomputable def F_largest_plan : Fn := dDef 7 B_largest_plan
/-- the walk behind the people of pre -/
structure LA (m : Nat) (es : List E2) (L : Nat) (pre : List Nat) (μ : Nat → Option Nat) (t : Sto) : Prop where
  rw : RowsAt t L m (nbs es)
  mt : t[L + m + 1]? = some (olist m μ)
  wt : t[L + m + 2]? = some (bools m fun _ => true)
  ma : Ma m es μ
  no : ∀ x ∈ pre, μ x = none → ∃ S : List Nat, (∀ y ∈ S, μ y ≠ none) ∧ ¬ Srv m es (S ++ [x])
noncomputable abbrev LB : DS := (dIfS (fun ρ st => asB (dBin (vIs false) (dBin vIx (dVar 2) (dVar 4)) (dLit .none) ρ st))
    (dSeq (dSet 5 (dMeC "Forest" "turnable" 1 F_Forest_turnable (dMake "Forest" 5 F_Forest___init__ (dCons (dVar 1) (dCons (dVar 2) (dCons (dLst (dCons (dVar 4) dNil)) (dCons (dVar 3) dNil))))) dNil))
    (dIfS (fun ρ st => asB (dBin (vIs true) (dVar 5) (dLit .none) ρ st))
    (dExpr (dCal 2 F_turn_along (dCons (dVar 2) (dCons (dVar 5) dNil))))
    dEnd))
    dEnd)
section
variable {m L : Nat} {es : List E2} {t : Sto}
abbrev LE (W0 : W) (L m : Nat) (x4 x5 x6 : Option W) : En := [some W0, some (.ref (L + m)), some (.ref (L + m + 1)), some (.ref (L + m + 2)), x4, x5, x6]
theorem large_step (hes : ∀ e ∈ es, e.1 < e.2 ∧ e.2 < m) (hm : m ≤ 400) {pre : List Nat} {p : Nat} {μ : Nat → Option Nat} (h : LA m es L pre μ t) (hp : p < m) (W0 : W) (x5 x6 : Option W) :
    ∃ t' x5' μ', LB (LE W0 L m (some (nW p)) x5 x6) t = .ok (.nx, LE W0 L m (some (nW p)) x5' x6) t' ∧ LA m es L (pre ++ [p]) μ' t' := by
  obtain ⟨r0, m0, w0, ma, no⟩ := h
  have hl : L + m + 2 < t.length := lt_of_get w0
  have test : asB (dBin (vIs false) (dBin vIx (dVar 2) (dVar 4)) (dLit .none) (LE W0 L m (some (nW p)) x5 x6) t) = .ok (μ p).isNone t :=
    asB_ok (dBin_ok (dBin_ok (dVar_ok rfl) (dVar_ok rfl) (olist_get m0 hp)) rfl vIs_oW)
  cases hμ : μ p with
  | some q =>
    rw [hμ] at test
    refine ⟨t, x5, μ, dIfS_f test rfl, r0, m0, w0, ma, fun x hx h0 => ?_⟩
    rcases List.mem_append.mp hx with g | g
    · exact no x g h0
    · rw [List.mem_singleton.mp g, hμ] at h0; cases h0
  | none =>
    rw [hμ] at test
    obtain ⟨t2, e2, o2, cs⟩ := forest_ok3 (V := L + m + 2) (M := L + m + 1) hes r0 hm m0 w0 (by omega) ma (rs := [p]) (fun x hx => by rw [List.mem_singleton.mp hx]; exact ⟨hp, hμ⟩) (by simp) (P0 := .list ([p].map nI)) rfl
    have mk : dMake "Forest" 5 F_Forest___init__ (dCons (dVar 1) (dCons (dVar 2) (dCons (dLst (dCons (dVar 4) dNil)) (dCons (dVar 3) dNil)))) (LE W0 L m (some (nW p)) x5 x6) t = .ok (.ref t.length) t2 :=
      make_ok (ws := [.ref (L + m), .ref (L + m + 1), .d (.list ([p].map nI)), .ref (L + m + 2)]) (dCons_ok (dVar_ok rfl) (dCons_ok (dVar_ok rfl) (dCons_ok (dLst_ok (ds := [nI p]) (dCons1_ok (dVar_ok rfl)) (le_line (by simp))) (dCons1_ok (dVar_ok rfl))))) rfl e2
    rcases cs with ⟨t3, w, e3, gr, l3, k3⟩ | ⟨t3, s', found', e3, f3, sh, wv, l3, k3⟩
    · have mc : dSet 5 (dMeC "Forest" "turnable" 1 F_Forest_turnable (dMake "Forest" 5 F_Forest___init__ (dCons (dVar 1) (dCons (dVar 2) (dCons (dLst (dCons (dVar 4) dNil)) (dCons (dVar 3) dNil))))) dNil) (LE W0 L m (some (nW p)) x5 x6) t = .ok (.nx, LE W0 L m (some (nW p)) (some (.d (.list (w.map nI)))) x6) t3 :=
        dSet_ok (mec_ok (f := "turnable") mk o2 (by rfl) rfl rfl e3)
      have k13 : ∀ {i o}, i < t.length → t[i]? = some o → t3[i]? = some o := fun {i o} hi q => (k3 i hi).trans q
      have m3 := k13 (by omega) m0
      have wl : w.length ≤ 1000 := by have := nodup_lt gr.nd gr.lt; omega
      have ta := turn_along_ok m3 gr.lt gr.ne wl
      rw [BM.tw_tn _ w rfl μ gr.ne gr.nd] at ta
      have gn := grow_of ma gr
      have hd : BM.headD w = p := by have := gr.rt; simpa using this
      have k4 : ∀ {i o}, i < t.length → i ≠ L + m + 1 → t[i]? = some o → (t3.set (L + m + 1) (olist m (BM.tn μ w)))[i]? = some o := fun {i o} hi hn q => by rw [List.getElem?_set_ne (by omega)]; exact k13 hi q
      have up : ∀ y, μ y ≠ none → BM.tn μ w y ≠ none := fun y hy => (gn.iff y).mpr (.inl hy)
      refine ⟨_, _, BM.tn μ w, dIfS_t test (to mc (dIfS_t (asB_ok (dBin_ok (dVar_ok rfl) rfl rfl)) (dExpr_ok (dCal_ok (dCons_ok (dVar_ok rfl) (dCons1_ok (dVar_ok rfl))) rfl ta)))), ⟨k4 (by omega) (by omega) r0.top, fun i hi => k4 (by omega) (by omega) (r0.row i hi)⟩, List.getElem?_set_self (by omega), k4 (by omega) (by omega) w0, gn.ma, fun x hx h0 => ?_⟩
      have hx0 : μ x = none := Classical.byContradiction fun z => up x z h0
      rcases List.mem_append.mp hx with g | g
      · obtain ⟨S, s1, s2⟩ := no x g hx0
        exact ⟨S, fun y hy => up y (s1 y hy), s2⟩
      · exact absurd h0 ((gn.iff x).mpr (.inr (.inl (by rw [List.mem_singleton.mp g, hd]))))
    · have mc : dSet 5 (dMeC "Forest" "turnable" 1 F_Forest_turnable (dMake "Forest" 5 F_Forest___init__ (dCons (dVar 1) (dCons (dVar 2) (dCons (dLst (dCons (dVar 4) dNil)) (dCons (dVar 3) dNil))))) dNil) (LE W0 L m (some (nW p)) x5 x6) t = .ok (.nx, LE W0 L m (some (nW p)) (some (.d .none)) x6) t3 :=
        dSet_ok (mec_ok (f := "turnable") mk o2 (by rfl) rfl rfl e3)
      have k13 : ∀ {i o}, i < t.length → t[i]? = some o → t3[i]? = some o := fun {i o} hi q => (k3 i hi).trans q
      refine ⟨_, _, μ, dIfS_t test (to mc (dIfS_f (asB_ok (dBin_ok (dVar_ok rfl) rfl rfl)) rfl)), ⟨k13 (by omega) r0.top, fun i hi => k13 (by omega) (r0.row i hi)⟩, k13 (by omega) m0, k13 (by omega) w0, ma, fun x hx h0 => ?_⟩
      rcases List.mem_append.mp hx with g | g
      · exact no x g h0
      · rw [List.mem_singleton.mp g]
        refine ⟨(List.range m).filter fun v => s'.ev v && !decide (v = p), fun y hy => ?_, fun ⟨N, h1, h2⟩ => ?_⟩
        · obtain ⟨_, hy⟩ := List.mem_filter.mp hy
          simp only [Bool.and_eq_true, Bool.not_eq_true', decide_eq_false_iff_not] at hy
          exact fun z => hy.2 (by have := sh.fo.rt y hy.1 z; simpa using this)
        · refine sh.none_serves hes ma (r := p) (by simp) hμ h1 fun y hy => h2 y ?_
          by_cases z : y = p
          · rw [z]; simp
          · exact List.mem_append_left _ (List.mem_filter.mpr ⟨List.mem_range.mpr (sh.bd.ev y hy), by simp [hy, z]⟩)
theorem largest_plan_ok (hes : ∀ e ∈ es, e.1 < e.2 ∧ e.2 < m) (hl : es.length ≤ 1000) (hm : m ≤ 400) :
    ∃ s' μ, F_largest_plan [.d (webN m es)] [] = .ok (.d (planD (planP m μ))) s' ∧ Ma m es μ ∧ ∀ N, MB.Mt (Adj es) (List.range m) N → MB.miss (List.range m) (BM.mF μ) ≤ MB.miss (List.range m) N := by
  obtain ⟨t1, e1, l1, k1, r1⟩ := rows_of_ok hes hl (show m ≤ 1000 by omega) []
  simp only [List.length_nil, Nat.zero_add] at e1 l1 r1
  let E0 : Option W → Option W → Option W → En := fun a b c => [some (.d (webN m es)), a, b, c, none, none, none]
  have s1 : dSet 1 (dCal 1 F_rows_of (dCons (dVar 0) dNil)) (E0 none none none) [] = .ok (.nx, E0 (some (.ref (0 + m))) none none) t1 := dSet_ok (dCal_ok (dCons1_ok (dVar_ok rfl)) rfl (by rw [Nat.zero_add]; exact e1))
  have s2 : dSet 2 (dLcN (dLcS [6] (dVar 1) (tName 6) (fun _ st => .ok true st) (dLit .none))) (E0 (some (.ref (0 + m))) none none) t1 = .ok (.nx, E0 (some (.ref (0 + m))) (some (.ref (0 + m + 1))) none) (t1 ++ [olist m fun _ => none]) := by
    have := lc_rowsG (i := 1) (j := 6) (c := .d .none) r1 (show m ≤ 1000 by omega) (ρ := E0 (some (.ref (0 + m))) none none) rfl
    rw [l1] at this
    exact dSet_ok (by rw [Nat.zero_add]; rw [Nat.zero_add] at this; exact this)
  have a1 : ∀ {u : Sto} {i o}, t1[i]? = some o → (t1 ++ u)[i]? = some o := fun {u i o} h => by rw [List.getElem?_append_left (lt_of_get h)]; exact h
  have r2 : RowsAt (t1 ++ [olist m fun _ => none]) 0 m (nbs es) := ⟨a1 r1.top, fun i hi => a1 (r1.row i hi)⟩
  have s3 : dSet 3 (dLcN (dLcS [6] (dVar 1) (tName 6) (fun _ st => .ok true st) (dLit (.bool true)))) (E0 (some (.ref (0 + m))) (some (.ref (0 + m + 1))) none) (t1 ++ [olist m fun _ => none]) = .ok (.nx, E0 (some (.ref (0 + m))) (some (.ref (0 + m + 1))) (some (.ref (0 + m + 2)))) (t1 ++ [olist m fun _ => none] ++ [bools m fun _ => true]) := by
    have := lc_rowsG (i := 1) (j := 6) (c := .d (.bool true)) r2 (show m ≤ 1000 by omega) (ρ := E0 (some (.ref (0 + m))) (some (.ref (0 + m + 1))) none) rfl
    rw [List.length_append, l1] at this
    exact dSet_ok (by rw [show 0 + m + 2 = m + 1 + [olist m fun _ => none].length by simp]; exact this)
  have K0 : LA m es 0 [] (fun _ => none) (t1 ++ [olist m fun _ => none] ++ [bools m fun _ => true]) := by
    rw [List.append_assoc]
    have at' : ∀ j o, ([olist m fun _ => none] ++ [bools m fun _ => true])[j]? = some o → (t1 ++ ([olist m fun _ => none] ++ [bools m fun _ => true]))[0 + m + 1 + j]? = some o := fun j o h => by
      rw [List.getElem?_append_right (by omega), l1, show 0 + m + 1 + j - (m + 1) = j by omega]; exact h
    exact ⟨⟨a1 r1.top, fun i hi => a1 (r1.row i hi)⟩, at' 0 _ rfl, at' 1 _ rfl, ⟨(fun u v h => nomatch h), (fun u v h => nomatch h)⟩, (fun x hx => nomatch hx)⟩
  obtain ⟨ρ', t5, f1, x4, x5, μ, rfl, g1⟩ := forL_ok (tg := tName 4) (body := LB) (emb := nW)
    (P := fun pre ρ u => ∃ x4 x5 μ, ρ = LE (.d (webN m es)) 0 m x4 x5 none ∧ LA m es 0 pre μ u) (List.range m)
    (fun pre a post ρ u ea hP => by
      obtain ⟨x4, x5, μ, rfl, g1⟩ := hP
      have am : a < m := List.mem_range.mp (by rw [ea]; simp)
      obtain ⟨u', x5', μ', q1, q2⟩ := large_step hes hm g1 am (.d (webN m es)) x5 none
      exact ⟨_, u, _, u', rfl, q1, ⟨_, _, μ', rfl, q2⟩⟩)
    (ρ := E0 (some (.ref (0 + m))) (some (.ref (0 + m + 1))) (some (.ref (0 + m + 2)))) (s := t1 ++ [olist m fun _ => none] ++ [bools m fun _ => true]) ⟨none, none, _, rfl, K0⟩
  have mt : t5[0 + m + 1]? = some (.lst (((List.range m).map fun i => oD (μ i)).map W.d)) := by
    rw [g1.mt, List.map_map]
    exact congrArg (fun l => some (SO.lst l)) (List.map_congr_left fun i _ => oW_d (μ i))
  have z2 := dFrz_ok (i := 2) (ρ := LE (.d (webN m es)) 0 m x4 x5 none) rfl mt
  refine ⟨_, μ, dDef_rt (ρ' := [some (.d (webN m es)), some (.ref (0 + m)), some (.d (mateD m μ)), some (.ref (0 + m + 2)), x4, x5, none]) (to s1 (to s2 (to s3 (to (dFor_ok (ws := (List.range m).map nW) (dRng1_ok (j := m) (dCons1_ok (dBin_ok (dVar_ok rfl) rfl (vIx_tup (j := 0) rfl))) (by omega)) f1) (to z2 (dRet_ok (dCalP_ok (dCons1_ok (dVar_ok rfl)) rfl rfl (plan_of_ok (by omega))))))))), g1.ma, fun N hN => ?_⟩
  refine Classical.byContradiction fun lt => ?_
  obtain ⟨N', n1, n2, r, hr, r1, r2⟩ := BM.grow_ex (adj := Adj es) (fun u v q => q.symm) List.nodup_range (g1.ma.mt hes) hN (by omega)
  have irr := g1.ma.irr hes
  obtain ⟨S, s1, s2⟩ := g1.no r hr ((BM.mF_ne irr).mp r1)
  refine s2 ⟨N', n1, fun x hx => ?_⟩
  rcases List.mem_append.mp hx with g | g
  · have hxs := s1 x g
    have xm : x < m := by
      cases e : μ x with
      | none => exact absurd e hxs
      | some y => exact (g1.ma.mu hes x y e).1
    exact n2 x (List.mem_range.mpr xm) fun z => hxs ((BM.mF_ne irr).mp z)
  · rw [List.mem_singleton.mp g]; exact r2
end
end BL
namespace Y
open PySem PySem.Spec PyProof.Rows L2
end Y
namespace BL
open PySem PySem.Spec PyProof.Rows L2 Y
theorem shaped_ints' (l : List Nat) : SeqAt.shaped (.list (l.map nI)) = true := by rw [nI_zs]; exact shaped_ints _
theorem eq_nilD {ds : List PyData} {st : Sto} {neg : Bool} (h : SeqAt.shaped (.list ds) = true) : vEq neg (.d (.list ds)) (.d (.list [])) st = .ok (.d (.bool (neg ^^ ds.isEmpty))) st := by
  show chk _ _ = _
  rw [chk_ok ⟨h, shaped_nil⟩]
  cases ds <;> rfl
theorem eqv_nat {a b : Nat} : PyData.eqv (nI a) (nI b) = decide (a = b) := by
  have := vEq_nat (i := a) (j := b) (st := [])
  have h2 : vEq false (.d (nI a)) (.d (nI b)) [] = .ok (.d (.bool (PyData.eqv (nI a) (nI b)))) [] := by
    show chk _ _ = _
    rw [chk_ok ⟨shaped_int _, shaped_int _⟩]
    simp
  rw [h2] at this
  simpa using this
theorem eqv_pair {a b : E2} : PyData.eqv (eD a) (eD b) = decide (a = b) := by
  have e : PyData.eqv (eD a) (eD b) = (PyData.eqv (nI a.1) (nI b.1) && (PyData.eqv (nI a.2) (nI b.2) && true)) := by
    simp only [eD, PyData.eqv, PyData.eqvAll]
  rw [e, eqv_nat, eqv_nat, Bool.and_true]
  obtain ⟨a1, a2⟩ := a
  obtain ⟨b1, b2⟩ := b
  simp only [Prod.mk.injEq, Bool.decide_and]
theorem any_pair (l : List E2) (e : E2) : ((l.map eD).any fun z => PyData.eqv z (eD e)) = decide (e ∈ l) := by
  rw [Bool.eq_iff_iff, List.any_eq_true]
  constructor
  · rintro ⟨z, hz, q⟩
    obtain ⟨a, ha, rfl⟩ := List.mem_map.mp hz
    rw [eqv_pair, decide_eq_true_eq] at q
    rw [decide_eq_true_eq, ← q]; exact ha
  · intro h
    exact ⟨_, List.mem_map.mpr ⟨e, by simpa using h, rfl⟩, by rw [eqv_pair]; simp⟩
theorem dk_eD (e : E2) : Dk 1 (eD e) := Dk.tup (k := 0) fun y hy => by
  rcases List.mem_cons.mp hy with rfl | hy
  · exact Dk.int _
  · rw [List.mem_singleton.mp hy]; exact Dk.int _
theorem dk_planD (p : List E2) : Dk 2 (planD p) := Dk.tup (k := 1) fun y hy => by
  obtain ⟨e, _, rfl⟩ := List.mem_map.mp hy
  exact dk_eD e
theorem vIn_pair {l : List E2} {e : E2} {st : Sto} {neg : Bool} : vIn neg (.d (eD e)) (.d (planD l)) st = .ok (.d (.bool (neg ^^ decide (e ∈ l)))) st := by
  show chk _ _ = _
  rw [chk_ok ⟨(dk_eD e).shaped (by decide), (dk_planD l).shaped (by decide)⟩, any_pair]
def ch : Nat → Nat → Nat
  | _, 0 => 1
  | 0, _ + 1 => 0
  | n + 1, k + 1 => ch n (k + 1) + ch n k
theorem cut_take {α : Type} (xs : List α) (k : Nat) : cut xs none (some (k : Int)) = xs.take k := by
  unfold cut
  rw [HT.sIx_nat, HT.sIx_none, List.drop_zero, Nat.sub_zero]
  by_cases h : k ≤ xs.length
  · rw [Nat.min_eq_left h]
  · rw [Nat.min_eq_right (by omega), List.take_of_length_le (Nat.le_refl _), List.take_of_length_le (by omega)]
end BL
namespace BM
open MB
theorem dis_lt {V : List Nat} (hV : V.Nodup) {M N N' : Nat → Nat} {t : Nat} (ht : t ∈ V) (a : M t ≠ N t) (b : M t = N' t) (h : ∀ v ∈ V, M v = N v → M v = N' v) : dis V M N' < dis V M N := by
  unfold dis
  refine count_lt hV ht ?_ ?_ fun v hv p => ?_
  · simpa using b
  · simpa using a
  · simp only [ne_eq, decide_not, Bool.not_eq_true', decide_eq_false_iff_not] at p ⊢
    exact fun q => p (h v hv q)
theorem dis_lt' {V : List Nat} (hV : V.Nodup) {M M' N : Nat → Nat} {t : Nat} (ht : t ∈ V) (a : M t ≠ N t) (b : M' t = N t) (h : ∀ v ∈ V, M v = N v → M' v = N v) : dis V M' N < dis V M N := by
  unfold dis
  refine count_lt hV ht ?_ ?_ fun v hv p => ?_
  · simpa using b
  · simpa using a
  · simp only [ne_eq, decide_not, Bool.not_eq_true', decide_eq_false_iff_not] at p ⊢
    exact fun q => p (h v hv q)
/-- who is served by N alone: he can come, or come in the place of somebody whom M alone serves -/
theorem exch {adj : Nat → Nat → Prop} (sy : ∀ u v, adj u v → adj v u) {V : List Nat} (hV : V.Nodup) : ∀ (k : Nat) (M N : Nat → Nat) (t : Nat), Mt adj V M → Mt adj V N → dis V M N < k → t ∈ V → M t = t → N t ≠ t →
    (∃ M', Mt adj V M' ∧ (∀ v ∈ V, M v ≠ v → M' v ≠ v) ∧ M' t ≠ t) ∨
    ∃ e ∈ V, M e ≠ e ∧ N e = e ∧ (∃ M', Mt adj V M' ∧ M' t ≠ t ∧ ∀ v ∈ V, M v ≠ v → v ≠ e → M' v ≠ v) ∧ ∃ N', Mt adj V N' ∧ N' t = t ∧ N' e ≠ e ∧ (∀ v ∈ V, N v ≠ v → v ≠ t → N' v ≠ v) ∧ ∀ v ∈ V, M v = N v → N' v = N v
  | 0, _, _, _, _, _, h, _, _, _ => absurd h (Nat.not_lt_zero _)
  | k + 1, M, N, t, hM, hN, hk, ht, mt, nt => by
    have ha := hN.mem t ht
    have ad := hN.adj t ht nt
    have na := hN.inv t ht
    generalize haN : N t = a at *
    have ne : t ≠ a := fun z => nt z.symm
    by_cases ma : M a = a
    · refine .inl ⟨swap M t a, mt_swap sy hM ht ha ne ad mt ma, fun v hv q => ?_, ?_⟩
      · unfold swap
        split
        · rename_i e; rw [e]; exact ne.symm
        · split
          · rename_i e; rw [e]; exact ne
          · exact q
      · unfold swap; rw [if_pos rfl]; exact ne.symm
    · have hc := hM.mem a ha
      have ac := hM.adj a ha ma
      have mc := hM.inv a ha
      generalize hcM : M a = c at *
      have ca : c ≠ a := ma
      have ct : c ≠ t := fun z => by rw [z, mt] at mc; exact ne mc
      have M1t : Mt adj V (turn M t a) := mt_turn sy hM ht ha ne ad mt (by rw [hcM]; exact ca)
      have t1 : turn M t a t = a := by unfold turn; rw [if_pos rfl]
      have t2 : turn M t a a = t := by unfold turn; rw [if_neg ne.symm, if_pos rfl]
      have t3 : turn M t a c = c := by unfold turn; rw [if_neg ct, if_neg ca, hcM, if_pos rfl]
      have t4 : ∀ v, v ≠ t → v ≠ a → v ≠ c → turn M t a v = M v := fun v h1 h2 h3 => by unfold turn; rw [if_neg h1, if_neg h2, hcM, if_neg h3]
      have t5 : ∀ v, M v ≠ v → v ≠ c → turn M t a v ≠ v := fun v h1 h2 => by
        by_cases e1 : v = t
        · rw [e1, t1]; exact ne.symm
        · by_cases e2 : v = a
          · rw [e2, t2]; exact ne
          · rw [t4 v e1 e2 h2]; exact h1
      -- a plan that leaves c and gives t to a: a goes to c
      have back : ∀ {N1 : Nat → Nat}, Mt adj V N1 → N1 c = c → N1 a = t → Mt adj V (turn N1 c a) ∧ turn N1 c a t = t ∧ turn N1 c a c = a ∧ turn N1 c a a = c ∧ ∀ v, v ≠ t → v ≠ a → v ≠ c → turn N1 c a v = N1 v := fun {N1} h1 h2 h3 =>
        ⟨mt_turn sy h1 hc ha ca (sy _ _ ac) h2 (by rw [h3]; exact ne), by unfold turn; rw [if_neg ct.symm, if_neg ne, h3, if_pos rfl], by unfold turn; rw [if_pos rfl], by unfold turn; rw [if_neg ca.symm, if_pos rfl], fun v h1 h2 h4 => by unfold turn; rw [if_neg h4, if_neg h2, h3, if_neg h1]⟩
      by_cases nc : N c = c
      · obtain ⟨b1, b2, b3, b4, b5⟩ := back hN nc na
        refine .inr ⟨c, hc, by rw [mc]; exact ca.symm, nc, ⟨turn M t a, M1t, by rw [t1]; exact ne.symm, fun v _ => t5 v⟩, turn N c a, b1, b2, by rw [b3]; exact ca.symm, fun v hv q1 q2 => ?_, fun v hv q => ?_⟩
        · by_cases e2 : v = a
          · rw [e2, b4]; exact ca
          · by_cases e3 : v = c
            · rw [e3, b3]; exact ca.symm
            · rw [b5 v q2 e2 e3]; exact q1
        · refine b5 v (fun z => ?_) (fun z => ?_) fun z => ?_
          · rw [z, mt, haN] at q; exact ne q
          · rw [z, hcM, na] at q; exact ct q
          · rw [z, mc, nc] at q; exact ca q.symm
      · have lt : dis V (turn M t a) N < dis V M N := by
          refine dis_lt' hV ht (by rw [mt, haN]; exact ne) (by rw [t1, haN]) fun v hv q => ?_
          refine (t4 v (fun z => ?_) (fun z => ?_) fun z => ?_).trans q
          · rw [z, mt, haN] at q; exact ne q
          · rw [z, hcM, na] at q; exact ct q
          · rw [z, mc] at q
            have := hN.inv c hc
            rw [← q, na] at this
            exact ct this.symm
        rcases exch sy hV k (turn M t a) N c M1t hN (by omega) hc t3 nc with ⟨M', m1, m2, m3⟩ | ⟨e, he, e1, e2, ⟨M', m1, m2, m3⟩, N1, n1, n2, n3, n4, n5⟩
        · refine .inl ⟨M', m1, fun v hv q => ?_, m2 t ht (by rw [t1]; exact ne.symm)⟩
          by_cases z : v = c
          · rw [z]; exact m3
          · exact m2 v hv (t5 v q z)
        · have et : e ≠ t := fun z => nt (by rw [z, haN] at e2; exact e2)
          have ea : e ≠ a := fun z => by rw [z, na] at e2; exact ne e2
          have ec : e ≠ c := fun z => nc (by rw [z] at e2; exact e2)
          have N1a : N1 a = t := (n5 a ha (by rw [t2, na])).trans na
          obtain ⟨b1, b2, b3, b4, b5⟩ := back n1 n2 N1a
          refine .inr ⟨e, he, by rw [← t4 e et ea ec]; exact e1, e2, ⟨M', m1, m3 t ht (by rw [t1]; exact ne.symm) et.symm, fun v hv q1 q2 => ?_⟩, turn N1 c a, b1, b2, by rw [b5 e et ea ec]; exact n3, fun v hv q1 q2 => ?_, fun v hv q => ?_⟩
          · by_cases z : v = c
            · rw [z]; exact m2
            · exact m3 v hv (t5 v q1 z) q2
          · by_cases z1 : v = a
            · rw [z1, b4]; exact ca
            · by_cases z2 : v = c
              · rw [z2, b3]; exact ca.symm
              · rw [b5 v q2 z1 z2]; exact n4 v hv q1 z2
          · have v1 : v ≠ t := fun z => by rw [z, mt, haN] at q; exact ne q
            have v2 : v ≠ a := fun z => by rw [z, hcM, na] at q; exact ct q
            have v3 : v ≠ c := fun z => by
              rw [z, mc] at q
              have := hN.inv c hc
              rw [← q, na] at this
              exact ct this.symm
            rw [b5 v v1 v2 v3]
            exact n5 v hv (by rw [t4 v v1 v2 v3]; exact q)
/-- of two lots that plans serve the lesser one takes somebody of the greater one in -/
theorem augment {adj : Nat → Nat → Prop} (sy : ∀ u v, adj u v → adj v u) {V : List Nat} (hV : V.Nodup) : ∀ (k : Nat) (M N : Nat → Nat) (S T : List Nat), Mt adj V M → Mt adj V N → dis V M N < k → (∀ x ∈ S, M x ≠ x) → (∀ x ∈ T, x ∈ V ∧ N x ≠ x) → T.Nodup → S.length < T.length →
    ∃ x ∈ T, x ∉ S ∧ ∃ M', Mt adj V M' ∧ M' x ≠ x ∧ ∀ y ∈ S, y ∈ V → M' y ≠ y
  | 0, _, _, _, _, _, _, h, _, _, _, _ => absurd h (Nat.not_lt_zero _)
  | k + 1, M, N, S, T, hM, hN, hk, hS, hT, nd, lt => by
    obtain ⟨t, tT, tS⟩ : ∃ t ∈ T, t ∉ S := Classical.byContradiction fun no => by
      have := sub_len T S nd fun x hx => Classical.byContradiction fun q => no ⟨x, hx, q⟩
      omega
    by_cases mt : M t = t
    · obtain ⟨tV, nt⟩ := hT t tT
      rcases exch sy hV (dis V M N + 1) M N t hM hN (Nat.lt_succ_self _) tV mt nt with ⟨M', m1, m2, m3⟩ | ⟨e, he, e1, e2, ⟨M', m1, m2, m3⟩, N', n1, n2, n3, n4, n5⟩
      · exact ⟨t, tT, tS, M', m1, m3, fun y hy hv => m2 y hv (hS y hy)⟩
      · by_cases eS : e ∈ S
        · have eT : e ∉ T := fun z => (hT e z).2 e2
          have ne : ∀ x ∈ T.erase t, x ∈ T ∧ x ≠ t := fun x hx => ⟨List.mem_of_mem_erase hx, fun z => by
            rw [z] at hx
            exact (List.Nodup.mem_erase_iff nd).mp hx |>.1 rfl⟩
          have l := List.length_erase_of_mem tT
          have lp : 0 < T.length := List.length_pos_of_mem tT
          obtain ⟨x, x1, x2, x3⟩ := augment sy hV k M N' S (e :: T.erase t) hM n1 (by
            have := dis_lt hV tV (N := N) (N' := N') (M := M) (fun z => nt (by rw [← z, mt])) (by rw [mt, n2]) (fun v hv q => q.trans (n5 v hv q).symm)
            omega) hS (fun x hx => by
            rcases List.mem_cons.mp hx with rfl | hx
            · exact ⟨he, n3⟩
            · obtain ⟨a, b⟩ := ne x hx
              exact ⟨(hT x a).1, n4 x (hT x a).1 (hT x a).2 b⟩) (List.nodup_cons.mpr ⟨fun z => eT (ne e z).1, nd.erase t⟩) (by rw [List.length_cons, l]; omega)
          rcases List.mem_cons.mp x1 with z | z
          · exact absurd (by rw [z]; exact eS) x2
          · exact ⟨x, (ne x z).1, x2, x3⟩
        · exact ⟨t, tT, tS, M', m1, m2, fun y hy hv => m3 y hv (hS y hy) fun z => eS (by rw [← z]; exact hy)⟩
    · exact ⟨t, tT, tS, M, hM, mt, fun y hy _ => hS y hy⟩
end BM
namespace BL
open PySem PySem.Spec PyProof.Rows L2 Y
end BL
namespace BL
open PySem PySem.Spec PyProof.Rows L2 Y
def sp (a b : Nat) : E2 := if a < b then (a, b) else (b, a)
end BL
namespace BL
open PySem PySem.Spec PyProof.Rows L2 Y
end BL
namespace BM
open MB
/-- neighbours in a list -/
def Nx (w : List Nat) (a b : Nat) : Prop := ∃ A B, w = A ++ a :: b :: B
theorem Nx.cons {w : List Nat} {a b x : Nat} (h : Nx w a b) : Nx (x :: w) a b := let ⟨A, B, e⟩ := h; ⟨x :: A, B, by rw [e]; rfl⟩
end BM
namespace BL
open PySem PySem.Spec PyProof.Rows L2 Y
end BL
namespace BL
open PySem PySem.Spec PyProof.Rows L2 Y
end BL
namespace BL
open PySem PySem.Spec PyProof.Rows L2 Y
end BL
namespace BL
open PySem PySem.Spec PyProof.Rows L2 Y
end BL
namespace Y
open PySem PySem.Spec PyProof.Rows L2
end Y
namespace Y
open PySem PySem.Spec PyProof.Rows L2
end Y
namespace Y
open PySem PySem.Spec PyProof.Rows L2
set_option maxHeartbeats 2000000 in
theorem enum_newB {x : Value} {o : Obj} {G : Heap → Prop} (B : Begins x o G) :
    Meets (Builtin.«enumerate.__new__» ⟨[.type "enumerate", x], []⟩) (fun _ R s => G s.heap ∧
      R (.ok (.ret (.ref (s.heap.push o).objs.size))) { s with heap := (s.heap.push o).push { cls := .type "enumerate", data := .fields #[.none, .bool false, .ref s.heap.objs.size, rawInt 0, .none, .none] } }) :=
  .of_wp fun prog w A R s hyp => by
    obtain ⟨hp, gn, dr, tk, os⟩ := s
    obtain ⟨g1, hyp⟩ := hyp
    have sub1 := sub_enumerate
    have begun : ∀ {A' : Around} {E : Value → Shared → Prop} {Q : Value → Shared → Prop}, Q (.ref hp.objs.size) ⟨hp.push o, gn, dr, tk, os⟩ → wpAny (model prog w) A' (pyIter x) Q E ⟨hp, gn, dr, tk, os⟩ :=
      fun q => B.iter prog w _ _ ⟨hp, gn, dr, tk, os⟩ _ g1 q
    wp_walk using begun
    refine wpAny_stack_any fun st => wpAny_pure ?_
    split
    · rename_i c _ _ _ _ _
      cases (c == Value.type "enumerate") <;> (wp_walk using begun; exact ⟨_, rfl, hyp⟩)
    · wp_walk using begun; exact ⟨_, rfl, hyp⟩
theorem enum_call {prog : Program} {w : World} {A : Around} {E : Value → Shared → Prop} {s : Shared} {x : Value} {o : Obj} {G : Heap → Prop} {Q : Value → Shared → Prop} (B : Begins x o G) (g1 : G s.heap)
    (k : ∀ h', IsEnum h' (s.heap.objs.size + 1) s.heap.objs.size 0 .none → h'.get? s.heap.objs.size = some o → h'.objs.size = s.heap.objs.size + 2 → (∀ b o', s.heap.get? b = some o' → h'.get? b = some o') → Q (.ref (s.heap.objs.size + 1)) { s with heap := h' }) :
    wpAny (model prog w) A (call (.type "enumerate") [x]) Q E s := by
  refine callType_new F.called_enumerate (by decide) (F.typeCall_enumerate_1 _) (F.newCall_enumerate_1 _) (fun ob => F.args_object_init_2 ob _) F.entry_enumerate_new (enum_newB B) ⟨g1, ?_⟩
  have z1 : (s.heap.push o).objs.size = s.heap.objs.size + 1 := Heap.size_push ..
  show _ ∧ _
  rw [z1]
  have e1 : IsEnum ((s.heap.push o).push { cls := .type "enumerate", data := .fields #[.none, .bool false, .ref s.heap.objs.size, rawInt 0, .none, .none] }) (s.heap.objs.size + 1) s.heap.objs.size 0 .none := by
    have q := Heap.get?_push_size (s.heap.push o) (o := { cls := .type "enumerate", data := .fields #[.none, .bool false, .ref s.heap.objs.size, rawInt 0, .none, .none] }) rfl
    rw [z1] at q
    exact q
  exact ⟨⟨_, e1, rfl⟩, k _ e1 (Heap.get?_push_of_some _ (Heap.get?_push_size _ B.free)) (by rw [Heap.size_push, z1]) fun b o' q => Heap.get?_push_of_some _ (Heap.get?_push_of_some _ q)⟩
/-- a tuple's items with their places, each in a new pair -/
def ItET (a : Addr) (xs : List V) : It := ⟨fun i H => H a = some (.tup xs) ∧ i < xs.length, fun i H v H' => ∃ T x, v = .ref T ∧ H T = none ∧ H' = upd H T (.tup [.int (i : Nat), x]) ∧ xs[i]? = some x, fun i H => H a = some (.tup xs) ∧ xs.length ≤ i⟩
theorem turn_ET {P : Program} {w : World} {K : PySem.W.Frag} {elts : List Expr} {kk : Nat} {tpos : Pos} (a : Addr) (xs : List V) (e it : Addr) :
    Turn P w K (.Tuple elts kk tpos) (ItET a xs) [e, it] e (fun i h => (∃ old, IsEnum h e it ((i : Nat) : Int) old) ∧ h.IsTupleIter it a i ∧ e ≠ it ∧ a ≠ e ∧ a ≠ it ∧ i ≤ xs.length) where
  mem := List.mem_cons_self
  obj := fun i h st b hb => by
    obtain ⟨⟨old, he⟩, ⟨o, ho, hc, hd⟩, _⟩ := st
    rcases List.mem_cons.mp hb with rfl | hb
    · exact ⟨_, he, fun v q => nomatch q⟩
    · cases List.mem_singleton.mp hb
      exact ⟨o, ho, fun v q => by rw [hd] at q; cases q⟩
  keep := fun i h h' st k => by
    obtain ⟨⟨old, he⟩, ⟨o, ho, r⟩, ne⟩ := st
    exact ⟨⟨old, k e (by simp) _ he⟩, ⟨o, k it (by simp) o ho, r⟩, ne⟩
  item := by
    intro X hP hw hK hc i pins s σ H E I hf st hg
    cases hP; cases hw; cases hK
    obtain ⟨⟨old, he⟩, hit, ne, n1, n2, le⟩ := st
    obtain ⟨ha, hlt⟩ := hg
    obtain ⟨its, rv, pl, hz⟩ := I.tuple (tq ha)
    have il : its.length = xs.length := rv.length.symm
    have hel : e < s.heap.objs.size := Heap.lt_size he
    have hil : it < s.heap.objs.size := by
      obtain ⟨_, q, _⟩ := hit
      exact Heap.lt_size q
    refine wpAny_pyNext_enum_itemD (Draws.tuple (A := X.A.in1) (I.ok.hd hc) it a n2 its.toArray) he ⟨hit, pl⟩ (by simp [il]; exact hlt) ne (by simp; exact ⟨ne, fun z => n1 z.symm⟩) ?_
    intro u h' tk hx ho hit' hT hsz hk
    obtain ⟨x, hx1, ru⟩ : ∃ x, xs[i]? = some x ∧ RelV x u := by
      have q : its[i]? = some u := by simpa using hx
      obtain ⟨u', hu', r'⟩ := rv.get (List.getElem?_eq_getElem hlt)
      rw [q] at hu'
      cases hu'
      exact ⟨_, List.getElem?_eq_getElem hlt, r'⟩
    refine ⟨.ref s.heap.objs.size, rfl, wpAny_letOwnedTupleGo_enum (s := { s with heap := h', toks := tk + 1 }) ho ?_⟩
    intro h2 he' sb
    have hT2 : h2.get? s.heap.objs.size = some { cls := .type "tuple", data := .seq #[.int i tk, u] } := (sb.2 _ (Nat.ne_of_gt hel)).trans hT
    have free := I.hok.fresh (Nat.le_refl s.heap.objs.size)
    have laid : ObjOk X.prog X.w (upd H s.heap.objs.size (.tup [.int (i : Nat), x])) h2 s.heap.objs.size (.tup [.int (i : Nat), x]) := by
      refine ⟨by show 2 ≤ sizeLine; decide, [.int i tk, u], .cons ⟨tk, rfl⟩ (.cons ru .nil), _, hT2, rfl, _, rfl⟩
    have kept : ∀ b o, b ∉ [e, it] → s.heap.get? b = some o → h2.get? b = some o := fun b o hb q => by
      simp only [List.mem_cons, List.not_mem_nil, or_false, not_or] at hb
      exact (sb.2 b hb.1).trans (hk b o hb.1 hb.2 q)
    have I1 := I.turnedNew (t' := tk + 1) kept hf (Nat.le_refl _) laid
    refine ⟨.ref s.heap.objs.size, _, I1, rfl, ⟨_, x, rfl, free, rfl, hx1⟩, ⟨⟨u, ?_⟩, ?_, ne, n1, n2, hlt⟩, fun b hb => ?_⟩
    · rw [Int.natCast_succ]; exact he'
    · obtain ⟨o, ho, r⟩ := hit'.1
      exact ⟨o, (sb.2 it (Ne.symm ne)).trans ho, r⟩
    · rw [upd_ne, (hf b hb).1]
      rcases List.mem_cons.mp hb with rfl | hb
      · exact Nat.ne_of_lt hel
      · cases List.mem_singleton.mp hb; exact Nat.ne_of_lt hil
  done := by
    intro X hP hw hK hc i pins s σ H E I hf st hg
    cases hP; cases hw; cases hK
    obtain ⟨⟨old, he⟩, hit, ne, n1, n2, le⟩ := st
    obtain ⟨ha, hge⟩ := hg
    obtain ⟨its, rv, pl, hz⟩ := I.tuple (tq ha)
    have il : its.length = xs.length := rv.length.symm
    obtain ⟨f0, f1, f2, f3, f4, f5⟩ := hf it (by simp)
    have hi : i = its.toArray.size := by simp [il]; omega
    rw [hi] at he hit
    exact wpAny_pyNext_enum_endD (Draws.tuple (A := X.A.in1) (I.ok.hd hc) it a n2 its.toArray) he ⟨hit, pl⟩ fun h' eb => ⟨rfl, I.turned (t' := s.toks) (fun b o hb q => eb b o hb q) f0 f1 f3 f4 f5⟩
  self := fun A i s Q E st h => by
    obtain ⟨⟨_, he⟩, _⟩ := st
    exact wpAny_pyIter_enum he h
section
variable {X : Cx} {C : Ct}
def iET (te : TE) : TI := fun σ H R => te σ H fun v H1 => ∃ a xs, v = .ref a ∧ H1 a = some (.tup xs) ∧ R (ItET a xs) H1
theorem pi_ET {e : Expr} {te : TE} {p pos tpos : Pos} {elts : List Expr} {kk : Nat} (hg : Gl X "enumerate") (hm : X.mg "enumerate" = none) (he : PE X e te) (hs : starEach [e] X.env = [(false, eval e X.env)] := by rfl) :
    PI X (.Tuple elts kk tpos) (.Call (.Name "enumerate" p) [e] [] pos) (iET te) := by
  refine ⟨fun pins s σ H R I q => Call_ (ld_blt I hg hm boot_enumerate (PyProof.Rows.callWith_type1 ?_ hs rfl))⟩
  refine thn ((pa_cons he pa_nil hs).run pos pins s σ H (fun vs H1 => ∃ a xs, vs = [.ref a] ∧ H1 a = some (.tup xs) ∧ R (ItET a xs) H1) I ?_) fun us s1 out => ?_
  · have q2 : te σ H fun v H1 => ∃ a xs, v = .ref a ∧ H1 a = some (.tup xs) ∧ R (ItET a xs) H1 := q
    exact (show tCons te tNil σ H _ from by
      unfold tCons tNil
      have e : (fun (x : V) (H1 : Hp) => ∃ a xs, [x] = [V.ref a] ∧ H1 a = some (.tup xs) ∧ R (ItET a xs) H1) = fun x H1 => ∃ a xs, x = V.ref a ∧ H1 a = some (.tup xs) ∧ R (ItET a xs) H1 := by
        funext x H1; simp
      rw [e]; exact q2)
  · obtain ⟨vs, H1, I1, r1, a, xs, rfl, hx, q1⟩ := out
    obtain ⟨u, rfl, ru⟩ := vals1 r1
    obtain rfl : u = Value.ref a := ru
    obtain ⟨its, rv, pl, hz⟩ := I1.tuple (tq hx)
    have al : a < s1.heap.objs.size := by
      obtain ⟨o, ho, _⟩ := id pl
      exact Heap.lt_size ho
    refine enum_call (begins_tuple a its.toArray) pl fun h' he' hit hsz hk => wpAny_pyIter_enum he' ?_
    refine ⟨s1.heap.objs.size + 1, [s1.heap.objs.size + 1, s1.heap.objs.size], _, _, H1, rfl, I1.kept (t' := s1.toks) hk, turn_ET a xs (s1.heap.objs.size + 1) s1.heap.objs.size, ⟨⟨.none, he'⟩, ⟨_, hit, rfl, rfl⟩, Nat.succ_ne_self _, ?_, Nat.ne_of_lt al, Nat.zero_le _⟩, fun b hb => ?_, q1⟩
    · exact Nat.ne_of_lt (Nat.lt_succ_of_lt al)
    have big : s1.heap.objs.size ≤ b := by
      rcases List.mem_cons.mp hb with rfl | hb
      · exact Nat.le_succ _
      · cases List.mem_singleton.mp hb; exact Nat.le_refl _
    exact I1.fpOk big (I1.hok.fresh big)
def dEnumT (fe : En → Sto → R W) : En → Sto → R (List W) := fun ρ st => (fe ρ st).bind fun w s => match w with
  | .d (.tuple ds) => .ok (pairs 0 ds) s
  | _ => .bad
theorem itOk_ET {K : PySem.W.Frag} {Z0 : Addr → Prop} {θ : List (Option Addr)} {H : Hp} {a : Addr} {vs : List V} {ds : List PyData} (h1 : H a = some (.tup vs)) (h2 : PdAll K (Zs Z0 θ) H vs ds) : ItOk K Z0 θ H (pairs 0 ds) (ItET a vs) := fun Z1 θ1 H1 st1 hz e S i => by
  have q : H1 a = some (.tup vs) := e.tup a vs h1
  refine ⟨fun w hw => ?_, fun hi => ⟨q, by rw [h2.length]; rw [pairs_length] at hi; exact hi⟩⟩
  rw [pairs_get] at hw
  cases hd : ds[i]? with
  | none => rw [hd] at hw; cases hw
  | some d =>
    rw [hd] at hw
    cases hw
    obtain ⟨v, hv, r⟩ := h2.get hd
    refine ⟨⟨q, (List.getElem?_eq_some_iff.mp hv).1⟩, fun x H2 y => ?_⟩
    obtain ⟨T, u, rfl, hT, rfl, y⟩ := y
    have : u = v := Option.some.inj (y.symm.trans hv)
    subst this
    have := newPair S hT (.int (i : Nat)) (Pd.extW hz e r)
    simpa using this
theorem y_enumT {e : Expr} {fe : En → Sto → R W} {p pos tpos : Pos} {elts : List Expr} {kk : Nat} (hg : Gl X "enumerate") (hm : X.mg "enumerate" = none) (h : PE X e (rdE C fe)) (hs : starEach [e] X.env = [(false, eval e X.env)] := by rfl) :
    PI X (.Tuple elts kk tpos) (.Call (.Name "enumerate" p) [e] [] pos) (rdI C (dEnumT fe)) := PI.imp (pi_ET hg hm h hs) fun σ H Q q => by
  obtain ⟨Z0, θ, ρ, st, S, N, p⟩ := q
  refine ⟨Z0, θ, ρ, st, S, N, ?_⟩
  unfold dEnumT at p
  cases e : fe ρ st with
  | bad => rw [e] at p; exact p.elim
  | exc c x s => rw [e] at p; exact p
  | ok w st1 =>
    rw [e, R.bind_ok] at p
    intro θ1 H1 v e1 S1 w1
    split at p
    · cases w1 with
      | tup h1 h2 => exact ⟨_, _, rfl, h1, p θ1 H1 _ e1 S1 (itOk_ET h1 h2)⟩
    · exact p.elim
end
end Y
namespace Y
open PySem PySem.Spec PyProof.Rows L2
end Y
namespace BZ
open PySem PySem.Spec PyProof.Rows L2 Y BL
/-- the pair of two names -/
def sg (σ : List Nat) (i : Nat) : Nat := σ.getD i 0
def pr (σ : List Nat) (q : Nat × Nat) : P2 := (((min (sg σ q.1) (sg σ q.2) : Nat) : Int), ((max (sg σ q.1) (sg σ q.2) : Nat) : Int))
/-- the pairs so far -/
structure WQ (n c b m : Nat) (σ : List Nat) (hi lo : Nat) (s : Sto) (Q : List (Nat × Nat)) : Prop where
  at_ : WebAt n c b m s (Q.map (pr σ))
  nd : Q.Nodup
  lt : ∀ q ∈ Q, q.1 < q.2 ∧ q.2 < m ∧ (q.2 < hi ∨ (q.2 = hi ∧ q.1 < lo))
theorem WQ.next {n c b m : Nat} {σ : List Nat} {a : Nat} {s : Sto} {Q : List (Nat × Nat)} (h : WQ n c b m σ a a s Q) : WQ n c b m σ (a + 1) 0 s Q :=
  ⟨h.at_, h.nd, fun q hq => by have := h.lt q hq; omega⟩
end BZ
namespace BZ
open PySem PySem.Spec PyProof.Rows L2 Y BL
end BZ
namespace BZ
open PySem PySem.Spec PyProof.Rows L2 Y BL
def kyL (l : List Nat) : List Ke := l.map fun i : Nat => (Sum.inl (i : Int) : Ke)
/-- the lots that a dict has as its keys -/
def SD (N : Nat) (s : Sto) (S : List (List Nat)) : Prop := ∃ kvs, s[N]? = some (.dtt kvs) ∧ kvs.map (·.1) = S.map kyL
theorem SD.keep {N : Nat} {s s' : Sto} {S : List (List Nat)} (h : SD N s S) (e : s'[N]? = s[N]?) : SD N s' S := let ⟨k, a, b⟩ := h; ⟨k, e.trans a, b⟩
theorem lot_eq {l a : List Nat} (hl : l.Pairwise (· < ·)) (ha : a.Pairwise (· < ·)) (h : ∀ x, x ∈ l ↔ x ∈ a) : l = a :=
  List.Perm.eq_of_pairwise (fun x y _ _ h1 h2 => by exfalso; omega) hl ha ((List.perm_ext_iff_of_nodup (hl.imp fun {x y} q z => by omega) (ha.imp fun {x y} q z => by omega)).mpr h)
theorem lot_allL {m : Nat} {l : List Nat} (h : LotOk m l) : l ∈ allL m := by
  have e : l = (List.range m).filter fun x => decide (x ∈ l) := lot_eq h.pw (List.pairwise_lt_range.sublist List.filter_sublist) fun x => by
    rw [List.mem_filter, List.mem_range]
    exact ⟨fun q => ⟨h.lt x q, by simpa using q⟩, fun q => by simpa using q.2⟩
  rw [e]
  exact allL_filter _ m
theorem lots_few {m : Nat} {S : List (List Nat)} (h : ∀ l ∈ S, LotOk m l) (nd : S.Nodup) : S.length ≤ 2 ^ m := by
  rw [← allL_len]
  exact BL.sub_len S (allL m) nd fun l hl => lot_allL (h l hl)
/-- slices that leave one out -/
theorem cut_drop {α : Type} (xs : List α) (k : Nat) : cut xs (some (k : Int)) none = xs.drop k := by
  unfold cut
  rw [HT.sIx_nat, HT.sIx_none]
  by_cases h : k ≤ xs.length
  · rw [Nat.min_eq_left h, List.take_of_length_le (by rw [List.length_drop]; omega)]
  · rw [Nat.min_eq_right (by omega), Nat.sub_self, List.take_zero, List.drop_eq_nil_of_le (by omega)]
end BZ
namespace BL
open PySem PySem.Spec PyProof.Rows L2 Y
theorem dLit_ok {x : PyData} {ρ : En} {s : Sto} : dLit x ρ s = .ok (.d x) s := rfl
theorem dNil_ok {ρ : En} {s : Sto} : dNil ρ s = .ok [] s := rfl
section
variable {ρ : En} {s s1 : Sto} {vs : List Nat} {f : En → Sto → R W} {fi : En → Sto → R (List W)} {tg : W → En → Sto → R En} {tt : En → Sto → R Bool} {fe : En → Sto → R W}
theorem it_l {α : Type} {emb : α → PyData} {l : List α} (h : f ρ s = .ok (.d (.list (l.map emb))) s1) : dIter f ρ s = .ok (l.map fun a => W.d (emb a)) s1 := by
  rw [dIter_ok (x := .list (l.map emb)) h rfl, map_d]
theorem it_t {α : Type} {emb : α → PyData} {l : List α} (h : f ρ s = .ok (.d (.tuple (l.map emb))) s1) : dIter f ρ s = .ok (l.map fun a => W.d (emb a)) s1 := by
  rw [dIter_ok (x := .tuple (l.map emb)) h rfl, map_d]
theorem it_r {g : En → Sto → R W} {n : Nat} (h : g ρ s = .ok (nW n) s1) (hn : n ≤ 1000000) : dRng1 (dCons g dNil) ρ s = .ok ((List.range n).map fun i => nW i) s1 :=
  dRng1_ok (dCons1_ok h) (by omega)
theorem lc_flt {α : Type} {emb : α → W} {p : α → Bool} {g : α → PyData} (l : List α) (h1 : fi ρ s = .ok (l.map emb) s1) (hl : l.length ≤ 1000000)
    (h2 : ∀ a ∈ l, ∃ ρ1, tg (emb a) (wipeE ρ vs) s1 = .ok ρ1 s1 ∧ tt ρ1 s1 = .ok (p a) s1 ∧ (p a = true → fe ρ1 s1 = .ok (.d (g a)) s1)) :
    dLcF (dLc vs fi tg tt fe) ρ s = .ok (.d (.list ((l.filter p).map g))) s1 := by
  refine dLcF_ok (dLc_ok h1 (us := ((l.filter p).map g).map W.d) ?_ (le_line (by simp only [List.length_map]; exact Nat.le_trans (List.length_filter_le _ _) hl)))
  rw [map_d]
  exact lcL_filter l h2
theorem lc_mp {α : Type} {emb : α → W} {g : α → PyData} (l : List α) (h1 : fi ρ s = .ok (l.map emb) s1) (hl : l.length ≤ 1000000)
    (h2 : ∀ a ∈ l, ∃ ρ1, tg (emb a) (wipeE ρ vs) s1 = .ok ρ1 s1 ∧ fe ρ1 s1 = .ok (.d (g a)) s1) :
    dLcF (dLc vs fi tg (fun _ st => .ok true st) fe) ρ s = .ok (.d (.list (l.map g))) s1 := by
  refine dLcF_ok (dLc_ok h1 (us := (l.map g).map W.d) ?_ (le_line (by simp only [List.length_map]; exact hl)))
  rw [map_d]
  exact lcL_map l h2
end
theorem vIn_natL' {l : List Nat} {i : Nat} {st : Sto} {neg : Bool} : vIn neg (nW i) (.d (.list (l.map nI))) st = .ok (.d (.bool (neg ^^ decide (i ∈ l)))) st := by
  show chk _ _ = _
  rw [chk_ok ⟨shaped_int _, shaped_ints' l⟩, ← any_nat]
theorem vIn_natL {l : List Nat} {i : Nat} {st : Sto} : vIn false (nW i) (.d (.list (l.map nI))) st = .ok (.d (.bool (decide (i ∈ l)))) st := by
  rw [vIn_natL', Bool.false_xor]
theorem vNotIn_natL {l : List Nat} {i : Nat} {st : Sto} : vIn true (nW i) (.d (.list (l.map nI))) st = .ok (.d (.bool (!decide (i ∈ l)))) st := by
  rw [vIn_natL', Bool.true_xor]
end BL
namespace Y
open PySem PySem.Spec PyProof.Rows L2
@[simp] def vIsB (neg : Bool) : W → W → Sto → R W
  | .d x, .d (.bool b), st => .ok (.d (.bool (neg ^^ match x with | .bool a => decide (a = b) | _ => false))) st
  | _, _, _ => .bad
end Y
namespace Y
open PySem PySem.Spec PyProof.Rows L2
def itrQ (l : Bool) (h : Heap) (it a : Addr) (i : Nat) : Prop := if l = true then h.IsListIter it a i else h.IsTupleIter it a i
def hasQ (l : Bool) (h : Heap) (a : Addr) (items : Array Value) : Prop := if l = true then h.IsList a items else h.IsTuple a items
def sqQ (l : Bool) (K : PySem.W.Frag) (H : Hp) (a : Addr) (xs : List V) : Prop := if l = true then SqL K H a xs else SqT K H a xs
def objQ (l : Bool) (a : Addr) : Obj := if l = true then { cls := .type "list_iterator", data := .fields #[.ref a, .int 0 0] } else { cls := .type "tuple_iterator", data := .fields #[.ref a, .int 0 0] }
theorem drawsQ (l : Bool) {prog : Program} {w : World} {A : Around} (hh : A.handled = none) (it a : Addr) (hne : a ≠ it) (items : Array Value) :
    Draws prog w A it [it, a] items.size (fun i v => items[i]? = some v) (fun i h => itrQ l h it a i ∧ hasQ l h a items) := by
  cases l
  · exact Draws.tuple hh it a hne items
  · exact Draws.list hh it a hne items
theorem beginsQ (l : Bool) (a : Addr) (items : Array Value) : Begins (.ref a) (objQ l a) fun h => hasQ l h a items := by
  cases l
  · exact begins_tuple a items
  · exact begins_list a items
theorem invQ (l : Bool) {X : Cx} {pins : List (Addr × Obj)} {σ : L2.St} {H : Hp} {s : Shared} {a : Addr} {xs : List V} (I : Inv X pins σ H s) (h : sqQ l X.K H a xs) : ∃ its : List Value, Vals xs its ∧ hasQ l s.heap a its.toArray := by
  cases l
  · obtain ⟨its, rv, p, _⟩ := I.tuple h
    exact ⟨its, rv, p⟩
  · obtain ⟨its, rv, p, _⟩ := I.list h
    exact ⟨its, rv, p.isList⟩
theorem itrQ.obj {l : Bool} {h : Heap} {it a : Addr} {i : Nat} (q : itrQ l h it a i) : ∃ o, h.get? it = some o ∧ ∀ v, o.data ≠ .cell v := by
  cases l <;> (obtain ⟨o, e, _, d⟩ := q; exact ⟨o, e, fun v z => by rw [d] at z; cases z⟩)
theorem itrQ.at_ {l : Bool} {h h' : Heap} {it a : Addr} {i : Nat} (q : itrQ l h it a i) (k : ∀ o, h.get? it = some o → h'.get? it = some o) : itrQ l h' it a i := by
  cases l
  · exact Heap.IsTupleIter.at q k
  · exact Heap.IsListIter.at q k
/-- the pairs of two sequences, each in a new tuple -/
def ItQ (K : PySem.W.Frag) (l m : Bool) (a b : Addr) (xs ys : List V) : It := ⟨fun i H => sqQ l K H a xs ∧ sqQ m K H b ys ∧ i < xs.length ∧ i < ys.length, fun i H v H' => ∃ T x y, v = .ref T ∧ H T = none ∧ H' = upd H T (.tup [x, y]) ∧ xs[i]? = some x ∧ ys[i]? = some y, fun i H => sqQ l K H a xs ∧ sqQ m K H b ys ∧ (xs.length ≤ i ∨ ys.length ≤ i)⟩
theorem turn_Q {P : Program} {w : World} {K : PySem.W.Frag} {elts : List Expr} {kk : Nat} {tpos : Pos} {l m : Bool} {a b z TI TO i1 i2 : Addr} {xs ys : List V} (S : ZipSep2 z TI TO i1 i2 [i1, a] [i2, b]) (n1 : a ≠ i1) (n2 : b ≠ i2) :
    Turn P w K (.Tuple elts kk tpos) (ItQ K l m a b xs ys) [z, TI, TO, i1, i2] z (fun i h => IsZip h z TI TO .none ∧ IsTupOf2 h TI (.ref i1) (.ref i2) ∧ (∃ x y, IsTupOf2 h TO x y) ∧ itrQ l h i1 a i ∧ itrQ m h i2 b i ∧ i ≤ xs.length ∧ i ≤ ys.length) where
  mem := by simp
  obj := fun i h st c hc => by
    obtain ⟨hz, hTI, ⟨x, y, hTO⟩, h1, h2, _⟩ := st
    have e' : c = z ∨ c = TI ∨ c = TO ∨ c = i1 ∨ c = i2 := by simpa using hc
    rcases e' with q | q | q | q | q
    · rw [q]; exact ⟨_, hz, fun v q => nomatch q⟩
    · rw [q]; exact ⟨_, hTI, fun v q => nomatch q⟩
    · rw [q]; exact ⟨_, hTO, fun v q => nomatch q⟩
    · rw [q]; exact h1.obj
    · rw [q]; exact h2.obj
  keep := fun i h h' st k => by
    obtain ⟨hz, hTI, ⟨x, y, hTO⟩, h1, h2, le⟩ := st
    exact ⟨k z (by simp) _ hz, k TI (by simp) _ hTI, ⟨x, y, k TO (by simp) _ hTO⟩, h1.at_ fun o q => k i1 (by simp) o q, h2.at_ fun o q => k i2 (by simp) o q, le⟩
  item := by
    intro X hP hw hK hc i pins s σ H E I hf st hg
    cases hP; cases hw; cases hK
    obtain ⟨hz, hTI, ⟨x0, y0, hTO⟩, h1, h2, le1, le2⟩ := st
    obtain ⟨hqx, hqy, lt1, lt2⟩ := hg
    obtain ⟨its, rv, p⟩ := invQ l I hqx
    obtain ⟨its2, rv2, p2⟩ := invQ m I hqy
    have l1 : its.length = xs.length := rv.length.symm
    have l2 : its2.length = ys.length := rv2.length.symm
    have hzl : z < s.heap.objs.size := Heap.lt_size hz
    have o1 := h1.obj
    have o2 := h2.obj
    refine wpAny_pyNext_zipD2_item S (drawsQ l (A := X.A.in1) (I.ok.hd hc) i1 a n1 its.toArray) (drawsQ m (A := X.A.in1) (I.ok.hd hc) i2 b n2 its2.toArray) hz hTI hTO ⟨h1, p⟩ ⟨h2, p2⟩ (by simp [l1]; exact lt1) (by simp [l2]; exact lt2) ?_
    intro u u2 h' tk hu hu2 z' TO' st1 st2 hT hsz hk
    obtain ⟨x, hx, ru⟩ : ∃ x, xs[i]? = some x ∧ RelV x u := by
      have q : its[i]? = some u := by simpa using hu
      obtain ⟨u', hu', r'⟩ := rv.get (List.getElem?_eq_getElem lt1)
      rw [q] at hu'
      cases hu'
      exact ⟨_, List.getElem?_eq_getElem lt1, r'⟩
    obtain ⟨y, hy, ru2⟩ : ∃ y, ys[i]? = some y ∧ RelV y u2 := by
      have q : its2[i]? = some u2 := by simpa using hu2
      obtain ⟨u', hu', r'⟩ := rv2.get (List.getElem?_eq_getElem lt2)
      rw [q] at hu'
      cases hu'
      exact ⟨_, List.getElem?_eq_getElem lt2, r'⟩
    refine ⟨.ref s.heap.objs.size, rfl, wpAny_letOwnedTupleGo_zip (s := { s with heap := h', toks := tk }) z' fun h'' z'' sb => ?_⟩
    have hT2 : h''.get? s.heap.objs.size = some { cls := .type "tuple", data := .seq #[u, u2] } := (sb.2 _ (Nat.ne_of_gt hzl)).trans hT
    have new : ObjOk X.prog X.w (upd H s.heap.objs.size (.tup [x, y])) h'' s.heap.objs.size (.tup [x, y]) :=
      ⟨by show 2 ≤ sizeLine; decide, [u, u2], .cons ru (.cons ru2 .nil), ⟨_, hT2, rfl, _, rfl⟩⟩
    have I1 : Inv X pins σ (upd H s.heap.objs.size (.tup [x, y])) { s with heap := h'', toks := tk } :=
      I.turnedNew (t' := tk) (ch := [z, TI, TO, i1, i2]) (fun c o hb q => (sb.2 c (fun q' => hb (by simp [q']))).trans (hk c o (fun q' => hb (by simp [q'])) (fun q' => hb (by simp [q'])) (fun q' => hb (by simp [q'])) (fun q' => hb (by simp [q'])) q)) hf (Nat.le_refl _) new
    refine ⟨.ref s.heap.objs.size, _, I1, rfl, ⟨_, x, y, rfl, I.hok.fresh (Nat.le_refl _), rfl, hx, hy⟩, ⟨z'', ?_, ⟨u, u2, ?_⟩, ?_, ?_, lt1, lt2⟩, fun c hcm => ?_⟩
    · exact (sb.2 _ S.TIz).trans (hk _ _ S.TIz S.TITO S.TIi1 S.TIi2 hTI)
    · exact (sb.2 _ S.TOz).trans TO'
    · exact st1.1.at_ fun o q => (sb.2 _ S.zi1.symm).trans q
    · exact st2.1.at_ fun o q => (sb.2 _ S.zi2.symm).trans q
    · have hlt : c < s.heap.objs.size := by
        have e' : c = z ∨ c = TI ∨ c = TO ∨ c = i1 ∨ c = i2 := by simpa using hcm
        rcases e' with q | q | q | q | q
        · rw [q]; exact hzl
        · rw [q]; exact Heap.lt_size hTI
        · rw [q]; exact Heap.lt_size hTO
        · rw [q]; obtain ⟨_, e1, _⟩ := o1; exact Heap.lt_size e1
        · rw [q]; obtain ⟨_, e2, _⟩ := o2; exact Heap.lt_size e2
      rw [upd_ne (Nat.ne_of_lt hlt)]
      exact (hf c hcm).1
  done := by
    intro X hP hw hK hc i pins s σ H E I hf st hg
    cases hP; cases hw; cases hK
    obtain ⟨hz, hTI, ⟨x0, y0, hTO⟩, h1, h2, le1, le2⟩ := st
    obtain ⟨hqx, hqy, hend⟩ := hg
    obtain ⟨its, rv, p⟩ := invQ l I hqx
    obtain ⟨its2, rv2, p2⟩ := invQ m I hqy
    have l1 : its.length = xs.length := rv.length.symm
    have l2 : its2.length = ys.length := rv2.length.symm
    refine wpAny_pyNext_zipD2_end S (drawsQ l (A := X.A.in1) (I.ok.hd hc) i1 a n1 its.toArray) (drawsQ m (A := X.A.in1) (I.ok.hd hc) i2 b n2 its2.toArray) hz hTI hTO ⟨h1, p⟩ ⟨h2, p2⟩ (i := i) (by simp [l1]; exact le1) (by simp [l2]; exact le2) (by simp [l1, l2]; omega) fun h' tk hk => ⟨rfl, I.turnedL (t' := tk) (ch := [z, TI, TO, i1, i2]) (fun c o hb q =>
      hk c o (fun q' => hb (by simp [q'])) (fun q' => hb (by simp [q'])) (fun q' => hb (by simp [q'])) (fun q' => hb (by simp [q'])) q) hf⟩
  self := fun A i s Q E st h => wpAny_pyIter_zip st.1 h
def iQ (K : PySem.W.Frag) (ta : TA) : TI := fun σ H R => ta σ H fun vs H1 => ∃ l m a b xs ys, vs = [.ref a, .ref b] ∧ sqQ l K H1 a xs ∧ sqQ m K H1 b ys ∧ R (ItQ K l m a b xs ys) H1
theorem pi_Q {X : Cx} {e e2 : Expr} {ta : TA} {p pos tpos : Pos} {elts : List Expr} {kk : Nat} (hg : Gl X "zip") (hm : X.mg "zip" = none) (ha : PA X [e, e2] ta)
    (hs : starEach [e, e2] X.env = (false, eval e X.env) :: starEach [e2] X.env := by rfl) (hpl : (backTo pos (starEach [e2] X.env)).any (·.1) = false := by rfl) :
    PI X (.Tuple elts kk tpos) (.Call (.Name "zip" p) [e, e2] [] pos) (iQ X.K ta) := by
  refine ⟨fun pins s σ H R I h => ?_⟩
  refine Call_ (ld_blt I hg hm PyProof.Rows.boot_zip (PyProof.Rows.callWith_type1 (thn (ha.run pos pins s σ H _ I h) fun us s1 ⟨vs, H1, I1, r1, q1⟩ => ?_) hs hpl))
  obtain ⟨l, m, a, b, xs, ys, ex, hqx, hqy, q⟩ := q1
  subst ex
  cases r1 with
  | cons r rr =>
    cases rr with
    | cons r' rr =>
      cases rr
      cases r
      cases r'
      obtain ⟨its, rv, p1⟩ := invQ l I1 hqx
      obtain ⟨its2, rv2, p2⟩ := invQ m I1 hqy
      have al : ∀ {l : Bool} {c : Addr} {items : Array Value}, hasQ l s1.heap c items → c < s1.heap.objs.size := fun {l c items} q => by
        cases l <;> (obtain ⟨o, ho, _⟩ := id q; exact Heap.lt_size ho)
      have la := al p1
      have lb := al p2
      refine zip_begins2 (beginsQ l a its.toArray) (beginsQ m b its2.toArray) p1 p2 fun h' hz hTI hTO g1 g2 hsz hk => wpAny_pyIter_zip hz ?_
      have I2 : Inv X pins σ H1 { s1 with heap := h' } := I1.kept (t' := s1.toks) hk
      have q1 : itrQ l h' s1.heap.objs.size a 0 := by cases l <;> exact ⟨_, g1, rfl, rfl⟩
      have q2 : itrQ m h' (s1.heap.objs.size + 1) b 0 := by cases m <;> exact ⟨_, g2, rfl, rfl⟩
      refine ⟨s1.heap.objs.size + 4, [s1.heap.objs.size + 4, s1.heap.objs.size + 2, s1.heap.objs.size + 3, s1.heap.objs.size, s1.heap.objs.size + 1], _, _, H1, rfl, I2, turn_Q (zip_sep2 (N := s1.heap.objs.size) (fp1 := [a]) (fp2 := [b]) (fun c hc => by rw [List.mem_singleton.mp hc]; exact la) (fun c hc => by rw [List.mem_singleton.mp hc]; exact lb)) (Nat.ne_of_lt la) (Nat.ne_of_lt (Nat.lt_succ_of_lt lb)), ⟨hz, hTI, ⟨_, _, hTO⟩, q1, q2, Nat.zero_le _, Nat.zero_le _⟩, fun c hcm => ?_, q⟩
      have e' : c = s1.heap.objs.size + 4 ∨ c = s1.heap.objs.size + 2 ∨ c = s1.heap.objs.size + 3 ∨ c = s1.heap.objs.size ∨ c = s1.heap.objs.size + 1 := by simpa using hcm
      have hle : s1.heap.objs.size ≤ c := by
        rcases e' with z | z | z | z | z
        · rw [z]; exact Nat.le_add_right _ _
        · rw [z]; exact Nat.le_add_right _ _
        · rw [z]; exact Nat.le_add_right _ _
        · rw [z]; exact Nat.le_refl _
        · rw [z]; exact Nat.le_add_right _ _
      exact I1.fpOk hle (I1.hok.fresh hle)
/-- data that zip walks -/
def seqK : W → Option (List PyData)
  | .d (.list ds) => some ds
  | .d (.tuple ds) => some ds
  | _ => none
def zipD (ds es : List PyData) : List W := (ds.zip es).map fun p => W.d (.tuple [p.1, p.2])
def dZip (fa : En → Sto → R (List W)) : En → Sto → R (List W) := fun ρ st => (fa ρ st).bind fun ws s => match ws with
  | [u, w] => match seqK u, seqK w with
    | some ds, some es => .ok (zipD ds es) s
    | _, _ => .bad
  | _ => .bad
def seqH (l : Bool) (Z : Addr → Prop) (H : Hp) (a : Addr) (vs : List V) : Prop := if l = true then LstF Z H a vs else H a = some (.tup vs)
theorem seqH.sq {l : Bool} {K : PySem.W.Frag} {Z : Addr → Prop} {H : Hp} {a : Addr} {vs : List V} (h : seqH l Z H a vs) : sqQ l K H a vs := by
  cases l
  · exact tq h
  · exact LstF.sqL h
theorem seqK_v {K : PySem.W.Frag} {Z : Addr → Prop} {θ : List (Option Addr)} {H : Hp} {w : W} {v : V} {ds : List PyData} (r : WR K Z θ H w v) (e : seqK w = some ds) : ∃ l a vs, v = .ref a ∧ seqH l Z H a vs ∧ PdAll K Z H vs ds := by
  unfold seqK at e
  split at e
  · cases e
    cases r with
    | lst h1 h2 => exact ⟨true, _, _, rfl, h1, h2⟩
  · cases e
    cases r with
    | tup h1 h2 => exact ⟨false, _, _, rfl, h1, h2⟩
  · cases e
theorem itOk_Q {K : PySem.W.Frag} {Z0 : Addr → Prop} {θ : List (Option Addr)} {H : Hp} {l m : Bool} {a b : Addr} {xs ys : List V} {ds es : List PyData} (h1 : seqH l (Zs Z0 θ) H a xs) (h2 : seqH m (Zs Z0 θ) H b ys) (p1 : PdAll K (Zs Z0 θ) H xs ds) (p2 : PdAll K (Zs Z0 θ) H ys es) : ItOk K Z0 θ H (zipD ds es) (ItQ K l m a b xs ys) := fun Z1 θ1 H1 st1 hz e S i => by
  have up : ∀ {l : Bool} {c : Addr} {vs : List V}, seqH l (Zs Z0 θ) H c vs → sqQ l K H1 c vs := fun {l c vs} q => by
    cases l
    · exact tq (e.tup c vs q)
    · exact LstF.sqL (e.lstF hz q)
  have q1 := up h1
  have q2 := up h2
  refine ⟨fun w hw => ?_, fun hi => ⟨q1, q2, ?_⟩⟩
  · unfold zipD at hw
    rw [List.getElem?_map] at hw
    cases hd : (ds.zip es)[i]? with
    | none => rw [hd] at hw; cases hw
    | some p =>
      rw [hd] at hw
      cases hw
      obtain ⟨d1, d2⟩ := List.getElem?_zip_eq_some.mp hd
      obtain ⟨v1, g1, r1⟩ := p1.get d1
      obtain ⟨v2, g2, r2⟩ := p2.get d2
      refine ⟨⟨q1, q2, (List.getElem?_eq_some_iff.mp g1).1, (List.getElem?_eq_some_iff.mp g2).1⟩, fun x H2 y => ?_⟩
      obtain ⟨T, u, w, rfl, hT, rfl, y1, y2⟩ := y
      rw [g1] at y1
      rw [g2] at y2
      cases y1
      cases y2
      exact newPair S hT (Pd.extW hz e r1) (Pd.extW hz e r2)
  · unfold zipD at hi
    rw [List.length_map, List.length_zip] at hi
    have := p1.length
    have := p2.length
    omega
section
variable {X : Cx} {C : Ct}
theorem y_zip {e e2 : Expr} {fa : En → Sto → R (List W)} {p pos tpos : Pos} {elts : List Expr} {kk : Nat} (hK : C.K = X.K) (hg : Gl X "zip") (hm : X.mg "zip" = none) (ha : PA X [e, e2] (rdA C fa))
    (hs : starEach [e, e2] X.env = (false, eval e X.env) :: starEach [e2] X.env := by rfl) (hpl : (backTo pos (starEach [e2] X.env)).any (·.1) = false := by rfl) :
    PI X (.Tuple elts kk tpos) (.Call (.Name "zip" p) [e, e2] [] pos) (rdI C (dZip fa)) := by
  obtain ⟨K, mg, E⟩ := C
  obtain rfl : K = X.K := hK
  refine PI.imp (pi_Q hg hm ha hs hpl) fun σ H Q q => ?_
  obtain ⟨Z0, θ, ρ, st, S, N, p⟩ := q
  refine ⟨Z0, θ, ρ, st, S, N, ?_⟩
  unfold dZip at p
  cases e : fa ρ st with
  | bad => rw [e] at p; exact p.elim
  | exc c x s => rw [e] at p; exact p
  | ok ws st1 =>
    rw [e, R.bind_ok] at p
    intro θ1 H1 vs e1 S1 w1
    split at p
    · split at p
      · rename_i ds es k1 k2
        cases w1 with
        | cons r1 r2 =>
          cases r2 with
          | cons r2 r3 =>
            cases r3
            obtain ⟨l, a, xs, rfl, h1, p1⟩ := seqK_v r1 k1
            obtain ⟨m, b, ys, rfl, h2, p2⟩ := seqK_v r2 k2
            exact ⟨l, m, a, b, xs, ys, rfl, h1.sq, h2.sq, p θ1 H1 _ e1 S1 (itOk_Q h1 h2 p1 p2)⟩
      · exact p.elim
    · exact p.elim
end
end Y
namespace Y
open PySem PySem.Spec PyProof.Rows L2
end Y
namespace Y
open PySem PySem.Spec PyProof.Rows L2
open Classical in
noncomputable def gMinA : List W → Sto → R W
  | [w], st => match asD st w with
    | some (.list (x :: xs)) => chk (PySem.W.AlikeAll (x :: xs) ∧ PyData.depthAll (x :: xs) ≤ 60) (.ok (.d (PySem.W.minD x xs)) st)
    | some (.tuple (x :: xs)) => chk (PySem.W.AlikeAll (x :: xs) ∧ PyData.depthAll (x :: xs) ≤ 60) (.ok (.d (PySem.W.minD x xs)) st)
    | _ => .bad
  | _, _ => .bad
theorem mem_pick (c : PyData → PyData → Bool) : ∀ (xs : List PyData) (x : PyData), xs.foldl (fun a y => if c a y then y else a) x ∈ x :: xs
  | [], x => by simp
  | y :: xs, x => by
    have := mem_pick c xs (if c x y then y else x)
    rw [List.foldl_cons]
    rcases List.mem_cons.mp this with h | h
    · rw [h]; split <;> simp
    · exact List.mem_cons_of_mem _ (List.mem_cons_of_mem _ h)
theorem mem_minD (x : PyData) (xs : List PyData) : PySem.W.minD x xs ∈ x :: xs := mem_pick (fun a y => PySem.W.dataLt y a) xs x
theorem paired_bk {α β : Type} {F : α → β → Prop} : ∀ {l₁ : List α} {l₂ : List β}, Paired F l₁ l₂ → ∀ {i : Nat} {b : β}, l₂[i]? = some b → ∃ a, l₁[i]? = some a ∧ F a b
  | _, _, .nil, i, b, h => by simp at h
  | _, _, .cons r _, 0, b, h => ⟨_, rfl, by cases h; exact r⟩
  | _, _, .cons _ rs, i + 1, b, h => by
    obtain ⟨a, h1, h2⟩ := paired_bk rs (i := i) (b := b) (by simpa using h)
    exact ⟨a, by simpa using h1, h2⟩
theorem PdAll.bk {K : PySem.W.Frag} {Z : Addr → Prop} {H : Hp} : ∀ {vs : List V} {ds : List PyData}, PdAll K Z H vs ds → ∀ {i : Nat} {v : V}, vs[i]? = some v → ∃ d, ds[i]? = some d ∧ Pd K Z H v d
  | _, _, .nil, i, v, h => by simp at h
  | _, _, .cons r _, 0, v, h => ⟨_, rfl, by cases h; exact r⟩
  | _, _, .cons _ rs, i + 1, v, h => by
    obtain ⟨a, h1, h2⟩ := PdAll.bk rs (i := i) (v := v) (by simpa using h)
    exact ⟨a, by simpa using h1, h2⟩
section
variable {X : Cx} {C : Ct}
/-- an item that reads as one of the data is that -/
theorem item_is {pins : List (Addr × Obj)} {σ : L2.St} {H : Hp} {s : Shared} {Z : Addr → Prop} {vs : List V} {its : List Value} {ds : List PyData} {d : PyData} {i : Nat} {v : Value} {h' : Heap} {bs : List Addr} (I : Inv X pins σ H s) (r : PdAll X.K Z H vs ds) (rv : Vals vs its) (ha : PySem.W.AlikeAll ds) (hd : d ∈ ds)
    (hv : its.toArray[i]? = some v) (hr : Reads h' v d bs) (hk : ∀ b o, s.heap.get? b = some o → h'.get? b = some o) : ∃ x, RelV x v ∧ Pd X.K Z H x d := by
  have hv' : its[i]? = some v := by simpa using hv
  obtain ⟨x, h1, h2⟩ := paired_bk rv hv'
  obtain ⟨e, h3, h4⟩ := r.bk h1
  obtain ⟨as, h5⟩ := Dp.reads I e x v h4.dp h2
  have := PySem.W.alike_unique e d v as bs (ha.1 e (List.mem_of_getElem? h3) d hd) (PySem.W.reads_keeps hk h5) hr
  subst this
  exact ⟨x, h2, h4⟩
open Classical in
theorem cMinA (hK : C.K = X.K) (hc : X.calm = true) (hu : X.A.units + 64 < cLine) : CallR X (.builtin "min") (rdC C gMinA) := by
  obtain ⟨K, mg, E⟩ := C
  obtain rfl : K = X.K := hK
  intro pins s σ H xs us Q I r h
  obtain ⟨Z0, θ, st, ws, S, rw', p⟩ := h
  unfold gMinA at p
  split at p
  · cases rw' with
    | cons a b =>
      cases b
      split at p
      · rename_i w _ x xs hd
        obtain ⟨⟨ha, hz⟩, p⟩ := p.chk
        obtain ⟨l, vs, rfl, hs, r'⟩ := asD_list S a hd
        obtain ⟨its, rv, pl, _⟩ := I.list hs
        obtain ⟨as, rr⟩ := Dp.readsAll I _ _ its r'.dp rv
        rw [Vals.ref1 r]
        refine PySem.W.min_list_data (x := x) (xs := xs) (I.ok.hd hc) pl.isList (by simpa using rr) ha (by omega) fun i v h' tk bs hv hr hk => ?_
        obtain ⟨x', k1, k2⟩ := item_is I r' rv ha (mem_minD x xs) hv hr hk
        exact ⟨x', H, I.kept hk, k1, p.now S k2⟩
      · rename_i w _ x xs hd
        obtain ⟨⟨ha, hz⟩, p⟩ := p.chk
        obtain ⟨l, vs, rfl, hs, r'⟩ := asD_tup a hd
        obtain ⟨its, rv, pl, _⟩ := I.tuple hs
        obtain ⟨as, rr⟩ := Dp.readsAll I _ _ its r'.dp rv
        rw [Vals.ref1 r]
        refine PySem.W.min_tuple_data (x := x) (xs := xs) (I.ok.hd hc) pl (by simpa using rr) ha (by omega) fun i v h' tk bs hv hr hk => ?_
        obtain ⟨x', k1, k2⟩ := item_is I r' rv ha (mem_minD x xs) hv hr hk
        exact ⟨x', H, I.kept hk, k1, p.now S k2⟩
      · exact p.elim
  · exact p.elim
end
end Y
namespace Y
open PySem PySem.Spec PyProof.Rows L2
end Y
namespace Y
open PySem PySem.Spec PyProof.Rows L2
end Y
namespace Y
open PySem PySem.Spec PyProof.Rows L2
end Y
namespace Y
open PySem PySem.Spec PyProof.Rows L2
end Y
namespace Y
open PySem PySem.Spec PyProof.Rows L2
end Y
namespace Y
open PySem PySem.Spec PyProof.Rows L2
section
variable {X : Cx} {C : Ct}
/-- a statement that is never come to -/
@[simp] def dNever : DS := fun _ _ => .bad
end
end Y
namespace Y
open PySem PySem.Spec PyProof.Rows L2
section
variable {X : Cx} {C : Ct}
/-- set(t), t a tuple of ints -/
def rSetIT (K : PySem.W.Frag) (w : World) : List V → Hp → VK → Prop := fun vs H Q => ∃ (a : Addr) (ns : List Int), vs = [V.ref a] ∧ SqT K H a (ns.map V.int) ∧ ns.length ≤ 1000 ∧
  ∀ p, H p = none → Q (.ref p) (upd H p (SetO w p (fun j => decide (j ∈ ns)) (dd ns).length))
noncomputable def gSortedSetIT : List W → Sto → R W
  | [w], st => match asD st w with
    | some (.tuple ds) => match asInts ds with
        | some ns => chk (ns.length < 64) (.ok (.d (.list ((srtU ns).map .int))) st)
        | none => .bad
    | _ => .bad
  | _, _ => .bad
theorem cr_setIT (hc : X.calm = true) : CallR X (.type "set") (rSetIT X.K X.w) := by
  intro pins s σ H vs us Q I r h
  obtain ⟨a, ns, rfl, hs, hn, q⟩ := h
  obtain ⟨its, rv, pl, hz⟩ := I.tuple hs
  rw [Vals.ref1 r]
  refine call_set_tupI ns (I.ok.hd hc) pl (by simpa using rv.ints) (by unfold scanBound; omega) fun h' tk c hR hcl hk => ?_
  have e := setR_len hR
  subst e
  exact ⟨.ref _, upd H s.heap.objs.size (SetO X.w s.heap.objs.size (fun j => decide (j ∈ ns)) (dd ns).length), I.laid (t' := tk) (fun b u e => hk b u e) (Nat.le_refl _) (setO_new hR), rfl, q _ (I.hok.fresh (Nat.le_refl _))⟩
theorem y_sortedSetIT {a : Expr} {fa : En → Sto → R W} {p p2 q pos : Pos} (hK : C.K = X.K) (hc : X.calm = true) (hg : Gl X "sorted") (hm : X.mg "sorted" = none) (hg2 : Gl X "set") (hm2 : X.mg "set" = none) (ha : PE X a (rdE C fa))
    (he : starEach [a] X.env = (false, eval a X.env) :: starEach [] X.env := by rfl) : PE X (.Call (.Name "sorted" p) [.Call (.Name "set" p2) [a] [] q] [] pos) (rdE C (dCall gSortedSetIT (dCons fa dNil))) := by
  obtain ⟨K, mg, E⟩ := C
  obtain rfl : K = X.K := hK
  refine PE.imp (pe_callB (cr_sortedSet hc) hg hm (by decide +kernel) (pa_cons (pe_callTy (cr_setIT hc) hg2 hm2 (by decide +kernel) (pa_cons ha pa_nil he) (by decide) (by decide) he) pa_nil)) fun σ H Q h => ?_
  obtain ⟨Z0, θ, ρ, st, S, N, h⟩ := h
  refine ⟨Z0, θ, ρ, st, S, N, ?_⟩
  unfold dCall at h
  rw [show dCons fa dNil ρ st = (fa ρ st).bind fun w s => (dNil ρ s).bind fun ws s => .ok (w :: ws) s from rfl, R.bind_assoc] at h
  refine Post.bind h fun w st1 θ1 H1 v _ e1 S1 w1 p1 => ?_
  have p1 : Post ⟨X.K, mg, E⟩ Z0 θ1 H1 (relW X.K Z0) (gSortedSetIT [w] st1) Q := p1
  unfold gSortedSetIT at p1
  dsimp only at p1
  split at p1
  · rename_i ds hd
    obtain ⟨l, vs, rfl, hs, r'⟩ := asD_tup w1 hd
    split at p1
    · rename_i ns hn
      obtain ⟨h64, p1⟩ := p1.chk
      have := asInts_eq hn
      subst this
      have := r'.intsEq
      subst this
      refine ⟨l, ns, rfl, hs, by omega, fun a ha => ?_⟩
      have S2 := S1.alloc (o := SetO X.w a (fun j => decide (j ∈ ns)) (dd ns).length) ha
      have hle : (dd ns).length ≤ ns.length := dd_len ns
      refine ⟨a, _, _, rfl, upd_same, by omega, fun ms l' g1 g2 g3 hy => ?_⟩
      have : ms = srtU ns := srtU_uniq g1 fun x => by rw [g2, decide_eq_true_eq]
      subst this
      exact (Post.from (Ext.alloc ha) p1).newLst S2 hy (pdAll_ints _)
    · exact p1.elim
  · exact p1.elim
end
end Y
namespace Y
open PySem PySem.Spec PyProof.Rows L2
end Y
namespace Y
open PySem PySem.Spec PyProof.Rows L2
end Y
namespace Y
open PySem PySem.Spec PyProof.Rows L2
end Y
namespace Y
open PySem PySem.Spec PyProof.Rows L2
end Y
namespace Y
open PySem PySem.Spec PyProof.Rows L2
end Y
namespace Y
open PySem PySem.Spec PyProof.Rows L2
theorem CalG.up {P : Program} {w : World} {K : PySem.W.Frag} {mg : Str → Option Value} {base : Heap} {j k n : Nat} {x : Str} {st : Stmt} {ps : List Str} {F : Fn} (c : CalG P w K mg base j x st ps n F) (h : j ≤ k) : CalG P w K mg base k x st ps n F := by
  obtain ⟨f, kV, doc, pm, an, cdv, ct, G, h1, h2, h3, h4⟩ := c.ex
  exact ⟨f, kV, doc, pm, an, cdv, ct, G.up h, h1, h2, h3, h4⟩
end Y
namespace Y
open PySem PySem.Spec PyProof.Rows L2
end Y
namespace Y
open PySem PySem.Spec PyProof.Rows L2
section
variable {X : Cx} {C : Ct}
theorem PG.or {e : Expr} {t t' : TG} (h : PG X e t) (h' : PG X e t') : PG X e (fun v σ H Q => t v σ H Q ∨ t' v σ H Q) := ⟨fun pins s σ H v u Q I r q => q.elim (h.run pins s σ H v u Q I r) (h'.run pins s σ H v u Q I r)⟩
end
end Y
namespace Y
open PySem PySem.Spec PyProof.Rows L2
end Y
namespace Y
open PySem PySem.Spec PyProof.Rows HT
end Y
namespace Y
open PySem PySem.Spec PyProof.Rows L2
end Y
namespace YS
open PySem PySem.Spec PyProof.Rows L2
def Mk (m : Nat) : Prop := m = 7 ∨ m = 31 ∨ m = 127 ∨ m = 511
theorem Mk.le {m : Nat} (h : Mk m) : m ≤ 511 := by rcases h with e | e | e | e <;> omega
theorem Mk.odd {m : Nat} (h : Mk m) : m % 2 = 1 := by rcases h with e | e | e | e <;> omega
def sq (m : Nat) : Nat → Nat → List Nat
  | 0, _ => []
  | n + 1, i => i :: sq m n ((i * 5 + 1) % (m + 1))
theorem sq_in (m : Nat) : ∀ (n a j : Nat), j ∈ sq m n (lcgN m a) → ∃ b, b < n ∧ lcgN m (a + b) = j
  | 0, _, _, h => by cases h
  | n + 1, a, j, h => by
    rcases List.mem_cons.mp h with e | h
    · exact ⟨0, Nat.succ_pos _, e.symm⟩
    · obtain ⟨b, hb, e⟩ := sq_in m n (a + 1) j h
      exact ⟨b + 1, by omega, by rw [← e]; congr 1; omega⟩
def full (m : Nat) : Bool := (List.range (m + 1)).all fun j => (sq m (m + 1) 0).contains j
theorem full511 : full 511 = true := by decide +kernel
theorem full127 : full 127 = true := by decide +kernel
theorem full31 : full 31 = true := by decide +kernel
theorem full7 : full 7 = true := by decide +kernel
theorem rnd511 : lcgN 511 512 = 0 := by decide +kernel
theorem rnd127 : lcgN 127 128 = 0 := by decide +kernel
theorem rnd31 : lcgN 31 32 = 0 := by decide +kernel
theorem rnd7 : lcgN 7 8 = 0 := by decide +kernel
theorem Mk.full {m : Nat} (h : Mk m) : full m = true := by
  rcases h with e | e | e | e <;> rw [e]
  · exact full7
  · exact full31
  · exact full127
  · exact full511
theorem Mk.rnd {m : Nat} (h : Mk m) : lcgN m (m + 1) = 0 := by
  rcases h with e | e | e | e <;> rw [e]
  · exact rnd7
  · exact rnd31
  · exact rnd127
  · exact rnd511
theorem Mk.hits {m : Nat} (h : Mk m) {j : Nat} (hj : j ≤ m) : ∃ b, b ≤ m ∧ lcgN m b = j := by
  have f := List.all_eq_true.mp h.full j (List.mem_range.mpr (by omega))
  obtain ⟨b, hb, e⟩ := sq_in m (m + 1) 0 j (List.contains_iff_mem.mp f)
  exact ⟨b, by omega, by rwa [Nat.zero_add] at e⟩
theorem Mk.again {m : Nat} (h : Mk m) : ∀ k, lcgN m (m + 1 + k) = lcgN m k := by
  intro k
  induction k with
  | zero => exact h.rnd
  | succ k ih => show (lcgN m (m + 1 + k) * 5 + 1) % (m + 1) = (lcgN m k * 5 + 1) % (m + 1); rw [ih]
theorem Mk.goes {m i j : Nat} (h : Mk m) (hi : i ≤ m) (hj : j ≤ m) : ∃ k, k ≤ m ∧ lcgI m i k = j := by
  obtain ⟨a, a1, rfl⟩ := h.hits hi
  obtain ⟨b, b1, rfl⟩ := h.hits hj
  by_cases c : a ≤ b
  · exact ⟨b - a, by omega, by rw [lcgN_add]; congr 1; omega⟩
  · exact ⟨m + 1 + b - a, by omega, by rw [lcgN_add, ← h.again b]; congr 1; omega⟩
theorem Mk.run {m : Nat} (hm : Mk m) (h : Int) {j : Nat} (hj : j ≤ m) : ∃ n, n ≤ m + 12 ∧ runI m (SetTable.bits h) n = j := by
  obtain ⟨k, k1, k2⟩ := hm.goes (runI_le m (SetTable.bits h) 12) hj
  exact ⟨12 + k, by omega, by rw [runI_tail (bits_lt h), k2]⟩
/-- the start of a way -/
abbrev at0 (m : Nat) (h : Int) : SetTable.Probe := runAt m (SetTable.bits h % (m + 1)) (SetTable.bits h)
/-- a way's k-th slot -/
abbrev wy (m : Nat) (h : Int) (k : Nat) : Nat := (nth m (at0 m h) k).j
theorem wy_le {m : Nat} {h : Int} {k : Nat} : wy m h k ≤ m := by
  have b : SetTable.bits h % (m + 1) ≤ m := Nat.lt_succ_iff.mp (Nat.mod_lt _ (Nat.succ_pos _))
  have q := nth_in k (at0 m h) (by
    have := runEnd_bd b
    show SetTable.bits h % (m + 1) + (SetTable.runEnd m (SetTable.bits h % (m + 1)) - SetTable.bits h % (m + 1)) ≤ m
    omega)
  exact Nat.le_trans (Nat.le_add_right _ _) q
theorem Mk.meets {m : Nat} (hm : Mk m) (h : Int) {j : Nat} (hj : j ≤ m) : ∃ k, k < 10 * SetTable.turns m ∧ wy m h k = j := by
  obtain ⟨n, n1, n2⟩ := hm.run h hj
  obtain ⟨k, k1, k2⟩ := run_nth m (SetTable.bits h) n
  refine ⟨k, ?_, ?_⟩
  · show k < 10 * (m + 15)
    omega
  · show (nth m _ k).j = j
    rw [k2]
    exact n2
/-- a table in order: each hash is met on its own way, ahead of the first empty slot -/
structure Tb (t : SetTable) (hs : List Int) : Prop where
  km : Mk t.mask
  cl : t.dummies = #[]
  ri : Ris t.place.toList
  sz : t.place.toList.length = hs.length
  le : ∀ j ∈ t.place.toList, j ≤ t.mask
  on : ∀ (i j : Nat) (h : Int), t.place.toList[i]? = some j → hs[i]? = some h → ∃ k, wy t.mask h k = j ∧ ∀ q, q < k → wy t.mask h q ∈ t.place.toList
section
variable {t : SetTable} {hs : List Int}
theorem Tb.stop (T : Tb t hs) (hl : hs.length ≤ t.mask) (h : Int) : ∃ K, K < 10 * SetTable.turns t.mask ∧ wy t.mask h K ∉ t.place.toList ∧ ∀ q, q < K → wy t.mask h q ∈ t.place.toList := by
  obtain ⟨j, j1, j2⟩ := st_missing t.place.toList (t.mask + 1) (by rw [T.sz]; omega)
  obtain ⟨k, k1, k2⟩ := T.km.meets h (Nat.lt_succ_iff.mp j1)
  obtain ⟨K, a, b, c⟩ := st_least (p := fun k => wy t.mask h k ∉ t.place.toList) k (fun z => j2 (k2 ▸ z))
  exact ⟨K, by omega, b, fun q hq => Classical.not_not.mp (c q hq)⟩
theorem Tb.put (T : Tb t hs) {h : Int} {K : Nat} (hK : wy t.mask h K ∉ t.place.toList) (hb : ∀ q, q < K → wy t.mask h q ∈ t.place.toList) :
    ∃ p t', t.put (wy t.mask h K) = (t', p) ∧ p ≤ hs.length ∧ Tb t' (hs.take p ++ h :: hs.drop p) ∧ t'.mask = t.mask ∧ t'.led = t.led ∧ t'.plain = t.plain ∧ t'.fill = hs.length + 1 := by
  have w := wy_le (m := t.mask) (h := h) (k := K)
  obtain ⟨j, ej⟩ : ∃ j, wy t.mask h K = j := ⟨_, rfl⟩
  rw [ej] at hK w ⊢
  have cut := (below_cut T.ri j).1
  have pl : SetTable.below t.place j ≤ t.place.toList.length := by rw [Array.length_toList]; exact cut
  have ph : SetTable.below t.place j ≤ hs.length := T.sz ▸ pl
  have pp := put_place t j
  have off : t.place[SetTable.below t.place j]? ≠ some j := fun z => hK (List.mem_of_getElem? ((Array.getElem?_toList ..).trans z))
  have ln : (t.put j).1.place.toList.length = hs.length + 1 := by rw [pp, len_ins _ pl, T.sz]
  refine ⟨SetTable.below t.place j, (t.put j).1, rfl, ph, ⟨T.km, put_dm T.cl j, ris_insert T.ri off, ?_, fun x hx => ?_, fun i x g h1 h2 => ?_⟩, rfl, rfl, rfl, ?_⟩
  · rw [ln, len_ins _ ph]
  · rw [pp] at hx
    rcases mem_ins.mp hx with rfl | hx
    · exact w
    · exact T.le x hx
  · have more : ∀ y ∈ t.place.toList, y ∈ (t.put j).1.place.toList := fun y hy => by rw [pp]; exact mem_ins.mpr (.inr hy)
    have old : ∀ i', t.place.toList[i']? = some x → hs[i']? = some g → ∃ k, wy t.mask g k = x ∧ ∀ q, q < k → wy t.mask g q ∈ (t.put j).1.place.toList := fun i' a b => by
      obtain ⟨k, c, d⟩ := T.on i' x g a b
      exact ⟨k, c, fun q hq => more _ (d q hq)⟩
    rw [pp, tins_get _ pl] at h1
    rw [tins_get _ ph] at h2
    by_cases c : i < SetTable.below t.place j
    · rw [if_pos c] at h1 h2
      exact old i h1 h2
    · rw [if_neg c] at h1 h2
      by_cases d : i = SetTable.below t.place j
      · rw [if_pos d] at h1 h2
        cases h1
        cases h2
        exact ⟨K, ej, fun q hq => more _ (hb q hq)⟩
      · rw [if_neg d] at h1 h2
        exact old (i - 1) h1 h2
  · show (t.put j).1.place.size + (t.put j).1.dummies.size = _
    rw [put_dm T.cl j, ← Array.length_toList, ln]
    rfl
end
theorem Mk.free {m : Nat} (hm : Mk m) (owner : Array (Option Nat)) (h : Int) {j : Nat} (hj : j ≤ m) (hf : oAt owner j = none) :
    ∃ K, SetTable.layClean.free m owner (SetTable.turns m) (SetTable.bits h % (m + 1)) (SetTable.bits h) = some (wy m h K) ∧ oAt owner (wy m h K) = none ∧ ∀ q, q < K → oAt owner (wy m h q) ≠ none := by
  obtain ⟨n, n1, n2⟩ := hm.run h hj
  have z : wy m h (off m (SetTable.bits h % (m + 1)) (SetTable.bits h) n) = j := by
    show (nth m _ _).j = j
    rw [nth_off, itL_run]
    exact n2
  obtain ⟨K, k1, k2, k3⟩ := st_least (p := fun k => oAt owner (wy m h k) = none) _ (show oAt owner (wy m h (off m (SetTable.bits h % (m + 1)) (SetTable.bits h) n)) = none by rw [z]; exact hf)
  have k2 : oAt owner (wy m h K) = none := k2
  refine ⟨K, free_spec m owner _ n _ _ K (by show n < m + 15; omega) k1 (fun k hk => ?_) (by show (oAt owner (wy m h K)).isNone = true; rw [k2]; rfl), k2, k3⟩
  have := k3 k hk
  show (oAt owner (wy m h k)).isNone = false
  cases c : oAt owner (wy m h k) with
  | none => exact absurd c this
  | some _ => rfl
end YS
namespace YS
open PySem PySem.Spec PyProof.Rows L2
/-- a set of tuples of ints, fewer than 300 -/
structure Sg (P : Program) (w : World) (h : Heap) (a : Addr) (L : List (Addr × List Int)) (es : Array (Int × Value)) (ep : Nat) (t : SetTable) : Prop where
  ob : ∃ o, h.get? a = some o ∧ o.ExactSet ∧ o.data = .set es ep t
  row : es.toList = rowsOf P w L
  tb : Tb t (L.map fun p => thash P w p.2)
  nd : (L.map (·.2)).Nodup
  it : ∀ p ∈ L, IsT P w h p.2 p.1
  pl : t.plain = true
  ld : w.params.followText "set-order" = true ∨ t.led = true
  room : L.length * 5 < t.mask * 3
  few : L.length < 300
section
variable {P : Program} {w : World} {A : Around} {E : Value → Shared → Prop} {s : Shared} {a : Addr} {L : List (Addr × List Int)} {es : Array (Int × Value)} {ep : Nat} {t : SetTable}
theorem Sg.keep {h h' : Heap} (R : Sg P w h a L es ep t) (ha : ∀ o, h.get? a = some o → h'.get? a = some o) (ht : ∀ p ∈ L, IsT P w h' p.2 p.1) : Sg P w h' a L es ep t := by
  obtain ⟨o, ho, r⟩ := R.ob
  exact ⟨⟨o, ha o ho, r⟩, R.row, R.tb, R.nd, ht, R.pl, R.ld, R.room, R.few⟩
end
end YS
namespace YS
open PySem PySem.Spec PySem.W PyProof.Rows L2
end YS
namespace YS
open PySem PySem.Spec PyProof.Rows L2 Y
end YS
namespace Y
open PySem PySem.Spec PyProof.Rows L2 YS
end Y
namespace BP
open PySem PySem.Spec PyProof.Rows L2 Y BL
noncomputable abbrev F_l_any : Fn := F_any
noncomputable abbrev F_l_of : Fn := BL.F_l_of
abbrev nats (l : List Int) : List Nat := l.map Int.toNat
end BP
namespace BP
open PySem PySem.Spec PyProof.Rows L2 Y BL
/-- data of depth at most k, no list or tuple in it longer than n -/
inductive Wd (n : Nat) : Nat → PyData → Prop
  | non (k : Nat) : Wd n k .none
  | bl (k : Nat) (b : Bool) : Wd n k (.bool b)
  | int (k : Nat) (i : Int) : Wd n k (.int i)
  | str (k : Nat) {s : Str} (h : PyData.strOk s = true) : Wd n k (.str s)
  | lst {k : Nat} {xs : List PyData} : (∀ x ∈ xs, Wd n k x) → xs.length ≤ n → Wd n (k + 1) (.list xs)
  | tup {k : Nat} {xs : List PyData} : (∀ x ∈ xs, Wd n k x) → xs.length ≤ n → Wd n (k + 1) (.tuple xs)
theorem Wd.dk {n k : Nat} {d : PyData} (h : Wd n k d) : Dk k d := by
  induction h with
  | non k => exact .non
  | bl k b => exact .bl b
  | int k i => exact .int i
  | str k h => exact .str h
  | lst _ _ ih => exact Dk.lst ih
  | tup _ _ ih => exact Dk.tup ih
theorem Wd.up {n n' k k' : Nat} {d : PyData} (h : Wd n k d) (hn : n ≤ n') (hk : k ≤ k') : Wd n' k' d := by
  induction h generalizing k' with
  | non k => exact .non _
  | bl k b => exact .bl _ b
  | int k i => exact .int _ i
  | str k h => exact .str _ h
  | lst _ hl ih =>
    obtain ⟨j, rfl⟩ : ∃ j, k' = j + 1 := ⟨k' - 1, by omega⟩
    exact .lst (fun x hx => ih x hx (by omega)) (by omega)
  | tup _ hl ih =>
    obtain ⟨j, rfl⟩ : ∃ j, k' = j + 1 := ⟨k' - 1, by omega⟩
    exact .tup (fun x hx => ih x hx (by omega)) (by omega)
theorem Wd.pl {n k : Nat} {d : PyData} (h : Wd n k d) : Pl d := by cases h <;> exact True.intro
theorem Wd.shaped {n k : Nat} {d : PyData} (h : Wd n k d) (hk : k ≤ 64) : SeqAt.shaped d = true := h.dk.shaped hk
theorem Wd.tup_inv {n k : Nat} {xs : List PyData} (h : Wd n k (.tuple xs)) : xs.length ≤ n ∧ ∃ j, k = j + 1 ∧ ∀ x ∈ xs, Wd n j x := by
  cases h with
  | tup a b => exact ⟨b, _, rfl, a⟩
theorem mem_cutD {xs : List PyData} {a b : Option Int} {x : PyData} (h : x ∈ cut xs a b) : x ∈ xs := List.mem_of_mem_drop (List.mem_of_mem_take h)
theorem vAdd_tuples {a b : List PyData} {t : Sto} (h : a.length + b.length ≤ 1000000) : vAdd (.d (.tuple a)) (.d (.tuple b)) t = .ok (.d (.tuple (a ++ b))) t := by
  show chk _ _ = _
  exact chk_ok (le_line h)
theorem sl_ok {fe : En → Sto → R W} {lo hi : En → Sto → R (Option Int)} {ρ : En} {s s1 : Sto} {ds : List PyData} {a b : Option Int} (h : fe ρ s = .ok (.d (.tuple ds)) s1) (h1 : lo ρ s1 = .ok a s1) (h2 : hi ρ s1 = .ok b s1) : dSl fe lo hi ρ s = .ok (.d (.tuple (cut ds a b))) s1 := by
  show (fe ρ s).bind _ = _
  rw [h, R.bind_ok]
  show (lo ρ s1).bind _ = _
  rw [h1, R.bind_ok]
  show (hi ρ s1).bind _ = _
  rw [h2, R.bind_ok]
  rfl
section
variable {n c : Nat}
theorem or_t {t t' : En → Sto → R Bool} {ρ : En} {s s1 : Sto} (h : t ρ s = .ok true s1) : dOr t t' ρ s = .ok true s1 := by unfold dOr; rw [h]; rfl
theorem or_f {t t' : En → Sto → R Bool} {ρ : En} {s s1 : Sto} {r : R Bool} (h : t ρ s = .ok false s1) (h2 : t' ρ s1 = r) : dOr t t' ρ s = r := by unfold dOr; rw [h, R.bind_ok, if_neg (by simp), h2]
theorem gLen_tup (ds : List PyData) (s : Sto) : gLen [.d (.tuple ds)] s = .ok (I ds.length) s := by
  show R.ok (W.d (.int ((ds.map W.d).length : Nat))) s = _
  rw [List.length_map]
theorem eq_nilT {ds : List PyData} {st : Sto} {neg : Bool} (h : SeqAt.shaped (.tuple ds) = true) : vEq neg (.d (.tuple ds)) (.d (.tuple [])) st = .ok (.d (.bool (neg ^^ ds.isEmpty))) st := by
  show chk _ _ = _
  rw [chk_ok ⟨h, by decide⟩]
  cases ds with
  | nil => cases neg <;> rfl
  | cons a r => cases neg <;> rfl
end
end BP
namespace BZ
open PySem PySem.Spec PyProof.Rows L2 Y BL
theorem pw8 {m : Nat} (hm : m ≤ 8) : 2 ^ m ≤ 256 := Nat.pow_le_pow_right (n := 2) (by decide) hm
/-- the lots found and the lots still to look at -/
structure SV (N m : Nat) (es : List E2) (st : Sto) (k : Nat) (q : List Nat → Prop) (S lf : List (List Nat)) (s : Sto) : Prop where
  sd : SD N s S
  la : s[N + 1]? = some (.lst ((lf.map lotD).map W.d))
  nd : S.Nodup
  ok : ∀ l ∈ S, LotOk m l ∧ Srv m es l
  pl : ∀ p ∈ allP es, svd m p ∈ S
  cl : ∀ l ∈ S, l ∈ lf ∨ q l ∨ ∀ i, i < l.length → l.eraseIdx i ∈ S
  ms : lf.length + 2 * 2 ^ m ≤ k + 2 * S.length
  kb : k ≤ 512
  sub : ∀ l ∈ lf, l ∈ S
  kp : ∀ j, j < N → s[j]? = st[j]?
theorem SV.few {N m : Nat} {es : List E2} {st s : Sto} {k : Nat} {q : List Nat → Prop} {S lf : List (List Nat)} (h : SV N m es st k q S lf s) (hm : m ≤ 8) : S.length ≤ 2 ^ m ∧ S.length ≤ 256 ∧ lf.length ≤ k := by
  have a := lots_few (fun l hl => (h.ok l hl).1) h.nd
  have b := pw8 hm
  have c := h.ms
  omega
theorem _root_.BL.LotOk.erase {m : Nat} {l : List Nat} (h : LotOk m l) (i : Nat) : LotOk m (l.eraseIdx i) :=
  ⟨h.pw.sublist (List.eraseIdx_sublist l i), fun x hx => h.lt x ((List.eraseIdx_sublist l i).subset hx), Nat.le_trans (List.eraseIdx_sublist l i).length_le h.len⟩
end BZ
namespace BZ
open PySem PySem.Spec PyProof.Rows L2 Y BL
section
variable {m : Nat} {es : List E2}
theorem kept_mono {pre : List Nat} : ∀ post : List Nat, ∀ x ∈ kept m es pre, x ∈ kept m es (pre ++ post) := by
  refine snoc_ind (fun x hx => by rw [List.append_nil]; exact hx) fun post p ih x hx => ?_
  rw [← List.append_assoc, kept_snoc]
  unfold keepF
  split
  · exact List.mem_append_left _ (ih x hx)
  · exact ih x hx
end
end BZ
namespace BZ
open PySem PySem.Spec PyProof.Rows L2 Y BL
end BZ
namespace BZ
open PySem PySem.Spec PyProof.Rows L2 Y BL
theorem SD.lt {N : Nat} {s : Sto} {S : List (List Nat)} (h : SD N s S) : N < s.length := by
  obtain ⟨k, a, _⟩ := h
  exact (List.getElem?_eq_some_iff.mp a).1
end BZ
namespace BP
open PySem PySem.Spec PyProof.Rows L2 Y BL
noncomputable abbrev F_is_lot : Fn := BL.F_is_lot
theorem asc_conv {is : List Int} (h : ascB is = true) : is.Pairwise (· < ·) := by
  unfold ascB at h
  rw [List.all_eq_true] at h
  have step : ∀ i, i + 1 < is.length → is.getD i 0 < is.getD (i + 1) 0 := fun i hi => by
    have := h i (List.mem_range.mpr (by omega))
    simpa using this
  have far : ∀ k i, i + 1 + k < is.length → is.getD i 0 < is.getD (i + 1 + k) 0 := by
    intro k
    induction k with
    | zero => intro i hi; exact step i hi
    | succ k ih =>
      intro i hi
      have a := ih i (by omega)
      have b := step (i + 1 + k) (by omega)
      have : i + 1 + (k + 1) = i + 1 + k + 1 := by omega
      rw [this]
      omega
  rw [List.pairwise_iff_getElem]
  intro i j hi hj hij
  have := far (j - i - 1) i (by omega)
  have e : i + 1 + (j - i - 1) = j := by omega
  rw [e] at this
  simpa [List.getD_eq_getElem?_getD, hi, hj] using this
def IsLot (m : Nat) (d : PyData) : Prop := ∃ l, LotOk m l ∧ d = lotD l
open Classical in
noncomputable def lotB (m : Nat) (d : PyData) : Bool := decide (IsLot m d)
open Classical in
theorem lotB_iff {m : Nat} {d : PyData} : lotB m d = true ↔ IsLot m d := by unfold lotB; exact decide_eq_true_iff
open Classical in
theorem lotB_no {m : Nat} {d : PyData} (h : ¬ IsLot m d) : lotB m d = false := by unfold lotB; exact decide_eq_false h
theorem lotB_yes {m : Nat} {l : List Nat} (h : LotOk m l) : lotB m (lotD l) = true := lotB_iff.mpr ⟨l, h, rfl⟩
/-- all of them whole numbers -/
theorem ints_of : ∀ {ds : List PyData}, (∀ d ∈ ds, isInt d = true) → ∃ is : List Int, ds = is.map .int
  | [], _ => ⟨[], rfl⟩
  | d :: ds, h => by
    obtain ⟨is, e⟩ := ints_of fun x hx => h x (List.mem_cons_of_mem _ hx)
    have := h d List.mem_cons_self
    cases d <;> first | (rename_i i; exact ⟨i :: is, by rw [e]; rfl⟩) | cases this
theorem zs_of {m : Nat} {is : List Int} (h : ∀ i ∈ is, 0 ≤ i ∧ i < m) : ∃ l : List Nat, is = zs l ∧ ∀ x ∈ l, x < m := by
  refine ⟨nats is, ?_, fun x hx => ?_⟩
  · show is = (is.map Int.toNat).map fun i : Nat => (i : Int)
    rw [List.map_map]
    refine ((List.map_congr_left fun i hi => ?_).trans (List.map_id is)).symm
    have := h i hi
    show ((i.toNat : Nat) : Int) = i
    omega
  · obtain ⟨i, hi, rfl⟩ := List.mem_map.mp hx
    have := h i hi
    omega
theorem lot_of_zs {m : Nat} {l : List Nat} (h : ∀ x ∈ l, x < m) (p : (zs l).Pairwise (· < ·)) : LotOk m l := by
  have pw : l.Pairwise (· < ·) := (List.pairwise_map.mp p).imp fun {a b} q => by omega
  refine ⟨pw, h, ?_⟩
  have := sub_len l (List.range m) (pw.imp fun {a b} q => by omega) fun x hx => List.mem_range.mpr (h x hx)
  simpa using this
theorem is_lot_g {n k m : Nat} {d : PyData} (h : Wd n k d) (hn : n ≤ 1000) : F_is_lot [.d (nI m), .d d] [] = .ok (.d (.bool (lotB m d))) [] := by
  cases ht : isTup d with
  | false =>
    rw [lotB_no (fun ⟨l, _, e⟩ => by rw [e] at ht; cases ht)]
    exact F_lot_not h.pl ht
  | true =>
    obtain ⟨ds, rfl⟩ : ∃ ds, d = .tuple ds := by cases d <;> first | exact ⟨_, rfl⟩ | cases ht
    obtain ⟨hl, j, rfl, hj⟩ := h.tup_inv
    cases hb : ds.all (isBelow m) with
    | false =>
      rw [lotB_no (fun ⟨l, lo, e⟩ => by
        cases e
        have := below_all lo.lt
        rw [← nI_zs] at this
        rw [this] at hb
        cases hb)]
      exact F_lot_tup (fun d hd => (hj d hd).pl) (by omega) hb
    | true =>
      rw [List.all_eq_true] at hb
      obtain ⟨is, rfl⟩ := ints_of (ds := ds) fun d hd => by
        have := hb d hd
        cases d <;> first | rfl | cases this
      have bd : ∀ i ∈ is, 0 ≤ i ∧ i < (m : Int) := fun i hi => by
        have := hb (.int i) (List.mem_map.mpr ⟨i, hi, rfl⟩)
        simpa [isBelow] using this
      have e := F_lot_ints (n := m) (is := is) (by rw [List.length_map] at hl; omega) (by rw [List.all_eq_true]; exact hb)
      have : ascB is = lotB m (.tuple (is.map .int)) := by
        rw [Bool.eq_iff_iff, lotB_iff]
        constructor
        · intro a
          obtain ⟨l, rfl, hlm⟩ := zs_of bd
          exact ⟨l, lot_of_zs hlm (asc_conv a), by show _ = PyData.tuple (l.map nI); rw [nI_zs]⟩
        · rintro ⟨l, lo, e⟩
          have e : is.map PyData.int = l.map nI := by injection e
          rw [nI_zs] at e
          have : is = zs l := (List.map_inj_right (fun _ _ q => by injection q)).mp e
          rw [this]
          exact asc_pw (pw_zs lo.pw)
      rw [← this]
      exact e
theorem eqv_is : ∀ a b : List Int, PyData.eqvAll (a.map .int) (b.map .int) = decide (a = b)
  | [], [] => rfl
  | [], _ :: _ => rfl
  | _ :: _, [] => rfl
  | x :: a, y :: b => by
    show (PyData.eqv (.int x) (.int y) && PyData.eqvAll (a.map .int) (b.map .int)) = _
    rw [eqv_is a b]
    have : PyData.eqv (.int x) (.int y) = decide (x = y) := by
      have h1 := eq_ints (i := x) (j := y) (st := [])
      have h2 : vEq false (.d (.int x)) (.d (.int y)) [] = .ok (.d (.bool (PyData.eqv (.int x) (.int y)))) [] := by
        show chk _ _ = _
        rw [chk_ok ⟨shaped_int _, shaped_int _⟩]
        cases PyData.eqv (.int x) (.int y) <;> rfl
      rw [h2] at h1
      injection h1 with h1
      injection h1 with h1
      injection h1
    rw [this, Bool.eq_iff_iff]
    simp
end BP
namespace BZ
open PySem PySem.Spec PyProof.Rows L2 Y BL
section
variable {m : Nat} {es : List E2}
theorem srv_aug {S T : List Nat} (h1 : Srv m es S) (h2 : Srv m es T) (lS : ∀ x ∈ S, x < m) (lT : ∀ x ∈ T, x < m) (nd : T.Nodup) (lt : S.length < T.length) : ∃ x ∈ T, x ∉ S ∧ Srv m es (x :: S) := by
  obtain ⟨M, a1, a2⟩ := h1
  obtain ⟨N, b1, b2⟩ := h2
  obtain ⟨x, x1, x2, M', c1, c2, c3⟩ := BM.augment (adj := Adj es) (fun u v q => q.symm) (List.nodup_range (n := m)) _ M N S T a1 b1 (Nat.lt_succ_self _) a2 (fun x hx => ⟨List.mem_range.mpr (lT x hx), b2 x hx⟩) nd lt
  refine ⟨x, x1, x2, M', c1, fun y hy => ?_⟩
  rcases List.mem_cons.mp hy with rfl | hy
  · exact c2
  · exact c3 y hy (List.mem_range.mpr (lS y hy))
theorem kept_sub : ∀ σ : List Nat, (kept m es σ).Sublist σ := by
  refine snoc_ind (List.nil_sublist _) fun σ p ih => ?_
  rw [kept_snoc]
  unfold keepF
  split
  · exact ih.append (List.Sublist.refl _)
  · exact ih.trans (List.sublist_append_left _ _)
theorem srv_iff {S T : List Nat} (h : ∀ x, x ∈ S ↔ x ∈ T) : Srv m es S ↔ Srv m es T := ⟨fun q => q.sub fun x hx => (h x).mpr hx, fun q => q.sub fun x hx => (h x).mp hx⟩
theorem srv_snoc {S : List Nat} {p : Nat} : Srv m es (S ++ [p]) ↔ Srv m es (p :: S) := srv_iff fun x => by simp [or_comm]
/-- Y is X with p for b -/
structure Swp (X Y : List Nat) (p b : Nat) : Prop where
  bX : b ∈ X
  pX : p ∉ X
  mem : ∀ x, x ∈ Y ↔ (x ∈ X ∧ x ≠ b) ∨ x = p
theorem Swp.len {X Y : List Nat} {p b : Nat} (h : Swp X Y p b) (nX : X.Nodup) (nY : Y.Nodup) : Y.length = X.length := by
  have le := List.length_erase_of_mem h.bX
  have lp : 0 < X.length := List.length_pos_of_mem h.bX
  have nn : (p :: X.erase b).Nodup := List.nodup_cons.mpr ⟨fun z => h.pX (List.mem_of_mem_erase z), nX.erase b⟩
  have a := BL.sub_len Y (p :: X.erase b) nY fun x hx => by
    rcases (h.mem x).mp hx with ⟨q1, q2⟩ | q
    · exact List.mem_cons_of_mem _ ((List.Nodup.mem_erase_iff nX).mpr ⟨q2, q1⟩)
    · rw [q]; exact List.mem_cons_self
  have b := BL.sub_len (p :: X.erase b) Y nn fun x hx => (h.mem x).mpr (by
    rcases List.mem_cons.mp hx with q | q
    · exact .inr q
    · obtain ⟨q1, q2⟩ := (List.Nodup.mem_erase_iff nX).mp q
      exact .inl ⟨q2, q1⟩)
  rw [List.length_cons, le] at a b
  omega
theorem Swp.iff {X Y : List Nat} {p b z : Nat} (h : Swp X Y p b) (nX : X.Nodup) (nY : Y.Nodup) (lX : ∀ x ∈ X, x < m) (pm : p < m) (zm : z < m) (hX : Srv m es X) (hY : Srv m es Y) (no : ¬ Srv m es (p :: X)) (zX : z ∉ X) (zp : z ≠ p) : Srv m es (z :: X) ↔ Srv m es (z :: Y) := by
  have e := h.len nX nY
  have lY : ∀ x ∈ Y, x < m := fun x hx => ((h.mem x).mp hx).elim (fun q => lX x q.1) fun q => q ▸ pm
  have zY : z ∉ Y := fun q => ((h.mem z).mp q).elim (fun q => zX q.1) zp
  constructor
  · intro q
    obtain ⟨x, x1, x2, x3⟩ := srv_aug hY q lY (fun x hx => by
      rcases List.mem_cons.mp hx with rfl | hx
      · exact zm
      · exact lX x hx) (List.nodup_cons.mpr ⟨zX, nX⟩) (by rw [List.length_cons]; omega)
    rcases List.mem_cons.mp x1 with rfl | x1
    · exact x3
    · have xb : x = b := Classical.byContradiction fun y => x2 ((h.mem x).mpr (.inl ⟨x1, y⟩))
      subst xb
      refine absurd (x3.sub fun y hy => ?_) no
      rcases List.mem_cons.mp hy with rfl | hy
      · exact List.mem_cons_of_mem _ ((h.mem _).mpr (.inr rfl))
      · by_cases yb : y = x
        · rw [yb]; exact List.mem_cons_self
        · exact List.mem_cons_of_mem _ ((h.mem y).mpr (.inl ⟨hy, yb⟩))
  · intro q
    obtain ⟨x, x1, x2, x3⟩ := srv_aug hX q lX (fun x hx => by
      rcases List.mem_cons.mp hx with rfl | hx
      · exact zm
      · exact lY x hx) (List.nodup_cons.mpr ⟨zY, nY⟩) (by rw [List.length_cons]; omega)
    rcases List.mem_cons.mp x1 with rfl | x1
    · exact x3
    · rcases (h.mem x).mp x1 with y | y
      · exact absurd y.1 x2
      · rw [y] at x3; exact absurd x3 no
/-- what a move ahead has brought so far: nothing, him beside all, or him for somebody -/
inductive Mv (m : Nat) (es : List E2) (p : Nat) (pre pre' : List Nat) : Prop
  | same : (∀ x, x ∈ kept m es pre' ↔ x ∈ kept m es pre) → Mv m es p pre pre'
  | more : p ∉ pre → (∀ x, x ∈ kept m es pre' ↔ x ∈ kept m es pre ∨ x = p) → Mv m es p pre pre'
  | swap : (b : Nat) → (u v : List Nat) → pre = u ++ b :: v → Swp (kept m es pre) (kept m es pre') p b → ¬ Srv m es (p :: kept m es (u ++ [b])) → Mv m es p pre pre'
theorem kept_sets {X Y : List Nat} (h : ∀ x, x ∈ Y ↔ x ∈ X) (z : Nat) : ∀ x, x ∈ keepF m es Y z ↔ x ∈ keepF m es X z := by
  have e : Srv m es (Y ++ [z]) ↔ Srv m es (X ++ [z]) := srv_iff fun x => by simp [h]
  intro x
  by_cases c : Srv m es (X ++ [z])
  · rw [keepF_y c, keepF_y (e.mpr c)]; simp [h]
  · rw [keepF_n c, keepF_n fun q => c (e.mp q)]; exact h x
theorem Mv.step {p z : Nat} {pre pre' : List Nat} (h : Mv m es p pre pre') (zp : z ≠ p) (zn : z ∉ pre) (nd : pre.Nodup) (nd' : pre'.Nodup) (lt : ∀ x ∈ pre, x < m) (zm : z < m) (pm : p < m) : Mv m es p (pre ++ [z]) (pre' ++ [z]) := by
  have zk : z ∉ kept m es pre := fun q => zn (kept_mem pre z q)
  have nX : (kept m es pre).Nodup := (kept_sub pre).nodup nd
  have nY : (kept m es pre').Nodup := (kept_sub pre').nodup nd'
  have lX : ∀ x ∈ kept m es pre, x < m := fun x hx => lt x (kept_mem pre x hx)
  have sX := kept_srv (m := m) (es := es) srv_nil pre
  have sY := kept_srv (m := m) (es := es) srv_nil pre'
  cases h with
  | same e =>
    refine .same fun x => ?_
    rw [kept_snoc, kept_snoc]
    exact kept_sets e z x
  | more pn e =>
    have up : Srv m es (kept m es pre' ++ [z]) → Srv m es (kept m es pre ++ [z]) := fun q => q.sub fun x hx => by
      rcases List.mem_append.mp hx with y | y
      · exact List.mem_append_left _ ((e x).mpr (.inl y))
      · exact List.mem_append_right _ y
    have pn' : p ∉ pre ++ [z] := fun q => (List.mem_append.mp q).elim pn fun q => zp (List.mem_singleton.mp q).symm
    by_cases c' : Srv m es (kept m es pre' ++ [z])
    · refine .more pn' fun x => ?_
      rw [kept_snoc, kept_snoc, keepF_y c', keepF_y (up c'), List.mem_append, List.mem_append, e]
      constructor
      · rintro ((q | q) | q)
        · exact .inl (.inl q)
        · exact .inr q
        · exact .inl (.inr q)
      · rintro ((q | q) | q)
        · exact .inl (.inl q)
        · exact .inr q
        · exact .inl (.inr q)
    · by_cases c : Srv m es (kept m es pre ++ [z])
      · refine .swap z pre [] rfl ⟨?_, ?_, fun x => ?_⟩ fun q => c' ?_
        · rw [kept_snoc, keepF_y c]; simp
        · intro q
          exact pn' (kept_mem _ p q)
        · rw [kept_snoc, kept_snoc, keepF_n c', keepF_y c, e, List.mem_append, List.mem_singleton]
          constructor
          · rintro (q | q)
            · exact .inl ⟨.inl q, fun y => zk (by rw [← y]; exact q)⟩
            · exact .inr q
          · rintro (⟨q | q, y⟩ | q)
            · exact .inl q
            · exact absurd q y
            · exact .inr q
        · rw [kept_snoc, keepF_y c] at q
          refine q.sub fun x hx => ?_
          rcases List.mem_append.mp hx with y | y
          · rcases (e x).mp y with w | w
            · exact List.mem_cons_of_mem _ (List.mem_append_left _ w)
            · rw [w]; exact List.mem_cons_self
          · exact List.mem_cons_of_mem _ (List.mem_append_right _ y)
      · refine .more pn' fun x => ?_
        rw [kept_snoc, kept_snoc, keepF_n c', keepF_n c]
        exact e x
  | swap b u v ep sw no =>
    have no2 : ¬ Srv m es (p :: kept m es pre) := fun q => no (q.sub fun x hx => by
      rcases List.mem_cons.mp hx with y | y
      · rw [y]; exact List.mem_cons_self
      · refine List.mem_cons_of_mem _ ?_
        rw [ep, show u ++ b :: v = u ++ [b] ++ v by simp]
        exact kept_mono v x y)
    have e := sw.iff nX nY lX pm zm sX sY no2 zk zp
    refine .swap b u (v ++ [z]) (by rw [ep]; simp) ?_ no
    by_cases c : Srv m es (kept m es pre ++ [z])
    · have c' : Srv m es (kept m es pre' ++ [z]) := srv_snoc.mpr (e.mp (srv_snoc.mp c))
      rw [kept_snoc, kept_snoc, keepF_y c, keepF_y c']
      refine ⟨List.mem_append_left _ sw.bX, fun q => ?_, fun x => ?_⟩
      · rcases List.mem_append.mp q with q | q
        · exact sw.pX q
        · exact zp (List.mem_singleton.mp q).symm
      · rw [List.mem_append, List.mem_append, List.mem_singleton, sw.mem]
        constructor
        · rintro ((⟨q1, q2⟩ | q) | q)
          · exact .inl ⟨.inl q1, q2⟩
          · exact .inr q
          · exact .inl ⟨.inr q, fun y => zk (by rw [← q, y]; exact sw.bX)⟩
        · rintro (⟨q1 | q1, q2⟩ | q)
          · exact .inl (.inl ⟨q1, q2⟩)
          · exact .inr q1
          · exact .inl (.inr q)
    · have c' : ¬ Srv m es (kept m es pre' ++ [z]) := fun q => c (srv_snoc.mpr (e.mpr (srv_snoc.mp q)))
      rw [kept_snoc, kept_snoc, keepF_n c, keepF_n c']
      exact sw
end
end BZ
namespace BP
open PySem PySem.Spec PyProof.Rows L2 Y BL
section
variable {m n k : Nat} {es : List E2} (hw : WebN m es)
include hw
noncomputable abbrev F_plan_of : Fn := BL.F_plan_of
end
end BP
namespace Y
open PySem PySem.Spec PyProof.Rows L2
end Y
namespace BP
open PySem PySem.Spec PyProof.Rows L2 Y BL
/-- as many in place of one -/
def put (b : List Nat) (v i : Nat) : List Nat := i :: b.filter fun x => !decide (x = v)
theorem put_len {b : List Nat} {v i : Nat} (h : b.Nodup) (vb : v ∈ b) : (put b v i).length = b.length := by
  have e : b.filter (fun x => !decide (x = v)) = b.erase v := by
    rw [h.erase_eq_filter]
    exact List.filter_congr fun x _ => by
      by_cases q : x = v <;> simp [q]
  unfold put
  rw [List.length_cons, e, List.length_erase_of_mem vb]
  have := List.length_pos_of_mem vb
  omega
section
variable {m n k : Nat} {es : List E2} (hw : WebN m es)
include hw
theorem svd_len {p : List E2} (h : PlanOk m es p) : (svd m p).length = 2 * p.length := by rw [h.perm.length_eq, pv_len]
noncomputable abbrev F_largest_plan : Fn := BL.F_largest_plan
noncomputable abbrev F_is_below : Fn := BL.F_is_below
end
end BP
namespace BP
open PySem PySem.Spec PyProof.Rows L2 Y BL
end BP
namespace BR
open PySem PySem.Spec PyProof.Rows L2 Y BL
local macro_rules
  | `(tactic| trivial) => `(tactic| first
    | with_reducible assumption
    | ((with_reducible apply dVar_ok); rfl)
    | with_reducible exact dLit_ok
    | with_reducible exact dNil_ok
    | ((with_reducible apply dCons_ok) <;> trivial)
    | ((with_reducible apply asB_ok); trivial)
    | ((with_reducible apply dBin_ok) <;> trivial)
    | ((with_reducible apply dCall_ok) <;> trivial)
    | ((with_reducible apply dCalP_ok); trivial; rfl; rfl; (with_reducible assumption))
    | ((with_reducible apply dCal_ok); trivial; rfl; (with_reducible assumption))
    | ((with_reducible apply and_ok) <;> trivial)
    | ((with_reducible apply or_ok) <;> trivial)
    | ((with_reducible apply dNot_ok); trivial)
    | ((with_reducible apply dSet_ok); trivial)
    | ((with_reducible apply dRet_ok); trivial)
    | with_reducible exact vIn_nat
    | with_reducible exact vNotIn_nat
    | with_reducible exact vIn_natL
    | with_reducible exact vNotIn_natL
    | with_reducible exact vIn_pair
    | with_reducible exact gLen_tmap
    | with_reducible exact gLen_map
    | with_reducible exact tupleOf_list
    | with_reducible exact vEq_nat
    | with_reducible exact vEq_int
    | with_reducible exact vNe_int
    | exact rfl)
abbrev FR := Nat × Option Nat
def fD (f : FR) : PyData := .tuple [nI f.1, oD f.2]
structure Rg where
  fits : List (List Nat)
  people : List Nat
  friends : List FR
  barred : List E2
def ltE (a b : E2) : Prop := a.1 < b.1 ∨ (a.1 = b.1 ∧ a.2 < b.2)
structure RgOk (r : Rg) : Prop where
  f1 : 1 ≤ r.fits.length
  f4 : r.fits.length ≤ 4
  fp : ∀ row ∈ r.fits, row.Pairwise (· < ·)
  fl : ∀ row ∈ r.fits, ∀ k ∈ row, k < r.fits.length
  p7 : r.people.length ≤ 7
  pl : ∀ k ∈ r.people, k < r.fits.length
  r9 : r.friends.length ≤ 9
  rl : ∀ f ∈ r.friends, f.1 < r.fits.length
  ro : ∀ f ∈ r.friends, ∀ p, f.2 = some p → p < r.people.length
  bp : r.barred.Pairwise ltE
  bl : ∀ e ∈ r.barred, e.1 < r.friends.length ∧ e.2 < r.people.length
end BR
namespace BR
open PySem PySem.Spec PyProof.Rows L2 Y BL
local macro_rules
  | `(tactic| trivial) => `(tactic| first
    | with_reducible assumption
    | ((with_reducible apply dVar_ok); rfl)
    | with_reducible exact dLit_ok
    | with_reducible exact dNil_ok
    | ((with_reducible apply dCons_ok) <;> trivial)
    | ((with_reducible apply asB_ok); trivial)
    | ((with_reducible apply dBin_ok) <;> trivial)
    | ((with_reducible apply dCall_ok) <;> trivial)
    | ((with_reducible apply dCalP_ok); trivial; rfl; rfl; (with_reducible assumption))
    | ((with_reducible apply dCal_ok); trivial; rfl; (with_reducible assumption))
    | ((with_reducible apply and_ok) <;> trivial)
    | ((with_reducible apply or_ok) <;> trivial)
    | ((with_reducible apply dNot_ok); trivial)
    | ((with_reducible apply dSet_ok); trivial)
    | ((with_reducible apply dRet_ok); trivial)
    | with_reducible exact vIn_nat
    | with_reducible exact vNotIn_nat
    | with_reducible exact vIn_natL
    | with_reducible exact vNotIn_natL
    | with_reducible exact vIn_pair
    | with_reducible exact gLen_tmap
    | with_reducible exact gLen_map
    | with_reducible exact tupleOf_list
    | with_reducible exact vEq_nat
    | with_reducible exact vEq_int
    | with_reducible exact vNe_int
    | exact rfl)
theorem dealOk_set {n c b : Nat} {s : Sto} {o : SO} (h : DealOk s n c) (h1 : n ≠ b) (h2 : c ≠ b) : DealOk (s.set b o) n c := by
  obtain ⟨cs, x, g1, g2, r⟩ := h
  exact ⟨cs, x, by rw [List.getElem?_set_ne (Ne.symm h1)]; exact g1, by rw [List.getElem?_set_ne (Ne.symm h2)]; exact g2, r⟩
structure FrAt (n c b κ p : Nat) (s : Sto) (fs : List FR) : Prop where
  ok : DealOk s n c
  nb : n ≠ b
  cb : c ≠ b
  at_ : s[b]? = some (.lst (fs.map fun f => W.d (fD f)))
  k : ∀ f ∈ fs, f.1 < κ
  o : ∀ f ∈ fs, ∀ x, f.2 = some x → x < p
theorem FrAt.lt {n c b κ p : Nat} {s : Sto} {fs : List FR} (h : FrAt n c b κ p s fs) : b < s.length := (List.getElem?_eq_some_iff.mp h.at_).1
theorem FrAt.add {n c b κ p : Nat} {s : Sto} {fs : List FR} {f : FR} (h : FrAt n c b κ p s fs) (hl : fs.length ≤ 1000) (h1 : f.1 < κ) (h2 : ∀ x, f.2 = some x → x < p) : ∃ s', mAppend (.ref b) [.d (fD f)] s = .ok (.d .none) s' ∧ FrAt n c b κ p s' (fs ++ [f]) := by
  refine ⟨_, append_ok h.at_ (by simp; omega), dealOk_set h.ok h.nb h.cb, h.nb, h.cb, ?_, fun g hg => ?_, fun g hg => ?_⟩
  · rw [List.getElem?_set_self h.lt]; simp
  · rcases List.mem_append.mp hg with z | z
    · exact h.k g z
    · rw [List.mem_singleton.mp z]; exact h1
  · rcases List.mem_append.mp hg with z | z
    · exact h.o g z
    · rw [List.mem_singleton.mp z]; exact h2
section
variable {n c : Nat}
structure BarOk (k p : Nat) (bs : List E2) : Prop where
  pw : bs.Pairwise ltE
  lt : ∀ e ∈ bs, e.1 < k ∧ e.2 < p
theorem BarOk.more {k p : Nat} {bs : List E2} (h : BarOk k p bs) {sub : List Nat} (hs : sub.Sublist (List.range p)) : BarOk (k + 1) p (bs ++ sub.map fun x => (k, x)) := by
  refine ⟨List.pairwise_append.mpr ⟨h.pw, ?_, fun a ha b hb => ?_⟩, fun e he => ?_⟩
  · rw [List.pairwise_map]
    exact (List.pairwise_lt_range.sublist hs).imp fun {a b} q => .inr ⟨rfl, q⟩
  · obtain ⟨x, _, rfl⟩ := List.mem_map.mp hb
    exact .inl (h.lt a ha).1
  · rcases List.mem_append.mp he with z | z
    · exact ⟨Nat.lt_succ_of_lt (h.lt e z).1, (h.lt e z).2⟩
    · obtain ⟨x, hx, rfl⟩ := List.mem_map.mp z
      exact ⟨Nat.lt_succ_self _, List.mem_range.mp (hs.subset hx)⟩
end
end BR
namespace BR
open PySem PySem.Spec PyProof.Rows L2 Y BL BZ
local macro_rules
  | `(tactic| trivial) => `(tactic| first
    | with_reducible assumption
    | ((with_reducible apply dVar_ok); rfl)
    | with_reducible exact dLit_ok
    | with_reducible exact dNil_ok
    | ((with_reducible apply dCons_ok) <;> trivial)
    | ((with_reducible apply asB_ok); trivial)
    | ((with_reducible apply dBin_ok) <;> trivial)
    | ((with_reducible apply dCall_ok) <;> trivial)
    | ((with_reducible apply dCalP_ok); trivial; rfl; rfl; (with_reducible assumption))
    | ((with_reducible apply dCal_ok); trivial; rfl; (with_reducible assumption))
    | ((with_reducible apply and_ok) <;> trivial)
    | ((with_reducible apply or_ok) <;> trivial)
    | ((with_reducible apply dNot_ok); trivial)
    | ((with_reducible apply dSet_ok); trivial)
    | ((with_reducible apply dRet_ok); trivial)
    | with_reducible exact vIn_nat
    | with_reducible exact vNotIn_nat
    | with_reducible exact vIn_natL
    | with_reducible exact vNotIn_natL
    | with_reducible exact vIn_pair
    | with_reducible exact gLen_tmap
    | with_reducible exact gLen_map
    | with_reducible exact tupleOf_list
    | with_reducible exact vEq_nat
    | with_reducible exact vEq_int
    | with_reducible exact vNe_int
    | exact rfl)
abbrev nofr : FR := (0, none)
def kindOf (r : Rg) (f : Nat) : Nat := (r.friends.getD f nofr).1
theorem RgOk.kind {r : Rg} (h : RgOk r) {f : Nat} (hf : f < r.friends.length) : kindOf r f < r.fits.length := by
  unfold kindOf
  refine h.rl _ ?_
  rw [List.getD_eq_getElem?_getD, List.getElem?_eq_getElem hf]
  exact List.getElem_mem hf
end BR
namespace BR
open PySem PySem.Spec PyProof.Rows L2 Y BL BZ
local macro_rules
  | `(tactic| trivial) => `(tactic| first
    | with_reducible assumption
    | ((with_reducible apply dVar_ok); rfl)
    | with_reducible exact dLit_ok
    | with_reducible exact dNil_ok
    | ((with_reducible apply dCons_ok) <;> trivial)
    | ((with_reducible apply asB_ok); trivial)
    | ((with_reducible apply dBin_ok) <;> trivial)
    | ((with_reducible apply dCall_ok) <;> trivial)
    | ((with_reducible apply dCalP_ok); trivial; rfl; rfl; (with_reducible assumption))
    | ((with_reducible apply dCal_ok); trivial; rfl; (with_reducible assumption))
    | ((with_reducible apply and_ok) <;> trivial)
    | ((with_reducible apply or_ok) <;> trivial)
    | ((with_reducible apply dNot_ok); trivial)
    | ((with_reducible apply dSet_ok); trivial)
    | ((with_reducible apply dRet_ok); trivial)
    | with_reducible exact vIn_nat
    | with_reducible exact vNotIn_nat
    | with_reducible exact vIn_natL
    | with_reducible exact vNotIn_natL
    | with_reducible exact vIn_pair
    | with_reducible exact gLen_tmap
    | with_reducible exact gLen_map
    | with_reducible exact tupleOf_list
    | with_reducible exact vEq_nat
    | with_reducible exact vEq_int
    | with_reducible exact vNe_int
    | exact rfl)
noncomputable def B_is_tuple_of : DS :=
  (dRet (dAndV (dIsi ["tuple"] (dVar 1)) (dBin (vEq false) (dCall gLen (dCons (dVar 1) dNil)) (dVar 0))))
noncomputable def F_is_tuple_of : Fn := dDef 2 B_is_tuple_of
theorem tuple_of_ok {k : Nat} {ds : List PyData} : F_is_tuple_of [nW k, .d (.tuple ds)] [] = .ok (.d (.bool (decide (ds.length = k)))) [] := by
  refine dDef_rt (dRet_ok (dAndV_t (isi_tup (d := .tuple ds) trivial rfl) (dBin_ok (dCall_ok (dCons1_ok (dVar_ok rfl)) gLen_tup) (dVar_ok rfl) (vEq_nat (i := ds.length) (j := k)))))
theorem tuple_of_not {k : Nat} {d : PyData} (h : Pl d) (ht : isTup d = false) : F_is_tuple_of [nW k, .d d] [] = .ok (.d (.bool false)) [] := by
  have e := isi_tup (ρ := [some (nW k), some (.d d)]) (s := []) (i := 1) h rfl
  rw [ht] at e
  exact dDef_rt (dRet_ok (dAndV_f e))
theorem all_map {α : Type} {p : α → Bool} (l : List α) {st : Sto} : gAll [.d (.list (l.map fun a => PyData.bool (p a)))] st = .ok (.d (.bool (l.all p))) st := by
  have e : l.map (fun a => PyData.bool (p a)) = (l.map p).map .bool := by rw [List.map_map]; rfl
  rw [e, gAll_ok, List.all_map]
  rfl
end BR
namespace BP
open PySem PySem.Spec PyProof.Rows L2 Y BL
structure WebW (m : Nat) (es : List E2) : Prop where
  h1 : 1 ≤ m
  hm : m ≤ 40
  len : es.length ≤ 120
  lt : ∀ e ∈ es, e.1 < e.2 ∧ e.2 < m
  nd : es.Nodup
  pw : es.Pairwise (fun a b => a.1 < b.1 ∨ (a.1 = b.1 ∧ a.2 < b.2))
def belowE (m : Nat) : List E2 := (List.range m).flatMap fun b => (List.range b).map fun a => (a, b)
theorem mem_belowE {m : Nat} {e : E2} : e ∈ belowE m ↔ e.1 < e.2 ∧ e.2 < m := by
  obtain ⟨a, b⟩ := e
  unfold belowE
  simp only [List.mem_flatMap, List.mem_map, List.mem_range, Prod.mk.injEq]
  constructor
  · rintro ⟨b', h1, a', h2, rfl, rfl⟩
    exact ⟨h2, h1⟩
  · rintro ⟨h1, h2⟩
    exact ⟨b, h2, a, h1, rfl, rfl⟩
theorem WebW.small {m : Nat} {es : List E2} (h : WebW m es) (h8 : m ≤ 8) : WebN m es := by
  refine ⟨h.h1, by omega, ?_, h.lt, h.nd, h.pw⟩
  have l1 := sub_len es (belowE 8) h.nd fun e he => mem_belowE.mpr ⟨(h.lt e he).1, by have := (h.lt e he).2; omega⟩
  have l2 : (belowE 8).length = 28 := by decide +kernel
  omega
end BP
set_option maxHeartbeats 2000000
namespace Y
open PySem PySem.Spec PyProof.Rows L2
section
variable {prog : Program} {w : World} {A : Around} {R : Result → Shared → Prop} {s : Shared} {el tA itA tB itB : Expr} {ifA ifB : List Expr} {scope : Scope} {pos : Pos} {it acc : Value} {env : Env}
/-- an error noted on its way out -/
abbrev nz (prog : Program) (w : World) (A : Around) (env : Env) (R : Result → Shared → Prop) : Value → Shared → Prop := notedBy (model prog w) A env fun e s' => R (.error e) s'
end
end Y
namespace Y
open PySem PySem.Spec PyProof.Rows L2
end Y
namespace BP
open PySem PySem.Spec PyProof.Rows L2 Y BL
/-- what a web is, wide or not -/
structure Wb (m : Nat) (es : List E2) : Prop where
  hm : m ≤ 40
  len : es.length ≤ 120
  lt : ∀ e ∈ es, e.1 < e.2 ∧ e.2 < m
  pw : es.Pairwise (fun a b => a.1 < b.1 ∨ (a.1 = b.1 ∧ a.2 < b.2))
theorem below_inv {m : Nat} {d : PyData} (h : isBelow m d = true) : ∃ i : Nat, d = nI i ∧ i < m := by
  unfold isBelow at h
  split at h
  · rename_i i
    simp only [Bool.and_eq_true, decide_eq_true_eq] at h
    refine ⟨i.toNat, ?_, by omega⟩
    have u1 : ((i.toNat : Nat) : Int) = i := by omega
    show PyData.int i = .int (i.toNat : Nat)
    rw [u1]
  · cases h
end BP
namespace BP
open PySem PySem.Spec PyProof.Rows L2 Y BL
abbrev bd2 (x : PyData × PyData) : PyData := .tuple [x.1, x.2]
end BP
namespace BP
open PySem PySem.Spec PyProof.Rows L2 Y BL
section
variable {m : Nat} {es : List E2} (hes : ∀ e ∈ es, e.1 < e.2 ∧ e.2 < m)
include hes
/-- no plan and no lot are nearer than this -/
theorem weak_plan {p : List E2} {l : List Nat} (h : PlanOk m es p) (lo : LotOk m l) (hl : es.length ≤ 1000) (hm : m ≤ 400) : (oddPs m es l).length + 2 * p.length ≤ m + l.length := by
  obtain ⟨_, μ, _, ma, best⟩ := largest_plan_ok hes hl hm
  have := spare_le hes (M := BM.mF μ) ⟨ma.mt hes, best⟩ (BZ.lot_allL lo)
  have b := best _ (h.ma.mt hes)
  have c := h.miss hes
  omega
end
/-- a plan and a lot that are as near as can be -/
def Tight (m : Nat) (es p : List E2) (l : List Nat) : Prop := PlanOk m es p ∧ LotOk m l ∧ (oddPs m es l).length + 2 * p.length = m + l.length
theorem Tight.most {m : Nat} {es p q : List E2} {l : List Nat} (hw : Wb m es) (t : Tight m es p l) (h : PlanOk m es q) : q.length ≤ p.length := by
  have := weak_plan hw.lt h t.2.1 (by have := hw.len; omega) (by have := hw.hm; omega)
  have := t.2.2
  omega
noncomputable abbrev F_is_tuple_of : Fn := BR.F_is_tuple_of
end BP
namespace BP
open PySem PySem.Spec PyProof.Rows L2 Y BL
end BP
namespace BP
open PySem PySem.Spec PyProof.Rows L2 Y BL
end BP
namespace Y
open PySem PySem.Spec PyProof.Rows L2
end Y
namespace Y
open PySem PySem.Spec PyProof.Rows L2
end Y
namespace Y
open PySem PySem.Spec PyProof.Rows L2
end Y
namespace Y
open PySem PySem.Spec PyProof.Rows L2
open He (dicW dicW_ok keysIn keysLit_of)
end Y
namespace Y
open PySem PySem.Spec PyProof.Rows L2
end Y
namespace Y
open PySem PySem.Spec PyProof.Rows L2
end Y
namespace Y
open PySem PySem.Spec PyProof.Rows L2
end Y
namespace Y
open PySem PySem.Spec PyProof.Rows L2
end Y
namespace Y
open PySem PySem.Spec PyProof.Rows L2
end Y
namespace Y
open PySem PySem.Spec PyProof.Rows L2
end Y
namespace Y
open PySem PySem.Spec PyProof.Rows L2
noncomputable def srtA (ds : List PyData) : List PyData := ds.mergeSort (PySem.W.dataLe false fun d => d)
section
variable {X : Cx} {C : Ct}
theorem each_of {K : PySem.W.Frag} {Z : Addr → Prop} {H : Hp} : ∀ {vs : List V} {its : List Value} {ds : List PyData}, Vals vs its → PdAll K Z H vs ds → PySem.W.EachIs (fun v d => ∃ x, RelV x v ∧ Pd K Z H x d) its ds
  | _, _, _, .nil, .nil => .nil
  | _, _, _, .cons a b, .cons c d => .cons ⟨_, a, c⟩ (each_of b d)
theorem of_each {K : PySem.W.Frag} {Z : Addr → Prop} {H : Hp} : ∀ {its : List Value} {ds : List PyData}, PySem.W.EachIs (fun v d => ∃ x, RelV x v ∧ Pd K Z H x d) its ds → ∃ vs, Vals vs its ∧ PdAll K Z H vs ds
  | _, _, .nil => ⟨[], .nil, .nil⟩
  | _, _, .cons ⟨x, a, c⟩ t => by
    obtain ⟨vs, b, d⟩ := of_each t
    exact ⟨x :: vs, .cons a b, .cons c d⟩
end
end Y
namespace Y
open PySem PySem.Spec PyProof.Rows L2
def dLIdx (fo fi : En → Sto → R W) : En → Sto → R W := fun ρ st => (fo ρ st).bind fun o s => match asD s o with
  | some (.list _) => match o with
      | .scr _ => .bad
      | _ => (fi ρ s).bind fun i s2 => match i with
        | .d d => match asD s2 o with
          | some (.list ds2) => chk (SeqAt.shaped (.list ds2) = true ∧ SeqAt.shaped d = true ∧ (ds2.any fun z => PyData.eqv z d) = true) (.ok (.d (.int (ds2.findIdx (fun z => PyData.eqv z d) : Nat))) s2)
          | _ => .bad
        | _ => .bad
  | _ => .bad
theorem dLIdx_ok {fo fi : En → Sto → R W} {ρ : En} {st s1 s2 : Sto} {ds : List PyData} {d : PyData} (h1 : fo ρ st = .ok (.d (.list ds)) s1) (h2 : fi ρ s1 = .ok (.d d) s2) (h3 : SeqAt.shaped (.list ds) = true) (h4 : SeqAt.shaped d = true) (h5 : (ds.any fun z => PyData.eqv z d) = true) : dLIdx fo fi ρ st = .ok (.d (.int (ds.findIdx (fun z => PyData.eqv z d) : Nat))) s2 := by
  unfold dLIdx
  rw [h1, R.bind_ok]
  show (fi ρ s1).bind _ = _
  rw [h2, R.bind_ok]
  exact chk_ok ⟨h3, h4, h5⟩
section
variable {X : Cx} {C : Ct} {o e : Expr} {apos cpos : Pos} {fo fi : En → Sto → R W}
theorem y_lidx (hK : C.K = X.K) (hu : X.A.units + 65 < cLine) (ho : PE X o (rdE C fo)) (hi : PE X e (rdE C fi))
    (hst : starEach [e] X.env = (false, eval e X.env) :: starEach [] X.env := by rfl)
    (hbase : attributeBase o "index" X.env (eval o X.env) = eval o X.env := by rfl)
    (hfew : ((backTo cpos (starEach [e] X.env)).all (fun x => !x.1) && (backToKw cpos (keywordEach [] X.env)).all (fun x => x.1.isSome)
      && decide (([e] : List Expr).length + ([] : List Keyword).length + (if ([] : List Keyword).isEmpty then 0 else 1) < 30)) = true := by rfl)
    (hline : (apos.endLine == cpos.line) = true := by rfl) (hplain : (backTo cpos (starEach [] X.env)).any (·.1) = false := by rfl) :
    PE X (.Call (.Attribute o "index" apos) [e] [] cpos) (rdE C (dLIdx fo fi)) := by
  obtain ⟨K, mg, E⟩ := C
  obtain rfl : K = X.K := hK
  refine PE.imp (pe_bm PySem.F.plainAttrs_list PySem.F.slot_list_index PySem.F.type_list_index (mt_indexD hu) ho (pa_cons hi pa_nil hst) hbase hfew hline hst hplain) fun σ H Q q => ?_
  obtain ⟨Z0, θ, ρ, st, S, N, p⟩ := q
  refine ⟨Z0, θ, ρ, st, S, N, Post.bind p fun w st1 θ1 H1 v _ e1 S1 w1 p1 => ?_⟩
  split at p1
  · rename_i ds hd
    split at p1
    · exact p1.elim
    · rename_i hns
      obtain ⟨a, vs, rfl, hs, _⟩ := asD_list S1 w1 hd
      refine ⟨.inl ⟨rfl, vs, hs⟩, Z0, θ1, ρ, st1, S1, N.ext e1, Post.bind p1 fun k st2 θ2 H2 u _ e2 S2 w2 p2 => ?_⟩
      split at p2
      · rename_i d _
        split at p2
        · rename_i ds2 hd2
          obtain ⟨a', vs', h0, hs', r'⟩ := asD_list S2 (w1.ext e2) hd2
          cases h0
          obtain ⟨⟨c1, c2, c3⟩, p2⟩ := p2.chk
          obtain ⟨z0, z1, z2⟩ := List.any_eq_true.mp c3
          have lt : ds2.findIdx (fun z => PyData.eqv z d) < ds2.length := List.findIdx_lt_length_of_exists ⟨z0, z1, z2⟩
          exact ⟨a, u, d, ds2, _, _, rfl, rfl, .lst hs' r'.dp, w2.dp, c1, c2, List.getElem?_eq_getElem lt, List.findIdx_getElem (w := lt), fun m z' hm hz => by
            obtain ⟨h1, h2⟩ := List.getElem?_eq_some_iff.mp hz
            have := List.not_of_lt_findIdx hm
            rw [h2] at this
            exact this, p2.now S2 (show Pd _ _ _ _ _ from .int _)⟩
        · exact p2.elim
      · exact p2.elim
  · exact p1.elim
end
end Y
namespace Y
open PySem PySem.Spec PyProof.Rows L2
end Y
namespace Y
open PySem PySem.Spec PyProof.Rows L2
end Y
namespace Y
open PySem PySem.Spec PyProof.Rows L2
end Y
namespace Y
open PySem PySem.Spec PyProof.Rows L2
@[simp] def gAny : List W → Sto → R W
  | [w], st => match asD st w with
    | some (.list ds) => match asBools ds with
      | some ns => .ok (.d (.bool (ns.any id))) st
      | none => .bad
    | _ => .bad
  | _, _ => .bad
section
variable {X : Cx} {C : Ct}
theorem cAnyB (hK : C.K = X.K) (hc : X.calm = true) : CallR X (.builtin "any") (rdC C gAny) := by
  obtain ⟨K, mg, E⟩ := C
  obtain rfl : K = X.K := hK
  intro pins s σ H xs us Q I r h
  obtain ⟨Z0, θ, st, ws, S, rw', p⟩ := h
  unfold gAny at p
  split at p
  · cases rw' with
    | cons a b =>
      cases b
      split at p
      · rename_i ds hd
        split at p
        · rename_i ns hn
          have := asBools_eq hn
          subst this
          obtain ⟨p', vs, rfl, hs, r'⟩ := asD_list S a hd
          have := r'.blsEq
          subst this
          exact cr_any hc pins s σ H _ us Q I r ⟨_, ns, rfl, hs, p.now S (show Pd _ _ _ _ _ from .bl _)⟩
        · exact p.elim
      · exact p.elim
  · exact p.elim
end
section
variable {prog : Program} {w : World} {A : Around} {R : Result → Shared → Prop} {s : Shared} {kx vx t0 i0 t1 i1 : Expr} {ifs0 ifs1 : List Expr} {scope : Scope} {pos : Pos} {it : Value} {D : Addr} {env : Env}
abbrev nb (prog : Program) (w : World) (A : Around) (R : Result → Shared → Prop) (env : Env) := notedBy (model prog w) A env fun e s' => R (.error e) s'
end
end Y
namespace Y
open PySem PySem.Spec PyProof.Rows L2
end Y
namespace Y
open PySem PySem.Spec PyProof.Rows L2
end Y
namespace Y
open PySem PySem.Spec PyProof.Rows L2
end Y
namespace Y
open PySem PySem.Spec PyProof.Rows L2
end Y
namespace Y
open PySem PySem.Spec PyProof.Rows L2
end Y
namespace Y
open PySem PySem.Spec PyProof.Rows L2
end Y
namespace Y
open PySem PySem.Spec PyProof.Rows L2
end Y
namespace Y
open PySem PySem.Spec PyProof.Rows L2
end Y
namespace Y
open PySem PySem.Spec PyProof.Rows L2
end Y
namespace Y
open PySem PySem.Spec PyProof.Rows L2
end Y
namespace Y
open PySem PySem.Spec PyProof.Rows L2
end Y
namespace Y
open PySem PySem.Spec PyProof.Rows L2
end Y
namespace Y
open PySem PySem.Spec PyProof.Rows L2
end Y
namespace Y
open PySem PySem.Spec PyProof.Rows L2
def callPW (F : Fn) (ws : List W) (st : Sto) : R W := match F ws [] with
  | .ok (.d x) _ => .ok (.d x) st
  | .ok (.o ns) _ => .ok (.o ns) st
  | .ok (.oo r) _ => .ok (.oo r) st
  | _ => .bad
@[simp] def dCalPW (n : Nat) (F : Fn) (fa : En → Sto → R (List W)) : En → Sto → R W := fun ρ st => (fa ρ st).bind fun ws s => chk (ws.length = n ∧ ws.all pureW = true) (callPW F ws s)
end Y
namespace Y
open PySem PySem.Spec PyProof.Rows L2
def alkAll : List PyData → List PyData → Bool
  | x :: xs, y :: ys => PySem.W.alike x y && (!PyData.eqv x y || alkAll xs ys)
  | _, _ => true
theorem alk_cons {x y : PyData} {xs ys : List PyData} (h : alkAll (x :: xs) (y :: ys) = true) : PySem.W.alike x y = true ∧ (PyData.eqv x y = true → alkAll xs ys = true) := by
  rw [alkAll, Bool.and_eq_true, Bool.or_eq_true] at h
  refine ⟨h.1, fun e => ?_⟩
  rcases h.2 with q | q
  · rw [e] at q; cases q
  · exact q
/-- each two of them are tuples with an item at least, told apart so -/
def AllAlk (ds : List PyData) : Prop := ∀ d ∈ ds, ∀ d' ∈ ds, ∃ x r y t, d = .tuple (x :: r) ∧ d' = .tuple (y :: t) ∧ alkAll (x :: r) (y :: t) = true
theorem alike_self_l {x y : PyData} (h : PySem.W.alike x y = true) (e : x = y) : PyData.eqv x y = true := by
  subst e
  exact PySem.W.eqv_refl_alike x h
theorem alk_unique {h : Heap} : ∀ (xs ys : List PyData) (vs : List Value) (as as' : List Addr), alkAll xs ys = true → ReadsAll h vs xs as → ReadsAll h vs ys as' → xs = ys
  | [], ys, vs, _, _, _, r, r' => by
    cases r
    cases r'
    rfl
  | x :: xs, ys, vs, _, _, q, r, r' => by
    cases r with
    | cons r1 r2 =>
      cases r' with
      | cons k1 k2 =>
        obtain ⟨q1, q2⟩ := alk_cons q
        have e := PySem.W.alike_unique _ _ _ _ _ q1 r1 k1
        rw [alk_unique _ _ _ _ _ (q2 (alike_self_l q1 e)) r2 k2, e]
theorem alk_uniqueT {h : Heap} {xs ys : List PyData} {v : Value} {as as' : List Addr} (q : alkAll xs ys = true) (r : Reads h v (.tuple xs) as) (r' : Reads h v (.tuple ys) as') : xs = ys := by
  cases r with
  | @tuple l o vs n _ _ h1 h2 h3 h4 =>
    cases r' with
    | @tuple _ o' vs' n' _ _ k1 k2 k3 k4 =>
      rw [h1] at k1
      cases k1
      rw [h3] at k3
      cases k3
      exact alk_unique _ _ _ _ _ q h4 k4
section
variable {prog : Program} {w : World} {A : Around} {s : Shared}
theorem alk_key {h : Heap} {ds : List PyData} (hal : AllAlk ds) {v : Value} {d : PyData} {as : List Addr} (hd : d ∈ ds) (r : Reads h v d as) : (PySem.W.dataKind h ds).keyOf v = some (PySem.W.keyToks d) := by
  have q : ∃ d, d ∈ ds ∧ ∃ as, Reads h v d as := ⟨d, hd, as, r⟩
  have e : (PySem.W.dataKind h ds).keyOf v = some (PySem.W.keyToks q.choose) := by
    show (open Classical in if q : ∃ d, d ∈ ds ∧ ∃ as, Reads h v d as then some (PySem.W.keyToks q.choose) else none) = _
    rw [dif_pos q]
  obtain ⟨h1, as', h2⟩ := q.choose_spec
  obtain ⟨x, rs, y, t, e1, e2, z⟩ := hal _ h1 _ hd
  rw [e, e1, e2]
  rw [e1] at h2
  rw [e2] at r
  rw [alk_uniqueT z h2 r]
theorem alk_lex {b fin : Bool} {Q : Bool → Shared → Prop} : ∀ (xs ys : List PyData) (i : Nat) (vs ws : List Value) (as bs : List Addr), ReadsAll s.heap vs xs as → ReadsAll s.heap ws ys bs → alkAll xs ys = true →
    A.units + min (PyData.depthAll xs) (PyData.depthAll ys) < cLine → (b = true → i = 0 → ∀ x r t, xs = x :: r → x ≠ .tuple t) → fin = decide (xs.length < ys.length) → Q (PyProof.Rows.lexLt itemOrd (PySem.W.keyToksAll xs) (PySem.W.keyToksAll ys)) s → PySem.W.KatLex prog w A b fin Q (vs.zip ws) i s
  | [], ys, i, _, _, _, _, ra, rb, h, hu, hb, hf, hq => PySem.W.katLex_alike [] ys i _ _ _ _ ra rb (by cases ys <;> rfl) hu hb hf hq
  | x :: xs, [], i, _, _, _, _, ra, rb, h, hu, hb, hf, hq => PySem.W.katLex_alike (x :: xs) [] i _ _ _ _ ra rb rfl hu hb hf hq
  | x :: xs, y :: ys, i, _, _, _, _, ra, rb, h, hu, hb, hf, hq => by
    obtain ⟨h1, h2⟩ := alk_cons h
    have hf' : fin = decide (xs.length < ys.length) := by
      rw [hf]
      simp only [List.length_cons, Nat.add_lt_add_iff_right]
    cases ra with
    | cons r rs =>
      cases rb with
      | cons r' rs' =>
        rw [List.zip_cons_cons]
        refine PySem.W.kat_cons (PySem.W.eqAt_alike x y A s _ _ _ _ r r' h1 (SeqAt.room_head hu) prog w _ _ ?_)
        cases hx : PyData.eqv x y with
        | true =>
          rw [PySem.W.dataLt_all_yes h1 hx] at hq
          exact PySem.W.kat_yes (alk_lex xs ys (i + 1) _ _ _ _ rs rs' (h2 hx) (SeqAt.room_tail hu) (fun _ hi => absurd hi (Nat.succ_ne_zero i)) hf' hq)
        | false =>
          rw [PySem.W.dataLt_all_no h1 hx] at hq
          refine PySem.W.kat_no (PySem.W.oneLt_alike (fun hbi t => ?_) r r' h1 (PySem.W.ne_none_of h1 hx) (SeqAt.room_head hu) hq)
          rw [Bool.and_eq_true] at hbi
          exact hb hbi.1 (by simpa using hbi.2) x xs t rfl
theorem alk_sorts {vs : List Value} {ds : List PyData} (e : PySem.W.EachIs (fun v d => ∃ as, Reads s.heap v d as) vs ds) (hal : AllAlk ds) (hu : ∀ d, d ∈ ds → A.units + d.depth < cLine) : PySem.W.SortsAt prog w A s (PySem.W.dataKind s.heap ds) vs := by
  have room : ∀ {d d' : PyData}, d ∈ ds → A.units + min d.depth d'.depth < cLine := fun {d d'} hd => Nat.lt_of_le_of_lt (Nat.add_le_add_left (Nat.min_le_left _ _) _) (hu d hd)
  refine ⟨fun v hv => ?_, ?_⟩
  · obtain ⟨d, hd, as, r⟩ := e.left v hv
    exact ⟨_, alk_key hal hd r⟩
  · cases ds with
    | nil =>
      cases e
      exact ⟨general', fun E x y a b Q ha _ _ => (by
        obtain ⟨d, _, hd, _⟩ := PySem.W.dataKind_inv ha
        exact absurd hd (by simp)), fun h2 => absurd h2 (by simp)⟩
    | cons d₀ ds₀ =>
      have m0 : d₀ ∈ d₀ :: ds₀ := List.mem_cons_self
      have tups : ∀ d, d ∈ d₀ :: ds₀ → ∃ x r, d = .tuple (x :: r) := fun d hd => by
        obtain ⟨x, r, _, _, e1, _⟩ := hal d hd d₀ m0
        exact ⟨x, r, e1⟩
      obtain ⟨x₀, r₀, e₀⟩ := tups d₀ m0
      have hfirst : ∀ x r, PyData.tuple (x :: r) ∈ d₀ :: ds₀ → PySem.W.alike x x₀ = true := by
        intro x r hm
        obtain ⟨x1, r1, y, t, e1, e2, q⟩ := hal _ hm d₀ m0
        cases e1
        rw [e₀] at e2
        cases e2
        exact (alk_cons q).1
      refine ⟨tuples' (PySem.W.dataType x₀ != Value.type "tuple"), ?_, fun h2 E Q hq => ?_⟩
      · intro E x y a b Q ha hb hq
        obtain ⟨d, as, hd, ra, rfl⟩ := PySem.W.dataKind_inv ha
        obtain ⟨d', as', hd', rb, rfl⟩ := PySem.W.dataKind_inv hb
        have hroom := room (d' := d') hd
        obtain ⟨x1, r1, x2, r2, rfl, rfl, hdd⟩ := hal d hd d' hd'
        have hq' : Q (PySem.W.dataLt (.tuple (x1 :: r1)) (.tuple (x2 :: r2))) s := hq
        rw [PySem.W.dataLt_tuple] at hq'
        cases ra with
        | @tuple l o xs n _ _ h1 h2 h3 h4 =>
          cases rb with
          | @tuple l' o' xs' n' _ _ k1 k2 k3 k4 =>
            have n1 : xs.size = (x1 :: r1).length := by simpa using PySem.SeqAt.ReadsAll.length _ _ _ h4
            have n2 : xs'.size = (x2 :: r2).length := by simpa using PySem.SeqAt.ReadsAll.length _ _ _ k4
            refine PySem.W.kat_lt h1 h3 k1 k3 (alk_lex (x1 :: r1) (x2 :: r2) 0 _ _ _ _ h4 k4 hdd (by have q := SeqAt.room_in hroom; omega) (fun hb _ x r t ex => ?_) (by rw [n1, n2]) hq')
            obtain ⟨rfl, rfl⟩ := List.cons.inj ex
            have q := PySem.W.dataType_alike (hfirst _ _ hd)
            rw [← q] at hb
            exact PySem.W.dataType_tuple hb t
      · obtain ⟨fs, t1, t2, t3⟩ := PySem.W.each_katTups e tups
        refine PySem.W.kat_kind (T := PySem.W.dataType x₀) t1 (by omega) (fun f hf => ?_) (beq_self_eq_true _) hq
        obtain ⟨x, r, as, m1, m2⟩ := t3 f hf
        rw [← PySem.W.dataType_alike (hfirst x r m1)]
        exact PySem.W.looks_reads m2
end
open Classical in
noncomputable def gSortedW : List W → Sto → R W
  | [w], st => match asD st w with
    | some (.list ds) => chk (AllAlk ds ∧ ∀ d ∈ ds, d.depth ≤ 60) (.ok (.d (.list (srtA ds))) st)
    | _ => .bad
  | _, _ => .bad
section
variable {X : Cx} {C : Ct}
open Classical in
theorem cSortedW (hK : C.K = X.K) (hu : X.A.units + 64 < cLine) : CallR X (.builtin "sorted") (rdC C gSortedW) := by
  obtain ⟨K, mg, E⟩ := C
  obtain rfl : K = X.K := hK
  intro pins s σ H xs us Q I r h
  obtain ⟨Z0, θ, st, ws, S, rw', p⟩ := h
  unfold gSortedW at p
  split at p
  · cases rw' with
    | cons a b =>
      cases b
      split at p
      · rename_i ds hd
        obtain ⟨l, vs, rfl, hs, r'⟩ := asD_list S a hd
        obtain ⟨its, rv, pl, hz⟩ := I.list hs
        obtain ⟨as, rr⟩ := Dp.readsAll I _ _ its r'.dp rv
        rw [Vals.ref1 r]
        have ev := each_of rv r'
        have fin : ∀ (out : List Value) (es : List PyData), PySem.W.EachIs (fun v d => ∃ x, RelV x v ∧ Pd X.K (Zs Z0 θ) H x d) out es → es.length = ds.length → Post ⟨X.K, mg, E⟩ Z0 θ H (relW X.K Z0) (.ok (.d (.list es)) st) Q →
            ∃ x H', Inv X pins σ H' { s with heap := sortedAll s.heap its out.toArray } ∧ RelV x (.ref (s.heap.objs.size + 1)) ∧ Q x H' := fun out es he hl p => by
          obtain ⟨ys, y1, y2⟩ := of_each he
          obtain ⟨n, hn⟩ := sortedAll_at s.heap its out.toArray
          refine ⟨.ref (s.heap.objs.size + 1), upd H _ (.lst ys), I.laid (t' := s.toks) (fun b o e => sortedAll_old e) (Nat.le_succ _) ⟨?_, out, n, y1, hn⟩, rfl, p.newLst S (I.hok.fresh (Nat.le_succ _)) y2⟩
          have e1 := PdAll.length y2
          have e2 := PdAll.length r'
          omega
        have e2 := PdAll.length r'
        have e3 := rv.length
        obtain ⟨⟨hal, hdp⟩, p⟩ := p.chk
        have md : ds.map (fun d => d) = ds := List.map_id' _
        have er : PySem.W.EachIs (fun v d => ∃ as, Reads (PySem.W.sortingHeap (PySem.W.copyHeap s.heap its) (s.heap.objs.size + 1) its) v d as) its ds :=
          (PySem.W.readsAll_each (fun d => d) (by rw [md]; exact rr)).mono fun _ _ ⟨as, r⟩ => ⟨as, PyProof.Rows.Reads.keeps (fun _ _ => PySem.W.sorting_copy_old) r⟩
        have ek : PySem.W.EachIs (fun v d => (PySem.W.dataKind (PySem.W.sortingHeap (PySem.W.copyHeap s.heap its) (s.heap.objs.size + 1) its) ds).keyOf v = some (PySem.W.keyToks d)) its ds :=
          (PySem.W.each_mem er).mono fun _ _ ⟨⟨_, r⟩, hd⟩ => alk_key hal hd r
        refine PySem.W.sorted_vals pl.isList (alk_sorts (s := { s with heap := PySem.W.sortingHeap (PySem.W.copyHeap s.heap its) (s.heap.objs.size + 1) its }) er hal (fun d hd => by have := hdp d hd; show X.A.units + 2 + d.depth < cLine; omega)) (by omega) ?_
        have so := PySem.W.sortVals_each (κ := PySem.W.dataKind (PySem.W.sortingHeap (PySem.W.copyHeap s.heap its) (s.heap.objs.size + 1) its) ds) (rev := false) PySem.W.keyToks ev ek
        exact fin _ (srtA ds) so (List.length_mergeSort _) p
      · exact p.elim
  · exact p.elim
def rGetL : V → V → Hp → VK → Prop := fun o i H Q => ∃ p xs k j z, o = .ref p ∧ i = .int k ∧ 0 ≤ k ∧ H p = some (.lst xs) ∧ ixN xs.length k = some j ∧ xs[j]? = some z ∧ Q z H
theorem get_list : PGet X rGetL := by
  intro pins s σ H o i ov iv Q I ro ri h
  obtain ⟨p, xs, k, j, z, rfl, rfl, h0, hp, hj, hz, q⟩ := h
  cases ro
  obtain ⟨t, rfl⟩ := ri
  obtain ⟨its, n, r, ho, hl⟩ := I.lst hp
  obtain ⟨h1, h2, h3, h4⟩ := ixN_seq hj
  obtain ⟨w, ew, rw'⟩ := r.get hz
  have hl' := r.length
  have hn := line63
  have hk : k.toNat = j := by
    rw [seqIndex_of h0 h4] at h1
    exact Option.some.inj h1
  exact wpAny_getItem_list ⟨_, ho, rfl, _, rfl⟩ h0 (by omega) (by rw [hk]; simpa using ew) ⟨z, H, I, rw', q⟩
/-- xs[i] op= e: ints -/
def dAugL (f : Int → Int → Int) (fo fi fe : En → Sto → R W) : DS := fun ρ st => (fo ρ st).bind fun o s => (fi ρ s).bind fun i s => match o, i with
  | .ref n, .d (.int k) => match s[n]? with
    | some (.lst xs) => match ixN xs.length k with
      | some j => if 0 ≤ k then match xs[j]? with
        | some (.d (.int x)) => (fe ρ s).bind fun e s2 => match e, s2[n]? with
          | .d (.int y), some (.lst ys) => if ys.length = xs.length then .ok (.nx, ρ) (s2.set n (.lst (ys.set j (.d (.int (f x y)))))) else .bad
          | _, _ => .bad
        | _ => .bad
        else .bad
      | none => .bad
    | _ => .bad
  | _, _ => .bad
theorem y_augL {o i e : Expr} {op : Operator} {f : Int → Int → Int} {tpos pos : Pos} {fo fi fe : En → Sto → R W} (hp : PIp X op (ipI f)) (ho : PE X o (rdE C fo)) (hi : PE X i (rdE C fi)) (he : PE X e (rdE C fe))
    (ha : ∀ ov iv new, augStore i ov iv new = (do holding [new, ov, iv] (setItem ov iv new); release [new, ov, iv] []; pure .next) := by intros; rfl) : PS X (.AugAssign (.Subscript o i tpos) op e pos) (rdS C (dAugL f fo fi fe)) := PS.imp (ps_augS ho hi get_list he hp set_list ha) fun D σ H q => by
  obtain ⟨Z0, θ, ρ, st, S, N, p⟩ := q
  refine ⟨Z0, θ, ρ, st, S, N, PostS.bindE p fun ow st1 θ1 H1 ov e1 S1 w1 p1 => ⟨Z0, θ1, ρ, st1, S1, N.ext e1, PostS.bindE p1 fun iw st2 θ2 H2 iv e2 S2 w2 p2 => ?_⟩⟩
  split at p2
  · rename_i n k
    split at p2
    · rename_i xs hx
      split at p2
      · rename_i j hj
        split at p2
        · rename_i h0
          split at p2
          · rename_i x hxj
            cases w2
            obtain ⟨a, us, rfl, h2, h3, h4⟩ := S2.at_ (w1.ext e2) hx
            obtain ⟨u, hu, ru⟩ := paired_get' h4 hxj
            cases ru
            refine ⟨a, us, k, j, .int x, rfl, rfl, h0, h3, by rw [← h4.length]; exact hj, hu, ⟨Z0, θ2, ρ, st2, S2, (N.ext e1).ext e2, PostS.bindE p2 fun ew st3 θ3 H3 ev e3 S3 w3 p3 => ?_⟩⟩
            split at p3
            · rename_i y ys hy
              split at p3
              · rename_i hl
                cases w3
                obtain ⟨a', us', e4, k2, k3, k4⟩ := S3.at_ ((w1.ext e2).ext e3) hy
                cases e4
                have xx := Ext.write (vs' := us'.set j (.int (f x y))) S3 k2 k3
                refine ⟨x, y, rfl, rfl, a, us', k, j, rfl, rfl, k3, by rw [← k4.length, hl]; exact hj, ?_⟩
                exact p3 θ3 _ σ xx (S3.write k2 k3 (paired_set k4 (show WR C.K (Zs Z0 θ3) θ3 H3 (.d (.int (f x y))) (.int (f x y)) from Pd.int _) j)) (EnR.ext xx (EnR.ext e3 (EnR.ext e2 (N.ext e1))))
              · exact p3.elim
            · exact p3.elim
          · exact p2.elim
        · exact p2.elim
      · exact p2.elim
    · exact p2.elim
  · exact p2.elim
end
end Y
namespace CAL
open PySem PySem.Spec PyProof.Rows L2 Y BL BP
local macro_rules
  | `(tactic| trivial) => `(tactic| first
    | with_reducible assumption
    | ((with_reducible apply dVar_ok); rfl)
    | with_reducible exact dLit_ok
    | with_reducible exact dNil_ok
    | ((with_reducible apply dCons_ok) <;> trivial)
    | ((with_reducible apply asB_ok); trivial)
    | ((with_reducible apply dBin_ok) <;> trivial)
    | ((with_reducible apply dCall_ok) <;> trivial)
    | ((with_reducible apply dCalP_ok); trivial; rfl; rfl; (with_reducible assumption))
    | ((with_reducible apply dCal_ok); trivial; rfl; (with_reducible assumption))
    | ((with_reducible apply and_ok) <;> trivial)
    | ((with_reducible apply or_ok) <;> trivial)
    | ((with_reducible apply dNot_ok); trivial)
    | ((with_reducible apply dSet_ok); trivial)
    | ((with_reducible apply dRet_ok); trivial)
    | with_reducible exact vIn_nat
    | with_reducible exact vNotIn_nat
    | with_reducible exact vIn_natL
    | with_reducible exact vNotIn_natL
    | with_reducible exact vIn_pair
    | with_reducible exact gLen_tmap
    | with_reducible exact gLen_map
    | with_reducible exact tupleOf_list
    | with_reducible exact vEq_nat
    | with_reducible exact vEq_int
    | with_reducible exact vNe_int
    | exact rfl)
noncomputable abbrev F_are_below : Fn := BL.F_are_below
noncomputable abbrev F_is_below : Fn := BL.F_is_below
noncomputable abbrev F_is_tuple_of : Fn := BR.F_is_tuple_of
noncomputable abbrev F_are_ascending_below : Fn := BL.F_are_ascending_below
/-- a walk that says no at the first that fails -/
theorem forL_all {α : Type} {tg : W → En → Sto → R En} {body : DS} {emb : α → W} {p : α → Bool} {J : En → Prop} {s : Sto} : ∀ (l : List α), (∀ a ∈ l, ∀ ρ, J ρ → ∃ ρ1 ρ2, tg (emb a) ρ s = .ok ρ1 s ∧ body ρ1 s = (if p a = true then .ok (.nx, ρ2) s else .ok (.rt (.d (.bool false)), ρ2) s) ∧ J ρ2) → ∀ ρ, J ρ →
    (l.all p = true → ∃ ρ', forL tg body (l.map emb) ρ s = .ok (.nx, ρ') s ∧ J ρ') ∧ (l.all p = false → ∃ ρ', forL tg body (l.map emb) ρ s = .ok (.rt (.d (.bool false)), ρ') s)
  | [], _, ρ, j => ⟨fun _ => ⟨ρ, rfl, j⟩, fun h => by cases h⟩
  | a :: l, h, ρ, j => by
    obtain ⟨ρ1, ρ2, h1, h2, h3⟩ := h a List.mem_cons_self ρ j
    obtain ⟨i1, i2⟩ := forL_all l (fun b hb => h b (List.mem_cons_of_mem _ hb)) ρ2 h3
    cases c : p a with
    | true =>
      rw [c, if_pos rfl] at h2
      rw [List.all_cons, c, Bool.true_and]
      refine ⟨fun q => ?_, fun q => ?_⟩
      · obtain ⟨ρ', g1, g2⟩ := i1 q
        refine ⟨ρ', ?_, g2⟩
        rw [List.map_cons]; unfold forL; rw [h1, R.bind_ok, h2, R.bind_ok]; exact g1
      · obtain ⟨ρ', g1⟩ := i2 q
        refine ⟨ρ', ?_⟩
        rw [List.map_cons]; unfold forL; rw [h1, R.bind_ok, h2, R.bind_ok]; exact g1
    | false =>
      rw [c, if_neg (by simp)] at h2
      rw [List.all_cons, c, Bool.false_and]
      refine ⟨fun q => absurd q (by simp), fun _ => ⟨ρ2, ?_⟩⟩
      rw [List.map_cons]; unfold forL; rw [h1, R.bind_ok, h2, R.bind_ok]
def cntB (a b : Int) : PyData → Bool
  | .int i => decide (a ≤ i) && decide (i ≤ b)
  | _ => false
noncomputable def B_l_is_count : DS :=
  (dRet (dAndV (dIsi ["int"] (dVar 0)) (dAndV (dNotV (dIsi ["bool"] (dVar 0))) (dChain vLe vLe (dVar 1) (dVar 0) (dVar 2)))))
noncomputable def F_l_is_count : Fn := dDef 3 B_l_is_count
theorem l_count_g {a b : Int} {d : PyData} (h : Pl d) : F_l_is_count [.d d, .d (.int a), .d (.int b)] [] = .ok (.d (.bool (cntB a b d))) [] := by
  obtain ⟨k1, k2, k3, k4, k5, k6⟩ := kb_int
  obtain ⟨k7, k8⟩ := kb_bool
  have no : ∀ {b : Bool} {f : En → Sto → R W} {ρ : En}, f ρ [] = .ok (.d (.bool b)) [] → dNotV f ρ [] = .ok (.d (.bool (!b))) [] := fun {b f ρ} e => by unfold dNotV; rw [asB_ok e]; rfl
  cases d with
  | dict _ => exact h.elim
  | none => exact dDef_rt (dRet_ok (dAndV_f (isi_of h rfl k1)))
  | bool _ => exact dDef_rt (dRet_ok (dAndV_t (isi_of h rfl k2) (dAndV_f (no (b := true) (isi_of h rfl k7)))))
  | int i =>
    have c : dChain vLe vLe (dVar 1) (dVar 0) (dVar 2) [some (.d (.int i)), some (.d (.int a)), some (.d (.int b))] [] = .ok (.d (.bool (cntB a b (.int i)))) [] := by
      have q : asB (vLe (.d (.int a)) (.d (.int i)) ([] : Sto)) = .ok (decide (a ≤ i)) [] := rfl
      unfold dChain
      rw [dVar_ok (w := .d (.int a)) rfl, R.bind_ok, dVar_ok (w := .d (.int i)) rfl, R.bind_ok, q, R.bind_ok]
      by_cases h0 : a ≤ i
      · rw [decide_eq_true h0, if_pos rfl, dVar_ok (w := .d (.int b)) rfl, R.bind_ok]
        have : cntB a b (.int i) = decide (i ≤ b) := by simp [cntB, h0]
        rw [this]; rfl
      · rw [decide_eq_false h0, if_neg (by simp)]
        have : cntB a b (.int i) = false := by simp [cntB, h0]
        rw [this]
    exact dDef_rt (dRet_ok (dAndV_t (isi_of h rfl k3) (dAndV_t (no (b := false) (isi_of h rfl k8)) c)))
  | str _ => exact dDef_rt (dRet_ok (dAndV_f (isi_of h rfl k4)))
  | list _ => exact dDef_rt (dRet_ok (dAndV_f (isi_of h rfl k5)))
  | tuple _ => exact dDef_rt (dRet_ok (dAndV_f (isi_of h rfl k6)))
theorem cnt_below {m : Nat} {d : PyData} : cntB 0 ((m : Int) - 1) d = isBelow m d := by
  cases d with
  | int i =>
    show (decide (0 ≤ i) && decide (i ≤ (m : Int) - 1)) = (decide (0 ≤ i) && decide (i < (m : Int)))
    congr 1
    exact decide_eq_decide.mpr (by omega)
  | _ => rfl
theorem cnt60 {d : PyData} : cntB 0 60 d = isBelow 61 d := cnt_below (m := 61)
theorem asc_below_g {n k m : Nat} {d : PyData} (h : Wd n k d) (hn : n ≤ 1000) : ∃ t, F_are_ascending_below [.d (nI m), .d d] [] = .ok (.d (.bool (lotB m d))) t := by
  have e := is_lot_g (m := m) h hn
  cases ht : isTup d with
  | false =>
    rw [lotB_no (fun ⟨l, _, q⟩ => by rw [q] at ht; cases ht)]
    exact ⟨[], dDef_rt (dRet_ok (dAndV_f (dCalP_ok (dCons_ok (dVar_ok rfl) (dCons1_ok (dVar_ok rfl))) rfl rfl (F_are_below_not h.pl ht))))⟩
  | true =>
    obtain ⟨ds, rfl⟩ : ∃ ds, d = .tuple ds := by cases d <;> first | exact ⟨_, rfl⟩ | cases ht
    obtain ⟨hl, j, rfl, hj⟩ := h.tup_inv
    have bl := F_are_below_tup (n := (m : Int)) (ds := ds) (fun d hd => (hj d hd).pl) (by omega)
    cases hb : ds.all (isBelow m) with
    | false =>
      rw [hb] at bl
      rw [lotB_no (fun ⟨l, lo, e⟩ => by
        cases e
        have := below_all lo.lt
        rw [← nI_zs] at this
        rw [this] at hb
        cases hb)]
      exact ⟨[], dDef_rt (dRet_ok (dAndV_f (dCalP_ok (dCons_ok (dVar_ok rfl) (dCons1_ok (dVar_ok rfl))) rfl rfl bl)))⟩
    | true =>
      rw [hb] at bl
      have q : lotB m (.tuple ds) = true ∨ lotB m (.tuple ds) = false := by cases lotB m (.tuple ds) <;> simp
      rw [List.all_eq_true] at hb
      obtain ⟨is, rfl⟩ := ints_of (ds := ds) fun d hd => by
        have := hb d hd
        cases d <;> first | rfl | cases this
      have as := F_asc_ok (is := is) (by rw [List.length_map] at hl; omega)
      have e2 := F_lot_ints (n := m) (is := is) (by rw [List.length_map] at hl; omega) (by rw [List.all_eq_true]; exact hb)
      have e3 : R.ok (W.d (.bool (lotB m (.tuple (is.map .int))))) [] = R.ok (W.d (.bool (ascB is))) ([] : Sto) := e.symm.trans e2
      injection e3 with e3 _
      injection e3 with e3
      injection e3 with e3
      rw [e3]
      exact ⟨[], dDef_rt (dRet_ok (dAndV_t (dCalP_ok (dCons_ok (dVar_ok rfl) (dCons1_ok (dVar_ok rfl))) rfl rfl bl) (dCalP_ok (dCons1_ok (dVar_ok rfl)) rfl rfl as)))⟩
def calB : PyData → Bool
  | .tuple ds => ds.all (isBelow 61) && decide (ds.length ≤ 40)
  | _ => false
noncomputable def B_is_calendar : DS :=
  (dRet (dAndV (dCalP 2 F_are_below (dCons (dBin vAdd (dLit (.int 60)) (dLit (.int 1))) (dCons (dVar 0) dNil))) (dBin vLe (dCall gLen (dCons (dVar 0) dNil)) (dLit (.int 40)))))
noncomputable def F_is_calendar : Fn := dDef 1 B_is_calendar
theorem le40 {n : Nat} {s : Sto} : vLe (nW n) (.d (.int 40)) s = .ok (.d (.bool (decide (n ≤ 40)))) s := by
  have e : decide ((n : Int) ≤ 40) = decide (n ≤ 40) := decide_eq_decide.mpr (by omega)
  show R.ok (W.d (.bool (decide ((n : Int) ≤ 40)))) s = _
  rw [e]
theorem is_calendar_g {n k : Nat} {d : PyData} (h : Wd n k d) (hn : n ≤ 1000) : F_is_calendar [.d d] [] = .ok (.d (.bool (calB d))) [] := by
  have e61 : ∀ {ρ : En} {s : Sto}, dBin vAdd (dLit (.int 60)) (dLit (.int 1)) ρ s = .ok (.d (.int 61)) s := fun {ρ s} => rfl
  cases ht : isTup d with
  | false =>
    have : calB d = false := by cases d <;> first | rfl | cases ht
    rw [this]
    exact dDef_rt (dRet_ok (dAndV_f (dCalP_ok (dCons_ok e61 (dCons1_ok (dVar_ok rfl))) rfl rfl (F_are_below_not h.pl ht))))
  | true =>
    obtain ⟨ds, rfl⟩ : ∃ ds, d = .tuple ds := by cases d <;> first | exact ⟨_, rfl⟩ | cases ht
    obtain ⟨hl, j, rfl, hj⟩ := h.tup_inv
    have bl := F_are_below_tup (n := 61) (ds := ds) (fun d hd => (hj d hd).pl) (by omega)
    show F_is_calendar _ [] = .ok (.d (.bool (ds.all (isBelow 61) && decide (ds.length ≤ 40)))) []
    cases hb : ds.all (isBelow 61) with
    | false =>
      rw [hb] at bl
      exact dDef_rt (dRet_ok (dAndV_f (dCalP_ok (dCons_ok e61 (dCons1_ok (dVar_ok rfl))) rfl rfl bl)))
    | true =>
      rw [hb] at bl
      exact dDef_rt (dRet_ok (dAndV_t (dCalP_ok (dCons_ok e61 (dCons1_ok (dVar_ok rfl))) rfl rfl bl) (dBin_ok (dCall_ok (dCons1_ok (dVar_ok rfl)) (BP.gLen_tup ds [])) dLit_ok le40)))
theorem empty_all {α : Type} {l : List α} {p : α → Bool} : (l.filter fun x => !p x).isEmpty = l.all p := by
  induction l with
  | nil => rfl
  | cons a l ih =>
    rw [List.filter_cons, List.all_cons]
    cases p a
    · rfl
    · simpa using ih
/-- the law's own look at a row of numbers: `[x for x in row if not count(x, a, b)]` -/
theorem odd_row {v : Nat} {a b : Int} {ds : List PyData} {n j : Nat} {fi : En → Sto → R (List W)} {fa fb : En → Sto → R W} {ρ : En} {s : Sto} (hi : fi ρ s = .ok (ds.map fun d => W.d d) s) (hj : ∀ d ∈ ds, Wd n j d) (hl : ds.length ≤ n) (hn : n ≤ 1000) (hv : v < ρ.length)
    (ha : ∀ w, fa (ρ.set v w) s = .ok (.d (.int a)) s) (hb : ∀ w, fb (ρ.set v w) s = .ok (.d (.int b)) s) :
    dLcF (dLc [v] fi (tName v) (dNot (fun ρ st => asB ((dCalP 3 F_l_is_count (dCons (dVar v) (dCons fa (dCons fb dNil)))) ρ st))) (dVar v)) ρ s = .ok (.d (.list (ds.filter fun d => !cntB a b d))) s := by
  have lc := lc_flt (vs := [v]) (fi := fi) (tg := tName v) (tt := dNot (fun ρ st => asB ((dCalP 3 F_l_is_count (dCons (dVar v) (dCons fa (dCons fb dNil)))) ρ st))) (fe := dVar v) (ρ := ρ) (s := s) (s1 := s) (emb := fun d => W.d d) (p := fun d => !cntB a b d) (g := fun d => d) ds hi (by omega) fun d hd => by
    have ew : (wipeE ρ [v]).set v (some (W.d d)) = ρ.set v (some (.d d)) := by
      show (ρ.set v none).set v (some (W.d d)) = _
      rw [List.set_set]
    have hv' : (ρ.set v (some (W.d d)))[v]? = some (some (.d d)) := by rw [List.getElem?_set_self hv]
    refine ⟨ρ.set v (some (.d d)), by rw [← ew]; rfl, dNot_ok (asB_ok (dCalP_ok (dCons_ok (dVar_ok hv') (dCons_ok (ha _) (dCons1_ok (hb _)))) rfl rfl (l_count_g (hj d hd).pl))), fun _ => dVar_ok hv'⟩
  rw [List.map_id'] at lc
  exact lc
theorem it_ds {f : En → Sto → R W} {ρ : En} {s : Sto} {ds : List PyData} (h : f ρ s = .ok (.d (.tuple ds)) s) : dIter f ρ s = .ok (ds.map fun d => W.d d) s := by
  have := it_t (f := f) (ρ := ρ) (s := s) (s1 := s) (emb := fun d : PyData => d) (l := ds) (by rw [List.map_id']; exact h)
  exact this
end CAL
namespace CAL
open PySem PySem.Spec PyProof.Rows L2 Y BL BP
local macro_rules
  | `(tactic| trivial) => `(tactic| first
    | with_reducible assumption
    | ((with_reducible apply dVar_ok); rfl)
    | with_reducible exact dLit_ok
    | with_reducible exact dNil_ok
    | ((with_reducible apply dCons_ok) <;> trivial)
    | ((with_reducible apply asB_ok); trivial)
    | ((with_reducible apply dBin_ok) <;> trivial)
    | ((with_reducible apply dCall_ok) <;> trivial)
    | ((with_reducible apply dCalP_ok); trivial; rfl; rfl; (with_reducible assumption))
    | ((with_reducible apply dCal_ok); trivial; rfl; (with_reducible assumption))
    | ((with_reducible apply and_ok) <;> trivial)
    | ((with_reducible apply or_ok) <;> trivial)
    | ((with_reducible apply dNot_ok); trivial)
    | ((with_reducible apply dSet_ok); trivial)
    | ((with_reducible apply dRet_ok); trivial)
    | with_reducible exact vIn_nat
    | with_reducible exact vNotIn_nat
    | with_reducible exact vIn_natL
    | with_reducible exact vNotIn_natL
    | with_reducible exact vIn_pair
    | with_reducible exact gLen_tmap
    | with_reducible exact gLen_map
    | with_reducible exact tupleOf_list
    | with_reducible exact vEq_nat
    | with_reducible exact vEq_int
    | with_reducible exact vNe_int
    | exact rfl)
open Classical in
noncomputable def jobB (m : Nat) : PyData → Bool
  | .tuple [a, b] => cntB 1 60 a && lotB m b
  | _ => false
noncomputable def jobsB (m : Nat) : PyData → Bool
  | .tuple ds => decide (ds.length ≤ 14) && ds.all (jobB m)
  | _ => false
theorem jobB_not {m : Nat} {d : PyData} (h : isTup d = false) : jobB m d = false := by cases d <;> first | rfl | cases h
theorem jobB_len {m : Nat} {ds : List PyData} (h : ds.length ≠ 2) : jobB m (.tuple ds) = false := by
  match ds, h with
  | [], _ => rfl
  | [_], _ => rfl
  | [_, _], h => exact absurd rfl h
  | _ :: _ :: _ :: _, _ => rfl
theorem two_of {ds : List PyData} (h : ds.length = 2) : ∃ a b, ds = [a, b] := by
  match ds, h with
  | [a, b], _ => exact ⟨a, b, rfl⟩
def is0 : PyData → Bool
  | .int i => decide (i = 0)
  | _ => false
def len2 : PyData → Bool
  | .tuple ds => decide (ds.length = 2)
  | _ => false
theorem cnt1 {a : PyData} : cntB 1 60 a = (isBelow 61 a && !is0 a) := by
  cases a with
  | int i =>
    show (decide (1 ≤ i) && decide (i ≤ 60)) = ((decide (0 ≤ i) && decide (i < 61)) && !decide (i = 0))
    rw [Bool.eq_iff_iff]
    simp only [Bool.and_eq_true, decide_eq_true_eq, Bool.not_eq_true', decide_eq_false_iff_not]
    omega
  | _ => rfl
theorem is_tup_ok {d : PyData} (h : Pl d) : F_is_tuple_of [.d (.int 2), .d d] [] = .ok (.d (.bool (len2 d))) [] := by
  cases ht : isTup d with
  | false =>
    have e : len2 d = false := by cases d <;> first | rfl | cases ht
    rw [e]
    exact BR.tuple_of_not (k := 2) h ht
  | true =>
    obtain ⟨ds, rfl⟩ : ∃ ds, d = .tuple ds := by cases d <;> first | exact ⟨_, rfl⟩ | cases ht
    exact BR.tuple_of_ok (k := 2)
noncomputable def B_is_job : DS :=
  (dSeq (dIfS (dOr (dNot (fun ρ st => asB ((dCalP 2 F_is_tuple_of (dCons (dLit (.int 2)) (dCons (dVar 1) dNil))) ρ st))) (dOr (dNot (fun ρ st => asB ((dCalP 2 F_is_below (dCons (dBin vAdd (dLit (.int 60)) (dLit (.int 1))) (dCons (dBin vIx (dVar 1) (dLit (.int 0))) dNil))) ρ st))) (fun ρ st => asB (dBin (vEq false) (dBin vIx (dVar 1) (dLit (.int 0))) (dLit (.int 0)) ρ st))))
    (dRet (dLit (.bool false)))
    dEnd)
    (dRet (dCalP 2 F_are_ascending_below (dCons (dCall gLen (dCons (dVar 0) dNil)) (dCons (dBin vIx (dVar 1) (dLit (.int 1))) dNil)))))
noncomputable def F_is_job : Fn := dDef 2 B_is_job
section
variable {D : List Nat} {n k : Nat} {d : PyData}
theorem is_job_g (h : Wd n k d) (hn : n ≤ 1000) : F_is_job [.d (lotD D), .d d] [] = .ok (.d (.bool (jobB D.length d))) [] := by
  let E : En := [some (.d (lotD D)), some (.d d)]
  have t1 : dNot (fun ρ st => asB ((dCalP 2 F_is_tuple_of (dCons (dLit (.int 2)) (dCons (dVar 1) dNil))) ρ st)) E [] = .ok (!len2 d) [] := dNot_ok (asB_ok (dCalP_ok (dCons_ok dLit_ok (dCons1_ok (dVar_ok rfl))) rfl rfl (is_tup_ok h.pl)))
  have no : len2 d = false → F_is_job [.d (lotD D), .d d] [] = .ok (.d (.bool false)) [] := fun q => by
    rw [q] at t1
    exact dDef_rt (dSeq_rt (dIfS_t (or_t t1) (dRet_ok dLit_ok)))
  cases ht : isTup d with
  | false =>
    rw [jobB_not ht]
    exact no (by cases d <;> first | rfl | cases ht)
  | true =>
    obtain ⟨ds, rfl⟩ : ∃ ds, d = .tuple ds := by cases d <;> first | exact ⟨_, rfl⟩ | cases ht
    by_cases h2 : ds.length = 2
    · obtain ⟨a, b, rfl⟩ := two_of h2
      obtain ⟨_, j, rfl, hj⟩ := h.tup_inv
      have ha := hj a (by simp)
      have hb := hj b (by simp)
      have x0 : dBin vIx (dVar 1) (dLit (.int 0)) E [] = .ok (.d a) [] := dBin_ok (dVar_ok rfl) dLit_ok (vIx_tup (j := 0) rfl)
      have x1 : dBin vIx (dVar 1) (dLit (.int 1)) E [] = .ok (.d b) [] := dBin_ok (dVar_ok rfl) dLit_ok (vIx_tup (j := 1) rfl)
      have t1' : dNot (fun ρ st => asB ((dCalP 2 F_is_tuple_of (dCons (dLit (.int 2)) (dCons (dVar 1) dNil))) ρ st)) E [] = .ok false [] := t1
      have t2 : dNot (fun ρ st => asB ((dCalP 2 F_is_below (dCons (dBin vAdd (dLit (.int 60)) (dLit (.int 1))) (dCons (dBin vIx (dVar 1) (dLit (.int 0))) dNil))) ρ st)) E [] = .ok (!isBelow 61 a) [] := dNot_ok (asB_ok (dCalP_ok (dCons_ok (w := .d (.int 61)) rfl (dCons1_ok x0)) rfl rfl (F_is_below_ok ha.pl)))
      show F_is_job _ [] = .ok (.d (.bool (cntB 1 60 a && lotB D.length b))) []
      rw [cnt1]
      cases c : isBelow 61 a with
      | false =>
        rw [c] at t2
        exact dDef_rt (dSeq_rt (dIfS_t (or_f t1' (or_t t2)) (dRet_ok dLit_ok)))
      | true =>
        rw [c] at t2
        obtain ⟨i, rfl, hi⟩ := below_inv (m := 61) c
        have t3 : asB (dBin (vEq false) (dBin vIx (dVar 1) (dLit (.int 0))) (dLit (.int 0)) E []) = .ok (is0 (nI i)) [] :=
          asB_ok (dBin_ok x0 dLit_ok eq_ints)
        cases z : is0 (nI i) with
        | true =>
          rw [z] at t3
          exact dDef_rt (dSeq_rt (dIfS_t (or_f t1' (or_f t2 t3)) (dRet_ok dLit_ok)))
        | false =>
          rw [z] at t3
          obtain ⟨t, q⟩ := asc_below_g (m := D.length) hb hn
          exact dDef_rt (to (dIfS_f (or_f t1' (or_f t2 t3)) rfl) (dRet_ok (dCalP_ok (dCons_ok (dCall_ok (dCons1_ok (dVar_ok rfl)) gLen_tmap) (dCons1_ok x1)) rfl rfl q)))
    · rw [jobB_len h2]
      exact no (decide_eq_false h2)
noncomputable def B_are_jobs : DS :=
  (dSeq (dIfS (dOr (dNot (fun ρ st => asB ((dIsi ["tuple"] (dVar 1)) ρ st))) (fun ρ st => asB (dBin vGt (dCall gLen (dCons (dVar 1) dNil)) (dLit (.int 14)) ρ st)))
    (dRet (dLit (.bool false)))
    dEnd)
    (dRet (dCall gAll (dCons (dLcF (dLc [2] (dIter (dVar 1)) (tName 2) (fun _ st => .ok true st) (dCalP 2 F_is_job (dCons (dVar 0) (dCons (dVar 2) dNil))))) dNil))))
noncomputable def F_are_jobs : Fn := dDef 3 B_are_jobs
theorem gt14 {a : Nat} {s : Sto} : vGt (nW a) (.d (.int 14)) s = .ok (.d (.bool (!decide (a ≤ 14)))) s := by
  have e : decide ((14 : Int) < (a : Int)) = !decide (a ≤ 14) := by
    rw [Bool.eq_iff_iff]
    simp only [decide_eq_true_eq, Bool.not_eq_true', decide_eq_false_iff_not]
    omega
  show R.ok (W.d (.bool (decide ((14 : Int) < (a : Int))))) s = _
  rw [e]
theorem are_jobs_g (h : Wd n k d) (hn : n ≤ 1000) : F_are_jobs [.d (lotD D), .d d] [] = .ok (.d (.bool (jobsB D.length d))) [] := by
  let E : En := [some (.d (lotD D)), some (.d d), none]
  have ti := isi_tup (ρ := E) (s := []) (i := 1) h.pl rfl
  cases ht : isTup d with
  | false =>
    rw [ht] at ti
    have : jobsB D.length d = false := by cases d <;> first | rfl | cases ht
    rw [this]
    exact dDef_rt (dSeq_rt (dIfS_t (or_t (dNot_ok (b := false) (asB_ok ti))) (dRet_ok dLit_ok)))
  | true =>
    rw [ht] at ti
    obtain ⟨ds, rfl⟩ : ∃ ds, d = .tuple ds := by cases d <;> first | exact ⟨_, rfl⟩ | cases ht
    obtain ⟨hl, j, rfl, hj⟩ := h.tup_inv
    have t2 : asB (dBin vGt (dCall gLen (dCons (dVar 1) dNil)) (dLit (.int 14)) E []) = .ok (!decide (ds.length ≤ 14)) [] := asB_ok (dBin_ok (dCall_ok (dCons1_ok (dVar_ok rfl)) (BP.gLen_tup ds [])) dLit_ok gt14)
    show F_are_jobs _ [] = .ok (.d (.bool (decide (ds.length ≤ 14) && ds.all (jobB D.length)))) []
    cases c : decide (ds.length ≤ 14) with
    | false =>
      rw [c] at t2
      exact dDef_rt (dSeq_rt (dIfS_t (or_f (dNot_ok (b := true) (asB_ok ti)) t2) (dRet_ok dLit_ok)))
    | true =>
      rw [c] at t2
      have lc := lc_mp (vs := [2]) (fi := dIter (dVar 1)) (tg := tName 2) (fe := dCalP 2 F_is_job (dCons (dVar 0) (dCons (dVar 2) dNil))) (ρ := E) (s := []) (s1 := []) (emb := fun d => W.d d) (g := fun d => .bool (jobB D.length d)) ds (it_ds (dVar_ok rfl)) (by omega) fun d hd => ⟨_, rfl, dCalP_ok (dCons_ok (dVar_ok rfl) (dCons1_ok (dVar_ok rfl))) rfl rfl (is_job_g (hj d hd) hn)⟩
      exact dDef_rt (to (dIfS_f (or_f (dNot_ok (b := true) (asB_ok ti)) t2) rfl) (dRet_ok (dCall_ok (dCons1_ok lc) (BR.all_map ds))))
end
end CAL
namespace CAL
open PySem PySem.Spec PyProof.Rows L2 Y BL BP
local macro_rules
  | `(tactic| trivial) => `(tactic| first
    | with_reducible assumption
    | ((with_reducible apply dVar_ok); rfl)
    | with_reducible exact dLit_ok
    | with_reducible exact dNil_ok
    | ((with_reducible apply dCons_ok) <;> trivial)
    | ((with_reducible apply asB_ok); trivial)
    | ((with_reducible apply dBin_ok) <;> trivial)
    | ((with_reducible apply dCall_ok) <;> trivial)
    | ((with_reducible apply dCalP_ok); trivial; rfl; rfl; (with_reducible assumption))
    | ((with_reducible apply dCal_ok); trivial; rfl; (with_reducible assumption))
    | ((with_reducible apply and_ok) <;> trivial)
    | ((with_reducible apply or_ok) <;> trivial)
    | ((with_reducible apply dNot_ok); trivial)
    | ((with_reducible apply dSet_ok); trivial)
    | ((with_reducible apply dRet_ok); trivial)
    | with_reducible exact vIn_nat
    | with_reducible exact vNotIn_nat
    | with_reducible exact vIn_natL
    | with_reducible exact vNotIn_natL
    | with_reducible exact vIn_pair
    | with_reducible exact gLen_tmap
    | with_reducible exact gLen_map
    | with_reducible exact tupleOf_list
    | with_reducible exact vEq_nat
    | with_reducible exact vEq_int
    | with_reducible exact vNe_int
    | exact rfl)
noncomputable def B_l_are_jobs : DS :=
  (dSeq (dIfS (dOr (dNot (fun ρ st => asB ((dIsi ["tuple"] (dVar 1)) ρ st))) (fun ρ st => asB (dBin vGt (dCall gLen (dCons (dVar 1) dNil)) (dLit (.int 14)) ρ st)))
    (dRet (dLit (.bool false)))
    dEnd)
    (dSeq (dFor (dIter (dVar 1)) (tName 2)
    (dSeq (dIfS (dOr (dNot (fun ρ st => asB ((dIsi ["tuple"] (dVar 2)) ρ st))) (dOr (fun ρ st => asB (dBin (vEq true) (dCall gLen (dCons (dVar 2) dNil)) (dLit (.int 2)) ρ st)) (dOr (dNot (fun ρ st => asB ((dCalP 3 F_l_is_count (dCons (dBin vIx (dVar 2) (dLit (.int 0))) (dCons (dLit (.int 1)) (dCons (dLit (.int 60)) dNil)))) ρ st))) (dNot (fun ρ st => asB ((dIsi ["tuple"] (dBin vIx (dVar 2) (dLit (.int 1)))) ρ st))))))
    (dRet (dLit (.bool false)))
    dEnd)
    (dIfS (dOr (fun ρ st => asB (dBin (vEq true) (dLcF (dLc [3] (dIter (dBin vIx (dVar 2) (dLit (.int 1)))) (tName 3) (dNot (fun ρ st => asB ((dCalP 3 F_l_is_count (dCons (dVar 3) (dCons (dLit (.int 0)) (dCons (dBin vSub (dCall gLen (dCons (dVar 0) dNil)) (dLit (.int 1))) dNil)))) ρ st))) (dVar 3))) (dLst dNil) ρ st)) (fun ρ st => asB (dBin (vEq true) (dCall gListOf (dCons (dBin vIx (dVar 2) (dLit (.int 1))) dNil)) (dCall gSortedSetIT (dCons (dBin vIx (dVar 2) (dLit (.int 1))) dNil)) ρ st)))
    (dRet (dLit (.bool false)))
    dEnd)))
    (dRet (dLit (.bool true)))))
noncomputable def F_l_are_jobs : Fn := dDef 4 B_l_are_jobs
theorem nats_below {n : Nat} : ∀ {ds : List PyData}, (∀ d ∈ ds, isBelow n d = true) → ∃ r : List Nat, ds = r.map nI ∧ ∀ x ∈ r, x < n
  | [], _ => ⟨[], rfl, fun _ h => by cases h⟩
  | d :: ds, h => by
    obtain ⟨r, rfl, q⟩ := nats_below fun d hd => h d (.tail _ hd)
    obtain ⟨y, rfl, hy⟩ := below_inv (h _ (.head _))
    exact ⟨y :: r, rfl, fun x hx => by
      rcases List.mem_cons.mp hx with rfl | hx
      · exact hy
      · exact q x hx⟩
theorem below_nI {n y : Nat} (h : y < n) : isBelow n (nI y) = true := by
  show (decide (0 ≤ (y : Int)) && decide ((y : Int) < (n : Int))) = true
  rw [Bool.and_eq_true, decide_eq_true_eq, decide_eq_true_eq]; omega
theorem climb_ok {r : List Nat} {m : Nat} (hr : ∀ x ∈ r, x < m) (rl : r.length < 64) {f : En → Sto → R W} {ρ : En} {s : Sto} (hf : f ρ s = .ok (.d (lotD r)) s) :
    asB (dBin (vEq true) (dCall gListOf (dCons f dNil)) (dCall gSortedSetIT (dCons f dNil)) ρ s) = .ok (!lotB m (lotD r)) s := by
  have sorted : gSortedSetIT [.d (lotD r)] s = .ok (.d (.list ((srtU (zs r)).map .int))) s := by
    have e : lotD r = .tuple ((zs r).map .int) := by rw [← nI_zs]; try rfl
    rw [e]
    unfold gSortedSetIT
    simp only [asD, asInts_map]
    exact chk_ok (by rw [List.length_map]; exact rl)
  have eq : vEq true (.d (.list (r.map nI))) (.d (.list ((srtU (zs r)).map .int))) s = .ok (.d (.bool (!decide (zs r = srtU (zs r))))) s := by
    rw [nI_zs]
    show chk _ _ = _
    rw [chk_ok ⟨(Dk.lst (k := 0) fun x hx => by obtain ⟨i, _, rfl⟩ := List.mem_map.mp hx; exact Dk.int _).shaped (by decide), (Dk.lst (k := 0) fun x hx => by obtain ⟨i, _, rfl⟩ := List.mem_map.mp hx; exact Dk.int _).shaped (by decide)⟩]
    have e : PyData.eqv (.list ((zs r).map .int)) (.list ((srtU (zs r)).map .int)) = decide (zs r = srtU (zs r)) := eqv_is _ _
    show R.ok (W.d (.bool (true ^^ PyData.eqv (.list ((zs r).map .int)) (.list ((srtU (zs r)).map .int))))) s = _
    rw [e, Bool.true_xor]
  have same : decide (zs r = srtU (zs r)) = lotB m (lotD r) := by
    rw [Bool.eq_iff_iff, decide_eq_true_iff, lotB_iff]
    constructor
    · intro z
      have p := srtU_pw (zs r)
      rw [← z] at p
      exact ⟨r, lot_of_zs hr p, rfl⟩
    · rintro ⟨l, lo, e⟩
      have e : r = l := by
        have e1 : r.map nI = l.map nI := by injection e
        exact (List.map_inj_right fun a b q => by injection q with q; omega).mp e1
      subst e
      exact srtU_uniq (pw_zs lo.pw) fun _ => Iff.rfl
  rw [← same]
  exact asB_ok (dBin_ok (dCall_ok (dCons1_ok hf) (by simp [gListOf] <;> rfl)) (dCall_ok (dCons1_ok hf) sorted) eq)
section
variable {D : List Nat} {n k : Nat} {d : PyData}
abbrev EJ (D : List Nat) (d : PyData) (x2 x3 : Option W) : En := [some (.d (lotD D)), some (.d d), x2, x3]
noncomputable abbrev T1j : En → Sto → R Bool := (dOr (dNot (fun ρ st => asB ((dIsi ["tuple"] (dVar 2)) ρ st))) (dOr (fun ρ st => asB (dBin (vEq true) (dCall gLen (dCons (dVar 2) dNil)) (dLit (.int 2)) ρ st)) (dOr (dNot (fun ρ st => asB ((dCalP 3 F_l_is_count (dCons (dBin vIx (dVar 2) (dLit (.int 0))) (dCons (dLit (.int 1)) (dCons (dLit (.int 60)) dNil)))) ρ st))) (dNot (fun ρ st => asB ((dIsi ["tuple"] (dBin vIx (dVar 2) (dLit (.int 1)))) ρ st))))))
noncomputable abbrev T2j : En → Sto → R Bool := (dOr (fun ρ st => asB (dBin (vEq true) (dLcF (dLc [3] (dIter (dBin vIx (dVar 2) (dLit (.int 1)))) (tName 3) (dNot (fun ρ st => asB ((dCalP 3 F_l_is_count (dCons (dVar 3) (dCons (dLit (.int 0)) (dCons (dBin vSub (dCall gLen (dCons (dVar 0) dNil)) (dLit (.int 1))) dNil)))) ρ st))) (dVar 3))) (dLst dNil) ρ st)) (fun ρ st => asB (dBin (vEq true) (dCall gListOf (dCons (dBin vIx (dVar 2) (dLit (.int 1))) dNil)) (dCall gSortedSetIT (dCons (dBin vIx (dVar 2) (dLit (.int 1))) dNil)) ρ st)))
theorem isi_tupF {d : PyData} {f : En → Sto → R W} {ρ : En} {s s1 : Sto} (h : Pl d) (hv : f ρ s = .ok (.d d) s1) : dIsi ["tuple"] f ρ s = .ok (.d (.bool (isTup d))) s1 := by
  have e : dIsi ["tuple"] f ρ s = dIsi ["tuple"] (dVar 0) [some (.d d)] s1 := by
    unfold dIsi
    rw [hv, R.bind_ok, dVar_ok (w := .d d) rfl, R.bind_ok]
  rw [e]
  exact isi_tup h rfl
theorem job_step {j : Nat} {x : PyData} (hx : Wd n j x) (hn : n ≤ 63) (hk : j ≤ 40) {x2 : Option W} : (jobB D.length x = true → T1j (EJ D d (some (.d x)) none) [] = .ok false [] ∧ T2j (EJ D d (some (.d x)) none) [] = .ok false []) ∧ (jobB D.length x = false → T1j (EJ D d (some (.d x)) none) [] = .ok true [] ∨ (T1j (EJ D d (some (.d x)) none) [] = .ok false [] ∧ T2j (EJ D d (some (.d x)) none) [] = .ok true [])) := by
  let E := EJ D d (some (.d x)) none
  have ti := isi_tup (ρ := E) (s := []) (i := 2) hx.pl rfl
  cases ht : isTup x with
  | false =>
    rw [ht] at ti
    exact ⟨fun q => (by rw [jobB_not ht] at q; cases q), fun _ => .inl (or_t (dNot_ok (b := false) (asB_ok ti)))⟩
  | true =>
    rw [ht] at ti
    obtain ⟨ds, rfl⟩ : ∃ ds, x = .tuple ds := by cases x <;> first | exact ⟨_, rfl⟩ | cases ht
    have u1 := dNot_ok (b := true) (t := fun ρ st => asB ((dIsi ["tuple"] (dVar 2)) ρ st)) (asB_ok ti)
    have u2 : asB (dBin (vEq true) (dCall gLen (dCons (dVar 2) dNil)) (dLit (.int 2)) E []) = .ok (!decide (ds.length = 2)) [] := asB_ok (dBin_ok (dCall_ok (dCons1_ok (dVar_ok rfl)) (BP.gLen_tup ds [])) dLit_ok (vNe_nat (j := 2)))
    by_cases h2 : ds.length = 2
    · obtain ⟨a, b, rfl⟩ := two_of h2
      obtain ⟨_, i, rfl, hj⟩ := hx.tup_inv
      have ha := hj a (by simp)
      have hb := hj b (by simp)
      rw [decide_eq_true h2] at u2
      have x0 : dBin vIx (dVar 2) (dLit (.int 0)) E [] = .ok (.d a) [] := dBin_ok (dVar_ok rfl) dLit_ok (vIx_tup (j := 0) rfl)
      have x1 : dBin vIx (dVar 2) (dLit (.int 1)) E [] = .ok (.d b) [] := dBin_ok (dVar_ok rfl) dLit_ok (vIx_tup (j := 1) rfl)
      have u3 := dNot_ok (t := fun ρ st => asB ((dCalP 3 F_l_is_count (dCons (dBin vIx (dVar 2) (dLit (.int 0))) (dCons (dLit (.int 1)) (dCons (dLit (.int 60)) dNil)))) ρ st)) (asB_ok (dCalP_ok (dCons_ok x0 (dCons_ok dLit_ok (dCons1_ok dLit_ok))) rfl rfl (l_count_g (a := 1) (b := 60) ha.pl)))
      have u4 := dNot_ok (t := fun ρ st => asB ((dIsi ["tuple"] (dBin vIx (dVar 2) (dLit (.int 1)))) ρ st)) (asB_ok (isi_tupF hb.pl x1))
      show ((cntB 1 60 a && lotB D.length b) = true → _) ∧ ((cntB 1 60 a && lotB D.length b) = false → _)
      cases c : cntB 1 60 a with
      | false =>
        rw [c] at u3
        exact ⟨fun q => absurd q (by simp), fun _ => .inl (or_f u1 (or_f u2 (or_t u3)))⟩
      | true =>
        rw [c] at u3
        rw [Bool.true_and]
        cases tb : isTup b with
        | false =>
          rw [tb] at u4
          have nb : lotB D.length b = false := lotB_no fun ⟨l, _, q⟩ => by rw [q] at tb; cases tb
          exact ⟨fun q => (by rw [nb] at q; cases q), fun _ => .inl (or_f u1 (or_f u2 (or_f u3 u4)))⟩
        | true =>
          rw [tb] at u4
          have t1 : T1j E [] = .ok false [] := or_f u1 (or_f u2 (or_f u3 u4))
          obtain ⟨bs, rfl⟩ : ∃ bs, b = .tuple bs := by cases b <;> first | exact ⟨_, rfl⟩ | cases tb
          obtain ⟨bl, i', rfl, hb'⟩ := hb.tup_inv
          have lc := odd_row (v := 3) (a := 0) (b := (D.length : Int) - 1) (fi := dIter (dBin vIx (dVar 2) (dLit (.int 1)))) (fa := dLit (.int 0)) (fb := dBin vSub (dCall gLen (dCons (dVar 0) dNil)) (dLit (.int 1))) (ρ := E) (s := []) (it_ds x1) hb' bl (by omega) (by show 3 < 4; omega) (fun w => dLit_ok) (fun w => dBin_ok (dCall_ok (dCons1_ok (dVar_ok rfl)) gLen_tmap) dLit_ok rfl)
          have sh : SeqAt.shaped (.list (bs.filter fun d => !cntB 0 ((D.length : Int) - 1) d)) = true := (Wd.lst (n := n) (k := i') (fun x hx => hb' x (List.mem_filter.mp hx).1) (Nat.le_trans (List.length_filter_le _ _) bl)).shaped (by omega)
          have v1 : asB (dBin (vEq true) (dLcF (dLc [3] (dIter (dBin vIx (dVar 2) (dLit (.int 1)))) (tName 3) (dNot (fun ρ st => asB ((dCalP 3 F_l_is_count (dCons (dVar 3) (dCons (dLit (.int 0)) (dCons (dBin vSub (dCall gLen (dCons (dVar 0) dNil)) (dLit (.int 1))) dNil)))) ρ st))) (dVar 3))) (dLst dNil) E []) = .ok (!(bs.all fun d => cntB 0 ((D.length : Int) - 1) d)) [] := by
            rw [← empty_all]
            exact asB_ok (dBin_ok lc (lst_ok (ds := []) rfl rfl (by simp)) (by rw [eq_nilD sh, Bool.true_xor]))
          have ae : (bs.all fun d => cntB 0 ((D.length : Int) - 1) d) = bs.all (isBelow D.length) := by
            refine congrArg (fun p => bs.all p) (funext fun d => cnt_below)
          rw [ae] at v1
          cases e : bs.all (isBelow D.length) with
          | false =>
            rw [e] at v1
            have nb : lotB D.length (.tuple bs) = false := lotB_no fun ⟨l, lo, q⟩ => by
              cases q
              have := below_all lo.lt
              rw [← nI_zs] at this
              rw [this] at e
              cases e
            exact ⟨fun q => (by rw [nb] at q; cases q), fun _ => .inr ⟨t1, or_t v1⟩⟩
          | true =>
            rw [e] at v1
            obtain ⟨r, rfl, hr⟩ := nats_below (n := D.length) (ds := bs) (List.all_eq_true.mp e)
            rw [List.length_map] at bl
            have v2 := climb_ok (m := D.length) hr (by omega) x1
            refine ⟨fun q => ?_, fun q => .inr ?_⟩
            · have q' : lotB D.length (lotD r) = true := q
              rw [q'] at v2
              exact ⟨t1, or_f v1 v2⟩
            · have q' : lotB D.length (lotD r) = false := q
              rw [q'] at v2
              exact ⟨t1, or_f v1 v2⟩
    · rw [decide_eq_false h2] at u2
      exact ⟨fun q => (by rw [jobB_len h2] at q; cases q), fun _ => .inl (or_f u1 (or_t u2))⟩
theorem l_are_jobs_g (h : Wd n k d) (hn : n ≤ 63) (hk : k ≤ 40) : F_l_are_jobs [.d (lotD D), .d d] [] = .ok (.d (.bool (jobsB D.length d))) [] := by
  have ti := isi_tup (ρ := EJ D d none none) (s := []) (i := 1) h.pl rfl
  cases ht : isTup d with
  | false =>
    rw [ht] at ti
    have : jobsB D.length d = false := by cases d <;> first | rfl | cases ht
    rw [this]
    exact dDef_rt (dSeq_rt (dIfS_t (or_t (dNot_ok (b := false) (asB_ok ti))) (dRet_ok dLit_ok)))
  | true =>
    rw [ht] at ti
    obtain ⟨ds, rfl⟩ : ∃ ds, d = .tuple ds := by cases d <;> first | exact ⟨_, rfl⟩ | cases ht
    obtain ⟨hl, j, rfl, hj⟩ := h.tup_inv
    have t2 : asB (dBin vGt (dCall gLen (dCons (dVar 1) dNil)) (dLit (.int 14)) (EJ D (.tuple ds) none none) []) = .ok (!decide (ds.length ≤ 14)) [] := asB_ok (dBin_ok (dCall_ok (dCons1_ok (dVar_ok rfl)) (BP.gLen_tup ds [])) dLit_ok gt14)
    show F_l_are_jobs _ [] = .ok (.d (.bool (decide (ds.length ≤ 14) && ds.all (jobB D.length)))) []
    cases c : decide (ds.length ≤ 14) with
    | false =>
      rw [c] at t2
      exact dDef_rt (dSeq_rt (dIfS_t (or_f (dNot_ok (b := true) (asB_ok ti)) t2) (dRet_ok dLit_ok)))
    | true =>
      rw [c] at t2
      obtain ⟨y, no⟩ := forL_all (tg := tName 2) (body := dSeq (dIfS T1j (dRet (dLit (.bool false))) dEnd) (dIfS T2j (dRet (dLit (.bool false))) dEnd)) (emb := fun d => W.d d) (p := jobB D.length) (J := fun ρ => ∃ x2, ρ = EJ D (.tuple ds) x2 none) (s := []) ds (fun x hx ρ q => by
        obtain ⟨x2, rfl⟩ := q
        obtain ⟨g1, g2⟩ := job_step (D := D) (d := .tuple ds) (hj x hx) hn (by omega) (x2 := none)
        refine ⟨EJ D (.tuple ds) (some (.d x)) none, EJ D (.tuple ds) (some (.d x)) none, rfl, ?_, _, rfl⟩
        cases z : jobB D.length x with
        | true =>
          obtain ⟨a1, a2⟩ := g1 z
          rw [if_pos rfl]
          exact to (dIfS_f a1 rfl) (dIfS_f a2 rfl)
        | false =>
          rw [if_neg (by simp)]
          rcases g2 z with a1 | ⟨a1, a2⟩
          · exact dSeq_rt (dIfS_t a1 (dRet_ok dLit_ok))
          · exact to (dIfS_f a1 rfl) (dIfS_t a2 (dRet_ok dLit_ok))) (EJ D (.tuple ds) none none) ⟨_, rfl⟩
      have g0 : dIfS (dOr (dNot (fun ρ st => asB ((dIsi ["tuple"] (dVar 1)) ρ st))) (fun ρ st => asB (dBin vGt (dCall gLen (dCons (dVar 1) dNil)) (dLit (.int 14)) ρ st))) (dRet (dLit (.bool false))) dEnd (EJ D (.tuple ds) none none) [] = .ok (.nx, EJ D (.tuple ds) none none) [] := dIfS_f (or_f (dNot_ok (b := true) (asB_ok ti)) t2) rfl
      have it := it_ds (f := dVar 1) (ρ := EJ D (.tuple ds) none none) (s := []) (ds := ds) (dVar_ok rfl)
      rw [Bool.true_and]
      cases z : ds.all (jobB D.length) with
      | true =>
        obtain ⟨ρ', f, _⟩ := y z
        exact dDef_rt (to g0 (to (dFor_ok it f) (dRet_ok dLit_ok)))
      | false =>
        obtain ⟨ρ', f⟩ := no z
        exact dDef_rt (to g0 (dSeq_rt (dFor_ok it f)))
end
end CAL
namespace CAL
open PySem PySem.Spec PyProof.Rows L2 Y BL BP
local macro_rules
  | `(tactic| trivial) => `(tactic| first
    | with_reducible assumption
    | ((with_reducible apply dVar_ok); rfl)
    | with_reducible exact dLit_ok
    | with_reducible exact dNil_ok
    | ((with_reducible apply dCons_ok) <;> trivial)
    | ((with_reducible apply asB_ok); trivial)
    | ((with_reducible apply dBin_ok) <;> trivial)
    | ((with_reducible apply dCall_ok) <;> trivial)
    | ((with_reducible apply dCalP_ok); trivial; rfl; rfl; (with_reducible assumption))
    | ((with_reducible apply dCal_ok); trivial; rfl; (with_reducible assumption))
    | ((with_reducible apply and_ok) <;> trivial)
    | ((with_reducible apply or_ok) <;> trivial)
    | ((with_reducible apply dNot_ok); trivial)
    | ((with_reducible apply dSet_ok); trivial)
    | ((with_reducible apply dRet_ok); trivial)
    | with_reducible exact vIn_nat
    | with_reducible exact vNotIn_nat
    | with_reducible exact vIn_natL
    | with_reducible exact vNotIn_natL
    | with_reducible exact vIn_pair
    | with_reducible exact gLen_tmap
    | with_reducible exact gLen_map
    | with_reducible exact tupleOf_list
    | with_reducible exact vEq_nat
    | with_reducible exact vEq_int
    | with_reducible exact vNe_int
    | exact rfl)
abbrev Jb := Nat × List Nat
abbrev jobE (j : Jb) : PyData := .tuple [nI j.1, lotD j.2]
abbrev jobsD (js : List Jb) : PyData := .tuple (js.map jobE)
def step (L : List Int) (p : Jb × Nat) : List Int := L.set p.2 (L.getD p.2 0 - (p.1.1 : Int))
def leftF (D : List Nat) (ps : List (Jb × Nat)) : List Int := ps.foldl step (zs D)
theorem step_len (ps : List (Jb × Nat)) : ∀ L : List Int, (ps.foldl step L).length = L.length := by
  induction ps with
  | nil => exact fun L => rfl
  | cons p ps ih => exact fun L => (ih _).trans (by unfold step; rw [List.length_set])
theorem left_len {D : List Nat} {ps : List (Jb × Nat)} : (leftF D ps).length = D.length := by unfold leftF; rw [step_len]; simp
theorem left_snoc {D : List Nat} {ps : List (Jb × Nat)} {p : Jb × Nat} : leftF D (ps ++ [p]) = step (leftF D ps) p := by unfold leftF; rw [List.foldl_append]; rfl
abbrev iL (L : List Int) : SO := .lst (L.map fun z => W.d (.int z))
theorem ixN_nat {n i : Nat} (h : i < n) : ixN n (i : Int) = some i := by
  unfold ixN
  simp
  omega
theorem augL_ok {f : Int → Int → Int} {fo fi fe : En → Sto → R W} {ρ : En} {s : Sto} {n i : Nat} {L : List Int} {y : Int} (h1 : fo ρ s = .ok (.ref n) s) (h2 : fi ρ s = .ok (nW i) s) (h3 : s[n]? = some (iL L)) (hi : i < L.length) (h4 : fe ρ s = .ok (.d (.int y)) s) : dAugL f fo fi fe ρ s = .ok (.nx, ρ) (s.set n (iL (L.set i (f (L.getD i 0) y)))) := by
  unfold dAugL
  rw [h1, R.bind_ok, h2, R.bind_ok]
  try dsimp only
  rw [h3]
  try dsimp only
  rw [ixN_nat (by rw [List.length_map]; exact hi)]
  try dsimp only
  have e : (L.map fun z => W.d (.int z))[i]? = some (W.d (.int (L.getD i 0))) := by
    rw [List.getElem?_map, List.getElem?_eq_getElem hi, List.getD_eq_getElem?_getD, List.getElem?_eq_getElem hi]; rfl
  rw [if_pos (by omega), e]
  try dsimp only
  rw [h4, R.bind_ok]
  try dsimp only
  rw [h3]
  try dsimp only
  have e2 : ∀ z, iL (L.set i z) = .lst ((L.map fun z => W.d (.int z)).set i (W.d (.int z))) := fun z => by show SO.lst _ = _; rw [List.map_set]
  rw [if_pos rfl, e2]
theorem tuple_iL {n : Nat} {s : Sto} {L : List Int} (h : s[n]? = some (iL L)) : gTupleOf [.ref n] s = .ok (.d (.tuple (L.map .int))) s := by
  have e : asD s (.ref n) = some (.list (L.map .int)) := by
    show (match s[n]? with | some (.lst ws) => (allD ws).map PyData.list | _ => none) = _
    rw [h]
    dsimp only
    have : (L.map fun z => W.d (.int z)) = (L.map PyData.int).map W.d := by rw [List.map_map]; rfl
    rw [this, allD_map]; rfl
  show (match asD s (.ref n) with | some (.list ds) => R.ok (W.d (.tuple ds)) s | _ => R.bad) = _
  rw [e]
theorem vIx_iL {n i : Nat} {s : Sto} {L : List Int} (h : s[n]? = some (iL L)) (hi : i < L.length) : vIx (.ref n) (nW i) s = .ok (.d (.int (L.getD i 0))) s := vIx_ref h (by
  rw [List.getElem?_map, List.getElem?_eq_getElem hi, List.getD_eq_getElem?_getD, List.getElem?_eq_getElem hi]; rfl)
theorem new_iL {f : En → Sto → R W} {ρ : En} {s : Sto} {D : List Nat} (h : f ρ s = .ok (.d (lotD D)) s) : dCall gListNew (dCons f dNil) ρ s = .ok (.ref s.length) (s ++ [iL (zs D)]) := by
  refine dCall_ok (dCons1_ok h) ?_
  show Y.R.ok (W.ref s.length) (s ++ [.lst ((D.map nI).map W.d)]) = _
  congr 4
  rw [List.map_map, List.map_map]; rfl
theorem zip_jobs {fa fb : En → Sto → R W} {ρ : En} {s : Sto} {js : List Jb} {w : List Nat} (h1 : fa ρ s = .ok (.d (jobsD js)) s) (h2 : fb ρ s = .ok (.d (lotD w)) s) : dZip (dCons fa (dCons fb dNil)) ρ s = .ok ((js.zip w).map fun p => W.d (.tuple [jobE p.1, nI p.2])) s := by
  unfold dZip
  rw [dCons_ok h1 (dCons1_ok h2), R.bind_ok]
  show Y.R.ok (zipD (js.map jobE) (w.map nI)) s = _
  unfold zipD
  rw [List.zip_map, List.map_map]; rfl
theorem zip_days {fa fb : En → Sto → R W} {ρ : En} {s : Sto} {js : List Jb} {w : List Nat} (h1 : fa ρ s = .ok (.d (lotD w)) s) (h2 : fb ρ s = .ok (.d (jobsD js)) s) : dZip (dCons fa (dCons fb dNil)) ρ s = .ok ((w.zip js).map fun p => W.d (.tuple [nI p.1, jobE p.2])) s := by
  unfold dZip
  rw [dCons_ok h1 (dCons1_ok h2), R.bind_ok]
  show Y.R.ok (zipD (w.map nI) (js.map jobE)) s = _
  unfold zipD
  rw [List.zip_map, List.map_map]; rfl
noncomputable def B_left_over : DS :=
  (dSeq (dSet 4 (dCall gListNew (dCons (dVar 0) dNil)))
    (dSeq (dFor (dZip (dCons (dSl (dVar 1) dNoP (dPart (dVar 3))) (dCons (dVar 2) dNil))) (tTup' 2 (tCons' (tTup' 2 (tCons' (tName 5) (tCons' (tName 6) tNil'))) (tCons' (tName 7) tNil')))
    (dAugL (fun i j => i - j) (dVar 4) (dVar 7) (dVar 5)))
    (dRet (dCall gTupleOf (dCons (dVar 4) dNil)))))
noncomputable def F_left_over : Fn := dDef 8 B_left_over
theorem left_over_ok {D : List Nat} {js : List Jb} {w : List Nat} {m : Nat} (hw : ∀ x ∈ w, x < D.length) : ∃ t, F_left_over [.d (lotD D), .d (jobsD js), .d (lotD w), nW m] [] = .ok (.d (.tuple ((leftF D ((js.take m).zip w)).map .int))) t := by
  let E : Option W → Option W → Option W → Option W → En := fun x4 x5 x6 x7 => [some (.d (lotD D)), some (.d (jobsD js)), some (.d (lotD w)), some (nW m), x4, x5, x6, x7]
  have g1 : dSet 4 (dCall gListNew (dCons (dVar 0) dNil)) (E none none none none) [] = .ok (.nx, E (some (.ref 0)) none none none) [iL (zs D)] := dSet_ok (new_iL (dVar_ok rfl))
  have sl : dSl (dVar 1) dNoP (dPart (dVar 3)) (E (some (.ref 0)) none none none) [iL (zs D)] = .ok (.d (jobsD (js.take m))) [iL (zs D)] := by
    have := BP.sl_ok (fe := dVar 1) (lo := dNoP) (hi := dPart (dVar 3)) (ρ := E (some (.ref 0)) none none none) (s := [iL (zs D)]) (s1 := [iL (zs D)]) (ds := js.map jobE) (a := none) (b := some (m : Int)) (dVar_ok rfl) rfl (dPart_ok (dVar_ok rfl))
    rw [this, BL.cut_take, ← List.map_take]
  obtain ⟨ρ', s', f, y5, y6, y7, rfl, rfl⟩ := forL_ok (tg := tTup' 2 (tCons' (tTup' 2 (tCons' (tName 5) (tCons' (tName 6) tNil'))) (tCons' (tName 7) tNil'))) (body := dAugL (fun i j => i - j) (dVar 4) (dVar 7) (dVar 5)) (emb := fun p : Jb × Nat => W.d (.tuple [jobE p.1, nI p.2]))
    (P := fun pre ρ s => ∃ y5 y6 y7, ρ = E (some (.ref 0)) y5 y6 y7 ∧ s = [iL (leftF D pre)]) ((js.take m).zip w)
    (fun pre p post ρ s e q => by
      obtain ⟨y5, y6, y7, rfl, rfl⟩ := q
      have hp : p.2 < D.length := hw p.2 (List.of_mem_zip (show (p.1, p.2) ∈ (js.take m).zip w by rw [e]; simp)).2
      refine ⟨E (some (.ref 0)) (some (nW p.1.1)) (some (.d (lotD p.1.2))) (some (nW p.2)), _, _, _, rfl, augL_ok (L := leftF D pre) (dVar_ok rfl) (dVar_ok rfl) rfl (by rw [left_len]; exact hp) (dVar_ok rfl), _, _, _, rfl, ?_⟩
      rw [left_snoc]; rfl)
    (ρ := E (some (.ref 0)) none none none) (s := [iL (zs D)]) ⟨_, _, _, rfl, rfl⟩
  exact ⟨_, dDef_rt (to g1 (to (dFor_ok (zip_jobs sl (dVar_ok rfl)) f) (dRet_ok (dCall_ok (dCons1_ok (dVar_ok rfl)) (tuple_iL rfl)))))⟩
def fitL (D : List Nat) (js : List Jb) (w : List Nat) : Bool := (w.zip js).all (fun p => decide (p.1 ∈ p.2.2)) && (leftF D (js.zip w)).all fun z => decide (0 ≤ z)
def IsTT (D : List Nat) (js : List Jb) (d : PyData) : Prop := ∃ w : List Nat, d = lotD w ∧ (∀ x ∈ w, x < D.length) ∧ w.length = js.length ∧ fitL D js w = true
open Classical in
noncomputable def ttB (D : List Nat) (js : List Jb) (d : PyData) : Bool := decide (IsTT D js d)
open Classical in
theorem ttB_no {D : List Nat} {js : List Jb} {d : PyData} (h : ¬ IsTT D js d) : ttB D js d = false := by unfold ttB; exact decide_eq_false h
open Classical in
theorem ttB_yes {D : List Nat} {js : List Jb} {d : PyData} (h : IsTT D js d) : ttB D js d = true := by unfold ttB; exact decide_eq_true h
theorem lot_inj {a b : List Nat} (h : lotD a = lotD b) : a = b := by
  have e1 : a.map nI = b.map nI := by injection h
  exact (List.map_inj_right fun a b q => by injection q with q; omega).mp e1
theorem ttB_lot {D : List Nat} {js : List Jb} {w : List Nat} (h1 : ∀ x ∈ w, x < D.length) (h2 : w.length = js.length) : ttB D js (lotD w) = fitL D js w := by
  cases c : fitL D js w with
  | true => exact ttB_yes ⟨w, rfl, h1, h2, c⟩
  | false =>
    refine ttB_no fun ⟨w', e, _, _, q⟩ => ?_
    have := lot_inj e
    subst this
    rw [q] at c
    cases c
noncomputable def B_is_timetable : DS :=
  (dSeq (dIfS (dOr (dNot (fun ρ st => asB ((dCalP 2 F_are_below (dCons (dCall gLen (dCons (dVar 0) dNil)) (dCons (dVar 2) dNil))) ρ st))) (fun ρ st => asB (dBin (vEq true) (dCall gLen (dCons (dVar 2) dNil)) (dCall gLen (dCons (dVar 1) dNil)) ρ st)))
    (dRet (dLit (.bool false)))
    dEnd)
    (dSeq (dIfS (dNot (fun ρ st => asB ((dCall gAll (dCons (dLcF (dLc [3, 4, 5] (dZip (dCons (dVar 2) (dCons (dVar 1) dNil))) (tTup' 2 (tCons' (tName 3) (tCons' (tTup' 2 (tCons' (tName 4) (tCons' (tName 5) tNil'))) tNil'))) (fun _ st => .ok true st) (dBin (vIn false) (dVar 3) (dVar 5)))) dNil)) ρ st)))
    (dRet (dLit (.bool false)))
    dEnd)
    (dRet (dCall gAll (dCons (dLcF (dLc [6] (dIter (dCalP 4 F_left_over (dCons (dVar 0) (dCons (dVar 1) (dCons (dVar 2) (dCons (dCall gLen (dCons (dVar 1) dNil)) dNil)))))) (tName 6) (fun _ st => .ok true st) (dBin vGe (dVar 6) (dLit (.int 0))))) dNil)))))
noncomputable def F_is_timetable : Fn := dDef 7 B_is_timetable
section
variable {D : List Nat} {js : List Jb} {n k : Nat} {d : PyData}
theorem is_tt_g (h : Wd n k d) (hn : n ≤ 1000) (hD : D.length ≤ 1000) (hJ : js.length ≤ 1000) : F_is_timetable [.d (lotD D), .d (jobsD js), .d d] [] = .ok (.d (.bool (ttB D js d))) [] := by
  let E : Option W → En := fun x6 => [some (.d (lotD D)), some (.d (jobsD js)), some (.d d), none, none, none, x6]
  have gl : ∀ {s : Sto} {x6 : Option W}, dCall gLen (dCons (dVar 0) dNil) (E x6) s = .ok (nW D.length) s := fun {s x6} => dCall_ok (dCons1_ok (dVar_ok rfl)) gLen_tmap
  have gj : ∀ {s : Sto} {x6 : Option W}, dCall gLen (dCons (dVar 1) dNil) (E x6) s = .ok (nW js.length) s := fun {s x6} => dCall_ok (dCons1_ok (dVar_ok rfl)) gLen_tmap
  have bad : ∀ {b : Bool}, F_are_below [nW D.length, .d d] [] = .ok (.d (.bool false)) [] → F_is_timetable [.d (lotD D), .d (jobsD js), .d d] [] = .ok (.d (.bool false)) [] := fun {b} q =>
    dDef_rt (dSeq_rt (dIfS_t (or_t (dNot_ok (b := false) (asB_ok (dCalP_ok (dCons_ok gl (dCons1_ok (dVar_ok rfl))) rfl rfl q)))) (dRet_ok dLit_ok)))
  cases ht : isTup d with
  | false =>
    rw [ttB_no (fun ⟨w, q, _⟩ => by rw [q] at ht; cases ht)]
    exact bad (b := true) (F_are_below_not h.pl ht)
  | true =>
    obtain ⟨ds, rfl⟩ : ∃ ds, d = .tuple ds := by cases d <;> first | exact ⟨_, rfl⟩ | cases ht
    obtain ⟨hl, j, rfl, hj⟩ := h.tup_inv
    have bl := F_are_below_tup (n := (D.length : Int)) (ds := ds) (fun d hd => (hj d hd).pl) (by omega)
    cases hb : ds.all (isBelow D.length) with
    | false =>
      rw [hb] at bl
      rw [ttB_no (fun ⟨w, q, lt, _⟩ => by
        cases q
        have := below_all lt
        rw [← nI_zs] at this
        rw [this] at hb
        cases hb)]
      exact bad (b := true) bl
    | true =>
      rw [hb] at bl
      obtain ⟨w, rfl, hw⟩ := nats_below (n := D.length) (ds := ds) (List.all_eq_true.mp hb)
      rw [List.length_map] at hl
      have u1 := dNot_ok (s := []) (s1 := []) (b := true) (t := fun ρ st => asB ((dCalP 2 F_are_below (dCons (dCall gLen (dCons (dVar 0) dNil)) (dCons (dVar 2) dNil))) ρ st)) (asB_ok (dCalP_ok (dCons_ok gl (dCons1_ok (dVar_ok (ρ := E none) rfl))) rfl rfl bl))
      have u2 : asB (dBin (vEq true) (dCall gLen (dCons (dVar 2) dNil)) (dCall gLen (dCons (dVar 1) dNil)) (E none) []) = .ok (!decide (w.length = js.length)) [] := asB_ok (dBin_ok (dCall_ok (dCons1_ok (dVar_ok rfl)) gLen_tmap) gj vNe_nat)
      by_cases el : w.length = js.length
      · rw [decide_eq_true el] at u2
        have eB : ttB D js (.tuple (w.map nI)) = fitL D js w := ttB_lot hw el
        rw [eB]
        have c1 := lc_mp (vs := [3, 4, 5]) (fi := dZip (dCons (dVar 2) (dCons (dVar 1) dNil))) (tg := tTup' 2 (tCons' (tName 3) (tCons' (tTup' 2 (tCons' (tName 4) (tCons' (tName 5) tNil'))) tNil'))) (fe := dBin (vIn false) (dVar 3) (dVar 5)) (ρ := E none) (s := []) (s1 := []) (emb := fun p : Nat × Jb => W.d (.tuple [nI p.1, jobE p.2])) (g := fun p => .bool (decide (p.1 ∈ p.2.2))) (w.zip js) (zip_days (dVar_ok rfl) (dVar_ok rfl)) (by rw [List.length_zip]; omega) fun p _ => ⟨[some (.d (lotD D)), some (.d (jobsD js)), some (.d (lotD w)), some (nW p.1), some (nW p.2.1), some (.d (lotD p.2.2)), none], rfl, dBin_ok (dVar_ok rfl) (dVar_ok rfl) vIn_nat⟩
        have t3 := dNot_ok (s := []) (s1 := []) (t := fun ρ st => asB ((dCall gAll (dCons (dLcF (dLc [3, 4, 5] (dZip (dCons (dVar 2) (dCons (dVar 1) dNil))) (tTup' 2 (tCons' (tName 3) (tCons' (tTup' 2 (tCons' (tName 4) (tCons' (tName 5) tNil'))) tNil'))) (fun _ st => .ok true st) (dBin (vIn false) (dVar 3) (dVar 5)))) dNil)) ρ st)) (asB_ok (dCall_ok (dCons1_ok c1) (BR.all_map _)))
        unfold fitL
        cases c : (w.zip js).all (fun p => decide (p.1 ∈ p.2.2)) with
        | false =>
          rw [c] at t3
          exact dDef_rt (to (dIfS_f (or_f u1 u2) rfl) (dSeq_rt (dIfS_t t3 (dRet_ok dLit_ok))))
        | true =>
          rw [c] at t3
          obtain ⟨t, lo⟩ := left_over_ok (js := js) (m := js.length) hw
          rw [List.take_length] at lo
          have c2 := lc_mp (vs := [6]) (fi := dIter (dCalP 4 F_left_over (dCons (dVar 0) (dCons (dVar 1) (dCons (dVar 2) (dCons (dCall gLen (dCons (dVar 1) dNil)) dNil)))))) (tg := tName 6) (fe := dBin vGe (dVar 6) (dLit (.int 0))) (ρ := E none) (s := []) (s1 := []) (emb := fun z : Int => W.d (.int z)) (g := fun z => .bool (decide (0 ≤ z))) (leftF D (js.zip w)) (it_t (emb := PyData.int) (dCalP_ok (dCons_ok (dVar_ok rfl) (dCons_ok (dVar_ok rfl) (dCons_ok (dVar_ok rfl) (dCons1_ok gj)))) rfl rfl lo)) (by rw [left_len]; omega) fun z _ => ⟨_, rfl, dBin_ok (dVar_ok rfl) dLit_ok rfl⟩
          rw [Bool.true_and]
          exact dDef_rt (to (dIfS_f (or_f u1 u2) rfl) (to (dIfS_f t3 rfl) (dRet_ok (dCall_ok (dCons1_ok c2) (BR.all_map _)))))
      · rw [decide_eq_false el] at u2
        rw [ttB_no (fun ⟨w', q, _, e, _⟩ => el (by rw [lot_inj (a := w) q]; exact e))]
        exact dDef_rt (dSeq_rt (dIfS_t (or_f u1 u2) (dRet_ok dLit_ok)))
end
end CAL
namespace CAL
open PySem PySem.Spec PyProof.Rows L2 Y BL BP
local macro_rules
  | `(tactic| trivial) => `(tactic| first
    | with_reducible assumption
    | ((with_reducible apply dVar_ok); rfl)
    | with_reducible exact dLit_ok
    | with_reducible exact dNil_ok
    | ((with_reducible apply dCons_ok) <;> trivial)
    | ((with_reducible apply asB_ok); trivial)
    | ((with_reducible apply dBin_ok) <;> trivial)
    | ((with_reducible apply dCall_ok) <;> trivial)
    | ((with_reducible apply dCalP_ok); trivial; rfl; rfl; (with_reducible assumption))
    | ((with_reducible apply dCal_ok); trivial; rfl; (with_reducible assumption))
    | ((with_reducible apply and_ok) <;> trivial)
    | ((with_reducible apply or_ok) <;> trivial)
    | ((with_reducible apply dNot_ok); trivial)
    | ((with_reducible apply dSet_ok); trivial)
    | ((with_reducible apply dRet_ok); trivial)
    | with_reducible exact vIn_nat
    | with_reducible exact vNotIn_nat
    | with_reducible exact vIn_natL
    | with_reducible exact vNotIn_natL
    | with_reducible exact vIn_pair
    | with_reducible exact gLen_tmap
    | with_reducible exact gLen_map
    | with_reducible exact tupleOf_list
    | with_reducible exact vEq_nat
    | with_reducible exact vEq_int
    | with_reducible exact vNe_int
    | exact rfl)
/-- a walk with a state, that says no at the first that fails -/
theorem forL_go {α : Type} {tg : W → En → Sto → R En} {body : DS} {emb : α → W} {p : α → Bool} {P : List α → En → Sto → Prop} (all : List α)
    (step : ∀ pre a post ρ s, all = pre ++ a :: post → P pre ρ s → ∃ ρ1 s1, tg (emb a) ρ s = .ok ρ1 s1 ∧ (p a = true → ∃ ρ2 s2, body ρ1 s1 = .ok (.nx, ρ2) s2 ∧ P (pre ++ [a]) ρ2 s2) ∧ (p a = false → ∃ ρ2 s2, body ρ1 s1 = .ok (.rt (.d (.bool false)), ρ2) s2)) :
    ∀ (post pre : List α) (ρ : En) (s : Sto), all = pre ++ post → P pre ρ s → (post.all p = true → ∃ ρ' s', forL tg body (post.map emb) ρ s = .ok (.nx, ρ') s' ∧ P all ρ' s') ∧ (post.all p = false → ∃ ρ' s', forL tg body (post.map emb) ρ s = .ok (.rt (.d (.bool false)), ρ') s')
  | [], pre, ρ, s, h, q => ⟨fun _ => ⟨ρ, s, rfl, by rw [h, List.append_nil]; exact q⟩, fun z => absurd z (by simp)⟩
  | a :: post, pre, ρ, s, h, q => by
    obtain ⟨ρ1, s1, h1, h2, h3⟩ := step pre a post ρ s h q
    cases c : p a with
    | true =>
      obtain ⟨ρ2, s2, b1, b2⟩ := h2 c
      obtain ⟨i1, i2⟩ := forL_go all step post (pre ++ [a]) ρ2 s2 (by rw [h]; simp) b2
      rw [List.all_cons, c, Bool.true_and]
      refine ⟨fun z => ?_, fun z => ?_⟩
      · obtain ⟨ρ', s', g1, g2⟩ := i1 z
        refine ⟨ρ', s', ?_, g2⟩
        rw [List.map_cons]; unfold forL; rw [h1, R.bind_ok, b1, R.bind_ok]; exact g1
      · obtain ⟨ρ', s', g1⟩ := i2 z
        refine ⟨ρ', s', ?_⟩
        rw [List.map_cons]; unfold forL; rw [h1, R.bind_ok, b1, R.bind_ok]; exact g1
    | false =>
      obtain ⟨ρ2, s2, b1⟩ := h3 c
      rw [List.all_cons, c, Bool.false_and]
      refine ⟨fun z => absurd z (by simp), fun _ => ⟨ρ2, s2, ?_⟩⟩
      rw [List.map_cons]; unfold forL; rw [h1, R.bind_ok, b1, R.bind_ok]
theorem pairs_from : ∀ (ds : List PyData) (k : Nat), pairs k ds = (List.range ds.length).map fun i => W.d (.tuple [nI (k + i), ds.getD i .none])
  | [], k => rfl
  | d :: ds, k => by
    rw [List.length_cons, List.range_succ_eq_map, List.map_cons, List.map_map]
    show W.d (.tuple [.int ((k : Nat) : Int), d]) :: pairs (k + 1) ds = _
    rw [pairs_from ds (k + 1)]
    congr 1
    refine List.map_congr_left fun i _ => ?_
    show W.d (.tuple [nI (k + 1 + i), ds.getD i .none]) = W.d (.tuple [nI (k + (i + 1)), ds.getD i .none])
    rw [show k + 1 + i = k + (i + 1) by omega]
theorem enumT_ds {f : En → Sto → R W} {ρ : En} {s : Sto} {ds : List PyData} (h : f ρ s = .ok (.d (.tuple ds)) s) : dEnumT f ρ s = .ok ((List.range ds.length).map fun i => W.d (.tuple [nI i, ds.getD i .none])) s := by
  unfold dEnumT
  rw [h, R.bind_ok]
  dsimp only
  rw [pairs_from]
  simp only [Nat.zero_add]
theorem fold_min : ∀ (L : List Int) (a : Int), L.foldl min a ≤ a ∧ (∀ x ∈ L, L.foldl min a ≤ x) ∧ (L.foldl min a = a ∨ L.foldl min a ∈ L)
  | [], a => ⟨Int.le_refl _, fun x h => (by cases h), .inl rfl⟩
  | b :: L, a => by
    obtain ⟨h1, h2, h3⟩ := fold_min L (min a b)
    rw [List.foldl_cons]
    refine ⟨by omega, fun x hx => ?_, ?_⟩
    · rcases List.mem_cons.mp hx with rfl | hx
      · omega
      · exact h2 x hx
    · rcases h3 with e | e
      · rcases Int.le_total a b with q | q
        · left; omega
        · right
          rw [e, show min a b = b by omega]
          exact List.mem_cons_self
      · exact .inr (List.mem_cons_of_mem _ e)
theorem depth_ints : ∀ l : List Int, PyData.depthAll (l.map .int) ≤ 60 := fun l => by
  have : PyData.depthAll (l.map .int) = 0 := by
    induction l with
    | nil => rfl
    | cons a l ih =>
      show max (PyData.depth (.int a)) (PyData.depthAll (l.map .int)) = 0
      rw [ih]
      rfl
  omega
theorem alike_ints (l : List Int) : PySem.W.AlikeAll (l.map .int) := ⟨fun x hx y hy => by
  obtain ⟨a, _, rfl⟩ := List.mem_map.mp hx
  obtain ⟨b, _, rfl⟩ := List.mem_map.mp hy
  simp [PySem.W.alike], fun x hx => by
  obtain ⟨a, _, rfl⟩ := List.mem_map.mp hx
  exact fun z => by cases z⟩
open Classical in
theorem min0_ok {L : List Int} {s : Sto} {f g : En → Sto → R W} {ρ : En} (h : f ρ s = .ok (.d (.list (.int 0 :: L.map .int))) s) : dBin (vEq false) (dCall gMinA (dCons f dNil)) (dLit (.int 0)) ρ s = .ok (.d (.bool (L.all fun z => decide (0 ≤ z)))) s := by
  obtain ⟨h1, h2, h3⟩ := fold_min L 0
  have m : gMinA [.d (.list (.int 0 :: L.map .int))] s = .ok (.d (.int (L.foldl min 0))) s := by
    show chk _ (Y.R.ok (W.d (PySem.W.minD (.int 0) (L.map .int))) s) = _
    rw [chk_ok ⟨alike_ints (0 :: L), depth_ints (0 :: L)⟩, PySem.W.minD_ints]
  have e : decide (L.foldl min 0 = 0) = L.all fun z => decide (0 ≤ z) := by
    rw [Bool.eq_iff_iff, decide_eq_true_eq, List.all_eq_true]
    simp only [decide_eq_true_eq]
    constructor
    · intro q x hx
      have := h2 x hx
      omega
    · intro q
      rcases h3 with e | e
      · exact e
      · have := q _ e
        omega
  rw [← e]
  exact dBin_ok (dCall_ok (dCons1_ok h) m) dLit_ok eq_ints
noncomputable def B_l_fits : DS :=
  (dSeq (dIfS (dOr (dNot (fun ρ st => asB ((dIsi ["tuple"] (dVar 2)) ρ st))) (fun ρ st => asB (dBin (vEq true) (dCall gLen (dCons (dVar 2) dNil)) (dCall gLen (dCons (dVar 1) dNil)) ρ st)))
    (dRet (dLit (.bool false)))
    dEnd)
    (dSeq (dSet 3 (dCall gListNew (dCons (dVar 0) dNil)))
    (dSeq (dFor (dEnumT (dVar 2)) (tTup' 2 (tCons' (tName 4) (tCons' (tName 5) tNil')))
    (dSeq (dIfS (dOr (dNot (fun ρ st => asB ((dCalP 3 F_l_is_count (dCons (dVar 5) (dCons (dLit (.int 0)) (dCons (dBin vSub (dCall gLen (dCons (dVar 0) dNil)) (dLit (.int 1))) dNil)))) ρ st))) (fun ρ st => asB (dBin (vIn true) (dVar 5) (dBin vIx (dBin vIx (dVar 1) (dVar 4)) (dLit (.int 1))) ρ st)))
    (dRet (dLit (.bool false)))
    dEnd)
    (dSetIx (dBin vSub (dBin vIx (dVar 3) (dVar 5)) (dBin vIx (dBin vIx (dVar 1) (dVar 4)) (dLit (.int 0)))) (dVar 3) (dVar 5))))
    (dSeq (dFrz 3)
    (dRet (dBin (vEq false) (dCall gMinA (dCons (dBin vAdd (dLst (dCons (dLit (.int 0)) dNil)) (dVar 3)) dNil)) (dLit (.int 0))))))))
noncomputable def F_l_fits : Fn := dDef 6 B_l_fits
section
variable {D : List Nat} {js : List Jb} {n k : Nat} {d : PyData}
abbrev dayN (ds : List PyData) (i : Nat) : Nat := match ds.getD i .none with
  | .int z => z.toNat
  | _ => 0
def gB (D : List Nat) (js : List Jb) (ds : List PyData) (i : Nat) : Bool := isBelow D.length (ds.getD i .none) && decide (dayN ds i ∈ (js.getD i (0, [])).2)
abbrev psN (js : List Jb) (ds : List PyData) (l : List Nat) : List (Jb × Nat) := l.map fun i => (js.getD i (0, []), dayN ds i)
theorem l_fits_g (h : Wd n k d) (hn : n ≤ 1000) (hD : D.length ≤ 1000) (hJ : js.length ≤ 1000) : ∃ t, F_l_fits [.d (lotD D), .d (jobsD js), .d d] [] = .ok (.d (.bool (ttB D js d))) t := by
  let E : Option W → Option W → Option W → En := fun x3 x4 x5 => [some (.d (lotD D)), some (.d (jobsD js)), some (.d d), x3, x4, x5]
  have ti := isi_tup (ρ := E none none none) (s := []) (i := 2) h.pl rfl
  cases ht : isTup d with
  | false =>
    rw [ht] at ti
    rw [ttB_no (fun ⟨w, q, _⟩ => by rw [q] at ht; cases ht)]
    exact ⟨_, dDef_rt (dSeq_rt (dIfS_t (or_t (dNot_ok (b := false) (asB_ok ti))) (dRet_ok dLit_ok)))⟩
  | true =>
    rw [ht] at ti
    obtain ⟨ds, rfl⟩ : ∃ ds, d = .tuple ds := by cases d <;> first | exact ⟨_, rfl⟩ | cases ht
    obtain ⟨hl, j, rfl, hj⟩ := h.tup_inv
    have u2 : asB (dBin (vEq true) (dCall gLen (dCons (dVar 2) dNil)) (dCall gLen (dCons (dVar 1) dNil)) (E none none none) []) = .ok (!decide (ds.length = js.length)) [] := asB_ok (dBin_ok (dCall_ok (dCons1_ok (dVar_ok rfl)) (BP.gLen_tup ds [])) (dCall_ok (dCons1_ok (dVar_ok rfl)) gLen_tmap) vNe_nat)
    have u1 := dNot_ok (s := []) (s1 := []) (b := true) (t := fun ρ st => asB ((dIsi ["tuple"] (dVar 2)) ρ st)) (asB_ok ti)
    by_cases el : ds.length = js.length
    · rw [decide_eq_true el] at u2
      have g1 : dSet 3 (dCall gListNew (dCons (dVar 0) dNil)) (E none none none) [] = .ok (.nx, E (some (.ref 0)) none none) [iL (zs D)] := dSet_ok (new_iL (dVar_ok rfl))
      have at' : ∀ i, i < js.length → ds.getD i .none ∈ ds := fun i hi => by
        rw [List.getD_eq_getElem?_getD, List.getElem?_eq_getElem (by omega)]
        exact List.getElem_mem _
      obtain ⟨yes, no⟩ := forL_go (tg := tTup' 2 (tCons' (tName 4) (tCons' (tName 5) tNil'))) (body := (dSeq (dIfS (dOr (dNot (fun ρ st => asB ((dCalP 3 F_l_is_count (dCons (dVar 5) (dCons (dLit (.int 0)) (dCons (dBin vSub (dCall gLen (dCons (dVar 0) dNil)) (dLit (.int 1))) dNil)))) ρ st))) (fun ρ st => asB (dBin (vIn true) (dVar 5) (dBin vIx (dBin vIx (dVar 1) (dVar 4)) (dLit (.int 1))) ρ st)))
    (dRet (dLit (.bool false)))
    dEnd)
    (dSetIx (dBin vSub (dBin vIx (dVar 3) (dVar 5)) (dBin vIx (dBin vIx (dVar 1) (dVar 4)) (dLit (.int 0)))) (dVar 3) (dVar 5)))) (emb := fun i : Nat => W.d (.tuple [nI i, ds.getD i .none])) (p := gB D js ds)
        (P := fun pre ρ s => ∃ x4 x5, ρ = E (some (.ref 0)) x4 x5 ∧ s = [iL (leftF D (psN js ds pre))]) (List.range ds.length)
        (fun pre i post ρ s e q => by
          obtain ⟨x4, x5, rfl, rfl⟩ := q
          have hi : i < js.length := by
            rw [← el]
            exact List.mem_range.mp (by rw [e]; simp)
          let s := [iL (leftF D (psN js ds pre))]
          let E1 := E (some (.ref 0)) (some (nW i)) (some (.d (ds.getD i .none)))
          have wd := hj _ (at' i hi)
          have ej : js[i]? = some (js.getD i (0, [])) := by rw [List.getD_eq_getElem?_getD, List.getElem?_eq_getElem hi]; rfl
          have ix : dBin vIx (dVar 1) (dVar 4) E1 s = .ok (.d (jobE (js.getD i (0, [])))) s := dBin_ok (dVar_ok rfl) (dVar_ok rfl) (vIx_tup (by rw [List.getElem?_map, ej]; rfl))
          have c1 := dNot_ok (s := s) (s1 := s) (t := fun ρ st => asB ((dCalP 3 F_l_is_count (dCons (dVar 5) (dCons (dLit (.int 0)) (dCons (dBin vSub (dCall gLen (dCons (dVar 0) dNil)) (dLit (.int 1))) dNil)))) ρ st)) (asB_ok (dCalP_ok (dCons_ok (dVar_ok (ρ := E1) rfl) (dCons_ok dLit_ok (dCons1_ok (dBin_ok (dCall_ok (dCons1_ok (dVar_ok rfl)) gLen_tmap) dLit_ok rfl)))) rfl rfl (l_count_g (a := 0) (b := (D.length : Int) - 1) wd.pl)))
          rw [cnt_below] at c1
          refine ⟨E1, s, rfl, fun z => ?_, fun z => ?_⟩
          · unfold gB at z
            rw [Bool.and_eq_true, decide_eq_true_eq] at z
            obtain ⟨z1, z2⟩ := z
            obtain ⟨y, ey, hy⟩ := below_inv z1
            have dy : dayN ds i = y := by unfold dayN; rw [ey]; exact Int.toNat_natCast y
            rw [dy] at z2
            rw [z1] at c1
            have c2 : asB (dBin (vIn true) (dVar 5) (dBin vIx (dBin vIx (dVar 1) (dVar 4)) (dLit (.int 1))) E1 s) = .ok false s := by
              have q : vIn true (.d (ds.getD i .none)) (.d (lotD (js.getD i (0, [])).2)) s = .ok (.d (.bool false)) s := by
                rw [ey]
                have := vNotIn_nat (l := (js.getD i (0, [])).2) (i := y) (st := s)
                rw [decide_eq_true z2] at this
                exact this
              exact asB_ok (dBin_ok (dVar_ok rfl) (dBin_ok ix dLit_ok (vIx_tup (j := 1) rfl)) q)
            have lt : y < (leftF D (psN js ds pre)).length := by rw [left_len]; exact hy
            have v5 : dVar 5 E1 s = .ok (nW y) s := by
              have : dVar 5 E1 s = .ok (.d (ds.getD i .none)) s := dVar_ok rfl
              rw [this, ey]
            have st := setIx_ok (fe := dBin vSub (dBin vIx (dVar 3) (dVar 5)) (dBin vIx (dBin vIx (dVar 1) (dVar 4)) (dLit (.int 0)))) (fo := dVar 3) (fi := dVar 5) (ρ := E1) (s := s) (w := .d (.int ((leftF D (psN js ds pre)).getD y 0 - ((js.getD i (0, [])).1 : Int)))) (dBin_ok (dBin_ok (dVar_ok rfl) v5 (vIx_iL rfl lt)) (dBin_ok ix dLit_ok (vIx_tup (j := 0) rfl)) rfl) (dVar_ok rfl) v5 rfl (by rw [List.length_map]; exact lt)
            refine ⟨E1, _, to (dIfS_f (or_f c1 c2) rfl) st, _, _, rfl, ?_⟩
            have e3 : psN js ds (pre ++ [i]) = psN js ds pre ++ [(js.getD i (0, []), y)] := by
              show List.map _ (pre ++ [i]) = _
              rw [List.map_append]
              show _ ++ [(js.getD i (0, []), dayN ds i)] = _
              rw [dy]
            rw [e3, left_snoc]
            unfold step
            show [SO.lst ((List.map _ _).set y _)] = [SO.lst (List.map _ (List.set _ y _))]
            rw [List.map_set]
          · unfold gB at z
            cases c : isBelow D.length (ds.getD i .none) with
            | false =>
              rw [c] at c1
              exact ⟨_, _, dSeq_rt (dIfS_t (or_t c1) (dRet_ok dLit_ok))⟩
            | true =>
              rw [c] at c1 z
              obtain ⟨y, ey, hy⟩ := below_inv c
              have dy : dayN ds i = y := by unfold dayN; rw [ey]; exact Int.toNat_natCast y
              rw [dy, Bool.true_and] at z
              have q : vIn true (.d (ds.getD i .none)) (.d (lotD (js.getD i (0, [])).2)) s = .ok (.d (.bool true)) s := by
                rw [ey]
                have := vNotIn_nat (l := (js.getD i (0, [])).2) (i := y) (st := s)
                rw [z] at this
                exact this
              exact ⟨_, _, dSeq_rt (dIfS_t (or_f c1 (asB_ok (dBin_ok (dVar_ok rfl) (dBin_ok ix dLit_ok (vIx_tup (j := 1) rfl)) q))) (dRet_ok dLit_ok))⟩)
        (List.range ds.length) [] (E (some (.ref 0)) none none) [iL (zs D)] rfl ⟨_, _, rfl, rfl⟩
      have it := enumT_ds (f := dVar 2) (ρ := E (some (.ref 0)) none none) (s := [iL (zs D)]) (ds := ds) (dVar_ok rfl)
      cases c : (List.range ds.length).all (gB D js ds) with
      | false =>
        obtain ⟨ρ', s', f⟩ := no c
        rw [ttB_no (fun ⟨w, q, lt, ew, fl⟩ => by
          have q' : ds = w.map nI := by injection q
          subst q'
          have : (List.range (w.map nI).length).all (gB D js (w.map nI)) = true := by
            rw [List.all_eq_true]
            intro i hi
            have hi := List.mem_range.mp hi
            rw [List.length_map] at hi
            have e1 : (w.map nI).getD i .none = nI w[i] := by rw [List.getD_eq_getElem?_getD, List.getElem?_map, List.getElem?_eq_getElem hi]; rfl
            have e2 : js.getD i (0, []) = js[i]'(by omega) := by rw [List.getD_eq_getElem?_getD, List.getElem?_eq_getElem (by omega)]; rfl
            have dy : dayN (w.map nI) i = w[i] := by unfold dayN; rw [e1]; exact Int.toNat_natCast _
            unfold gB
            rw [e1, below_nI (lt _ (List.getElem_mem hi)), dy, e2, Bool.true_and]
            unfold fitL at fl
            rw [Bool.and_eq_true, List.all_eq_true] at fl
            have hz : i < (w.zip js).length := by rw [List.length_zip]; omega
            have := fl.1 ((w.zip js)[i]'hz) (List.getElem_mem hz)
            rw [List.getElem_zip] at this
            exact this
          rw [this] at c
          cases c)]
        exact ⟨_, dDef_rt (to (dIfS_f (or_f u1 u2) rfl) (to g1 (dSeq_rt (dFor_ok it f))))⟩
      | true =>
        obtain ⟨ρ', s', f, x4, x5, rfl, rfl⟩ := yes c
        rw [List.all_eq_true] at c
        let w := (List.range ds.length).map (dayN ds)
        have good : ∀ i, i < ds.length → ds.getD i .none = nI (dayN ds i) ∧ dayN ds i < D.length ∧ dayN ds i ∈ (js.getD i (0, [])).2 := fun i hi => by
          have z := c i (List.mem_range.mpr hi)
          unfold gB at z
          rw [Bool.and_eq_true, decide_eq_true_eq] at z
          obtain ⟨y, ey, hy⟩ := below_inv z.1
          have dy : dayN ds i = y := by unfold dayN; rw [ey]; exact Int.toNat_natCast y
          exact ⟨by rw [dy]; exact ey, by rw [dy]; exact hy, z.2⟩
        have ew : ds = w.map nI := by
          refine List.ext_getElem (by simp [w]) fun i h1 h2 => ?_
          have := (good i h1).1
          rw [List.getD_eq_getElem?_getD, List.getElem?_eq_getElem h1] at this
          have t : ds[i] = nI (dayN ds i) := this
          rw [t]
          simp [w]
        have wl : w.length = js.length := by simp [w]; exact el
        have wlt : ∀ x ∈ w, x < D.length := fun x hx => by
          obtain ⟨i, hi, rfl⟩ := List.mem_map.mp hx
          exact (good i (List.mem_range.mp hi)).2.1
        have zp : js.zip w = psN js ds (List.range ds.length) := by
          refine List.ext_getElem (by simp [w, el]) fun i h1 h2 => ?_
          have hi : i < js.length := by rw [List.length_zip] at h1; omega
          have e4 : (psN js ds (List.range ds.length))[i]'h2 = (js.getD i (0, []), dayN ds i) := by simp [psN]
          rw [List.getElem_zip, e4]
          refine Prod.ext ?_ (by simp [w])
          show js[i] = js.getD i (0, [])
          rw [List.getD_eq_getElem?_getD, List.getElem?_eq_getElem hi]; rfl
        have al : (w.zip js).all (fun p => decide (p.1 ∈ p.2.2)) = true := by
          rw [List.all_eq_true]
          intro p hp
          obtain ⟨i, hi, rfl⟩ := List.mem_iff_getElem.mp hp
          have hi' : i < js.length := by rw [List.length_zip] at hi; omega
          rw [List.getElem_zip, decide_eq_true_eq]
          have := (good i (by omega)).2.2
          rw [List.getD_eq_getElem?_getD, List.getElem?_eq_getElem hi'] at this
          simpa [w] using this
        have eB : ttB D js (.tuple ds) = (leftF D (psN js ds (List.range ds.length))).all fun z => decide (0 ≤ z) := by
          have := ttB_lot (D := D) (js := js) wlt wl
          rw [show lotD w = .tuple ds by rw [ew]] at this
          rw [this]
          unfold fitL
          rw [al, zp, Bool.true_and]
        rw [eB]
        let L := leftF D (psN js ds (List.range ds.length))
        have fz : dFrz 3 (E (some (.ref 0)) x4 x5) [iL L] = .ok (.nx, E (some (.d (.list (L.map .int)))) x4 x5) [.dead] := dFrz_ok (b := 0) (s := [iL L]) (ds := L.map .int) rfl (by
          rw [List.map_map]; rfl)
        have ad : dBin vAdd (dLst (dCons (dLit (.int 0)) dNil)) (dVar 3) (E (some (.d (.list (L.map .int)))) x4 x5) [.dead] = .ok (.d (.list (.int 0 :: L.map .int))) [.dead] := dBin_ok (lst_ok (ds := [.int 0]) (dCons1_ok dLit_ok) rfl (by simp)) (dVar_ok rfl) (vAdd_lists (a := [.int 0]) (by rw [List.length_map, left_len]; simp; omega))
        exact ⟨_, dDef_rt (to (dIfS_f (or_f u1 u2) rfl) (to g1 (to (dFor_ok it f) (to fz (dRet_ok (min0_ok (g := dVar 0) ad))))))⟩
    · rw [decide_eq_false el] at u2
      rw [ttB_no (fun ⟨w, q, _, e, _⟩ => el (by
        have q' : ds = w.map nI := by injection q
        rw [q', List.length_map]; exact e))]
      exact ⟨_, dDef_rt (dSeq_rt (dIfS_t (or_f u1 u2) (dRet_ok dLit_ok)))⟩
end
end CAL
namespace TT
abbrev pl (r : List Nat) (x : Nat) : Nat := r.idxOf x
structure Wsh (n : Nat) (w : Nat → List Nat) : Prop where
  lt : ∀ p, p < n → ∀ q ∈ w p, q < n
  own : ∀ p, p < n → p ∈ w p
  nd : ∀ p, p < n → (w p).Nodup
structure Dl (n : Nat) (w : Nat → List Nat) (d : Nat → Nat) : Prop where
  row : ∀ p, p < n → d p ∈ w p
  inj : ∀ p q, p < n → q < n → d p = d q → p = q
structure Lev (n : Nat) (w : Nat → List Nat) (d ℓ : Nat → Nat) : Prop where
  lv : ∀ p, p < n → ℓ (d p) = ℓ p
  pf : ∀ p, p < n → ∀ q ∈ w p, pl (w p) q < pl (w p) (d p) → ℓ q < ℓ p
theorem least {P : Nat → Prop} (k : Nat) : P k → ∃ m, P m ∧ ∀ j, j < m → ¬ P j := by
  induction k using Nat.strongRecOn with
  | ind k ih =>
    intro hk
    by_cases c : ∃ j, j < k ∧ P j
    · obtain ⟨j, h1, h2⟩ := c
      exact ih j h1 h2
    · exact ⟨k, hk, fun j hj pj => c ⟨j, hj, pj⟩⟩
/-- an injection of a list into itself hits everybody -/
theorem onto {S : List Nat} {s : Nat → Nat} (nd : S.Nodup) (hs : ∀ p ∈ S, s p ∈ S) (inj : ∀ p ∈ S, ∀ q ∈ S, s p = s q → p = q) : (S.map s).Perm S := by
  have nm : (S.map s).Nodup := List.pairwise_map.mpr (nd.imp_of_mem fun {a b} ha hb ne e => ne (inj a ha b hb e))
  refine (List.perm_ext_iff_of_nodup nm nd).mpr fun x => ⟨fun h => ?_, fun h => ?_⟩
  · obtain ⟨p, hp, rfl⟩ := List.mem_map.mp h
    exact hs p hp
  · refine Classical.byContradiction fun z => ?_
    have := MB.sub_len (x :: S.map s) S (List.nodup_cons.mpr ⟨z, nm⟩) fun y hy => by
      rcases List.mem_cons.mp hy with rfl | hy
      · exact h
      · obtain ⟨p, hp, rfl⟩ := List.mem_map.mp hy
        exact hs p hp
    rw [List.length_cons, List.length_map] at this
    omega
theorem Dl.surj {n : Nat} {w : Nat → List Nat} {d : Nat → Nat} (W : Wsh n w) (D : Dl n w d) {q : Nat} (hq : q < n) : ∃ p, p < n ∧ d p = q := by
  have := (onto (S := List.range n) (s := d) List.nodup_range (fun p hp => List.mem_range.mpr (W.lt p (List.mem_range.mp hp) _ (D.row p (List.mem_range.mp hp)))) fun p hp q hq => D.inj p q (List.mem_range.mp hp) (List.mem_range.mp hq)).mem_iff.mpr (List.mem_range.mpr hq)
  obtain ⟨p, hp, e⟩ := List.mem_map.mp this
  exact ⟨p, List.mem_range.mp hp, e⟩
section
variable {n : Nat} {w : Nat → List Nat} {d d' ℓ ℓ' : Nat → Nat} (W : Wsh n w) (D : Dl n w d) (L : Lev n w d ℓ) (D' : Dl n w d')
include W D L D'
theorem weak {k : Nat} (mn : ∀ p, p < n → ℓ p < k → d p = d' p) {p : Nat} (hp : p < n) (e : ℓ p = k) : pl (w p) (d p) ≤ pl (w p) (d' p) := by
  refine Nat.le_of_not_lt fun h => ?_
  have lq := L.pf p hp (d' p) (D'.row p hp) h
  obtain ⟨t, ht, e2⟩ := D.surj W (W.lt p hp _ (D'.row p hp))
  have e3 := L.lv t ht
  rw [e2] at e3
  have e4 := mn t ht (by omega)
  rw [e2] at e4
  have := D'.inj p t hp ht e4
  subst this
  rw [e2] at h
  exact Nat.lt_irrefl _ h
end
end TT
namespace TT
/-- each one points at the one behind; the last at the first -/
structure Rf (pt : Nat → Nat) (r : List Nat) : Prop where
  ne : r ≠ []
  nd : r.Nodup
  go : ∀ i, i < r.length → r.getD ((i + 1) % r.length) 0 = pt (r.getD i 0)
/-- each one points at the one ahead; the first at the last -/
structure Rg (pt : Nat → Nat) (r : List Nat) : Prop where
  ne : r ≠ []
  nd : r.Nodup
  go : ∀ i, i < r.length → r.getD ((i + (r.length - 1)) % r.length) 0 = pt (r.getD i 0)
theorem getD_mem {r : List Nat} {i : Nat} (h : i < r.length) : r.getD i 0 ∈ r := by
  rw [List.getD_eq_getElem?_getD, List.getElem?_eq_getElem h]
  exact List.getElem_mem h
theorem mem_getD {r : List Nat} {x : Nat} (h : x ∈ r) : ∃ i, i < r.length ∧ r.getD i 0 = x := by
  obtain ⟨i, hi, e⟩ := List.getElem_of_mem h
  exact ⟨i, hi, by rw [List.getD_eq_getElem?_getD, List.getElem?_eq_getElem hi]; exact e⟩
end TT
namespace TR
open PySem PySem.Spec PyProof.Rows L2 Y BL TT
local macro_rules
  | `(tactic| trivial) => `(tactic| first
    | with_reducible assumption
    | ((with_reducible apply dVar_ok); rfl)
    | with_reducible exact dLit_ok
    | with_reducible exact dNil_ok
    | ((with_reducible apply dCons_ok) <;> trivial)
    | ((with_reducible apply asB_ok); trivial)
    | ((with_reducible apply dBin_ok) <;> trivial)
    | ((with_reducible apply dCall_ok) <;> trivial)
    | ((with_reducible apply dCalP_ok); trivial; rfl; rfl; (with_reducible assumption))
    | ((with_reducible apply dCal_ok); trivial; rfl; (with_reducible assumption))
    | ((with_reducible apply and_ok) <;> trivial)
    | ((with_reducible apply or_ok) <;> trivial)
    | ((with_reducible apply dNot_ok); trivial)
    | ((with_reducible apply dSet_ok); trivial)
    | ((with_reducible apply dRet_ok); trivial)
    | with_reducible exact vIn_nat
    | with_reducible exact vNotIn_nat
    | with_reducible exact vIn_natL
    | with_reducible exact vNotIn_natL
    | with_reducible exact vIn_pair
    | with_reducible exact gLen_tmap
    | with_reducible exact gLen_map
    | with_reducible exact tupleOf_list
    | with_reducible exact vEq_nat
    | with_reducible exact vEq_int
    | with_reducible exact vNe_int
    | exact rfl)
theorem findIdx_nI {row : List Nat} {x : Nat} : (row.map nI).findIdx (fun z => PyData.eqv z (nI x)) = row.idxOf x := by
  rw [List.findIdx_map]
  unfold List.idxOf
  congr 1
  funext y
  show PyData.eqv (nI y) (nI x) = (y == x)
  rw [eqv_nat]
  rfl
theorem any_nI {row : List Nat} {x : Nat} (h : x ∈ row) : ((row.map nI).any fun z => PyData.eqv z (nI x)) = true := by
  rw [List.any_eq_true]
  exact ⟨nI x, List.mem_map.mpr ⟨x, h, rfl⟩, by rw [eqv_nat]; simp⟩
theorem lidx_list {fo fi : En → Sto → R W} {ρ : En} {x : Nat} {row : List Nat} {st : Sto} (h1 : fo ρ st = .ok (.d (.list (row.map nI))) st) (h2 : fi ρ st = .ok (nW x) st) (hx : x ∈ row) : dLIdx fo fi ρ st = .ok (nW (row.idxOf x)) st := by
  have := dLIdx_ok h1 h2 (shaped_ints' row) (shaped_int _) (any_nI hx)
  rw [findIdx_nI] at this
  exact this
theorem min_nat : ∀ (t : List Nat) (a : Nat), ∃ m : Nat, (t.map fun x : Nat => (x : Int)).foldl min (a : Int) = (m : Int) ∧ m ∈ a :: t ∧ ∀ x ∈ a :: t, m ≤ x
  | [], a => ⟨a, rfl, by simp, fun x hx => by rw [List.mem_singleton.mp hx]; exact Nat.le_refl _⟩
  | b :: t, a => by
    obtain ⟨m, h1, h2, h3⟩ := min_nat t (min a b)
    refine ⟨m, ?_, ?_, fun x hx => ?_⟩
    · rw [List.map_cons, List.foldl_cons]
      have : min (a : Int) (b : Int) = ((min a b : Nat) : Int) := by omega
      rw [this]
      exact h1
    · rcases List.mem_cons.mp h2 with rfl | h2
      · rcases Nat.le_total a b with q | q
        · rw [Nat.min_eq_left q]; simp
        · rw [Nat.min_eq_right q]; simp
      · simp [h2]
    · have h4 := h3 (min a b) List.mem_cons_self
      rcases List.mem_cons.mp hx with rfl | hx
      · omega
      · rcases List.mem_cons.mp hx with rfl | hx
        · omega
        · exact h3 x (List.mem_cons_of_mem _ hx)
theorem alike_nats : ∀ l : List Nat, PySem.W.AlikeAll (l.map nI) := fun l => ⟨fun x hx y hy => by
  obtain ⟨a, _, rfl⟩ := List.mem_map.mp hx
  obtain ⟨b, _, rfl⟩ := List.mem_map.mp hy
  simp [PySem.W.alike], fun x hx => by
  obtain ⟨a, _, rfl⟩ := List.mem_map.mp hx
  exact fun z => by cases z⟩
theorem depth_nats : ∀ l : List Nat, PyData.depthAll (l.map nI) ≤ 60 := fun l => by
  have : PyData.depthAll (l.map nI) = 0 := by
    induction l with
    | nil => rfl
    | cons a l ih =>
      show max (PyData.depth (nI a)) (PyData.depthAll (l.map nI)) = 0
      rw [ih]
      rfl
  omega
open Classical in
theorem minA_nats {c : List Nat} {st : Sto} (hc : c ≠ []) : ∃ m : Nat, gMinA [.d (.list (c.map nI))] st = .ok (nW m) st ∧ m ∈ c ∧ ∀ x ∈ c, m ≤ x := by
  obtain ⟨a, t, rfl⟩ : ∃ a t, c = a :: t := by cases c with | nil => exact absurd rfl hc | cons a t => exact ⟨a, t, rfl⟩
  obtain ⟨m, h1, h2, h3⟩ := min_nat t a
  refine ⟨m, ?_, h2, h3⟩
  show chk _ (Y.R.ok (W.d (PySem.W.minD (nI a) (t.map nI))) st) = _
  rw [chk_ok ⟨alike_nats (a :: t), depth_nats (a :: t)⟩]
  have e : t.map nI = (t.map fun x : Nat => (x : Int)).map PyData.int := by rw [List.map_map]; rfl
  rw [e, show nI a = .int (a : Int) from rfl, PySem.W.minD_ints, h1]
end TR
namespace CAL
open PySem PySem.Spec PyProof.Rows L2 Y BL BP
local macro_rules
  | `(tactic| trivial) => `(tactic| first
    | with_reducible assumption
    | ((with_reducible apply dVar_ok); rfl)
    | with_reducible exact dLit_ok
    | with_reducible exact dNil_ok
    | ((with_reducible apply dCons_ok) <;> trivial)
    | ((with_reducible apply asB_ok); trivial)
    | ((with_reducible apply dBin_ok) <;> trivial)
    | ((with_reducible apply dCall_ok) <;> trivial)
    | ((with_reducible apply dCalP_ok); trivial; rfl; rfl; (with_reducible assumption))
    | ((with_reducible apply dCal_ok); trivial; rfl; (with_reducible assumption))
    | ((with_reducible apply and_ok) <;> trivial)
    | ((with_reducible apply or_ok) <;> trivial)
    | ((with_reducible apply dNot_ok); trivial)
    | ((with_reducible apply dSet_ok); trivial)
    | ((with_reducible apply dRet_ok); trivial)
    | with_reducible exact vIn_nat
    | with_reducible exact vNotIn_nat
    | with_reducible exact vIn_natL
    | with_reducible exact vNotIn_natL
    | with_reducible exact vIn_pair
    | with_reducible exact gLen_tmap
    | with_reducible exact gLen_map
    | with_reducible exact tupleOf_list
    | with_reducible exact vEq_nat
    | with_reducible exact vEq_int
    | with_reducible exact vNe_int
    | exact rfl)
noncomputable abbrev F_l_any : Fn := BL.F_l_any
noncomputable abbrev F_l_of : Fn := BL.F_l_of
noncomputable abbrev F_l_mixed : Fn := BL.F_l_mixed
theorem cut_drop {α : Type} (xs : List α) (k : Nat) : cut xs (some (k : Int)) none = xs.drop k := by
  unfold cut
  rw [HT.sIx_nat, HT.sIx_none]
  by_cases h : k ≤ xs.length
  · rw [Nat.min_eq_left h, List.take_of_length_le (by rw [List.length_drop]; omega)]
  · rw [Nat.min_eq_right (by omega), Nat.sub_self, List.take_zero, List.drop_eq_nil_of_le (by omega)]
theorem cut_mid {α : Type} (xs : List α) {i j : Nat} (h1 : i ≤ j) (h2 : j ≤ xs.length) : cut xs (some (i : Int)) (some (j : Int)) = (xs.drop i).take (j - i) := by
  unfold cut
  rw [HT.sIx_nat, HT.sIx_nat, Nat.min_eq_left h2, Nat.min_eq_left (Nat.le_trans h1 h2)]
theorem set_wipe {ρ : En} {v : Nat} {w : Option W} : (wipeE ρ [v]).set v w = ρ.set v w := by
  show (ρ.set v none).set v w = _
  rw [List.set_set]
theorem lc_drawnG {v N : Nat} {g fe : En → Sto → R W} {ρ : En} {s s1 : Sto} {P : Sto → Prop} {Q : PyData → Prop} (hg : g ρ s = .ok (nW N) s1) (hN : N ≤ 1000) (hs : P s1) (step : ∀ (i : Nat) (s : Sto), i < N → P s → ∃ d s', fe (ρ.set v (some (nW i))) s = .ok (.d d) s' ∧ Q d ∧ P s') :
    ∃ ds s', dLcF (dLc [v] (dRng1 (dCons g dNil)) (tName v) (fun _ st => .ok true st) fe) ρ s = .ok (.d (.list ds)) s' ∧ ds.length = N ∧ (∀ d ∈ ds, Q d) ∧ P s' := by
  obtain ⟨us, s', q1, q2, q3, q4⟩ := lcL_inv (tg := tName v) (fe := fe) (ρ := wipeE ρ [v]) (emb := fun i : Nat => nW i) (P := P) (Q := fun u => ∃ d, u = .d d ∧ Q d) (List.range N) s1 hs fun i hi s hs => by
    obtain ⟨d, s', e, q, p⟩ := step i s (List.mem_range.mp hi) hs
    exact ⟨_, .d d, s', rfl, by rw [set_wipe]; exact e, ⟨d, rfl, q⟩, p⟩
  obtain ⟨ds, rfl, hds⟩ : ∃ ds : List PyData, us = ds.map W.d ∧ ∀ d ∈ ds, Q d := by
    clear q1 q2
    induction us with
    | nil => exact ⟨[], rfl, fun l h => by cases h⟩
    | cons u us ih =>
      obtain ⟨ds, e, h⟩ := ih fun v hv => q3 v (List.mem_cons_of_mem _ hv)
      obtain ⟨d, rfl, hd⟩ := q3 u List.mem_cons_self
      exact ⟨d :: ds, by rw [e]; rfl, fun x hx => by
        rcases List.mem_cons.mp hx with rfl | hx
        · exact hd
        · exact h x hx⟩
  rw [List.length_map, List.length_range] at q2
  exact ⟨ds, s', dLcF_ok (ds := ds) (dLc_ok (vs := [v]) (it_r (n := N) hg (by omega)) q1 (le_line (by rw [List.length_map]; omega))), q2, hds, q4⟩
theorem lc_subG {v N : Nat} {g : En → Sto → R W} {tt : En → Sto → R Bool} {ρ : En} {s s1 : Sto} {P : Sto → Prop} (hg : g ρ s = .ok (nW N) s1) (hN : N ≤ 1000) (hv : v < ρ.length) (hs : P s1) (step : ∀ (i : Nat) (s : Sto), P s → ∃ b s', tt (ρ.set v (some (nW i))) s = .ok b s' ∧ P s') :
    ∃ (l : List Nat) (s' : Sto), l.Sublist (List.range N) ∧ dLcF (dLc [v] (dRng1 (dCons g dNil)) (tName v) tt (dVar v)) ρ s = .ok (.d (.list (l.map nI))) s' ∧ P s' := by
  obtain ⟨l, s', h1, h2, h3⟩ := lcL_sub (tg := tName v) (tt := tt) (fe := dVar v) (ρ := wipeE ρ [v]) (emb := fun i : Nat => nW i) (g := fun i : Nat => nW i) (P := P) (List.range N) s1 hs fun i _ s hs => by
    obtain ⟨b, s', e, p⟩ := step i s hs
    refine ⟨ρ.set v (some (nW i)), b, s', by rw [← set_wipe]; rfl, e, p, fun _ => dVar_ok (by rw [List.getElem?_set_self hv])⟩
  have ll : l.length ≤ N := by have := h1.length_le; simpa using this
  refine ⟨l, s', h1, dLcF_ok (ds := l.map nI) (dLc_ok (vs := [v]) (it_r (n := N) hg (by omega)) ?_ (le_line (by rw [List.length_map, List.length_map]; omega))), h3⟩
  have e : (l.map nI).map W.d = l.map nW := by rw [List.map_map]; rfl
  rw [e]
  exact h2
section
variable {n c : Nat}
theorem anyI {k : Nat} {st : Sto} (h : DealOk st n c) (h0 : 0 < k) (h1 : k < 1000000) : ∃ (j : Nat) (st' : Sto), F_l_any [.ref n, nW k] st = .ok (nW j) st' ∧ j < k ∧ Dealt n c st st' := by
  obtain ⟨j, s', e, q, d, _⟩ := any_ok h h0 h1
  exact ⟨j, s', e, q, d⟩
noncomputable def B_l_turned : DS :=
  (dSeq (dSet 3 (dCal 2 F_l_any (dCons (dVar 0) (dCons (dLit (.int 8)) dNil))))
    (dSeq (dIfS (dOr (fun ρ st => asB (dBin (vEq false) (dVar 1) (dTup dNil) ρ st)) (fun ρ st => asB (dBin (vEq false) (dVar 3) (dLit (.int 0)) ρ st)))
    (dRet (dCal 2 F_l_of (dCons (dVar 0) (dCons (dLst (dCons (dLit .none) (dCons (dCall gListOf (dCons (dVar 1) dNil)) (dCons (dTup (dCons (dLit .none) dNil)) (dCons (dLit (.int 0)) (dCons (dVar 1) (dCons (dVar 1) dNil))))))) dNil))))
    dEnd)
    (dSeq (dSet 4 (dCal 2 F_l_any (dCons (dVar 0) (dCons (dCall gLen (dCons (dVar 1) dNil)) dNil))))
    (dSeq (dIfS (fun ρ st => asB (dBin (vEq false) (dVar 3) (dLit (.int 1)) ρ st))
    (dRet (dBin vAdd (dSl (dVar 1) dNoP (dPart (dVar 4))) (dSl (dVar 1) (dPart (dBin vAdd (dVar 4) (dLit (.int 1)))) dNoP)))
    dEnd)
    (dSeq (dIfS (fun ρ st => asB (dBin (vEq false) (dVar 3) (dLit (.int 2)) ρ st))
    (dRet (dBin vAdd (dVar 1) (dSl (dVar 1) (dPart (dVar 4)) (dPart (dBin vAdd (dVar 4) (dLit (.int 1)))))))
    dEnd)
    (dRet (dBin vAdd (dBin vAdd (dSl (dVar 1) dNoP (dPart (dVar 4))) (dTup (dCons (dCal 2 F_l_of (dCons (dVar 0) (dCons (dVar 2) dNil))) dNil))) (dSl (dVar 1) (dPart (dBin vAdd (dVar 4) (dLit (.int 1)))) dNoP))))))))
noncomputable def F_l_turned : Fn := dDef 5 B_l_turned
theorem some5 {ρ : En} {s : Sto} {vs : List PyData} (h : ρ[1]? = some (some (.d (.tuple vs)))) : dLst (dCons (dLit .none) (dCons (dCall gListOf (dCons (dVar 1) dNil)) (dCons (dTup (dCons (dLit .none) dNil)) (dCons (dLit (.int 0)) (dCons (dVar 1) (dCons (dVar 1) dNil)))))) ρ s = .ok (.d (.list [.none, .list vs, .tuple [.none], .int 0, .tuple vs, .tuple vs])) s :=
  lst_ok (ds := [.none, .list vs, .tuple [.none], .int 0, .tuple vs, .tuple vs]) (dCons_ok dLit_ok (dCons_ok (dCall_ok (dCons1_ok (dVar_ok h)) (by simp [gListOf] <;> rfl)) (dCons_ok (tup_ok (ds := [.none]) (dCons1_ok dLit_ok) rfl (by simp)) (dCons_ok dLit_ok (dCons_ok (dVar_ok h) (dCons1_ok (dVar_ok h))))))) rfl (by simp)
theorem l_turned_ok {N k : Nat} {vs xs : List PyData} {st : Sto} (h : DealOk st n c) (hv : ∀ v ∈ vs, Wd N k v) (hl : vs.length ≤ N) (hx : ∀ x ∈ xs, Wd N k x) (x0 : xs ≠ []) (xl : xs.length ≤ 1000) (hN : 1 ≤ N) (hN2 : N ≤ 1000) (hk : k ≤ 40) : ∃ d st', F_l_turned [.ref n, .d (.tuple vs), .d (.list xs)] st = .ok (.d d) st' ∧ Wd (N + 1) (k + 1) d ∧ DealOk st' n c := by
  have wv : Wd N (k + 1) (.tuple vs) := .tup hv hl
  let E : Option W → Option W → En := fun x3 x4 => [some (.ref n), some (.d (.tuple vs)), some (.d (.list xs)), x3, x4]
  obtain ⟨f, s1, e1, hf, d1⟩ := anyI (k := 8) h (by decide) (by decide)
  have g1 : dSet 3 (dCal 2 F_l_any (dCons (dVar 0) (dCons (dLit (.int 8)) dNil))) (E none none) st = .ok (.nx, E (some (nW f)) none) s1 := dSet_ok (dCal_ok (dCons_ok (dVar_ok rfl) (dCons1_ok dLit_ok)) rfl e1)
  have t1 : asB (dBin (vEq false) (dVar 1) (dTup dNil) (E (some (nW f)) none) s1) = .ok vs.isEmpty s1 := asB_ok (dBin_ok (dVar_ok rfl) (tup_ok (ds := []) rfl rfl (by decide)) (by rw [eq_nilT (neg := false) (wv.shaped (by omega)), Bool.false_xor]))
  have tf : ∀ {s : Sto} {x4 : Option W} {j : Nat}, asB (dBin (vEq false) (dVar 3) (dLit (.int (j : Int))) (E (some (nW f)) x4) s) = .ok (decide (f = j)) s := fun {s x4 j} => by
    have e : decide ((f : Int) = (j : Int)) = decide (f = j) := decide_eq_decide.mpr (by omega)
    rw [← e]
    exact asB_ok (dBin_ok (dVar_ok rfl) dLit_ok eq_ints)
  have wide : ∀ d, Wd N (k + 1) d → Wd (N + 1) (k + 1) d := fun d q => q.up (Nat.le_succ _) (Nat.le_refl _)
  have first : (dOr (fun ρ st => asB (dBin (vEq false) (dVar 1) (dTup dNil) ρ st)) (fun ρ st => asB (dBin (vEq false) (dVar 3) (dLit (.int 0)) ρ st))) (E (some (nW f)) none) s1 = .ok true s1 → ∃ d st', F_l_turned [.ref n, .d (.tuple vs), .d (.list xs)] st = .ok (.d d) st' ∧ Wd (N + 1) (k + 1) d ∧ DealOk st' n c := fun t => by
    obtain ⟨d, s2, e2, hd, d2⟩ := F_of_ok (ds := [.none, .list vs, .tuple [.none], .int 0, .tuple vs, .tuple vs]) d1.ok (by simp) (by simp)
    refine ⟨d, s2, dDef_rt (to g1 (dSeq_rt (dIfS_t t (dRet_ok (dCal_ok (dCons_ok (dVar_ok rfl) (dCons1_ok (some5 rfl))) rfl e2))))), wide d ?_, d2.ok⟩
    simp only [List.mem_cons, List.not_mem_nil, or_false] at hd
    rcases hd with rfl | rfl | rfl | rfl | rfl | rfl
    · exact .non _
    · exact .lst hv hl
    · exact .tup (fun x q => by rw [List.mem_singleton.mp q]; exact .non _) hN
    · exact .int _ _
    · exact wv
    · exact wv
  by_cases ve : vs = []
  · subst ve
    exact first (or_t t1)
  by_cases f0 : f = 0
  · subst f0
    have t0 : asB (dBin (vEq false) (dVar 3) (dLit (.int 0)) (E (some (nW 0)) none) s1) = .ok true s1 := tf (j := 0)
    cases c0 : vs.isEmpty with
    | true => rw [c0] at t1; exact first (or_t t1)
    | false => rw [c0] at t1; exact first (or_f t1 t0)
  have c0 : vs.isEmpty = false := by cases vs with | nil => exact absurd rfl ve | cons a b => rfl
  rw [c0] at t1
  have t0 : asB (dBin (vEq false) (dVar 3) (dLit (.int 0)) (E (some (nW f)) none) s1) = .ok false s1 := by
    have := tf (s := s1) (x4 := none) (j := 0)
    rw [decide_eq_false f0] at this
    exact this
  have vp : 0 < vs.length := List.length_pos_iff.mpr ve
  obtain ⟨a, s2, e2, ha, d2⟩ := anyI (k := vs.length) d1.ok vp (by omega)
  have g2 : dSet 4 (dCal 2 F_l_any (dCons (dVar 0) (dCons (dCall gLen (dCons (dVar 1) dNil)) dNil))) (E (some (nW f)) none) s1 = .ok (.nx, E (some (nW f)) (some (nW a))) s2 := dSet_ok (dCal_ok (dCons_ok (dVar_ok rfl) (dCons1_ok (dCall_ok (dCons1_ok (dVar_ok rfl)) (BP.gLen_tup vs s1)))) rfl e2)
  have up : ∀ {s : Sto}, dSl (dVar 1) dNoP (dPart (dVar 4)) (E (some (nW f)) (some (nW a))) s = .ok (.d (.tuple (vs.take a))) s := fun {s} => by
    rw [BP.sl_ok (dVar_ok (w := .d (.tuple vs)) rfl) rfl (dPart_ok (dVar_ok rfl)), BL.cut_take]
  have dn : ∀ {s : Sto}, dSl (dVar 1) (dPart (dBin vAdd (dVar 4) (dLit (.int 1)))) dNoP (E (some (nW f)) (some (nW a))) s = .ok (.d (.tuple (vs.drop (a + 1)))) s := fun {s} => by
    rw [BP.sl_ok (a := some ((a + 1 : Nat) : Int)) (dVar_ok (w := .d (.tuple vs)) rfl) (dPart_ok (dBin_ok (dVar_ok rfl) dLit_ok rfl)) rfl]
    have : cut vs (some ((a + 1 : Nat) : Int)) none = vs.drop (a + 1) := cut_drop _ _
    rw [this]
  have ht : ∀ x ∈ vs.take a, Wd N k x := fun x q => hv x (List.mem_of_mem_take q)
  have hd : ∀ x ∈ vs.drop (a + 1), Wd N k x := fun x q => hv x (List.mem_of_mem_drop q)
  have head : ∀ {F : DS}, dIfS (dOr (fun ρ st => asB (dBin (vEq false) (dVar 1) (dTup dNil) ρ st)) (fun ρ st => asB (dBin (vEq false) (dVar 3) (dLit (.int 0)) ρ st))) F dEnd (E (some (nW f)) none) s1 = .ok (.nx, E (some (nW f)) none) s1 := fun {F} => dIfS_f (or_f t1 t0) rfl
  by_cases f1 : f = 1
  · have q := tf (s := s2) (x4 := some (nW a)) (j := 1)
    rw [decide_eq_true f1] at q
    refine ⟨.tuple (vs.take a ++ vs.drop (a + 1)), s2, dDef_rt (to g1 (to head (to g2 (dSeq_rt (dIfS_t q (dRet_ok (dBin_ok up dn (vAdd_tuples (by rw [List.length_take, List.length_drop]; omega))))))))), .tup (fun x z => ?_) (by rw [List.length_append, List.length_take, List.length_drop]; omega), d2.ok⟩
    rcases List.mem_append.mp z with z | z
    · exact (ht x z).up (Nat.le_succ _) (Nat.le_refl _)
    · exact (hd x z).up (Nat.le_succ _) (Nat.le_refl _)
  have q1 := tf (s := s2) (x4 := some (nW a)) (j := 1)
  rw [decide_eq_false f1] at q1
  by_cases f2 : f = 2
  · have q := tf (s := s2) (x4 := some (nW a)) (j := 2)
    rw [decide_eq_true f2] at q
    have sl : dSl (dVar 1) (dPart (dVar 4)) (dPart (dBin vAdd (dVar 4) (dLit (.int 1)))) (E (some (nW f)) (some (nW a))) s2 = .ok (.d (.tuple (cut vs (some (a : Int)) (some ((a : Int) + 1))))) s2 := BP.sl_ok (dVar_ok (w := .d (.tuple vs)) rfl) (dPart_ok (dVar_ok rfl)) (dPart_ok (dBin_ok (dVar_ok rfl) dLit_ok rfl))
    have cl : (cut vs (some (a : Int)) (some ((a : Int) + 1))).length ≤ 1 := by
      have e : cut vs (some (a : Int)) (some ((a + 1 : Nat) : Int)) = (vs.drop a).take 1 := by
        have := cut_mid vs (i := a) (j := a + 1) (by omega) (by omega)
        rw [this, show a + 1 - a = 1 by omega]
      have e' : cut vs (some (a : Int)) (some ((a : Int) + 1)) = (vs.drop a).take 1 := e
      rw [e', List.length_take]
      omega
    refine ⟨.tuple (vs ++ cut vs (some (a : Int)) (some ((a : Int) + 1))), s2, dDef_rt (to g1 (to head (to g2 (to (dIfS_f q1 rfl) (dSeq_rt (dIfS_t q (dRet_ok (dBin_ok (dVar_ok rfl) sl (vAdd_tuples (by omega)))))))))), .tup (fun x z => ?_) (by rw [List.length_append]; omega), d2.ok⟩
    rcases List.mem_append.mp z with z | z
    · exact (hv x z).up (Nat.le_succ _) (Nat.le_refl _)
    · exact (hv x (mem_cutD z)).up (Nat.le_succ _) (Nat.le_refl _)
  have q2 := tf (s := s2) (x4 := some (nW a)) (j := 2)
  rw [decide_eq_false f2] at q2
  obtain ⟨x, s3, e3, hxm, d3⟩ := F_of_ok (ds := xs) d2.ok x0 (by omega)
  have tx : dTup (dCons (dCal 2 F_l_of (dCons (dVar 0) (dCons (dVar 2) dNil))) dNil) (E (some (nW f)) (some (nW a))) s2 = .ok (.d (.tuple [x])) s3 := tup_ok (ds := [x]) (dCons1_ok (dCal_ok (dCons_ok (dVar_ok rfl) (dCons1_ok (dVar_ok rfl))) rfl e3)) rfl (by simp)
  refine ⟨.tuple ((vs.take a ++ [x]) ++ vs.drop (a + 1)), s3, dDef_rt (to g1 (to head (to g2 (to (dIfS_f q1 rfl) (to (dIfS_f q2 rfl) (dRet_ok (dBin_ok (dBin_ok up tx (vAdd_tuples (by rw [List.length_take]; simp; omega))) dn (vAdd_tuples (by rw [List.length_append, List.length_take, List.length_drop]; simp; omega))))))))), .tup (fun y z => ?_) (by rw [List.length_append, List.length_append, List.length_take, List.length_drop]; simp; omega), d3.ok⟩
  rcases List.mem_append.mp z with z | z
  · rcases List.mem_append.mp z with z | z
    · exact (ht y z).up (Nat.le_succ _) (Nat.le_refl _)
    · rw [List.mem_singleton.mp z]; exact (hx x hxm).up (Nat.le_succ _) (Nat.le_refl _)
  · exact (hd y z).up (Nat.le_succ _) (Nat.le_refl _)
end
end CAL
namespace CAL
open PySem PySem.Spec PyProof.Rows L2 Y BL BP
local macro_rules
  | `(tactic| trivial) => `(tactic| first
    | with_reducible assumption
    | ((with_reducible apply dVar_ok); rfl)
    | with_reducible exact dLit_ok
    | with_reducible exact dNil_ok
    | ((with_reducible apply dCons_ok) <;> trivial)
    | ((with_reducible apply asB_ok); trivial)
    | ((with_reducible apply dBin_ok) <;> trivial)
    | ((with_reducible apply dCall_ok) <;> trivial)
    | ((with_reducible apply dCalP_ok); trivial; rfl; rfl; (with_reducible assumption))
    | ((with_reducible apply dCal_ok); trivial; rfl; (with_reducible assumption))
    | ((with_reducible apply and_ok) <;> trivial)
    | ((with_reducible apply or_ok) <;> trivial)
    | ((with_reducible apply dNot_ok); trivial)
    | ((with_reducible apply dSet_ok); trivial)
    | ((with_reducible apply dRet_ok); trivial)
    | with_reducible exact vIn_nat
    | with_reducible exact vNotIn_nat
    | with_reducible exact vIn_natL
    | with_reducible exact vNotIn_natL
    | with_reducible exact vIn_pair
    | with_reducible exact gLen_tmap
    | with_reducible exact gLen_map
    | with_reducible exact tupleOf_list
    | with_reducible exact vEq_nat
    | with_reducible exact vEq_int
    | with_reducible exact vNe_int
    | exact rfl)
theorem dealOk_put {s : Sto} {n c b : Nat} {x : SO} (h : DealOk s n c) (hn : b ≠ n) (hc : b ≠ c) : DealOk (s.set b x) n c := by
  obtain ⟨cs, k, h1, h2, r⟩ := h
  exact ⟨cs, k, by rw [List.getElem?_set_ne hn]; exact h1, by rw [List.getElem?_set_ne hc]; exact h2, r⟩
theorem tuple_data {n : Nat} {s : Sto} {ds : List PyData} (h : s[n]? = some (.lst (ds.map W.d))) : gTupleOf [.ref n] s = .ok (.d (.tuple ds)) s := by
  have e : asD s (.ref n) = some (.list ds) := by
    show (match s[n]? with | some (.lst ws) => (allD ws).map PyData.list | _ => none) = _
    rw [h]
    dsimp only
    rw [allD_map]; rfl
  show (match asD s (.ref n) with | some (.list ds) => R.ok (W.d (.tuple ds)) s | _ => R.bad) = _
  rw [e]
theorem nats_lt {m : Nat} : ∀ {ds : List PyData}, (∀ d ∈ ds, ∃ x : Nat, d = nI x ∧ x < m) → ∃ r : List Nat, ds = r.map nI ∧ ∀ x ∈ r, x < m
  | [], _ => ⟨[], rfl, fun _ h => by cases h⟩
  | d :: ds, h => by
    obtain ⟨r, rfl, q⟩ := nats_lt fun d hd => h d (.tail _ hd)
    obtain ⟨y, rfl, hy⟩ := h d (.head _)
    exact ⟨y :: r, rfl, fun x hx => by
      rcases List.mem_cons.mp hx with rfl | hx
      · exact hy
      · exact q x hx⟩
section
variable {n c : Nat}
noncomputable def B_l_calendar : DS :=
  (dSeq (dSet 2 (dCal 2 F_l_of (dCons (dVar 0) (dCons (dLst (dCons (dLit (.int 3)) (dCons (dLit (.int 5)) (dCons (dLit (.int 9)) dNil)))) dNil))))
    (dRet (dCall gTupleOf (dCons (dLcF (dLc [3] (dRng1 (dCons (dCal 2 F_l_any (dCons (dVar 0) (dCons (dBin vAdd (dVar 1) (dLit (.int 1))) dNil))) dNil)) (tName 3) (fun _ st => .ok true st) (dCal 2 F_l_any (dCons (dVar 0) (dCons (dVar 2) dNil))))) dNil))))
noncomputable def F_l_calendar : Fn := dDef 4 B_l_calendar
theorem l_calendar_ok {st : Sto} (h : DealOk st n c) : ∃ D st', F_l_calendar [.ref n, .d (.int 6)] st = .ok (.d (lotD D)) st' ∧ D.length ≤ 6 ∧ (∀ x ∈ D, x < 61) ∧ DealOk st' n c := by
  obtain ⟨d, s1, e1, hd, d1⟩ := F_of_ok (ds := [.int 3, .int 5, .int 9]) h (by simp) (by simp)
  obtain ⟨t, rfl, t0, t9⟩ : ∃ t : Nat, d = nI t ∧ 0 < t ∧ t ≤ 9 := by
    simp only [List.mem_cons, List.not_mem_nil, or_false] at hd
    rcases hd with rfl | rfl | rfl
    · exact ⟨3, rfl, by decide, by decide⟩
    · exact ⟨5, rfl, by decide, by decide⟩
    · exact ⟨9, rfl, by decide, by decide⟩
  let E : Option W → En := fun x2 => [some (.ref n), some (.d (.int 6)), x2, none]
  have g1 : dSet 2 (dCal 2 F_l_of (dCons (dVar 0) (dCons (dLst (dCons (dLit (.int 3)) (dCons (dLit (.int 5)) (dCons (dLit (.int 9)) dNil)))) dNil))) (E none) st = .ok (.nx, E (some (nW t))) s1 := dSet_ok (dCal_ok (dCons_ok (dVar_ok rfl) (dCons1_ok (lst_ok (ds := [.int 3, .int 5, .int 9]) (dCons_ok dLit_ok (dCons_ok dLit_ok (dCons1_ok dLit_ok))) rfl (by simp)))) rfl e1)
  obtain ⟨N, s2, e2, hN, d2⟩ := anyI (k := 7) d1.ok (by decide) (by decide)
  obtain ⟨ds, s3, e3, l3, q3, d3⟩ := lc_drawnG (v := 3) (N := N) (g := dCal 2 F_l_any (dCons (dVar 0) (dCons (dBin vAdd (dVar 1) (dLit (.int 1))) dNil))) (fe := dCal 2 F_l_any (dCons (dVar 0) (dCons (dVar 2) dNil))) (ρ := E (some (nW t))) (s := s1) (s1 := s2) (P := fun s => DealOk s n c) (Q := fun d => ∃ x : Nat, d = nI x ∧ x < 61) (dCal_ok (dCons_ok (dVar_ok rfl) (dCons1_ok (dBin_ok (dVar_ok rfl) dLit_ok rfl))) rfl e2) (by omega) d2.ok fun i s _ hs => by
    obtain ⟨j, s', e, hj, d'⟩ := anyI (k := t) hs t0 (by omega)
    exact ⟨nI j, s', dCal_ok (dCons_ok (dVar_ok rfl) (dCons1_ok (dVar_ok rfl))) rfl e, ⟨j, rfl, by omega⟩, d'.ok⟩
  obtain ⟨D, rfl, hD⟩ := nats_lt q3
  rw [List.length_map] at l3
  exact ⟨D, s3, dDef_rt (to g1 (dRet_ok (dCall_ok (dCons1_ok e3) tupleOf_list))), by omega, hD, d3⟩
noncomputable def B_l_jobs : DS :=
  (dSeq (dAsg (dNewT (dCons (dNew dNil) (dCons (dCal 2 F_l_any (dCons (dVar 0) (dCons (dLit (.int 3)) dNil))) dNil))) (tTupR 2 (tCons' (tName 3) (tCons' (tName 4) tNil'))))
    (dSeq (dFor (dRng1 (dCons (dCal 2 F_l_any (dCons (dVar 0) (dCons (dBin vAdd (dVar 2) (dLit (.int 1))) dNil))) dNil)) (tName 5)
    (dSeq (dSet 6 (dLcF (dLc [7] (dRng1 (dCons (dCall gLen (dCons (dVar 1) dNil)) dNil)) (tName 7) (dOr (fun ρ st => asB (dBin (vEq false) (dVar 4) (dLit (.int 0)) ρ st)) (fun ρ st => asB (dBin vGt (dCal 2 F_l_any (dCons (dVar 0) (dCons (dLit (.int 4)) dNil))) (dLit (.int 0)) ρ st))) (dVar 7))))
    (dExpr (dMeth mAppend (dVar 3) (dCons (dTup (dCons (dCal 2 F_l_of (dCons (dVar 0) (dCons (dLst (dCons (dLit (.int 1)) (dCons (dLit (.int 2)) (dCons (dLit (.int 2)) (dCons (dLit (.int 3)) (dCons (dLit (.int 4)) dNil)))))) dNil))) (dCons (dCall gTupleOf (dCons (dVar 6) dNil)) dNil))) dNil)))))
    (dRet (dCall gTupleOf (dCons (dVar 3) dNil)))))
noncomputable def F_l_jobs : Fn := dDef 8 B_l_jobs
structure JobOk (T : Nat) (j : Jb) : Prop where
  lo : 1 ≤ j.1
  hi : j.1 ≤ 60
  ds : LotOk T j.2
theorem JobOk.b {T : Nat} {j : Jb} (h : JobOk T j) : jobB T (jobE j) = true := by
  show (cntB 1 60 (nI j.1) && lotB T (lotD j.2)) = true
  rw [lotB_yes h.ds, Bool.and_true]
  show (decide (1 ≤ (j.1 : Int)) && decide ((j.1 : Int) ≤ 60)) = true
  have := h.lo
  have := h.hi
  rw [Bool.and_eq_true, decide_eq_true_eq, decide_eq_true_eq]
  omega
theorem l_jobs_ok {D : List Nat} (hD : D.length ≤ 60) {st : Sto} (h : DealOk st n c) : ∃ js st', F_l_jobs [.ref n, .d (lotD D), .d (.int 6)] st = .ok (.d (jobsD js)) st' ∧ js.length ≤ 6 ∧ (∀ j ∈ js, JobOk D.length j) ∧ DealOk st' n c := by
  obtain ⟨l0, l1⟩ := dealOk_lt h
  let b := st.length
  let E : Option W → Option W → Option W → Option W → En := fun x3 x4 x5 x6 => [some (.ref n), some (.d (lotD D)), some (.d (.int 6)), x3, x4, x5, x6, none]
  have h' : DealOk (st ++ [.lst []]) n c := dealOk_keep h fun j hj => List.getElem?_append_left hj
  obtain ⟨f, s1, e1, hf, d1⟩ := anyI (k := 3) h' (by decide) (by decide)
  have a1 : s1[b]? = some (.lst []) := (d1.keep b (by rw [List.length_append]; simp [b]) (by omega) (by omega)).trans (by rw [List.getElem?_append_right (Nat.le_refl _), Nat.sub_self]; rfl)
  have lb : b < s1.length := by
    have := d1.le
    rw [List.length_append] at this
    have : st.length + 1 ≤ s1.length := this
    show st.length < s1.length
    omega
  have g1 : dAsg (dNewT (dCons (dNew dNil) (dCons (dCal 2 F_l_any (dCons (dVar 0) (dCons (dLit (.int 3)) dNil))) dNil))) (tTupR 2 (tCons' (tName 3) (tCons' (tName 4) tNil'))) (E none none none none) st = .ok (.nx, E (some (.ref b)) (some (nW f)) none none) (s1 ++ [.tup [.ref b, nW f]]) := by
    refine dAsg_ok (BL.newT_ok (dCons_ok (dNew_ok (fa := dNil) (s1 := st) (ws := []) rfl (Nat.zero_le _)) (dCons1_ok (dCal_ok (dCons_ok (dVar_ok rfl) (dCons1_ok dLit_ok)) rfl e1))) (by simp)) ?_
    show (match (s1 ++ [SO.tup [.ref b, nW f]])[s1.length]? with | some (.tup ws) => chk (ws.length = 2) (tCons' (tName 3) (tCons' (tName 4) tNil') ws _ _) | _ => .bad) = _
    rw [List.getElem?_append_right (Nat.le_refl _), Nat.sub_self]
    show chk _ _ = _
    rw [chk_ok (show [W.ref b, nW f].length = 2 from rfl)]
    rfl
  have d2 : DealOk (s1 ++ [.tup [.ref b, nW f]]) n c := dealOk_keep d1.ok fun j hj => List.getElem?_append_left hj
  have a2 : (s1 ++ [SO.tup [.ref b, nW f]])[b]? = some (.lst []) := by rw [List.getElem?_append_left lb]; exact a1
  obtain ⟨N, s3, e3, hN, d3⟩ := anyI (k := 7) d2 (by decide) (by decide)
  have a3 : s3[b]? = some (.lst []) := (d3.keep b (by rw [List.length_append]; omega) (by omega) (by omega)).trans a2
  obtain ⟨ρ', s', fl, js, x5, x6, rfl, d4, a4, l4, ok4⟩ := forL_ok (tg := tName 5) (body := (dSeq (dSet 6 (dLcF (dLc [7] (dRng1 (dCons (dCall gLen (dCons (dVar 1) dNil)) dNil)) (tName 7) (dOr (fun ρ st => asB (dBin (vEq false) (dVar 4) (dLit (.int 0)) ρ st)) (fun ρ st => asB (dBin vGt (dCal 2 F_l_any (dCons (dVar 0) (dCons (dLit (.int 4)) dNil))) (dLit (.int 0)) ρ st))) (dVar 7))))
    (dExpr (dMeth mAppend (dVar 3) (dCons (dTup (dCons (dCal 2 F_l_of (dCons (dVar 0) (dCons (dLst (dCons (dLit (.int 1)) (dCons (dLit (.int 2)) (dCons (dLit (.int 2)) (dCons (dLit (.int 3)) (dCons (dLit (.int 4)) dNil)))))) dNil))) (dCons (dCall gTupleOf (dCons (dVar 6) dNil)) dNil))) dNil))))) (emb := fun i : Nat => nW i)
    (P := fun pre ρ s => ∃ js x5 x6, ρ = E (some (.ref b)) (some (nW f)) x5 x6 ∧ DealOk s n c ∧ s[b]? = some (.lst ((js.map jobE).map W.d)) ∧ js.length = pre.length ∧ ∀ j ∈ js, JobOk D.length j) (List.range N)
    (fun pre i post ρ s e q => by
      obtain ⟨js, x5, x6, rfl, ds, as, ls, oks⟩ := q
      have pl : pre.length < N := by
        have := congrArg List.length e
        rw [List.length_range, List.length_append, List.length_cons] at this
        omega
      have bs : b < s.length := by
        rcases Nat.lt_or_ge b s.length with q | q
        · exact q
        · rw [List.getElem?_eq_none q] at as; cases as
      obtain ⟨l, t1, hl, ec, dt⟩ := lc_subG (v := 7) (N := D.length) (g := dCall gLen (dCons (dVar 1) dNil)) (tt := dOr (fun ρ st => asB (dBin (vEq false) (dVar 4) (dLit (.int 0)) ρ st)) (fun ρ st => asB (dBin vGt (dCal 2 F_l_any (dCons (dVar 0) (dCons (dLit (.int 4)) dNil))) (dLit (.int 0)) ρ st))) (ρ := E (some (.ref b)) (some (nW f)) (some (nW i)) x6) (s := s) (s1 := s) (P := fun t => DealOk t n c ∧ t[b]? = some (.lst ((js.map jobE).map W.d))) (dCall_ok (dCons1_ok (dVar_ok rfl)) gLen_tmap) (by omega) (by show 7 < 8; omega) ⟨ds, as⟩ fun x t ht => by
        obtain ⟨dt, at'⟩ := ht
        have q1 : asB (dBin (vEq false) (dVar 4) (dLit (.int 0)) ((E (some (.ref b)) (some (nW f)) (some (nW i)) x6).set 7 (some (nW x))) t) = .ok (decide ((f : Int) = 0)) t := asB_ok (dBin_ok (dVar_ok rfl) dLit_ok eq_ints)
        cases z : decide ((f : Int) = 0) with
        | true =>
          rw [z] at q1
          exact ⟨true, t, or_t q1, dt, at'⟩
        | false =>
          rw [z] at q1
          obtain ⟨y, t', ey, _, dy⟩ := anyI (k := 4) dt (by decide) (by decide)
          have bt : b < t.length := by
            rcases Nat.lt_or_ge b t.length with q | q
            · exact q
            · rw [List.getElem?_eq_none q] at at'; cases at'
          exact ⟨_, t', or_f q1 (asB_ok (dBin_ok (dCal_ok (dCons_ok (dVar_ok rfl) (dCons1_ok dLit_ok)) rfl ey) dLit_ok rfl)), dy.ok, (dy.keep b bt (by omega) (by omega)).trans at'⟩
      obtain ⟨dt, at'⟩ := dt
      have bt : b < t1.length := by
        rcases Nat.lt_or_ge b t1.length with q | q
        · exact q
        · rw [List.getElem?_eq_none q] at at'; cases at'
      obtain ⟨gd, t2, e2, hg, dg⟩ := F_of_ok (ds := [.int 1, .int 2, .int 2, .int 3, .int 4]) dt (by simp) (by simp)
      obtain ⟨g, rfl, g1, g2⟩ : ∃ g : Nat, gd = nI g ∧ 1 ≤ g ∧ g ≤ 60 := by
        simp only [List.mem_cons, List.not_mem_nil, or_false] at hg
        rcases hg with rfl | rfl | rfl | rfl | rfl
        · exact ⟨1, rfl, by decide, by decide⟩
        · exact ⟨2, rfl, by decide, by decide⟩
        · exact ⟨2, rfl, by decide, by decide⟩
        · exact ⟨3, rfl, by decide, by decide⟩
        · exact ⟨4, rfl, by decide, by decide⟩
      have a5 : t2[b]? = some (.lst ((js.map jobE).map W.d)) := (dg.keep b bt (by omega) (by omega)).trans at'
      have s6 := dSet_ok (i := 6) ec
      have tp : dTup (dCons (dCal 2 F_l_of (dCons (dVar 0) (dCons (dLst (dCons (dLit (.int 1)) (dCons (dLit (.int 2)) (dCons (dLit (.int 2)) (dCons (dLit (.int 3)) (dCons (dLit (.int 4)) dNil)))))) dNil))) (dCons (dCall gTupleOf (dCons (dVar 6) dNil)) dNil)) (E (some (.ref b)) (some (nW f)) (some (nW i)) (some (.d (.list (l.map nI))))) t1 = .ok (.d (jobE (g, l))) t2 :=
        tup_ok (ds := [nI g, lotD l]) (dCons_ok (dCal_ok (dCons_ok (dVar_ok rfl) (dCons1_ok (lst_ok (ds := [.int 1, .int 2, .int 2, .int 3, .int 4]) (dCons_ok dLit_ok (dCons_ok dLit_ok (dCons_ok dLit_ok (dCons_ok dLit_ok (dCons1_ok dLit_ok))))) rfl (by simp)))) rfl e2) (dCons1_ok (dCall_ok (dCons1_ok (dVar_ok rfl)) tupleOf_list))) rfl (by simp)
      refine ⟨E (some (.ref b)) (some (nW f)) (some (nW i)) x6, s, _, _, rfl, to s6 (dExpr_ok (dMeth_ok (dVar_ok rfl) at' (dCons1_ok tp) (append_ok a5 (by rw [List.length_map, List.length_map]; omega)))), js ++ [(g, l)], _, _, rfl, ?_, ?_, by rw [List.length_append, List.length_append, ls]; rfl, ?_⟩
      · exact dealOk_put dg.ok (by omega) (by omega)
      · rw [List.getElem?_set_self (by
          rcases Nat.lt_or_ge b t2.length with q | q
          · exact q
          · rw [List.getElem?_eq_none q] at a5; cases a5), List.map_append, List.map_append]; rfl
      · intro j hj
        rcases List.mem_append.mp hj with hj | hj
        · exact oks j hj
        · rw [List.mem_singleton.mp hj]
          exact ⟨g1, g2, lotOk_of hl⟩)
    (ρ := E (some (.ref b)) (some (nW f)) none none) (s := s3) ⟨[], _, _, rfl, d3.ok, a3, rfl, fun j hj => by cases hj⟩
  rw [List.length_range] at l4
  have it : dRng1 (dCons (dCal 2 F_l_any (dCons (dVar 0) (dCons (dBin vAdd (dVar 2) (dLit (.int 1))) dNil))) dNil) (E (some (.ref b)) (some (nW f)) none none) (s1 ++ [.tup [.ref b, nW f]]) = .ok ((List.range N).map fun i => nW i) s3 := it_r (dCal_ok (dCons_ok (dVar_ok rfl) (dCons1_ok (dBin_ok (dVar_ok rfl) dLit_ok rfl))) rfl e3) (by omega)
  exact ⟨js, s', dDef_rt (to g1 (to (dFor_ok it fl) (dRet_ok (dCall_ok (dCons1_ok (dVar_ok rfl)) (tuple_data a4))))), by omega, ok4, d4⟩
end
end CAL
namespace TR
open PySem PySem.Spec PyProof.Rows L2 Y BL TT
local macro_rules
  | `(tactic| trivial) => `(tactic| first
    | with_reducible assumption
    | ((with_reducible apply dVar_ok); rfl)
    | with_reducible exact dLit_ok
    | with_reducible exact dNil_ok
    | ((with_reducible apply dCons_ok) <;> trivial)
    | ((with_reducible apply asB_ok); trivial)
    | ((with_reducible apply dBin_ok) <;> trivial)
    | ((with_reducible apply dCall_ok) <;> trivial)
    | ((with_reducible apply dCalP_ok); trivial; rfl; rfl; (with_reducible assumption))
    | ((with_reducible apply dCal_ok); trivial; rfl; (with_reducible assumption))
    | ((with_reducible apply and_ok) <;> trivial)
    | ((with_reducible apply or_ok) <;> trivial)
    | ((with_reducible apply dNot_ok); trivial)
    | ((with_reducible apply dSet_ok); trivial)
    | ((with_reducible apply dRet_ok); trivial)
    | with_reducible exact vIn_nat
    | with_reducible exact vNotIn_nat
    | with_reducible exact vIn_natL
    | with_reducible exact vNotIn_natL
    | with_reducible exact vIn_pair
    | with_reducible exact gLen_tmap
    | with_reducible exact gLen_map
    | with_reducible exact tupleOf_list
    | with_reducible exact vEq_nat
    | with_reducible exact vEq_int
    | with_reducible exact vNe_int
    | exact rfl)
inductive Ch (pt : Nat → Nat) (first : Nat) : List Nat → Nat → Prop
  | nil : Ch pt first [] first
  | snoc {row : List Nat} {x : Nat} : Ch pt first row x → Ch pt first (row ++ [x]) (pt x)
theorem getD_app {a b : List Nat} {i : Nat} (h : i < a.length) : (a ++ b).getD i 0 = a.getD i 0 := by
  rw [List.getD_eq_getElem?_getD, List.getD_eq_getElem?_getD, List.getElem?_append_left h]
theorem getD_end {a : List Nat} {x : Nat} : (a ++ [x]).getD a.length 0 = x := by
  rw [List.getD_eq_getElem?_getD, List.getElem?_append_right (Nat.le_refl _), Nat.sub_self]; rfl
theorem Ch.go {pt : Nat → Nat} {first : Nat} {row : List Nat} {p : Nat} (h : Ch pt first row p) : ∀ i, i < row.length → (row ++ [p]).getD (i + 1) 0 = pt (row.getD i 0) := by
  induction h with
  | nil => intro i hi; cases hi
  | @snoc row x h ih =>
    intro i hi
    rw [List.length_append, List.length_singleton] at hi
    by_cases c : i < row.length
    · rw [getD_app (by simp; omega), ih i c, getD_app c]
    · have e : i = row.length := by omega
      subst e
      rw [getD_end, show row.length + 1 = (row ++ [x]).length by simp, getD_end]
theorem Ch.mem {pt : Nat → Nat} {first : Nat} {row : List Nat} {p : Nat} (h : Ch pt first row p) : first ∈ row ∨ (row = [] ∧ p = first) := by
  induction h with
  | nil => exact .inr ⟨rfl, rfl⟩
  | snoc h ih =>
    rcases ih with q | ⟨q1, q2⟩
    · exact .inl (by simp [q])
    · exact .inl (by rw [q1, q2]; simp)
theorem Ch.cl {pt : Nat → Nat} {first : Nat} {row : List Nat} {p : Nat} (h : Ch pt first row p) {x : Nat} (hx : x ∈ row) : pt x ∈ row ∨ pt x = p := by
  obtain ⟨i, hi, rfl⟩ := mem_getD hx
  rw [← h.go i hi]
  by_cases c : i + 1 < row.length
  · rw [getD_app c]; exact .inl (getD_mem c)
  · rw [show i + 1 = row.length by omega, getD_end]; exact .inr rfl
theorem Ch.ring {pt : Nat → Nat} {first : Nat} {row : List Nat} {p : Nat} (h : Ch pt first row p) (nd : row.Nodup) (hp : p ∈ row) : Rf pt (row.drop (row.idxOf p)) := by
  have hk := List.idxOf_lt_length_of_mem hp
  generalize hkk : row.idxOf p = k at hk
  have ek : row.getD k 0 = p := by
    rw [List.getD_eq_getElem?_getD, List.getElem?_eq_getElem hk]
    subst hkk
    exact List.getElem_idxOf hk
  have ll : (row.drop k).length = row.length - k := List.length_drop
  have gd : ∀ i, (row.drop k).getD i 0 = row.getD (k + i) 0 := fun i => by rw [List.getD_eq_getElem?_getD, List.getD_eq_getElem?_getD, List.getElem?_drop]
  refine ⟨fun z => by rw [z] at ll; simp at ll; omega, nd.sublist (List.drop_sublist _ _), fun i hi => ?_⟩
  rw [ll] at hi ⊢
  have hg := h.go (k + i) (by omega)
  by_cases c : i + 1 < row.length - k
  · rw [Nat.mod_eq_of_lt c, gd, gd, ← hg, getD_app (by omega)]
    congr 1
  · rw [show i + 1 = row.length - k by omega, Nat.mod_self, gd, gd, Nat.add_zero, ek, ← hg, show k + i + 1 = row.length by omega, getD_end]
end TR
namespace TR
open PySem PySem.Spec PyProof.Rows L2 Y BL TT
local macro_rules
  | `(tactic| trivial) => `(tactic| first
    | with_reducible assumption
    | ((with_reducible apply dVar_ok); rfl)
    | with_reducible exact dLit_ok
    | with_reducible exact dNil_ok
    | ((with_reducible apply dCons_ok) <;> trivial)
    | ((with_reducible apply asB_ok); trivial)
    | ((with_reducible apply dBin_ok) <;> trivial)
    | ((with_reducible apply dCall_ok) <;> trivial)
    | ((with_reducible apply dCalP_ok); trivial; rfl; rfl; (with_reducible assumption))
    | ((with_reducible apply dCal_ok); trivial; rfl; (with_reducible assumption))
    | ((with_reducible apply and_ok) <;> trivial)
    | ((with_reducible apply or_ok) <;> trivial)
    | ((with_reducible apply dNot_ok); trivial)
    | ((with_reducible apply dSet_ok); trivial)
    | ((with_reducible apply dRet_ok); trivial)
    | with_reducible exact vIn_nat
    | with_reducible exact vNotIn_nat
    | with_reducible exact vIn_natL
    | with_reducible exact vNotIn_natL
    | with_reducible exact vIn_pair
    | with_reducible exact gLen_tmap
    | with_reducible exact gLen_map
    | with_reducible exact tupleOf_list
    | with_reducible exact vEq_nat
    | with_reducible exact vEq_int
    | with_reducible exact vNe_int
    | exact rfl)
end TR
namespace TR
open PySem PySem.Spec PyProof.Rows L2 Y BL TT
local macro_rules
  | `(tactic| trivial) => `(tactic| first
    | with_reducible assumption
    | ((with_reducible apply dVar_ok); rfl)
    | with_reducible exact dLit_ok
    | with_reducible exact dNil_ok
    | ((with_reducible apply dCons_ok) <;> trivial)
    | ((with_reducible apply asB_ok); trivial)
    | ((with_reducible apply dBin_ok) <;> trivial)
    | ((with_reducible apply dCall_ok) <;> trivial)
    | ((with_reducible apply dCalP_ok); trivial; rfl; rfl; (with_reducible assumption))
    | ((with_reducible apply dCal_ok); trivial; rfl; (with_reducible assumption))
    | ((with_reducible apply and_ok) <;> trivial)
    | ((with_reducible apply or_ok) <;> trivial)
    | ((with_reducible apply dNot_ok); trivial)
    | ((with_reducible apply dSet_ok); trivial)
    | ((with_reducible apply dRet_ok); trivial)
    | with_reducible exact vIn_nat
    | with_reducible exact vNotIn_nat
    | with_reducible exact vIn_natL
    | with_reducible exact vNotIn_natL
    | with_reducible exact vIn_pair
    | with_reducible exact gLen_tmap
    | with_reducible exact gLen_map
    | with_reducible exact tupleOf_list
    | with_reducible exact vEq_nat
    | with_reducible exact vEq_int
    | with_reducible exact vNe_int
    | exact rfl)
end TR
namespace TR
open PySem PySem.Spec PyProof.Rows L2 Y BL TT
local macro_rules
  | `(tactic| trivial) => `(tactic| first
    | with_reducible assumption
    | ((with_reducible apply dVar_ok); rfl)
    | with_reducible exact dLit_ok
    | with_reducible exact dNil_ok
    | ((with_reducible apply dCons_ok) <;> trivial)
    | ((with_reducible apply asB_ok); trivial)
    | ((with_reducible apply dBin_ok) <;> trivial)
    | ((with_reducible apply dCall_ok) <;> trivial)
    | ((with_reducible apply dCalP_ok); trivial; rfl; rfl; (with_reducible assumption))
    | ((with_reducible apply dCal_ok); trivial; rfl; (with_reducible assumption))
    | ((with_reducible apply and_ok) <;> trivial)
    | ((with_reducible apply or_ok) <;> trivial)
    | ((with_reducible apply dNot_ok); trivial)
    | ((with_reducible apply dSet_ok); trivial)
    | ((with_reducible apply dRet_ok); trivial)
    | with_reducible exact vIn_nat
    | with_reducible exact vNotIn_nat
    | with_reducible exact vIn_natL
    | with_reducible exact vNotIn_natL
    | with_reducible exact vIn_pair
    | with_reducible exact gLen_tmap
    | with_reducible exact gLen_map
    | with_reducible exact tupleOf_list
    | with_reducible exact vEq_nat
    | with_reducible exact vEq_int
    | with_reducible exact vNe_int
    | exact rfl)
end TR
namespace TR
open PySem PySem.Spec PyProof.Rows L2 Y BL TT
local macro_rules
  | `(tactic| trivial) => `(tactic| first
    | with_reducible assumption
    | ((with_reducible apply dVar_ok); rfl)
    | with_reducible exact dLit_ok
    | with_reducible exact dNil_ok
    | ((with_reducible apply dCons_ok) <;> trivial)
    | ((with_reducible apply asB_ok); trivial)
    | ((with_reducible apply dBin_ok) <;> trivial)
    | ((with_reducible apply dCall_ok) <;> trivial)
    | ((with_reducible apply dCalP_ok); trivial; rfl; rfl; (with_reducible assumption))
    | ((with_reducible apply dCal_ok); trivial; rfl; (with_reducible assumption))
    | ((with_reducible apply and_ok) <;> trivial)
    | ((with_reducible apply or_ok) <;> trivial)
    | ((with_reducible apply dNot_ok); trivial)
    | ((with_reducible apply dSet_ok); trivial)
    | ((with_reducible apply dRet_ok); trivial)
    | with_reducible exact vIn_nat
    | with_reducible exact vNotIn_nat
    | with_reducible exact vIn_natL
    | with_reducible exact vNotIn_natL
    | with_reducible exact vIn_pair
    | with_reducible exact gLen_tmap
    | with_reducible exact gLen_map
    | with_reducible exact tupleOf_list
    | with_reducible exact vEq_nat
    | with_reducible exact vEq_int
    | with_reducible exact vNe_int
    | exact rfl)
end TR
namespace TT
def it (pt : Nat → Nat) : Nat → Nat → Nat
  | 0, x => x
  | i + 1, x => pt (it pt i x)
theorem it_add (pt : Nat → Nat) (i j x : Nat) : it pt (i + j) x = it pt i (it pt j x) := by
  induction i with
  | zero => rw [Nat.zero_add]; rfl
  | succ i ih => rw [show i + 1 + j = (i + j) + 1 by omega]; show pt (it pt (i + j) x) = pt _; rw [ih]
theorem it_mem {pt : Nat → Nat} {L : List Nat} (cl : ∀ x ∈ L, pt x ∈ L) {x : Nat} (hx : x ∈ L) : ∀ i, it pt i x ∈ L
  | 0 => hx
  | i + 1 => cl _ (it_mem cl hx i)
abbrev orb (pt : Nat → Nat) (m x : Nat) : List Nat := (List.range m).map fun i => it pt i x
theorem orb_mem {pt : Nat → Nat} {m x y : Nat} : y ∈ orb pt m x ↔ ∃ i, i < m ∧ it pt i x = y := by
  show y ∈ (List.range m).map _ ↔ _
  rw [List.mem_map]
  exact ⟨fun ⟨i, h1, h2⟩ => ⟨i, List.mem_range.mp h1, h2⟩, fun ⟨i, h1, h2⟩ => ⟨i, List.mem_range.mpr h1, h2⟩⟩
/-- after so many steps one is on a ring -/
theorem back {pt : Nat → Nat} {L : List Nat} (cl : ∀ x ∈ L, pt x ∈ L) {x : Nat} (hx : x ∈ L) : ∃ p, 0 < p ∧ it pt p (it pt L.length x) = it pt L.length x := by
  have nn : ¬ (orb pt (L.length + 1) x).Nodup := fun z => by
    have := MB.sub_len _ L z fun y hy => by
      obtain ⟨i, _, rfl⟩ := orb_mem.mp hy
      exact it_mem cl hx i
    rw [List.length_map, List.length_range] at this
    omega
  obtain ⟨i, j, hij, hj, e⟩ : ∃ i j, i < j ∧ j < L.length + 1 ∧ it pt i x = it pt j x := by
    refine Classical.byContradiction fun z => nn ?_
    refine List.pairwise_map.mpr (List.pairwise_lt_range.imp_of_mem fun {a b} _ hb lt e => z ⟨a, b, lt, List.mem_range.mp hb, e⟩)
  refine ⟨j - i, by omega, ?_⟩
  have e1 : L.length = (L.length - j) + j := by omega
  have e2 : (j - i) + L.length = (L.length - i + (j - i)) + i := by omega
  rw [← it_add, e2, it_add, e, ← it_add, show L.length - i + (j - i) + j = (L.length - i + j) + (j - i) by omega]
  have e3 : ∀ k, it pt (k + (j - i)) (it pt i x) = it pt k (it pt i x) := fun k => by
    rw [it_add, ← it_add pt (j - i) i, show j - i + i = j by omega, ← e]
  rw [show L.length - i + j + (j - i) = (L.length - i + (j - i) + (j - i)) + i by omega, it_add, e3, e3]
  rw [← it_add]
  congr 1
  omega
theorem Rf.same {pt pt' : Nat → Nat} {r : List Nat} (h : Rf pt r) (h' : Rf pt' r) : ∀ x ∈ r, pt x = pt' x := fun x hx => by
  obtain ⟨i, hi, rfl⟩ := mem_getD hx
  rw [← h.go i hi, ← h'.go i hi]
end TT
namespace TR
open PySem PySem.Spec PyProof.Rows L2 Y BL TT
local macro_rules
  | `(tactic| trivial) => `(tactic| first
    | with_reducible assumption
    | ((with_reducible apply dVar_ok); rfl)
    | with_reducible exact dLit_ok
    | with_reducible exact dNil_ok
    | ((with_reducible apply dCons_ok) <;> trivial)
    | ((with_reducible apply asB_ok); trivial)
    | ((with_reducible apply dBin_ok) <;> trivial)
    | ((with_reducible apply dCall_ok) <;> trivial)
    | ((with_reducible apply dCalP_ok); trivial; rfl; rfl; (with_reducible assumption))
    | ((with_reducible apply dCal_ok); trivial; rfl; (with_reducible assumption))
    | ((with_reducible apply and_ok) <;> trivial)
    | ((with_reducible apply or_ok) <;> trivial)
    | ((with_reducible apply dNot_ok); trivial)
    | ((with_reducible apply dSet_ok); trivial)
    | ((with_reducible apply dRet_ok); trivial)
    | with_reducible exact vIn_nat
    | with_reducible exact vNotIn_nat
    | with_reducible exact vIn_natL
    | with_reducible exact vNotIn_natL
    | with_reducible exact vIn_pair
    | with_reducible exact gLen_tmap
    | with_reducible exact gLen_map
    | with_reducible exact tupleOf_list
    | with_reducible exact vEq_nat
    | with_reducible exact vEq_int
    | with_reducible exact vNe_int
    | exact rfl)
end TR
namespace TR
open PySem PySem.Spec PyProof.Rows L2 Y BL TT
local macro_rules
  | `(tactic| trivial) => `(tactic| first
    | with_reducible assumption
    | ((with_reducible apply dVar_ok); rfl)
    | with_reducible exact dLit_ok
    | with_reducible exact dNil_ok
    | ((with_reducible apply dCons_ok) <;> trivial)
    | ((with_reducible apply asB_ok); trivial)
    | ((with_reducible apply dBin_ok) <;> trivial)
    | ((with_reducible apply dCall_ok) <;> trivial)
    | ((with_reducible apply dCalP_ok); trivial; rfl; rfl; (with_reducible assumption))
    | ((with_reducible apply dCal_ok); trivial; rfl; (with_reducible assumption))
    | ((with_reducible apply and_ok) <;> trivial)
    | ((with_reducible apply or_ok) <;> trivial)
    | ((with_reducible apply dNot_ok); trivial)
    | ((with_reducible apply dSet_ok); trivial)
    | ((with_reducible apply dRet_ok); trivial)
    | with_reducible exact vIn_nat
    | with_reducible exact vNotIn_nat
    | with_reducible exact vIn_natL
    | with_reducible exact vNotIn_natL
    | with_reducible exact vIn_pair
    | with_reducible exact gLen_tmap
    | with_reducible exact gLen_map
    | with_reducible exact tupleOf_list
    | with_reducible exact vEq_nat
    | with_reducible exact vEq_int
    | with_reducible exact vNe_int
    | exact rfl)
end TR
namespace TR
open PySem PySem.Spec PyProof.Rows L2 Y BL TT
local macro_rules
  | `(tactic| trivial) => `(tactic| first
    | with_reducible assumption
    | ((with_reducible apply dVar_ok); rfl)
    | with_reducible exact dLit_ok
    | with_reducible exact dNil_ok
    | ((with_reducible apply dCons_ok) <;> trivial)
    | ((with_reducible apply asB_ok); trivial)
    | ((with_reducible apply dBin_ok) <;> trivial)
    | ((with_reducible apply dCall_ok) <;> trivial)
    | ((with_reducible apply dCalP_ok); trivial; rfl; rfl; (with_reducible assumption))
    | ((with_reducible apply dCal_ok); trivial; rfl; (with_reducible assumption))
    | ((with_reducible apply and_ok) <;> trivial)
    | ((with_reducible apply or_ok) <;> trivial)
    | ((with_reducible apply dNot_ok); trivial)
    | ((with_reducible apply dSet_ok); trivial)
    | ((with_reducible apply dRet_ok); trivial)
    | with_reducible exact vIn_nat
    | with_reducible exact vNotIn_nat
    | with_reducible exact vIn_natL
    | with_reducible exact vNotIn_natL
    | with_reducible exact vIn_pair
    | with_reducible exact gLen_tmap
    | with_reducible exact gLen_map
    | with_reducible exact tupleOf_list
    | with_reducible exact vEq_nat
    | with_reducible exact vEq_int
    | with_reducible exact vNe_int
    | exact rfl)
theorem dPar3_ok' {i j l : Nat} {fa : En → Sto → R (List W)} {ρ : En} {s s1 : Sto} {w u z : W} (h : fa ρ s = .ok [w, u, z] s1) : dPar3 i j l fa ρ s = .ok (.nx, ((ρ.set i (some w)).set j (some u)).set l (some z)) s1 := by unfold dPar3; rw [h]; rfl
end TR
namespace CAL
open PySem PySem.Spec PyProof.Rows L2 Y BL BP
local macro_rules
  | `(tactic| trivial) => `(tactic| first
    | with_reducible assumption
    | ((with_reducible apply dVar_ok); rfl)
    | with_reducible exact dLit_ok
    | with_reducible exact dNil_ok
    | ((with_reducible apply dCons_ok) <;> trivial)
    | ((with_reducible apply asB_ok); trivial)
    | ((with_reducible apply dBin_ok) <;> trivial)
    | ((with_reducible apply dCall_ok) <;> trivial)
    | ((with_reducible apply dCalP_ok); trivial; rfl; rfl; (with_reducible assumption))
    | ((with_reducible apply dCal_ok); trivial; rfl; (with_reducible assumption))
    | ((with_reducible apply and_ok) <;> trivial)
    | ((with_reducible apply or_ok) <;> trivial)
    | ((with_reducible apply dNot_ok); trivial)
    | ((with_reducible apply dSet_ok); trivial)
    | ((with_reducible apply dRet_ok); trivial)
    | with_reducible exact vIn_nat
    | with_reducible exact vNotIn_nat
    | with_reducible exact vIn_natL
    | with_reducible exact vNotIn_natL
    | with_reducible exact vIn_pair
    | with_reducible exact gLen_tmap
    | with_reducible exact gLen_map
    | with_reducible exact tupleOf_list
    | with_reducible exact vEq_nat
    | with_reducible exact vEq_int
    | with_reducible exact vNe_int
    | exact rfl)
abbrev Pc := Option Nat × List Nat
def pcE : Pc → PyData
  | (some g, row) => .tuple [.str "chain", nI g, lotD row]
  | (none, row) => .tuple [.str "ring", lotD row]
abbrev packD (ps : List Pc) : PyData := .tuple (ps.map pcE)
theorem last_pc {p : Pc} {s : Sto} : vIx (.d (pcE p)) (.d (.int (-1))) s = .ok (.d (lotD p.2)) s := by
  obtain ⟨g, row⟩ := p
  cases g <;> rfl
theorem ne_words : ("chain" : Str) ≠ ("ring" : Str) := by decide +kernel
theorem eqv_str (a b : Str) : PyData.eqv (.str a) (.str b) = decide (a = b) := by
  rw [PyData.eqv]
  by_cases h : a = b
  · subst h; simp
  · rw [decide_eq_false h]
    simpa using h
theorem alike_lots (a b : List Nat) : PySem.W.alike (lotD a) (lotD b) = true := by
  show PySem.W.alike (.tuple (a.map nI)) (.tuple (b.map nI)) = true
  rw [nI_zs, nI_zs, PySem.W.alike]
  exact PySem.W.alike_ints _ _
theorem alk_pcs (p q : Pc) : ∃ x r y t, pcE p = .tuple (x :: r) ∧ pcE q = .tuple (y :: t) ∧ alkAll (x :: r) (y :: t) = true := by
  obtain ⟨g, a⟩ := p
  obtain ⟨h, b⟩ := q
  have sr : ∀ x y : Str, PySem.W.alike (.str x) (.str y) = true := fun x y => by simp [PySem.W.alike]
  have ni : ∀ x y : Nat, PySem.W.alike (nI x) (nI y) = true := fun x y => by simp [PySem.W.alike]
  have nil : alkAll [] [] = true := by simp [alkAll]
  cases g with
  | some g =>
    cases h with
    | some h =>
      refine ⟨_, _, _, _, rfl, rfl, ?_⟩
      simp only [alkAll, sr, ni, alike_lots, Bool.true_and, Bool.or_true]
    | none =>
      refine ⟨_, _, _, _, rfl, rfl, ?_⟩
      simp only [alkAll, sr, eqv_str, decide_eq_false ne_words, Bool.not_false, Bool.true_or, Bool.and_true]
  | none =>
    cases h with
    | some h =>
      refine ⟨_, _, _, _, rfl, rfl, ?_⟩
      simp only [alkAll, sr, eqv_str, decide_eq_false (Ne.symm ne_words), Bool.not_false, Bool.true_or, Bool.and_true]
    | none =>
      refine ⟨_, _, _, _, rfl, rfl, ?_⟩
      simp only [alkAll, sr, alike_lots, Bool.true_and, Bool.or_true]
theorem ok_chain : PyData.strOk "chain" = true := by decide +kernel
theorem ok_ring : PyData.strOk "ring" = true := by decide +kernel
theorem dk_pc (p : Pc) : Dk 2 (pcE p) := by
  have dl : ∀ l : List Nat, Dk 1 (lotD l) := fun l => Dk.tup (k := 0) fun x hx => by
    obtain ⟨y, _, rfl⟩ := List.mem_map.mp hx
    exact Dk.int _
  obtain ⟨g, a⟩ := p
  cases g with
  | some g =>
    refine Dk.tup (k := 1) fun x hx => ?_
    simp only [List.mem_cons, List.not_mem_nil, or_false] at hx
    rcases hx with rfl | rfl | rfl
    · exact Dk.str ok_chain
    · exact Dk.int _
    · exact dl a
  | none =>
    refine Dk.tup (k := 1) fun x hx => ?_
    simp only [List.mem_cons, List.not_mem_nil, or_false] at hx
    rcases hx with rfl | rfl
    · exact Dk.str ok_ring
    · exact dl a
theorem pcs_of {ps : List Pc} : ∀ {ds : List PyData}, (∀ d ∈ ds, ∃ p ∈ ps, d = pcE p) → ∃ qs : List Pc, ds = qs.map pcE ∧ ∀ q ∈ qs, q ∈ ps
  | [], _ => ⟨[], rfl, fun q h => by cases h⟩
  | d :: ds, h => by
    obtain ⟨qs, rfl, q⟩ := pcs_of fun d hd => h d (.tail _ hd)
    obtain ⟨p, hp, rfl⟩ := h d (.head _)
    exact ⟨p :: qs, rfl, fun x hx => by
      rcases List.mem_cons.mp hx with rfl | hx
      · exact hp
      · exact q x hx⟩
open Classical in
theorem sorted_pcs {n : Nat} {s : Sto} {ps : List Pc} (h : s[n]? = some (.lst ((ps.map pcE).map W.d))) : ∃ qs : List Pc, gSortedW [.ref n] s = .ok (.d (.list (qs.map pcE))) s ∧ qs.length = ps.length ∧ ∀ q ∈ qs, q ∈ ps := by
  have e : asD s (.ref n) = some (.list (ps.map pcE)) := by
    show (match s[n]? with | some (.lst ws) => (allD ws).map PyData.list | _ => none) = _
    rw [h]
    dsimp only
    rw [allD_map]; rfl
  have g : gSortedW [.ref n] s = .ok (.d (.list (srtA (ps.map pcE)))) s := by
    show (match asD s (.ref n) with | some (.list ds) => chk _ _ | _ => .bad) = _
    rw [e]
    dsimp only
    refine chk_ok ⟨fun d hd d' hd' => ?_, fun d hd => ?_⟩
    · obtain ⟨p, _, rfl⟩ := List.mem_map.mp hd
      obtain ⟨q, _, rfl⟩ := List.mem_map.mp hd'
      exact alk_pcs p q
    · obtain ⟨p, _, rfl⟩ := List.mem_map.mp hd
      exact Nat.le_trans (dk_pc p).2 (by decide)
  have pm : (srtA (ps.map pcE)).Perm (ps.map pcE) := List.mergeSort_perm _ _
  obtain ⟨qs, eq, hq⟩ := pcs_of (ps := ps) (ds := srtA (ps.map pcE)) fun d hd => by
    obtain ⟨p, hp, rfl⟩ := List.mem_map.mp (pm.mem_iff.mp hd)
    exact ⟨p, hp, rfl⟩
  rw [eq] at g pm
  have l := pm.length_eq
  rw [List.length_map, List.length_map] at l
  exact ⟨qs, g, l, hq⟩
section
variable {n c : Nat}
noncomputable def B_l_pack : DS :=
  (dSeq (dPar3 2 3 4 (dCons (dCal 2 F_l_mixed (dCons (dVar 0) (dCons (dListRng (dVar 1)) dNil))) (dCons (dNew dNil) (dCons (dLit (.int 0)) dNil))))
    (dSeq (dFor (dRng1 (dCons (dLit (.int 6)) dNil)) (tName 5)
    (dSeq (dSet 6 (dBin vAdd (dLit (.int 1)) (dCal 2 F_l_any (dCons (dVar 0) (dCons (dLit (.int 4)) dNil)))))
    (dIfS (dAnd (fun ρ st => asB (dBin vLe (dVar 6) (dCall gLen (dCons (dVar 2) dNil)) ρ st)) (fun ρ st => asB (dBin vGt (dCal 2 F_l_any (dCons (dVar 0) (dCons (dLit (.int 4)) dNil))) (dLit (.int 0)) ρ st)))
    (dSeq (dPar 7 2 (dCons (dSl (dVar 2) dNoP (dPart (dVar 6))) (dCons (dSl (dVar 2) (dPart (dVar 6)) dNoP) dNil)))
    (dIfS (dOr (fun ρ st => asB (dBin (vEq false) (dVar 6) (dLit (.int 1)) ρ st)) (fun ρ st => asB (dBin (vEq false) (dCal 2 F_l_any (dCons (dVar 0) (dCons (dLit (.int 2)) dNil))) (dLit (.int 0)) ρ st)))
    (dSeq (dExpr (dMeth mAppend (dVar 3) (dCons (dTup (dCons (dLit (.str "chain")) (dCons (dVar 4) (dCons (dCall gTupleOf (dCons (dVar 7) dNil)) dNil)))) dNil)))
    (dSet 4 (dBin vAdd (dVar 4) (dLit (.int 1)))))
    (dSeq (dSet 8 (dLIdx (dVar 7) (dCall gMinA (dCons (dVar 7) dNil))))
    (dExpr (dMeth mAppend (dVar 3) (dCons (dTup (dCons (dLit (.str "ring")) (dCons (dCall gTupleOf (dCons (dBin vAdd (dSl (dVar 7) (dPart (dVar 8)) dNoP) (dSl (dVar 7) dNoP (dPart (dVar 8)))) dNil)) dNil))) dNil))))))
    dEnd)))
    (dRet (dCall gTupleOf (dCons (dCall gSortedW (dCons (dVar 3) dNil)) dNil)))))
noncomputable def F_l_pack : Fn := dDef 9 B_l_pack
theorem sl_listT {fe : En → Sto → R W} {hi : En → Sto → R (Option Int)} {ρ : En} {s : Sto} {l : List Nat} {k : Nat} (h : fe ρ s = .ok (.d (.list (l.map nI))) s) (h2 : hi ρ s = .ok (some (k : Int)) s) : dSl fe dNoP hi ρ s = .ok (.d (.list ((l.take k).map nI))) s := by
  refine dSl_ok h rfl h2 ?_
  show Y.R.ok (W.d (.list (Y.cut (l.map nI) none (some (k : Int))))) s = _
  rw [BL.cut_take, List.map_take]
theorem sl_listD {fe : En → Sto → R W} {lo : En → Sto → R (Option Int)} {ρ : En} {s : Sto} {l : List Nat} {k : Nat} (h : fe ρ s = .ok (.d (.list (l.map nI))) s) (h2 : lo ρ s = .ok (some (k : Int)) s) : dSl fe lo dNoP ρ s = .ok (.d (.list ((l.drop k).map nI))) s := by
  refine dSl_ok h h2 rfl ?_
  show Y.R.ok (W.d (.list (Y.cut (l.map nI) (some (k : Int)) none))) s = _
  rw [cut_drop, List.map_drop]
theorem lt_len {s : Sto} {b : Nat} {x : SO} (h : s[b]? = some x) : b < s.length := by
  rcases Nat.lt_or_ge b s.length with q | q
  · exact q
  · rw [List.getElem?_eq_none q] at h; cases h
theorem l_pack_ok {m : Nat} (hm : m ≤ 1000) {st : Sto} (h : DealOk st n c) : ∃ ps st', F_l_pack [.ref n, nW m] st = .ok (.d (packD ps)) st' ∧ ps.length ≤ 6 ∧ (∀ p ∈ ps, p.2.length ≤ 1000 ∧ ∀ x ∈ p.2, x < m) ∧ DealOk st' n c := by
  obtain ⟨l0, l1⟩ := dealOk_lt h
  obtain ⟨σ, s1, e1, p1, d1⟩ := mixed_rng (m := m) h hm
  let b := s1.length
  have ld := d1.le
  let E : Option W → Option W → Option W → Option W → Option W → Option W → Option W → En := fun x2 x3 x4 x5 x6 x7 x8 => [some (.ref n), some (nW m), x2, x3, x4, x5, x6, x7, x8]
  have g1 : dPar3 2 3 4 (dCons (dCal 2 F_l_mixed (dCons (dVar 0) (dCons (dListRng (dVar 1)) dNil))) (dCons (dNew dNil) (dCons (dLit (.int 0)) dNil))) (E none none none none none none none) st = .ok (.nx, E (some (.d (.list (σ.map nI)))) (some (.ref b)) (some (nW 0)) none none none none) (s1 ++ [.lst []]) := by
    have r3 : dCons (dCal 2 F_l_mixed (dCons (dVar 0) (dCons (dListRng (dVar 1)) dNil))) (dCons (dNew dNil) (dCons (dLit (.int 0)) dNil)) (E none none none none none none none) st = .ok [.d (.list (σ.map nI)), .ref b, nW 0] (s1 ++ [.lst []]) := dCons_ok (dCal_ok (dCons_ok (dVar_ok rfl) (dCons1_ok (rng_ok (dVar_ok (i := 1) rfl) (by omega)))) rfl e1) (dCons_ok (dNew_ok (fa := dNil) (s1 := s1) (ws := []) rfl (Nat.zero_le _)) (dCons1_ok dLit_ok))
    exact TR.dPar3_ok' r3
  have d2 : DealOk (s1 ++ [.lst []]) n c := dealOk_keep d1.ok fun j hj => List.getElem?_append_left hj
  have a2 : (s1 ++ [SO.lst []])[b]? = some (.lst []) := by rw [List.getElem?_append_right (Nat.le_refl _), Nat.sub_self]; rfl
  have bn : b ≠ n := by show s1.length ≠ n; omega
  have bc : b ≠ c := by show s1.length ≠ c; omega
  have ltb : ∀ x ∈ σ, x < m := fun x hx => List.mem_range.mp (p1.mem_iff.mp hx)
  have lσ : σ.length ≤ 1000 := by rw [p1.length_eq, List.length_range]; exact hm
  obtain ⟨ρ', s', fl, l, g, ps, x5, x6, x7, x8, rfl, d4, a4, _, _, l4, ok4⟩ := forL_ok (tg := tName 5) (body := (dSeq (dSet 6 (dBin vAdd (dLit (.int 1)) (dCal 2 F_l_any (dCons (dVar 0) (dCons (dLit (.int 4)) dNil)))))
    (dIfS (dAnd (fun ρ st => asB (dBin vLe (dVar 6) (dCall gLen (dCons (dVar 2) dNil)) ρ st)) (fun ρ st => asB (dBin vGt (dCal 2 F_l_any (dCons (dVar 0) (dCons (dLit (.int 4)) dNil))) (dLit (.int 0)) ρ st)))
    (dSeq (dPar 7 2 (dCons (dSl (dVar 2) dNoP (dPart (dVar 6))) (dCons (dSl (dVar 2) (dPart (dVar 6)) dNoP) dNil)))
    (dIfS (dOr (fun ρ st => asB (dBin (vEq false) (dVar 6) (dLit (.int 1)) ρ st)) (fun ρ st => asB (dBin (vEq false) (dCal 2 F_l_any (dCons (dVar 0) (dCons (dLit (.int 2)) dNil))) (dLit (.int 0)) ρ st)))
    (dSeq (dExpr (dMeth mAppend (dVar 3) (dCons (dTup (dCons (dLit (.str "chain")) (dCons (dVar 4) (dCons (dCall gTupleOf (dCons (dVar 7) dNil)) dNil)))) dNil)))
    (dSet 4 (dBin vAdd (dVar 4) (dLit (.int 1)))))
    (dSeq (dSet 8 (dLIdx (dVar 7) (dCall gMinA (dCons (dVar 7) dNil))))
    (dExpr (dMeth mAppend (dVar 3) (dCons (dTup (dCons (dLit (.str "ring")) (dCons (dCall gTupleOf (dCons (dBin vAdd (dSl (dVar 7) (dPart (dVar 8)) dNoP) (dSl (dVar 7) dNoP (dPart (dVar 8)))) dNil)) dNil))) dNil))))))
    dEnd))) (emb := fun i : Nat => nW i)
    (P := fun pre ρ s => ∃ (l : List Nat) (g : Nat) (ps : List Pc) (x5 x6 x7 x8 : Option W), ρ = E (some (.d (.list (l.map nI)))) (some (.ref b)) (some (nW g)) x5 x6 x7 x8 ∧ DealOk s n c ∧ s[b]? = some (.lst ((ps.map pcE).map W.d)) ∧ l.length ≤ 1000 ∧ (∀ x ∈ l, x < m) ∧ ps.length ≤ pre.length ∧ ∀ p ∈ ps, p.2.length ≤ 1000 ∧ ∀ x ∈ p.2, x < m) (List.range 6)
    (fun pre i post ρ s e q => by
      obtain ⟨l, g, ps, x5, x6, x7, x8, rfl, ds, as, ll, hl, lp, ok⟩ := q
      have pl : pre.length < 6 := by
        have := congrArg List.length e
        rw [List.length_range, List.length_append, List.length_cons] at this
        omega
      obtain ⟨j, t1, e1, hj, dt1⟩ := anyI (k := 4) ds (by decide) (by decide)
      have at1 : t1[b]? = some (.lst ((ps.map pcE).map W.d)) := (dt1.keep b (lt_len as) bn bc).trans as
      let sz := 1 + j
      let E1 := E (some (.d (.list (l.map nI)))) (some (.ref b)) (some (nW g)) (some (nW i)) (some (nW sz)) x7 x8
      have s6 : dSet 6 (dBin vAdd (dLit (.int 1)) (dCal 2 F_l_any (dCons (dVar 0) (dCons (dLit (.int 4)) dNil)))) (E (some (.d (.list (l.map nI)))) (some (.ref b)) (some (nW g)) (some (nW i)) x6 x7 x8) s = .ok (.nx, E1) t1 := dSet_ok (dBin_ok dLit_ok (dCal_ok (dCons_ok (dVar_ok rfl) (dCons1_ok dLit_ok)) rfl e1) (vAdd_nat (i := 1) (j := j)))
      have q1 : asB (dBin vLe (dVar 6) (dCall gLen (dCons (dVar 2) dNil)) E1 t1) = .ok (decide ((sz : Int) ≤ (l.length : Int))) t1 := asB_ok (dBin_ok (dVar_ok rfl) (dCall_ok (dCons1_ok (dVar_ok rfl)) gLen_map) rfl)
      have keepP : DealOk t1 n c → ∃ (l : List Nat) (g : Nat) (ps' : List Pc) (x5 x6 x7 x8 : Option W), E1 = E (some (.d (.list (l.map nI)))) (some (.ref b)) (some (nW g)) x5 x6 x7 x8 ∧ DealOk t1 n c ∧ t1[b]? = some (.lst ((ps'.map pcE).map W.d)) ∧ l.length ≤ 1000 ∧ (∀ x ∈ l, x < m) ∧ ps'.length ≤ (pre ++ [i]).length ∧ ∀ p ∈ ps', p.2.length ≤ 1000 ∧ ∀ x ∈ p.2, x < m := fun d => ⟨l, g, ps, _, _, _, _, rfl, d, at1, ll, hl, by rw [List.length_append]; omega, ok⟩
      cases z1 : decide ((sz : Int) ≤ (l.length : Int)) with
      | false =>
        rw [z1] at q1
        exact ⟨E (some (.d (.list (l.map nI)))) (some (.ref b)) (some (nW g)) (some (nW i)) x6 x7 x8, s, _, t1, rfl, to s6 (dIfS_f (dAnd_f q1) rfl), keepP dt1.ok⟩
      | true =>
        rw [z1] at q1
        have szl : sz ≤ l.length := by
          have := of_decide_eq_true z1
          omega
        obtain ⟨y, t2, e2, hy, dt2⟩ := anyI (k := 4) dt1.ok (by decide) (by decide)
        have at2 : t2[b]? = some (.lst ((ps.map pcE).map W.d)) := (dt2.keep b (lt_len at1) bn bc).trans at1
        have q2 : asB (dBin vGt (dCal 2 F_l_any (dCons (dVar 0) (dCons (dLit (.int 4)) dNil))) (dLit (.int 0)) E1 t1) = .ok (decide ((0 : Int) < (y : Int))) t2 := asB_ok (dBin_ok (dCal_ok (dCons_ok (dVar_ok rfl) (dCons1_ok dLit_ok)) rfl e2) dLit_ok rfl)
        cases z2 : decide ((0 : Int) < (y : Int)) with
        | false =>
          rw [z2] at q2
          exact ⟨E (some (.d (.list (l.map nI)))) (some (.ref b)) (some (nW g)) (some (nW i)) x6 x7 x8, s, _, t2, rfl, to s6 (dIfS_f (dAnd_t q1 q2) rfl), l, g, ps, _, _, _, _, rfl, dt2.ok, at2, ll, hl, by rw [List.length_append]; omega, ok⟩
        | true =>
          rw [z2] at q2
          let row := l.take sz
          have rl : row.length = sz := by show (l.take sz).length = sz; rw [List.length_take]; omega
          have rlt : ∀ x ∈ row, x < m := fun x hx => hl x (List.mem_of_mem_take hx)
          have llt : ∀ x ∈ l.drop sz, x < m := fun x hx => hl x (List.mem_of_mem_drop hx)
          have lll : (l.drop sz).length ≤ 1000 := by rw [List.length_drop]; omega
          let E2 := fun x4 x8 => E (some (.d (.list ((l.drop sz).map nI)))) (some (.ref b)) x4 (some (nW i)) (some (nW sz)) (some (.d (.list (row.map nI)))) x8
          have g7 : dPar 7 2 (dCons (dSl (dVar 2) dNoP (dPart (dVar 6))) (dCons (dSl (dVar 2) (dPart (dVar 6)) dNoP) dNil)) E1 t2 = .ok (.nx, E2 (some (nW g)) x8) t2 := BL.dPar_ok (dCons_ok (sl_listT (l := l) (k := sz) (dVar_ok rfl) (dPart_ok (dVar_ok rfl))) (dCons1_ok (sl_listD (l := l) (k := sz) (dVar_ok rfl) (dPart_ok (dVar_ok rfl)))))
          have q3 : asB (dBin (vEq false) (dVar 6) (dLit (.int 1)) (E2 (some (nW g)) x8) t2) = .ok (decide ((sz : Int) = 1)) t2 := asB_ok (dBin_ok (dVar_ok rfl) dLit_ok eq_ints)
          obtain ⟨u, t3, e3, hu, dt3⟩ := anyI (k := 2) dt2.ok (by decide) (by decide)
          have at3 : t3[b]? = some (.lst ((ps.map pcE).map W.d)) := (dt3.keep b (lt_len at2) bn bc).trans at2
          have q4 : asB (dBin (vEq false) (dCal 2 F_l_any (dCons (dVar 0) (dCons (dLit (.int 2)) dNil))) (dLit (.int 0)) (E2 (some (nW g)) x8) t2) = .ok (decide ((u : Int) = 0)) t3 := asB_ok (dBin_ok (dCal_ok (dCons_ok (dVar_ok rfl) (dCons1_ok dLit_ok)) rfl e3) dLit_ok eq_ints)
          have lenp : ((ps.map pcE).map W.d).length < 1000000 := by rw [List.length_map, List.length_map]; omega
          have chain : ∀ t : Sto, DealOk t n c → t[b]? = some (.lst ((ps.map pcE).map W.d)) → ∃ ρ2 t', (dSeq (dExpr (dMeth mAppend (dVar 3) (dCons (dTup (dCons (dLit (.str "chain")) (dCons (dVar 4) (dCons (dCall gTupleOf (dCons (dVar 7) dNil)) dNil)))) dNil))) (dSet 4 (dBin vAdd (dVar 4) (dLit (.int 1))))) (E2 (some (nW g)) x8) t = .ok (.nx, ρ2) t' ∧ ∃ (l : List Nat) (g : Nat) (ps' : List Pc) (x5 x6 x7 x8 : Option W), ρ2 = E (some (.d (.list (l.map nI)))) (some (.ref b)) (some (nW g)) x5 x6 x7 x8 ∧ DealOk t' n c ∧ t'[b]? = some (.lst ((ps'.map pcE).map W.d)) ∧ l.length ≤ 1000 ∧ (∀ x ∈ l, x < m) ∧ ps'.length ≤ (pre ++ [i]).length ∧ ∀ p ∈ ps', p.2.length ≤ 1000 ∧ ∀ x ∈ p.2, x < m := fun t dt at' => by
            have tp : dTup (dCons (dLit (.str "chain")) (dCons (dVar 4) (dCons (dCall gTupleOf (dCons (dVar 7) dNil)) dNil))) (E2 (some (nW g)) x8) t = .ok (.d (pcE (some g, row))) t := tup_ok (ds := [.str "chain", nI g, lotD row]) (dCons_ok dLit_ok (dCons_ok (dVar_ok rfl) (dCons1_ok (dCall_ok (dCons1_ok (dVar_ok rfl)) tupleOf_list)))) rfl (by simp)
            refine ⟨E2 (some (nW (g + 1))) x8, _, to (dExpr_ok (dMeth_ok (dVar_ok rfl) at' (dCons1_ok tp) (append_ok at' lenp))) (dSet_ok (dBin_ok (dVar_ok rfl) dLit_ok (vAdd_nat (i := g) (j := 1)))), l.drop sz, g + 1, ps ++ [(some g, row)], _, _, _, _, rfl, dealOk_put dt bn bc, ?_, lll, llt, by rw [List.length_append, List.length_append]; simp; omega, fun p hp => ?_⟩
            · rw [List.getElem?_set_self (lt_len at'), List.map_append, List.map_append]; rfl
            · rcases List.mem_append.mp hp with hp | hp
              · exact ok p hp
              · rw [List.mem_singleton.mp hp]; exact ⟨by show row.length ≤ 1000; omega, rlt⟩
          have tst := dAnd_t (t := fun ρ st => asB (dBin vLe (dVar 6) (dCall gLen (dCons (dVar 2) dNil)) ρ st)) (t' := fun ρ st => asB (dBin vGt (dCal 2 F_l_any (dCons (dVar 0) (dCons (dLit (.int 4)) dNil))) (dLit (.int 0)) ρ st)) q1 q2
          cases z3 : decide ((sz : Int) = 1) with
          | true =>
            rw [z3] at q3
            obtain ⟨ρ2, t', c1, c2⟩ := chain t2 dt2.ok at2
            exact ⟨E (some (.d (.list (l.map nI)))) (some (.ref b)) (some (nW g)) (some (nW i)) x6 x7 x8, s, _, _, rfl, to s6 (dIfS_t tst (to g7 (dIfS_t (or_t q3) c1))), c2⟩
          | false =>
            rw [z3] at q3
            cases z4 : decide ((u : Int) = 0) with
            | true =>
              rw [z4] at q4
              obtain ⟨ρ2, t', c1, c2⟩ := chain t3 dt3.ok at3
              exact ⟨E (some (.d (.list (l.map nI)))) (some (.ref b)) (some (nW g)) (some (nW i)) x6 x7 x8, s, _, _, rfl, to s6 (dIfS_t tst (to g7 (dIfS_t (or_f q3 q4) c1))), c2⟩
            | false =>
              rw [z4] at q4
              have rne : row ≠ [] := fun z => by
                rw [z] at rl
                have : (0 : Nat) = 1 + j := rl
                omega
              obtain ⟨mn, m1, m2, _⟩ := TR.minA_nats (st := t3) rne
              have s8 : dSet 8 (dLIdx (dVar 7) (dCall gMinA (dCons (dVar 7) dNil))) (E2 (some (nW g)) x8) t3 = .ok (.nx, E2 (some (nW g)) (some (nW (row.idxOf mn)))) t3 := dSet_ok (TR.lidx_list (dVar_ok rfl) (dCall_ok (dCons1_ok (dVar_ok rfl)) m1) m2)
              let k := row.idxOf mn
              have ad : dBin vAdd (dSl (dVar 7) (dPart (dVar 8)) dNoP) (dSl (dVar 7) dNoP (dPart (dVar 8))) (E2 (some (nW g)) (some (nW k))) t3 = .ok (.d (.list ((row.drop k ++ row.take k).map nI))) t3 := by
                rw [List.map_append]
                exact dBin_ok (sl_listD (dVar_ok rfl) (dPart_ok (dVar_ok rfl))) (sl_listT (dVar_ok rfl) (dPart_ok (dVar_ok rfl))) (vAdd_lists (by simp only [List.length_map, List.length_drop, List.length_take]; omega))
              have tp : dTup (dCons (dLit (.str "ring")) (dCons (dCall gTupleOf (dCons (dBin vAdd (dSl (dVar 7) (dPart (dVar 8)) dNoP) (dSl (dVar 7) dNoP (dPart (dVar 8)))) dNil)) dNil)) (E2 (some (nW g)) (some (nW k))) t3 = .ok (.d (pcE (none, row.drop k ++ row.take k))) t3 := tup_ok (ds := [.str "ring", lotD (row.drop k ++ row.take k)]) (dCons_ok dLit_ok (dCons1_ok (dCall_ok (dCons1_ok ad) tupleOf_list))) rfl (by simp)
              refine ⟨E (some (.d (.list (l.map nI)))) (some (.ref b)) (some (nW g)) (some (nW i)) x6 x7 x8, s, _, _, rfl, to s6 (dIfS_t tst (to g7 (dIfS_f (or_f q3 q4) (to s8 (dExpr_ok (dMeth_ok (dVar_ok rfl) at3 (dCons1_ok tp) (append_ok at3 lenp))))))), l.drop sz, g, ps ++ [(none, row.drop k ++ row.take k)], _, _, _, _, rfl, dealOk_put dt3.ok bn bc, ?_, lll, llt, by rw [List.length_append, List.length_append]; simp; omega, fun p hp => ?_⟩
              · rw [List.getElem?_set_self (lt_len at3), List.map_append, List.map_append]; rfl
              · rcases List.mem_append.mp hp with hp | hp
                · exact ok p hp
                · rw [List.mem_singleton.mp hp]
                  refine ⟨?_, fun x hx => ?_⟩
                  · show (row.drop k ++ row.take k).length ≤ 1000
                    have q1 : (row.take k).length ≤ row.length := List.length_take_le' ..
                    have q2 : (row.drop k).length ≤ row.length := by rw [List.length_drop]; exact Nat.sub_le _ _
                    rw [List.length_append]
                    omega
                  rcases List.mem_append.mp hx with hx | hx
                  · exact rlt x (List.mem_of_mem_drop hx)
                  · exact rlt x (List.mem_of_mem_take hx))
    (ρ := E (some (.d (.list (σ.map nI)))) (some (.ref b)) (some (nW 0)) none none none none) (s := s1 ++ [.lst []]) ⟨σ, 0, [], _, _, _, _, rfl, d2, a2, lσ, ltb, Nat.le_refl _, fun p hp => by cases hp⟩
  rw [List.length_range] at l4
  obtain ⟨qs, e5, l5, q5⟩ := sorted_pcs a4
  exact ⟨qs, s', dDef_rt (to g1 (to (dFor_ok (it_r (n := 6) dLit_ok (by decide)) fl) (dRet_ok (dCall_ok (dCons1_ok (dCall_ok (dCons1_ok (dVar_ok rfl)) e5)) tupleOf_list)))), by omega, fun p hp => ok4 p (q5 p hp), d4⟩
end
end CAL
namespace CAL
open PySem PySem.Spec PyProof.Rows L2 Y BL BP
local macro_rules
  | `(tactic| trivial) => `(tactic| first
    | with_reducible assumption
    | ((with_reducible apply dVar_ok); rfl)
    | with_reducible exact dLit_ok
    | with_reducible exact dNil_ok
    | ((with_reducible apply dCons_ok) <;> trivial)
    | ((with_reducible apply asB_ok); trivial)
    | ((with_reducible apply dBin_ok) <;> trivial)
    | ((with_reducible apply dCall_ok) <;> trivial)
    | ((with_reducible apply dCalP_ok); trivial; rfl; rfl; (with_reducible assumption))
    | ((with_reducible apply dCal_ok); trivial; rfl; (with_reducible assumption))
    | ((with_reducible apply and_ok) <;> trivial)
    | ((with_reducible apply or_ok) <;> trivial)
    | ((with_reducible apply dNot_ok); trivial)
    | ((with_reducible apply dSet_ok); trivial)
    | ((with_reducible apply dRet_ok); trivial)
    | with_reducible exact vIn_nat
    | with_reducible exact vNotIn_nat
    | with_reducible exact vIn_natL
    | with_reducible exact vNotIn_natL
    | with_reducible exact vIn_pair
    | with_reducible exact gLen_tmap
    | with_reducible exact gLen_map
    | with_reducible exact tupleOf_list
    | with_reducible exact vEq_nat
    | with_reducible exact vEq_int
    | with_reducible exact vNe_int
    | exact rfl)
theorem gAny_map {α : Type} {p : α → Bool} (l : List α) {st : Sto} : gAny [.d (.list (l.map fun a => PyData.bool (p a)))] st = .ok (.d (.bool (l.any p))) st := by
  unfold gAny
  simp only [asD]
  rw [show l.map (fun a => PyData.bool (p a)) = (l.map p).map PyData.bool by rw [List.map_map]; rfl, asBools_map]
  dsimp only
  rw [List.any_map]
  rfl
def awayB (A : List (List Nat)) (row : List Nat) (day : Nat) : Bool := row.any fun p => decide (day ∈ A.getD p [])
def jobOf (A : List (List Nat)) (T : Nat) (row : List Nat) : Jb := (row.length, (List.range T).filter fun day => !awayB A row day)
abbrev awD (A : List (List Nat)) : PyData := .tuple (A.map lotD)
theorem aw_at {A : List (List Nat)} {p : Nat} (h : p < A.length) {s : Sto} : vIx (.d (awD A)) (nW p) s = .ok (.d (lotD (A.getD p []))) s := vIx_tup (by
  rw [List.getElem?_map, List.getElem?_eq_getElem h, List.getD_eq_getElem?_getD, List.getElem?_eq_getElem h]; rfl)
noncomputable def B_people_of : DS :=
  (dRet (dBin vIx (dVar 0) (dUn vNeg (dLit (.int 1)))))
noncomputable def F_people_of : Fn := dDef 1 B_people_of
theorem people_of_ok {p : Pc} : F_people_of [.d (pcE p)] [] = .ok (.d (lotD p.2)) [] := dDef_rt (dRet_ok (dBin_ok (dVar_ok rfl) (dUn_ok (r := .ok (.d (.int (-1))) []) dLit_ok rfl) last_pc))
noncomputable def B_jobs_of : DS :=
  (dSeq (dSet 3 (dNew dNil))
    (dSeq (dFor (dIter (dVar 1)) (tName 4)
    (dSeq (dSet 5 (dCalP 1 F_people_of (dCons (dVar 4) dNil)))
    (dSeq (dSet 6 (dLcF (dLc [7] (dRng1 (dCons (dCall gLen (dCons (dVar 0) dNil)) dNil)) (tName 7) (dNot (fun ρ st => asB ((dCall gAny (dCons (dLcF (dLc [8] (dIter (dVar 5)) (tName 8) (fun _ st => .ok true st) (dBin (vIn false) (dVar 7) (dBin vIx (dVar 2) (dVar 8))))) dNil)) ρ st))) (dVar 7))))
    (dExpr (dMeth mAppend (dVar 3) (dCons (dTup (dCons (dCall gLen (dCons (dVar 5) dNil)) (dCons (dCall gTupleOf (dCons (dVar 6) dNil)) dNil))) dNil))))))
    (dRet (dCall gTupleOf (dCons (dVar 3) dNil)))))
noncomputable def F_jobs_of : Fn := dDef 9 B_jobs_of
theorem jobs_of_ok {D : List Nat} {A : List (List Nat)} {ps : List Pc} (hD : D.length ≤ 1000) (hp : ∀ p ∈ ps, p.2.length ≤ 1000 ∧ ∀ x ∈ p.2, x < A.length) (lp : ps.length ≤ 1000) : ∃ t, F_jobs_of [.d (lotD D), .d (packD ps), .d (awD A)] [] = .ok (.d (jobsD (ps.map fun p => jobOf A D.length p.2))) t := by
  let E : Option W → Option W → Option W → Option W → En := fun x3 x4 x5 x6 => [some (.d (lotD D)), some (.d (packD ps)), some (.d (awD A)), x3, x4, x5, x6, none, none]
  have g1 : dSet 3 (dNew dNil) (E none none none none) [] = .ok (.nx, E (some (.ref 0)) none none none) [.lst []] := dSet_ok (dNew_ok (fa := dNil) (s1 := []) (ws := []) rfl (Nat.zero_le _))
  obtain ⟨ρ', s', f, x4, x5, x6, rfl, rfl⟩ := forL_ok (tg := tName 4) (body := (dSeq (dSet 5 (dCalP 1 F_people_of (dCons (dVar 4) dNil)))
    (dSeq (dSet 6 (dLcF (dLc [7] (dRng1 (dCons (dCall gLen (dCons (dVar 0) dNil)) dNil)) (tName 7) (dNot (fun ρ st => asB ((dCall gAny (dCons (dLcF (dLc [8] (dIter (dVar 5)) (tName 8) (fun _ st => .ok true st) (dBin (vIn false) (dVar 7) (dBin vIx (dVar 2) (dVar 8))))) dNil)) ρ st))) (dVar 7))))
    (dExpr (dMeth mAppend (dVar 3) (dCons (dTup (dCons (dCall gLen (dCons (dVar 5) dNil)) (dCons (dCall gTupleOf (dCons (dVar 6) dNil)) dNil))) dNil)))))) (emb := fun p => W.d (pcE p))
    (P := fun pre ρ s => ∃ x4 x5 x6, ρ = E (some (.ref 0)) x4 x5 x6 ∧ s = [.lst (((pre.map fun p => jobOf A D.length p.2).map jobE).map W.d)]) ps
    (fun pre p post ρ s e q => by
      obtain ⟨x4, x5, x6, rfl, rfl⟩ := q
      obtain ⟨h1, h2⟩ := hp p (by rw [e]; simp)
      let s : Sto := [.lst (((pre.map fun p => jobOf A D.length p.2).map jobE).map W.d)]
      have s5 : dSet 5 (dCalP 1 F_people_of (dCons (dVar 4) dNil)) (E (some (.ref 0)) (some (.d (pcE p))) x5 x6) s = .ok (.nx, E (some (.ref 0)) (some (.d (pcE p))) (some (.d (lotD p.2))) x6) s := dSet_ok (dCalP_ok (dCons1_ok (dVar_ok rfl)) rfl rfl people_of_ok)
      let E1 := E (some (.ref 0)) (some (.d (pcE p))) (some (.d (lotD p.2)))
      have c6 := lc_flt (vs := [7]) (fi := dRng1 (dCons (dCall gLen (dCons (dVar 0) dNil)) dNil)) (tg := tName 7) (tt := dNot (fun ρ st => asB ((dCall gAny (dCons (dLcF (dLc [8] (dIter (dVar 5)) (tName 8) (fun _ st => .ok true st) (dBin (vIn false) (dVar 7) (dBin vIx (dVar 2) (dVar 8))))) dNil)) ρ st))) (fe := dVar 7) (ρ := E1 x6) (s := s) (s1 := s) (emb := fun i : Nat => nW i) (p := fun i => !awayB A p.2 i) (g := nI) (List.range D.length) (it_r (dCall_ok (dCons1_ok (dVar_ok rfl)) gLen_tmap) (by omega)) (by rw [List.length_range]; omega) fun i _ => by
        have ci := lc_mp (vs := [8]) (fi := dIter (dVar 5)) (tg := tName 8) (fe := dBin (vIn false) (dVar 7) (dBin vIx (dVar 2) (dVar 8))) (ρ := (E1 x6).set 7 (some (nW i))) (s := s) (s1 := s) (emb := fun x : Nat => nW x) (g := fun x => .bool (decide (i ∈ A.getD x []))) p.2 (it_t (emb := nI) (dVar_ok rfl)) (by omega) fun x hx => ⟨((E1 x6).set 7 (some (nW i))).set 8 (some (nW x)), rfl, dBin_ok (dVar_ok rfl) (dBin_ok (dVar_ok rfl) (dVar_ok rfl) (aw_at (h2 x hx))) vIn_nat⟩
        exact ⟨(E1 x6).set 7 (some (nW i)), rfl, dNot_ok (asB_ok (dCall_ok (dCons1_ok ci) (gAny_map _))), fun _ => dVar_ok rfl⟩
      have s6 := dSet_ok (i := 6) c6
      have pl : pre.length ≤ 1000 := by
        rw [e, List.length_append] at lp
        omega
      refine ⟨E (some (.ref 0)) (some (.d (pcE p))) x5 x6, s, _, _, rfl, to s5 (to s6 (dExpr_ok (dMeth_ok (dVar_ok rfl) (xs := ((pre.map fun p => jobOf A D.length p.2).map jobE).map W.d) rfl (dCons1_ok (tup_ok (ds := [nI p.2.length, lotD ((List.range D.length).filter fun i => !awayB A p.2 i)]) (dCons_ok (dCall_ok (dCons1_ok (dVar_ok rfl)) gLen_tmap) (dCons1_ok (dCall_ok (dCons1_ok (dVar_ok rfl)) tupleOf_list))) rfl (by simp))) (append_ok rfl (by rw [List.length_map, List.length_map, List.length_map]; omega))))), _, _, _, rfl, ?_⟩
      rw [List.map_append, List.map_append, List.map_append]; rfl)
    (ρ := E (some (.ref 0)) none none none) (s := [.lst []]) ⟨_, _, _, rfl, rfl⟩
  exact ⟨_, dDef_rt (to g1 (to (dFor_ok (it_t (emb := pcE) (dVar_ok rfl)) f) (dRet_ok (dCall_ok (dCons1_ok (dVar_ok rfl)) (tuple_data rfl)))))⟩
theorem ofT {n c : Nat} {st : Sto} {ds : List PyData} (h : DealOk st n c) (h0 : ds ≠ []) (h1 : ds.length < 1000000) : ∃ d st', F_l_of [.ref n, .d (.tuple ds)] st = .ok (.d d) st' ∧ d ∈ ds ∧ Dealt n c st st' := by
  have hp : 0 < ds.length := List.length_pos_iff.mpr h0
  obtain ⟨r, st', e, g1, g2⟩ := anyI (k := ds.length) h hp h1
  refine ⟨ds[r], st', ?_, List.getElem_mem _, g2⟩
  exact dDef_rt (dRet_ok (dBin_ok (dVar_ok rfl) (dCal_ok (dCons_ok (dVar_ok rfl) (dCons1_ok (dCall_ok (dCons1_ok (dVar_ok rfl)) (BP.gLen_tup ds st)))) rfl e) (vIx_tup (List.getElem?_eq_getElem g1))))
theorem lc_drawnL {α : Type} {v : Nat} {emb : α → W} {fi : En → Sto → R (List W)} {fe : En → Sto → R W} {ρ : En} {s s1 : Sto} {P : Sto → Prop} {Q : PyData → Prop} (l : List α) (h1 : fi ρ s = .ok (l.map emb) s1) (hl : l.length ≤ 1000) (hs : P s1) (step : ∀ a ∈ l, ∀ s : Sto, P s → ∃ d s', fe (ρ.set v (some (emb a))) s = .ok (.d d) s' ∧ Q d ∧ P s') :
    ∃ ds s', dLcF (dLc [v] fi (tName v) (fun _ st => .ok true st) fe) ρ s = .ok (.d (.list ds)) s' ∧ ds.length = l.length ∧ (∀ d ∈ ds, Q d) ∧ P s' := by
  obtain ⟨us, s', q1, q2, q3, q4⟩ := lcL_inv (tg := tName v) (fe := fe) (ρ := wipeE ρ [v]) (emb := emb) (P := P) (Q := fun u => ∃ d, u = .d d ∧ Q d) l s1 hs fun a ha s hs => by
    obtain ⟨d, s', e, q, p⟩ := step a ha s hs
    exact ⟨_, .d d, s', rfl, by rw [set_wipe]; exact e, ⟨d, rfl, q⟩, p⟩
  obtain ⟨ds, rfl, hds⟩ : ∃ ds : List PyData, us = ds.map W.d ∧ ∀ d ∈ ds, Q d := by
    clear q1 q2
    induction us with
    | nil => exact ⟨[], rfl, fun l h => by cases h⟩
    | cons u us ih =>
      obtain ⟨ds, e, h⟩ := ih fun v hv => q3 v (List.mem_cons_of_mem _ hv)
      obtain ⟨d, rfl, hd⟩ := q3 u List.mem_cons_self
      exact ⟨d :: ds, by rw [e]; rfl, fun x hx => by
        rcases List.mem_cons.mp hx with rfl | hx
        · exact hd
        · exact h x hx⟩
  rw [List.length_map] at q2
  exact ⟨ds, s', dLcF_ok (ds := ds) (dLc_ok (vs := [v]) h1 q1 (le_line (by rw [List.length_map]; omega))), q2, hds, q4⟩
theorem left_bound : ∀ (ps : List (Jb × Nat)) (L : List Int) (B : Nat), (∀ p ∈ ps, p.1.1 ≤ 60) → (∀ z ∈ L, z.natAbs ≤ B) → ∀ z ∈ ps.foldl step L, z.natAbs ≤ B + 60 * ps.length
  | [], L, B, _, h, z, hz => Nat.le_trans (h z hz) (Nat.le_add_right _ _)
  | p :: ps, L, B, hp, h, z, hz => by
    have g := hp p List.mem_cons_self
    have := left_bound ps (step L p) (B + 60) (fun q hq => hp q (List.mem_cons_of_mem _ hq)) (fun y hy => by
      unfold step at hy
      rcases List.mem_or_eq_of_mem_set hy with hy | rfl
      · exact Nat.le_trans (h y hy) (Nat.le_add_right _ _)
      · by_cases lt : p.2 < L.length
        · have := h (L.getD p.2 0) (by
            rw [List.getD_eq_getElem?_getD, List.getElem?_eq_getElem lt]
            exact List.getElem_mem _)
          omega
        · have : L.getD p.2 0 = 0 := by rw [List.getD_eq_getElem?_getD, List.getElem?_eq_none (by omega)]; rfl
          rw [this]
          omega) z hz
    rw [List.length_cons]
    omega
theorem sm_ints {L : List Int} {n : Nat} (h : ∀ z ∈ L, z.natAbs < 1024) (hl : L.length ≤ n) : Sm 1 (11 * n) (.tuple (L.map .int)) := Sm.tup (k := 0) (w := 10) (n := n) (fun x hx => by
  obtain ⟨z, hz, rfl⟩ := List.mem_map.mp hx
  exact Sm.int (h z hz)) (by rw [List.length_map]; exact hl)
theorem sm_lot40 {l : List Nat} (h : ∀ x ∈ l, x < 1024) (hl : l.length ≤ 40) : Sm 1 440 (lotD l) := Sm.tup (k := 0) (w := 10) (n := 40) (fun x hx => by
  obtain ⟨z, hz, rfl⟩ := List.mem_map.mp hx
  exact Sm.nat (h z hz)) (by rw [List.length_map]; exact hl)
theorem sm_jobs {js : List Jb} (h : ∀ j ∈ js, j.1 < 1024 ∧ (∀ x ∈ j.2, x < 1024) ∧ j.2.length ≤ 40) (hl : js.length ≤ 14) : Sm 3 12362 (jobsD js) := by
  have := Sm.tup (k := 2) (w := 882) (n := 14) (xs := js.map jobE) (fun x hx => by
    obtain ⟨j, hj, rfl⟩ := List.mem_map.mp hx
    obtain ⟨h1, h2, h3⟩ := h j hj
    exact Sm.tup (k := 1) (w := 440) (n := 2) (fun y hy => by
      simp only [List.mem_cons, List.not_mem_nil, or_false] at hy
      rcases hy with rfl | rfl
      · exact ((Sm.nat h1).up (by decide)).deep (Nat.zero_le _)
      · exact sm_lot40 h2 h3) (by simp)) (by rw [List.length_map]; exact hl)
  exact this.up (by decide)
end CAL
set_option maxHeartbeats 4000000
namespace G
open PySem PySem.Spec PyProof.Rows L2 Y
def topS (i : Nat) : Stmt := PySem.Challenge.pw_givesifgets_k50_jobs_and_timetables.main.body.getD i (.Pass ⟨0, 0, 0, 0⟩)
abbrev s_is_integer : Stmt := topS 1
theorem sc_is_integer : FnScope ["value"] ["value"] (C8.fnScope s_is_integer) := C8.fnScope_by (by decide +kernel)
noncomputable def B_is_integer : DS :=
  (dRet (dAndV (dIsi ["int"] (dVar 0)) (dNotV (dIsi ["bool"] (dVar 0)))))
noncomputable def F_is_integer : Fn := dDef 1 B_is_integer
theorem ok_is_integer {P : Program} {w : World} {K : PySem.W.Frag} {mg : Str → Option Value} {base : Heap} {f : Addr} {fd : FuncData} (F : C8.Def K mg "is_integer" s_is_integer f fd) (df : fd.defaults = .none) (z_bool : mg "bool" = none) (z_int : mg "int" = none) (z_isinstance : mg "isinstance" = none) : CalG P w K mg base 1 "is_integer" s_is_integer ["value"] 1 F_is_integer := by
  have sc := sc_is_integer
  refine calG_of (k := 0) (N := ["value"]) (D := B_is_integer) F df sc rfl (fun _ _ _ _ _ _ us hl => match us, hl with | [_], _ => rfl) (fun f cdv A outer s H E hg hr => ?_)
  exact (y_last (y_ret (y_andV (y_isi1 (T := "int") rfl (by rfl) z_isinstance (by rfl) z_int (by decide +kernel) (y_var (pv 0))) (y_one (y_notV (y_isi1 (T := "bool") rfl (by rfl) z_isinstance (by rfl) z_bool (by decide +kernel) (y_var (pv 0))))))))
abbrev s_is_number : Stmt := topS 2
theorem sc_is_number : FnScope ["value"] ["value"] (C8.fnScope s_is_number) := C8.fnScope_by (by decide +kernel)
noncomputable def B_is_number : DS :=
  (dRet (dAndV (dCalP 1 F_is_integer (dCons (dVar 0) dNil)) (dBin vGe (dVar 0) (dLit (.int 0)))))
noncomputable def F_is_number : Fn := dDef 1 B_is_number
theorem ok_is_number {P : Program} {w : World} {K : PySem.W.Frag} {mg : Str → Option Value} {base : Heap} {f : Addr} {fd : FuncData} (F : C8.Def K mg "is_number" s_is_number f fd) (df : fd.defaults = .none) (c_is_integer : CalG P w K mg base 1 "is_integer" s_is_integer ["value"] 1 F_is_integer) : CalG P w K mg base 2 "is_number" s_is_number ["value"] 1 F_is_number := by
  have sc := sc_is_number
  refine calG_of (k := 1) (N := ["value"]) (D := B_is_number) F df sc rfl (fun _ _ _ _ _ _ us hl => match us, hl with | [_], _ => rfl) (fun f cdv A outer s H E hg hr => ?_)
  exact (y_last (y_ret (y_andV (y_calP rfl c_is_integer hr (by decide) hg (by rfl) (y_cons (y_var (pv 0)) y_nil)) (y_one (y_cmp opGe (y_var (pv 0)) y_int (nomark _))))))
abbrev s_is_below : Stmt := topS 3
theorem sc_is_below : FnScope ["n", "value"] ["n", "value"] (C8.fnScope s_is_below) := C8.fnScope_by (by decide +kernel)
noncomputable def B_is_below : DS :=
  (dRet (dAndV (dCalP 1 F_is_number (dCons (dVar 1) dNil)) (dBin vLt (dVar 1) (dVar 0))))
noncomputable def F_is_below : Fn := dDef 2 B_is_below
theorem ok_is_below {P : Program} {w : World} {K : PySem.W.Frag} {mg : Str → Option Value} {base : Heap} {f : Addr} {fd : FuncData} (F : C8.Def K mg "is_below" s_is_below f fd) (df : fd.defaults = .none) (c_is_number : CalG P w K mg base 2 "is_number" s_is_number ["value"] 1 F_is_number) : CalG P w K mg base 3 "is_below" s_is_below ["n", "value"] 2 F_is_below := by
  have sc := sc_is_below
  refine calG_of (k := 2) (N := ["n", "value"]) (D := B_is_below) F df sc rfl (fun _ _ _ _ _ _ us hl => match us, hl with | [_, _], _ => rfl) (fun f cdv A outer s H E hg hr => ?_)
  exact (y_last (y_ret (y_andV (y_calP rfl c_is_number hr (by decide) hg (by rfl) (y_cons (y_var (pv 1)) y_nil)) (y_one (y_cmp (opLt rfl hr.units0) (y_var (pv 1)) (y_var (pv 0)) (nomark _))))))
abbrev s_is_tuple_of : Stmt := topS 4
theorem sc_is_tuple_of : FnScope ["size", "value"] ["size", "value"] (C8.fnScope s_is_tuple_of) := C8.fnScope_by (by decide +kernel)
noncomputable def B_is_tuple_of : DS :=
  (dRet (dAndV (dIsi ["tuple"] (dVar 1)) (dBin (vEq false) (dCall gLen (dCons (dVar 1) dNil)) (dVar 0))))
noncomputable def F_is_tuple_of : Fn := dDef 2 B_is_tuple_of
theorem ok_is_tuple_of {P : Program} {w : World} {K : PySem.W.Frag} {mg : Str → Option Value} {base : Heap} {f : Addr} {fd : FuncData} (F : C8.Def K mg "is_tuple_of" s_is_tuple_of f fd) (df : fd.defaults = .none) (z_isinstance : mg "isinstance" = none) (z_len : mg "len" = none) (z_tuple : mg "tuple" = none) : CalG P w K mg base 1 "is_tuple_of" s_is_tuple_of ["size", "value"] 2 F_is_tuple_of := by
  have sc := sc_is_tuple_of
  refine calG_of (k := 0) (N := ["size", "value"]) (D := B_is_tuple_of) F df sc rfl (fun _ _ _ _ _ _ us hl => match us, hl with | [_, _], _ => rfl) (fun f cdv A outer s H E hg hr => ?_)
  exact (y_last (y_ret (y_andV (y_isi1 (T := "tuple") rfl (by rfl) z_isinstance (by rfl) z_tuple (by decide +kernel) (y_var (pv 1))) (y_one (y_cmp (opEq rfl hr.units) (y_callB (cLen rfl) (by rfl) z_len (by decide +kernel) (y_cons (y_var (pv 1)) y_nil)) (y_var (pv 0)) (nomark _))))))
abbrev s_is_ascending : Stmt := topS 5
theorem sc_is_ascending : FnScope ["row", "at"] ["row"] (C8.fnScope s_is_ascending) := C8.fnScope_by (by decide +kernel)
noncomputable def B_is_ascending : DS :=
  (dRet (dCall gAll (dCons (dLcF (dLc [1] (dRng2 (dCons (dLit (.int 1)) (dCons (dCall gLen (dCons (dVar 0) dNil)) dNil))) (tName 1) (fun _ st => .ok true st) (dBin vLt (dBin vIx (dVar 0) (dBin vSub (dVar 1) (dLit (.int 1)))) (dBin vIx (dVar 0) (dVar 1))))) dNil)))
noncomputable def F_is_ascending : Fn := dDef 2 B_is_ascending
theorem ok_is_ascending {P : Program} {w : World} {K : PySem.W.Frag} {mg : Str → Option Value} {base : Heap} {f : Addr} {fd : FuncData} (F : C8.Def K mg "is_ascending" s_is_ascending f fd) (df : fd.defaults = .none) (z_all : mg "all" = none) (z_len : mg "len" = none) (z_range : mg "range" = none) : CalG P w K mg base 1 "is_ascending" s_is_ascending ["row"] 1 F_is_ascending := by
  have sc := sc_is_ascending
  refine calG_of (k := 0) (N := ["row", "at"]) (D := B_is_ascending) F df sc rfl (fun _ _ _ _ _ _ us hl => match us, hl with | [_], _ => rfl) (fun f cdv A outer s H E hg hr => ?_)
  exact (y_last (y_ret (y_callB (cAll rfl rfl) (by rfl) z_all (by decide +kernel) (y_cons (y_lcF rfl sc.nd (y_rng2 (by rfl) z_range (y_cons y_int (y_cons (y_callB (cLen rfl) (by rfl) z_len (by decide +kernel) (y_cons (y_var (pv 0)) y_nil)) y_nil))) (blkOk_by (own := [("at", 1)]) (by first | decide +kernel | kernel_rfl | rfl)) (fun _ _ _ _ _ => (y_gname (vs := [1]) (pg_name (i := 1) sc.nd rfl (.inl rfl)) (by decide))) (fun _ _ _ _ _ => y_yes) (fun _ _ _ _ _ => (y_cmp (opLt rfl hr.units0) (y_ix rfl (y_var (pv 0)) (y_op opSub (y_var (pv 1)) y_int)) (y_ix rfl (y_var (pv 0)) (y_var (pv 1))) (nomark _)))) y_nil))))
abbrev s_are_below : Stmt := topS 6
theorem sc_are_below : FnScope ["n", "value", "thing"] ["n", "value"] (C8.fnScope s_are_below) := C8.fnScope_by (by decide +kernel)
noncomputable def B_are_below : DS :=
  (dRet (dAndV (dIsi ["tuple"] (dVar 1)) (dCall gAll (dCons (dLcF (dLc [2] (dIter (dVar 1)) (tName 2) (fun _ st => .ok true st) (dCalP 2 F_is_below (dCons (dVar 0) (dCons (dVar 2) dNil))))) dNil))))
noncomputable def F_are_below : Fn := dDef 3 B_are_below
theorem ok_are_below {P : Program} {w : World} {K : PySem.W.Frag} {mg : Str → Option Value} {base : Heap} {f : Addr} {fd : FuncData} (F : C8.Def K mg "are_below" s_are_below f fd) (df : fd.defaults = .none) (z_all : mg "all" = none) (z_isinstance : mg "isinstance" = none) (z_tuple : mg "tuple" = none) (c_is_below : CalG P w K mg base 3 "is_below" s_is_below ["n", "value"] 2 F_is_below) : CalG P w K mg base 4 "are_below" s_are_below ["n", "value"] 2 F_are_below := by
  have sc := sc_are_below
  refine calG_of (k := 3) (N := ["n", "value", "thing"]) (D := B_are_below) F df sc rfl (fun _ _ _ _ _ _ us hl => match us, hl with | [_, _], _ => rfl) (fun f cdv A outer s H E hg hr => ?_)
  exact (y_last (y_ret (y_andV (y_isi1 (T := "tuple") rfl (by rfl) z_isinstance (by rfl) z_tuple (by decide +kernel) (y_var (pv 1))) (y_one (y_callB (cAll rfl rfl) (by rfl) z_all (by decide +kernel) (y_cons (y_lcF rfl sc.nd (y_iter rfl (y_var (pv 1))) (blkOk_by (own := [("thing", 2)]) (by first | decide +kernel | kernel_rfl | rfl)) (fun _ _ _ _ _ => (y_gname (vs := [2]) (pg_name (i := 2) sc.nd rfl (.inl rfl)) (by decide))) (fun _ _ _ _ _ => y_yes) (fun _ _ _ _ _ => (y_calP rfl c_is_below hr (by decide) hg (by rfl) (y_cons (y_var (pv 0)) (y_cons (y_var (pv 2)) y_nil))))) y_nil))))))
abbrev s_are_ascending_below : Stmt := topS 7
theorem sc_are_ascending_below : FnScope ["n", "value"] ["n", "value"] (C8.fnScope s_are_ascending_below) := C8.fnScope_by (by decide +kernel)
noncomputable def B_are_ascending_below : DS :=
  (dRet (dAndV (dCalP 2 F_are_below (dCons (dVar 0) (dCons (dVar 1) dNil))) (dCalP 1 F_is_ascending (dCons (dVar 1) dNil))))
noncomputable def F_are_ascending_below : Fn := dDef 2 B_are_ascending_below
theorem ok_are_ascending_below {P : Program} {w : World} {K : PySem.W.Frag} {mg : Str → Option Value} {base : Heap} {f : Addr} {fd : FuncData} (F : C8.Def K mg "are_ascending_below" s_are_ascending_below f fd) (df : fd.defaults = .none) (c_are_below : CalG P w K mg base 4 "are_below" s_are_below ["n", "value"] 2 F_are_below) (c_is_ascending : CalG P w K mg base 1 "is_ascending" s_is_ascending ["row"] 1 F_is_ascending) : CalG P w K mg base 5 "are_ascending_below" s_are_ascending_below ["n", "value"] 2 F_are_ascending_below := by
  have sc := sc_are_ascending_below
  refine calG_of (k := 4) (N := ["n", "value"]) (D := B_are_ascending_below) F df sc rfl (fun _ _ _ _ _ _ us hl => match us, hl with | [_, _], _ => rfl) (fun f cdv A outer s H E hg hr => ?_)
  exact (y_last (y_ret (y_andV (y_calP rfl c_are_below hr (by decide) hg (by rfl) (y_cons (y_var (pv 0)) (y_cons (y_var (pv 1)) y_nil))) (y_one (y_calP rfl c_is_ascending hr (by decide) hg (by rfl) (y_cons (y_var (pv 1)) y_nil))))))
abbrev s_people_of : Stmt := topS 9
theorem sc_people_of : FnScope ["piece"] ["piece"] (C8.fnScope s_people_of) := C8.fnScope_by (by decide +kernel)
noncomputable def B_people_of : DS :=
  (dRet (dBin vIx (dVar 0) (dUn vNeg (dLit (.int 1)))))
noncomputable def F_people_of : Fn := dDef 1 B_people_of
theorem ok_people_of {P : Program} {w : World} {K : PySem.W.Frag} {mg : Str → Option Value} {base : Heap} {f : Addr} {fd : FuncData} (F : C8.Def K mg "people_of" s_people_of f fd) (df : fd.defaults = .none) : CalG P w K mg base 1 "people_of" s_people_of ["piece"] 1 F_people_of := by
  have sc := sc_people_of
  refine calG_of (k := 0) (N := ["piece"]) (D := B_people_of) F df sc rfl (fun _ _ _ _ _ _ us hl => match us, hl with | [_], _ => rfl) (fun f cdv A outer s H E hg hr => ?_)
  exact (y_last (y_ret (y_ix rfl (y_var (pv 0)) (y_un unNeg y_int))))
abbrev s_is_calendar : Stmt := topS 14
theorem sc_is_calendar : FnScope ["value"] ["value"] (C8.fnScope s_is_calendar) := C8.fnScope_by (by decide +kernel)
noncomputable def B_is_calendar : DS :=
  (dRet (dAndV (dCalP 2 F_are_below (dCons (dBin vAdd (dLit (.int 60)) (dLit (.int 1))) (dCons (dVar 0) dNil))) (dBin vLe (dCall gLen (dCons (dVar 0) dNil)) (dLit (.int 40)))))
noncomputable def F_is_calendar : Fn := dDef 1 B_is_calendar
theorem ok_is_calendar {P : Program} {w : World} {K : PySem.W.Frag} {mg : Str → Option Value} {base : Heap} {f : Addr} {fd : FuncData} (F : C8.Def K mg "is_calendar" s_is_calendar f fd) (df : fd.defaults = .none) (z_len : mg "len" = none) {tk_MOST_DAYS : Tok} (g_MOST_DAYS : mg "MOST_DAYS" = some (.int 40 tk_MOST_DAYS)) {tk_MOST_GIFTS : Tok} (g_MOST_GIFTS : mg "MOST_GIFTS" = some (.int 60 tk_MOST_GIFTS)) (c_are_below : CalG P w K mg base 4 "are_below" s_are_below ["n", "value"] 2 F_are_below) : CalG P w K mg base 5 "is_calendar" s_is_calendar ["value"] 1 F_is_calendar := by
  have sc := sc_is_calendar
  refine calG_of (k := 4) (N := ["value"]) (D := B_is_calendar) F df sc rfl (fun _ _ _ _ _ _ us hl => match us, hl with | [_], _ => rfl) (fun f cdv A outer s H E hg hr => ?_)
  exact (y_last (y_ret (y_andV (y_calP rfl c_are_below hr (by decide) hg (by rfl) (y_cons (y_op (opAdd rfl) (y_glob (by rfl) g_MOST_GIFTS (show RelV (.int _) _ from ⟨_, rfl⟩) (fun _ _ _ => .int _)) y_int) (y_cons (y_var (pv 0)) y_nil))) (y_one (y_cmp opLe (y_callB (cLen rfl) (by rfl) z_len (by decide +kernel) (y_cons (y_var (pv 0)) y_nil)) (y_glob (by rfl) g_MOST_DAYS (show RelV (.int _) _ from ⟨_, rfl⟩) (fun _ _ _ => .int _)) (nomark _))))))
abbrev s_is_job : Stmt := topS 15
theorem sc_is_job : FnScope ["calendar", "value"] ["calendar", "value"] (C8.fnScope s_is_job) := C8.fnScope_by (by decide +kernel)
noncomputable def B_is_job : DS :=
  (dSeq (dIfS (dOr (dNot (fun ρ st => asB ((dCalP 2 F_is_tuple_of (dCons (dLit (.int 2)) (dCons (dVar 1) dNil))) ρ st))) (dOr (dNot (fun ρ st => asB ((dCalP 2 F_is_below (dCons (dBin vAdd (dLit (.int 60)) (dLit (.int 1))) (dCons (dBin vIx (dVar 1) (dLit (.int 0))) dNil))) ρ st))) (fun ρ st => asB (dBin (vEq false) (dBin vIx (dVar 1) (dLit (.int 0))) (dLit (.int 0)) ρ st))))
    (dRet (dLit (.bool false)))
    dEnd)
    (dRet (dCalP 2 F_are_ascending_below (dCons (dCall gLen (dCons (dVar 0) dNil)) (dCons (dBin vIx (dVar 1) (dLit (.int 1))) dNil)))))
noncomputable def F_is_job : Fn := dDef 2 B_is_job
theorem ok_is_job {P : Program} {w : World} {K : PySem.W.Frag} {mg : Str → Option Value} {base : Heap} {f : Addr} {fd : FuncData} (F : C8.Def K mg "_is_job" s_is_job f fd) (df : fd.defaults = .none) (z_len : mg "len" = none) {tk_MOST_GIFTS : Tok} (g_MOST_GIFTS : mg "MOST_GIFTS" = some (.int 60 tk_MOST_GIFTS)) (c_is_tuple_of : CalG P w K mg base 1 "is_tuple_of" s_is_tuple_of ["size", "value"] 2 F_is_tuple_of) (c_is_below : CalG P w K mg base 3 "is_below" s_is_below ["n", "value"] 2 F_is_below) (c_are_ascending_below : CalG P w K mg base 5 "are_ascending_below" s_are_ascending_below ["n", "value"] 2 F_are_ascending_below) : CalG P w K mg base 6 "_is_job" s_is_job ["calendar", "value"] 2 F_is_job := by
  have sc := sc_is_job
  refine calG_of (k := 5) (N := ["calendar", "value"]) (D := B_is_job) F df sc rfl (fun _ _ _ _ _ _ us hl => match us, hl with | [_, _], _ => rfl) (fun f cdv A outer s H E hg hr => ?_)
  exact (y_seq (y_ifS (y_or (y_not (y_tval (y_calP rfl c_is_tuple_of hr (by decide) hg (by rfl) (y_cons y_int (y_cons (y_var (pv 1)) y_nil))))) (y_or (y_not (y_tval (y_calP rfl c_is_below hr (by decide) hg (by rfl) (y_cons (y_op (opAdd rfl) (y_glob (by rfl) g_MOST_GIFTS (show RelV (.int _) _ from ⟨_, rfl⟩) (fun _ _ _ => .int _)) y_int) (y_cons (y_ix rfl (y_var (pv 1)) y_int) y_nil))))) (y_pw1 (y_tcmp (opEq rfl hr.units) (y_ix rfl (y_var (pv 1)) y_int) y_int (nomark _))))).pt
    (y_last (y_ret y_bl))
    y_end)
    (y_last (y_ret (y_calP rfl c_are_ascending_below hr (by decide) hg (by rfl) (y_cons (y_callB (cLen rfl) (by rfl) z_len (by decide +kernel) (y_cons (y_var (pv 0)) y_nil)) (y_cons (y_ix rfl (y_var (pv 1)) y_int) y_nil))))))
abbrev s_are_jobs : Stmt := topS 16
theorem sc_are_jobs : FnScope ["calendar", "value", "thing"] ["calendar", "value"] (C8.fnScope s_are_jobs) := C8.fnScope_by (by decide +kernel)
noncomputable def B_are_jobs : DS :=
  (dSeq (dIfS (dOr (dNot (fun ρ st => asB ((dIsi ["tuple"] (dVar 1)) ρ st))) (fun ρ st => asB (dBin vGt (dCall gLen (dCons (dVar 1) dNil)) (dLit (.int 14)) ρ st)))
    (dRet (dLit (.bool false)))
    dEnd)
    (dRet (dCall gAll (dCons (dLcF (dLc [2] (dIter (dVar 1)) (tName 2) (fun _ st => .ok true st) (dCalP 2 F_is_job (dCons (dVar 0) (dCons (dVar 2) dNil))))) dNil))))
noncomputable def F_are_jobs : Fn := dDef 3 B_are_jobs
theorem ok_are_jobs {P : Program} {w : World} {K : PySem.W.Frag} {mg : Str → Option Value} {base : Heap} {f : Addr} {fd : FuncData} (F : C8.Def K mg "are_jobs" s_are_jobs f fd) (df : fd.defaults = .none) (z_all : mg "all" = none) (z_isinstance : mg "isinstance" = none) (z_len : mg "len" = none) (z_tuple : mg "tuple" = none) {tk_MOST_JOBS : Tok} (g_MOST_JOBS : mg "MOST_JOBS" = some (.int 14 tk_MOST_JOBS)) (c_is_job : CalG P w K mg base 6 "_is_job" s_is_job ["calendar", "value"] 2 F_is_job) : CalG P w K mg base 7 "are_jobs" s_are_jobs ["calendar", "value"] 2 F_are_jobs := by
  have sc := sc_are_jobs
  refine calG_of (k := 6) (N := ["calendar", "value", "thing"]) (D := B_are_jobs) F df sc rfl (fun _ _ _ _ _ _ us hl => match us, hl with | [_, _], _ => rfl) (fun f cdv A outer s H E hg hr => ?_)
  exact (y_seq (y_ifS (y_or (y_not (y_tval (y_isi1 (T := "tuple") rfl (by rfl) z_isinstance (by rfl) z_tuple (by decide +kernel) (y_var (pv 1))))) (y_pw1 (y_tcmp opGt (y_callB (cLen rfl) (by rfl) z_len (by decide +kernel) (y_cons (y_var (pv 1)) y_nil)) (y_glob (by rfl) g_MOST_JOBS (show RelV (.int _) _ from ⟨_, rfl⟩) (fun _ _ _ => .int _)) (nomark _)))).pt
    (y_last (y_ret y_bl))
    y_end)
    (y_last (y_ret (y_callB (cAll rfl rfl) (by rfl) z_all (by decide +kernel) (y_cons (y_lcF rfl sc.nd (y_iter rfl (y_var (pv 1))) (blkOk_by (own := [("thing", 2)]) (by first | decide +kernel | kernel_rfl | rfl)) (fun _ _ _ _ _ => (y_gname (vs := [2]) (pg_name (i := 2) sc.nd rfl (.inl rfl)) (by decide))) (fun _ _ _ _ _ => y_yes) (fun _ _ _ _ _ => (y_calP rfl c_is_job hr (by decide) hg (by rfl) (y_cons (y_var (pv 0)) (y_cons (y_var (pv 2)) y_nil))))) y_nil)))))
abbrev s_jobs_of : Stmt := topS 17
theorem sc_jobs_of : FnScope ["calendar", "pack", "away", "jobs", "piece", "people", "days", "day", "person"] ["calendar", "pack", "away"] (C8.fnScope s_jobs_of) := C8.fnScope_by (by decide +kernel)
noncomputable def B_jobs_of : DS :=
  (dSeq (dSet 3 (dNew dNil))
    (dSeq (dFor (dIter (dVar 1)) (tName 4)
    (dSeq (dSet 5 (dCalP 1 F_people_of (dCons (dVar 4) dNil)))
    (dSeq (dSet 6 (dLcF (dLc [7] (dRng1 (dCons (dCall gLen (dCons (dVar 0) dNil)) dNil)) (tName 7) (dNot (fun ρ st => asB ((dCall gAny (dCons (dLcF (dLc [8] (dIter (dVar 5)) (tName 8) (fun _ st => .ok true st) (dBin (vIn false) (dVar 7) (dBin vIx (dVar 2) (dVar 8))))) dNil)) ρ st))) (dVar 7))))
    (dExpr (dMeth mAppend (dVar 3) (dCons (dTup (dCons (dCall gLen (dCons (dVar 5) dNil)) (dCons (dCall gTupleOf (dCons (dVar 6) dNil)) dNil))) dNil))))))
    (dRet (dCall gTupleOf (dCons (dVar 3) dNil)))))
noncomputable def F_jobs_of : Fn := dDef 9 B_jobs_of
theorem ok_jobs_of {P : Program} {w : World} {K : PySem.W.Frag} {mg : Str → Option Value} {base : Heap} {f : Addr} {fd : FuncData} (F : C8.Def K mg "jobs_of" s_jobs_of f fd) (df : fd.defaults = .none) (z_any : mg "any" = none) (z_len : mg "len" = none) (z_range : mg "range" = none) (z_tuple : mg "tuple" = none) (c_people_of : CalG P w K mg base 1 "people_of" s_people_of ["piece"] 1 F_people_of) : CalG P w K mg base 2 "jobs_of" s_jobs_of ["calendar", "pack", "away"] 3 F_jobs_of := by
  have sc := sc_jobs_of
  refine calG_of (k := 1) (N := ["calendar", "pack", "away", "jobs", "piece", "people", "days", "day", "person"]) (D := B_jobs_of) F df sc rfl (fun _ _ _ _ _ _ us hl => match us, hl with | [_, _, _], _ => rfl) (fun f cdv A outer s H E hg hr => ?_)
  exact (y_seq (y_set (ps_set (i := 3) sc.nd rfl (.inl rfl) (y_new y_nil)))
    (y_seq (y_for (vs := [4]) PassesOwn.never rfl (y_iter rfl (y_var (pv 1))) (y_gname (vs := [4]) (pg_name (i := 4) sc.nd rfl (.inl rfl)) (by decide))
    (y_seq (y_set (ps_set (i := 5) sc.nd rfl (.inr rfl) (y_calP rfl c_people_of hr (by decide) hg (by rfl) (y_cons (y_var (pv 4)) y_nil))))
    (y_seq (y_setLcF (i := 6) rfl sc.nd rfl rfl (sw_true rfl rfl rfl (by decide +kernel)) (y_rng1 (by rfl) z_range (y_cons (y_callB (cLen rfl) (by rfl) z_len (by decide +kernel) (y_cons (y_var (pv 0)) y_nil)) y_nil)) (blkOk_by (own := [("day", 7)]) (by first | decide +kernel | kernel_rfl | rfl)) (fun _ _ _ _ _ => (y_gname (vs := [7]) (pg_name (i := 7) sc.nd rfl (.inr rfl)) (by decide))) (fun _ _ _ _ _ => pts_one (y_not (y_tval (y_callB (cAnyB rfl rfl) (by rfl) z_any (by decide +kernel) (y_cons (y_lcF rfl sc.nd (y_iter rfl (y_var (pv 5))) (blkOk_by (own := [("person", 8)]) (by first | decide +kernel | kernel_rfl | rfl)) (fun _ _ _ _ _ => (y_gname (vs := [8]) (pg_name (i := 8) sc.nd rfl (.inl rfl)) (by decide))) (fun _ _ _ _ _ => y_yes) (fun _ _ _ _ _ => (y_cmp (opIn rfl (u65 hr)) (y_var (pv 7)) (y_ix rfl (y_var (pv 2)) (y_var (pv 8))) (by rfl)))) y_nil))))) (fun _ _ _ _ _ => (y_var (pv 7))))
    (y_last (y_expr (y_meth rfl PySem.F.plainAttrs_list PySem.F.slot_list_append PySem.F.type_list_append mtAppend (y_var (pv 3)) (y_cons (y_tup (y_cons (y_callB (cLen rfl) (by rfl) z_len (by decide +kernel) (y_cons (y_var (pv 5)) y_nil)) (y_cons (y_callTy (cTupleOf rfl) (by rfl) z_tuple (by decide +kernel) (y_cons (y_var (pv 6)) y_nil)) y_nil))) y_nil)))))))
    (y_last (y_ret (y_callTy (cTupleOf rfl) (by rfl) z_tuple (by decide +kernel) (y_cons (y_var (pv 3)) y_nil))))))
abbrev s_left_over : Stmt := topS 19
theorem sc_left_over : FnScope ["calendar", "jobs", "table", "many", "left", "gifts", "_", "day"] ["calendar", "jobs", "table", "many"] (C8.fnScope s_left_over) := C8.fnScope_by (by decide +kernel)
noncomputable def B_left_over : DS :=
  (dSeq (dSet 4 (dCall gListNew (dCons (dVar 0) dNil)))
    (dSeq (dFor (dZip (dCons (dSl (dVar 1) dNoP (dPart (dVar 3))) (dCons (dVar 2) dNil))) (tTup' 2 (tCons' (tTup' 2 (tCons' (tName 5) (tCons' (tName 6) tNil'))) (tCons' (tName 7) tNil')))
    (dAugL (fun i j => i - j) (dVar 4) (dVar 7) (dVar 5)))
    (dRet (dCall gTupleOf (dCons (dVar 4) dNil)))))
noncomputable def F_left_over : Fn := dDef 8 B_left_over
theorem ok_left_over {P : Program} {w : World} {K : PySem.W.Frag} {mg : Str → Option Value} {base : Heap} {f : Addr} {fd : FuncData} (F : C8.Def K mg "left_over" s_left_over f fd) (df : fd.defaults = .none) (z_list : mg "list" = none) (z_tuple : mg "tuple" = none) (z_zip : mg "zip" = none) : CalG P w K mg base 1 "left_over" s_left_over ["calendar", "jobs", "table", "many"] 4 F_left_over := by
  have sc := sc_left_over
  refine calG_of (k := 0) (N := ["calendar", "jobs", "table", "many", "left", "gifts", "_", "day"]) (D := B_left_over) F df sc rfl (fun _ _ _ _ _ _ us hl => match us, hl with | [_, _, _, _], _ => rfl) (fun f cdv A outer s H E hg hr => ?_)
  exact (y_seq (y_set (ps_set (i := 4) sc.nd rfl (.inl rfl) (y_callTy (cListNew rfl) (by rfl) z_list (by decide +kernel) (y_cons (y_var (pv 0)) y_nil))))
    (y_seq (y_for (vs := [7, 5, 6]) PassesOwn.never rfl (y_zip rfl (by rfl) z_zip (y_cons (y_sl rfl (y_var (pv 1)) y_noP (y_part (y_var (pv 3)))) (y_cons (y_var (pv 2)) y_nil))) (y_gtup rfl rfl (y_gcons (y_gtup rfl rfl (y_gcons (y_gname (vs := [7, 5, 6]) (pg_name (i := 5) sc.nd rfl (.inl rfl)) (by decide)) (y_gcons (y_gname (vs := [7, 5, 6]) (pg_name (i := 6) sc.nd rfl (.inl rfl)) (by decide)) y_gnil))) (y_gcons (y_gname (vs := [7, 5, 6]) (pg_name (i := 7) sc.nd rfl (.inl rfl)) (by decide)) y_gnil)))
    (y_last (y_augL ip_sub (y_var (pv 4)) (y_var (pv 7)) (y_var (pv 5)))))
    (y_last (y_ret (y_callTy (cTupleOf rfl) (by rfl) z_tuple (by decide +kernel) (y_cons (y_var (pv 4)) y_nil))))))
abbrev s_is_timetable : Stmt := topS 18
theorem sc_is_timetable : FnScope ["calendar", "jobs", "value", "day", "_", "days", "many"] ["calendar", "jobs", "value"] (C8.fnScope s_is_timetable) := C8.fnScope_by (by decide +kernel)
noncomputable def B_is_timetable : DS :=
  (dSeq (dIfS (dOr (dNot (fun ρ st => asB ((dCalP 2 F_are_below (dCons (dCall gLen (dCons (dVar 0) dNil)) (dCons (dVar 2) dNil))) ρ st))) (fun ρ st => asB (dBin (vEq true) (dCall gLen (dCons (dVar 2) dNil)) (dCall gLen (dCons (dVar 1) dNil)) ρ st)))
    (dRet (dLit (.bool false)))
    dEnd)
    (dSeq (dIfS (dNot (fun ρ st => asB ((dCall gAll (dCons (dLcF (dLc [3, 4, 5] (dZip (dCons (dVar 2) (dCons (dVar 1) dNil))) (tTup' 2 (tCons' (tName 3) (tCons' (tTup' 2 (tCons' (tName 4) (tCons' (tName 5) tNil'))) tNil'))) (fun _ st => .ok true st) (dBin (vIn false) (dVar 3) (dVar 5)))) dNil)) ρ st)))
    (dRet (dLit (.bool false)))
    dEnd)
    (dRet (dCall gAll (dCons (dLcF (dLc [6] (dIter (dCalP 4 F_left_over (dCons (dVar 0) (dCons (dVar 1) (dCons (dVar 2) (dCons (dCall gLen (dCons (dVar 1) dNil)) dNil)))))) (tName 6) (fun _ st => .ok true st) (dBin vGe (dVar 6) (dLit (.int 0))))) dNil)))))
noncomputable def F_is_timetable : Fn := dDef 7 B_is_timetable
theorem ok_is_timetable {P : Program} {w : World} {K : PySem.W.Frag} {mg : Str → Option Value} {base : Heap} {f : Addr} {fd : FuncData} (F : C8.Def K mg "is_timetable" s_is_timetable f fd) (df : fd.defaults = .none) (z_all : mg "all" = none) (z_len : mg "len" = none) (z_zip : mg "zip" = none) (c_are_below : CalG P w K mg base 4 "are_below" s_are_below ["n", "value"] 2 F_are_below) (c_left_over : CalG P w K mg base 1 "left_over" s_left_over ["calendar", "jobs", "table", "many"] 4 F_left_over) : CalG P w K mg base 5 "is_timetable" s_is_timetable ["calendar", "jobs", "value"] 3 F_is_timetable := by
  have sc := sc_is_timetable
  refine calG_of (k := 4) (N := ["calendar", "jobs", "value", "day", "_", "days", "many"]) (D := B_is_timetable) F df sc rfl (fun _ _ _ _ _ _ us hl => match us, hl with | [_, _, _], _ => rfl) (fun f cdv A outer s H E hg hr => ?_)
  exact (y_seq (y_ifS (y_or (y_not (y_tval (y_calP rfl c_are_below hr (by decide) hg (by rfl) (y_cons (y_callB (cLen rfl) (by rfl) z_len (by decide +kernel) (y_cons (y_var (pv 0)) y_nil)) (y_cons (y_var (pv 2)) y_nil))))) (y_pw1 (y_tcmp (opNe rfl hr.units) (y_callB (cLen rfl) (by rfl) z_len (by decide +kernel) (y_cons (y_var (pv 2)) y_nil)) (y_callB (cLen rfl) (by rfl) z_len (by decide +kernel) (y_cons (y_var (pv 1)) y_nil)) (nomark _)))).pt
    (y_last (y_ret y_bl))
    y_end)
    (y_seq (y_ifS (y_not (y_tval (y_callB (cAll rfl rfl) (by rfl) z_all (by decide +kernel) (y_cons (y_lcF rfl sc.nd (y_zip rfl (by rfl) z_zip (y_cons (y_var (pv 2)) (y_cons (y_var (pv 1)) y_nil))) (blkOk_by (own := [("day", 3), ("_", 4), ("days", 5)]) (by first | decide +kernel | kernel_rfl | rfl)) (fun _ _ _ _ _ => (y_gtup rfl rfl (y_gcons (y_gname (vs := [3, 4, 5]) (pg_name (i := 3) sc.nd rfl (.inl rfl)) (by decide)) (y_gcons (y_gtup rfl rfl (y_gcons (y_gname (vs := [3, 4, 5]) (pg_name (i := 4) sc.nd rfl (.inl rfl)) (by decide)) (y_gcons (y_gname (vs := [3, 4, 5]) (pg_name (i := 5) sc.nd rfl (.inl rfl)) (by decide)) y_gnil))) y_gnil)))) (fun _ _ _ _ _ => y_yes) (fun _ _ _ _ _ => (y_cmp (opIn rfl (u65 hr)) (y_var (pv 3)) (y_var (pv 5)) (by rfl)))) y_nil))))
    (y_last (y_ret y_bl))
    y_end)
    (y_last (y_ret (y_callB (cAll rfl rfl) (by rfl) z_all (by decide +kernel) (y_cons (y_lcF rfl sc.nd (y_iter rfl (y_calP rfl c_left_over hr (by decide) hg (by rfl) (y_cons (y_var (pv 0)) (y_cons (y_var (pv 1)) (y_cons (y_var (pv 2)) (y_cons (y_callB (cLen rfl) (by rfl) z_len (by decide +kernel) (y_cons (y_var (pv 1)) y_nil)) y_nil)))))) (blkOk_by (own := [("many", 6)]) (by first | decide +kernel | kernel_rfl | rfl)) (fun _ _ _ _ _ => (y_gname (vs := [6]) (pg_name (i := 6) sc.nd rfl (.inl rfl)) (by decide))) (fun _ _ _ _ _ => y_yes) (fun _ _ _ _ _ => (y_cmp opGe (y_var (pv 6)) y_int (nomark _)))) y_nil))))))
abbrev s_l_draw : Stmt := topS 21
theorem sc_l_draw : FnScope ["script", "salt", "cells", "blend", "cell"] ["script", "salt"] (C8.fnScope s_l_draw) := C8.fnScope_by (by decide +kernel)
noncomputable def B_l_draw : DS :=
  (dSeq (dSet 2 (dLcF (dLc [4] (dIter (dSl (dVar 0) dNoP (dPart (dLit (.int 48))))) (tName 4) (fun _ st => .ok true st) (dCall gAbs (dCons (dCall gInt (dCons (dVar 4) dNil)) dNil)))))
    (dSeq (dSet 3 (dBin vAdd (dLit (.int 7919)) (dBin vMul (dLit (.int 104729)) (dVar 1))))
    (dSeq (dFor (dIter (dVar 2)) (tName 4)
    (dSet 3 (dBin vMod (dCall gInt (dCons (dBin vAdd (dBin vAdd (dBin vMul (dVar 3) (dLit (.int 48271))) (dBin vMod (dVar 4) (dLit (.int 2147483549)))) (dLit (.int 11))) dNil)) (dLit (.int 2147483647)))))
    (dRet (dNew (dCons (dRevN (dLcF (dLc [4] (dIter (dVar 2)) (tName 4) (fun ρ st => asB (dBin vGe (dVar 4) (dBin vPow (dLit (.int 10)) (dLit (.int 18))) ρ st)) (dVar 4)))) (dCons (dVar 3) dNil)))))))
noncomputable def F_l_draw : Fn := dDef 5 B_l_draw
theorem ok_l_draw {P : Program} {w : World} {K : PySem.W.Frag} {mg : Str → Option Value} {base : Heap} {f : Addr} {fd : FuncData} (F : C8.Def K mg "_law_draw" s_l_draw f fd) (df : fd.defaults = .none) (z_abs : mg "abs" = none) (z_int : mg "int" = none) : CalG P w K mg base 1 "_law_draw" s_l_draw ["script", "salt"] 2 F_l_draw := by
  have sc := sc_l_draw
  refine calG_of (k := 0) (N := ["script", "salt", "cells", "blend", "cell"]) (D := B_l_draw) F df sc rfl (fun _ _ _ _ _ _ us hl => match us, hl with | [_, _], _ => rfl) (fun f cdv A outer s H E hg hr => ?_)
  exact (y_seq (y_setLcF (i := 2) rfl sc.nd rfl rfl (sw_true rfl rfl rfl (by decide +kernel)) (y_iter rfl (y_sl rfl (y_var (pv 0)) y_noP (y_part y_int))) (blkOk_by (own := [("cell", 4)]) (by first | decide +kernel | kernel_rfl | rfl)) (fun _ _ _ _ _ => (y_gname (vs := [4]) (pg_name (i := 4) sc.nd rfl (.inl rfl)) (by decide))) (fun _ _ _ _ _ => y_yes) (fun _ _ _ _ _ => (y_callB cAbs (by rfl) z_abs (by decide +kernel) (y_cons (y_callTy cInt (by rfl) z_int (by decide +kernel) (y_cons (y_var (pv 4)) y_nil)) y_nil))))
    (y_seq (y_set (ps_set (i := 3) sc.nd rfl (.inl rfl) (y_op (opAdd rfl) y_int (y_op opMul y_int (y_var (pv 1))))))
    (y_seq (y_for (vs := [4]) PassesOwn.never rfl (y_iter rfl (y_var (pv 2))) (y_gname (vs := [4]) (pg_name (i := 4) sc.nd rfl (.inl rfl)) (by decide))
    (y_last (y_set (ps_set (i := 3) sc.nd rfl (.inl rfl) (y_op opMod (y_callTy cInt (by rfl) z_int (by decide +kernel) (y_cons (y_op (opAdd rfl) (y_op (opAdd rfl) (y_op opMul (y_var (pv 3)) y_int) (y_op opMod (y_var (pv 4)) y_int)) y_int) y_nil)) y_int)))))
    (y_last (y_ret (y_new (y_cons (y_revN rfl (y_lcF rfl sc.nd (y_iter rfl (y_var (pv 2))) (blkOk_by (own := [("cell", 4)]) (by first | decide +kernel | kernel_rfl | rfl)) (fun _ _ _ _ _ => (y_gname (vs := [4]) (pg_name (i := 4) sc.nd rfl (.inl rfl)) (by decide))) (fun _ _ _ _ _ => pts_one (y_tcmp opGe (y_var (pv 4)) (y_op opPow y_int y_int) (nomark _))) (fun _ _ _ _ _ => (y_var (pv 4))))) (y_cons (y_var (pv 3)) y_nil))))))))
abbrev s_l_any : Stmt := topS 22
theorem sc_l_any : FnScope ["deal", "bound", "rest"] ["deal", "bound"] (C8.fnScope s_l_any) := C8.fnScope_by (by decide +kernel)
noncomputable def B_l_any : DS :=
  (dSeq (dWhile (dAnd (fun ρ st => asB (dBin (vEq true) (dBin vIx (dVar 0) (dLit (.int 0))) (dLst dNil) ρ st)) (fun ρ st => asB (dBin (vEq false) (dBin vIx (dBin vIx (dVar 0) (dLit (.int 0))) (dUn vNeg (dLit (.int 1)))) (dLit (.int 0)) ρ st)))
    (dExpr (dMeth0 mPop (dBin vIx (dVar 0) (dLit (.int 0))))))
    (dSeq (dIfS (fun ρ st => asB (dBin (vEq true) (dBin vIx (dVar 0) (dLit (.int 0))) (dLst dNil) ρ st))
    (dSeq (dSet 2 (dCall gInt (dCons (dMeth0 mPop (dBin vIx (dVar 0) (dLit (.int 0)))) dNil)))
    (dSeq (dExpr (dMeth mAppend (dBin vIx (dVar 0) (dLit (.int 0))) (dCons (dBin vDiv (dVar 2) (dVar 1)) dNil)))
    (dRet (dBin vMod (dVar 2) (dVar 1)))))
    dEnd)
    (dSeq (dSetIx (dBin vMod (dCall gInt (dCons (dBin vAdd (dBin vMul (dBin vIx (dVar 0) (dLit (.int 1))) (dLit (.int 40693))) (dLit (.int 71))) dNil)) (dLit (.int 2147483647))) (dVar 0) (dLit (.int 1)))
    (dRet (dBin vMod (dCall gInt (dCons (dBin vDiv (dBin vIx (dVar 0) (dLit (.int 1))) (dLit (.int 64))) dNil)) (dVar 1))))))
noncomputable def F_l_any : Fn := dDef 3 B_l_any
theorem ok_l_any {P : Program} {w : World} {K : PySem.W.Frag} {mg : Str → Option Value} {base : Heap} {f : Addr} {fd : FuncData} (F : C8.Def K mg "_law_any" s_l_any f fd) (df : fd.defaults = .none) (z_int : mg "int" = none) : CalG P w K mg base 1 "_law_any" s_l_any ["deal", "bound"] 2 F_l_any := by
  have sc := sc_l_any
  refine calG_of (k := 0) (N := ["deal", "bound", "rest"]) (D := B_l_any) F df sc rfl (fun _ _ _ _ _ _ us hl => match us, hl with | [_, _], _ => rfl) (fun f cdv A outer s H E hg hr => ?_)
  exact (y_seq (y_while PassesOwn.never (y_and (y_tcmp (opNe rfl hr.units) (y_ix rfl (y_var (pv 0)) y_int) (y_lst y_nil) (nomark _)) (y_pw1 (y_tcmp (opEq rfl hr.units) (y_ix rfl (y_ix rfl (y_var (pv 0)) y_int) (y_un unNeg y_int)) y_int (nomark _)))).pt
    (y_last (y_expr (y_meth0 rfl PySem.F.plainAttrs_list PySem.F.slot_list_pop PySem.F.type_list_pop mtPop (y_ix rfl (y_var (pv 0)) y_int)))))
    (y_seq (y_ifS (y_tcmp (opNe rfl hr.units) (y_ix rfl (y_var (pv 0)) y_int) (y_lst y_nil) (nomark _))
    (y_seq (y_set (ps_set (i := 2) sc.nd rfl (.inl rfl) (y_callTy cInt (by rfl) z_int (by decide +kernel) (y_cons (y_meth0 rfl PySem.F.plainAttrs_list PySem.F.slot_list_pop PySem.F.type_list_pop mtPop (y_ix rfl (y_var (pv 0)) y_int)) y_nil))))
    (y_seq (y_expr (y_meth rfl PySem.F.plainAttrs_list PySem.F.slot_list_append PySem.F.type_list_append mtAppend (y_ix rfl (y_var (pv 0)) y_int) (y_cons (y_op opDiv (y_var (pv 2)) (y_var (pv 1))) y_nil)))
    (y_last (y_ret (y_op opMod (y_var (pv 2)) (y_var (pv 1)))))))
    y_end)
    (y_seq (y_setIx (y_op opMod (y_callTy cInt (by rfl) z_int (by decide +kernel) (y_cons (y_op (opAdd rfl) (y_op opMul (y_ix rfl (y_var (pv 0)) y_int) y_int) y_int) y_nil)) y_int) (y_var (pv 0)) y_int)
    (y_last (y_ret (y_op opMod (y_callTy cInt (by rfl) z_int (by decide +kernel) (y_cons (y_op opDiv (y_ix rfl (y_var (pv 0)) y_int) y_int) y_nil)) (y_var (pv 1))))))))
abbrev s_l_of : Stmt := topS 23
theorem sc_l_of : FnScope ["deal", "some"] ["deal", "some"] (C8.fnScope s_l_of) := C8.fnScope_by (by decide +kernel)
noncomputable def B_l_of : DS :=
  (dRet (dBin vIx (dVar 1) (dCal 2 F_l_any (dCons (dVar 0) (dCons (dCall gLen (dCons (dVar 1) dNil)) dNil)))))
noncomputable def F_l_of : Fn := dDef 2 B_l_of
theorem ok_l_of {P : Program} {w : World} {K : PySem.W.Frag} {mg : Str → Option Value} {base : Heap} {f : Addr} {fd : FuncData} (F : C8.Def K mg "_law_of" s_l_of f fd) (df : fd.defaults = .none) (z_len : mg "len" = none) (c_l_any : CalG P w K mg base 1 "_law_any" s_l_any ["deal", "bound"] 2 F_l_any) : CalG P w K mg base 2 "_law_of" s_l_of ["deal", "some"] 2 F_l_of := by
  have sc := sc_l_of
  refine calG_of (k := 1) (N := ["deal", "some"]) (D := B_l_of) F df sc rfl (fun _ _ _ _ _ _ us hl => match us, hl with | [_, _], _ => rfl) (fun f cdv A outer s H E hg hr => ?_)
  exact (y_last (y_ret (y_ix rfl (y_var (pv 1)) (y_cal rfl c_l_any hr (by decide) hg (by rfl) (y_cons (y_var (pv 0)) (y_cons (y_callB (cLen rfl) (by rfl) z_len (by decide +kernel) (y_cons (y_var (pv 1)) y_nil)) y_nil))))))
abbrev s_l_mixed : Stmt := topS 24
theorem sc_l_mixed : FnScope ["deal", "some", "left", "found"] ["deal", "some"] (C8.fnScope s_l_mixed) := C8.fnScope_by (by decide +kernel)
noncomputable def B_l_mixed : DS :=
  (dSeq (dPar 2 3 (dCons (dCall gListNew (dCons (dVar 1) dNil)) (dCons (dNew dNil) dNil)))
    (dSeq (dWhile (fun ρ st => asB (dBin (vEq true) (dVar 2) (dLst dNil) ρ st))
    (dExpr (dMeth mAppend (dVar 3) (dCons (dMeth mPopAt (dVar 2) (dCons (dCal 2 F_l_any (dCons (dVar 0) (dCons (dCall gLen (dCons (dVar 2) dNil)) dNil))) dNil)) dNil))))
    (dRet (dFz (dVar 3)))))
noncomputable def F_l_mixed : Fn := dDef 4 B_l_mixed
theorem ok_l_mixed {P : Program} {w : World} {K : PySem.W.Frag} {mg : Str → Option Value} {base : Heap} {f : Addr} {fd : FuncData} (F : C8.Def K mg "_law_mixed" s_l_mixed f fd) (df : fd.defaults = .none) (z_len : mg "len" = none) (z_list : mg "list" = none) (c_l_any : CalG P w K mg base 1 "_law_any" s_l_any ["deal", "bound"] 2 F_l_any) : CalG P w K mg base 2 "_law_mixed" s_l_mixed ["deal", "some"] 2 F_l_mixed := by
  have sc := sc_l_mixed
  refine calG_of (k := 1) (N := ["deal", "some", "left", "found"]) (D := B_l_mixed) F df sc rfl (fun _ _ _ _ _ _ us hl => match us, hl with | [_, _], _ => rfl) (fun f cdv A outer s H E hg hr => ?_)
  exact (y_seq (y_par (ps_par (i := 2) (j := 3) rfl sc.nd rfl rfl (by decide) rfl rfl (y_cons (y_callTy (cListNew rfl) (by rfl) z_list (by decide +kernel) (y_cons (y_var (pv 1)) y_nil)) (y_cons (y_new y_nil) y_nil)) (by rfl)))
    (y_seq (y_while PassesOwn.never (y_tcmp (opNe rfl hr.units) (y_var (pv 2)) (y_lst y_nil) (nomark _))
    (y_last (y_expr (y_meth rfl PySem.F.plainAttrs_list PySem.F.slot_list_append PySem.F.type_list_append mtAppend (y_var (pv 3)) (y_cons (y_meth rfl PySem.F.plainAttrs_list PySem.F.slot_list_pop PySem.F.type_list_pop mtPopAt (y_var (pv 2)) (y_cons (y_cal rfl c_l_any hr (by decide) hg (by rfl) (y_cons (y_var (pv 0)) (y_cons (y_callB (cLen rfl) (by rfl) z_len (by decide +kernel) (y_cons (y_var (pv 2)) y_nil)) y_nil))) y_nil)) y_nil)))))
    (y_last (y_ret (y_fz (y_var (pv 3)))))))
abbrev s_l_calendar : Stmt := topS 25
theorem sc_l_calendar : FnScope ["deal", "most", "top", "turn"] ["deal", "most"] (C8.fnScope s_l_calendar) := C8.fnScope_by (by decide +kernel)
noncomputable def B_l_calendar : DS :=
  (dSeq (dSet 2 (dCal 2 F_l_of (dCons (dVar 0) (dCons (dLst (dCons (dLit (.int 3)) (dCons (dLit (.int 5)) (dCons (dLit (.int 9)) dNil)))) dNil))))
    (dRet (dCall gTupleOf (dCons (dLcF (dLc [3] (dRng1 (dCons (dCal 2 F_l_any (dCons (dVar 0) (dCons (dBin vAdd (dVar 1) (dLit (.int 1))) dNil))) dNil)) (tName 3) (fun _ st => .ok true st) (dCal 2 F_l_any (dCons (dVar 0) (dCons (dVar 2) dNil))))) dNil))))
noncomputable def F_l_calendar : Fn := dDef 4 B_l_calendar
theorem ok_l_calendar {P : Program} {w : World} {K : PySem.W.Frag} {mg : Str → Option Value} {base : Heap} {f : Addr} {fd : FuncData} (F : C8.Def K mg "_law_calendar" s_l_calendar f fd) (df : fd.defaults = .none) (z_range : mg "range" = none) (z_tuple : mg "tuple" = none) (c_l_of : CalG P w K mg base 2 "_law_of" s_l_of ["deal", "some"] 2 F_l_of) (c_l_any : CalG P w K mg base 1 "_law_any" s_l_any ["deal", "bound"] 2 F_l_any) : CalG P w K mg base 3 "_law_calendar" s_l_calendar ["deal", "most"] 2 F_l_calendar := by
  have sc := sc_l_calendar
  refine calG_of (k := 2) (N := ["deal", "most", "top", "turn"]) (D := B_l_calendar) F df sc rfl (fun _ _ _ _ _ _ us hl => match us, hl with | [_, _], _ => rfl) (fun f cdv A outer s H E hg hr => ?_)
  exact (y_seq (y_set (ps_set (i := 2) sc.nd rfl (.inr rfl) (y_cal rfl c_l_of hr (by decide) hg (by rfl) (y_cons (y_var (pv 0)) (y_cons (y_lst (y_cons y_int (y_cons y_int (y_cons y_int y_nil)))) y_nil)))))
    (y_last (y_ret (y_callTy (cTupleOf rfl) (by rfl) z_tuple (by decide +kernel) (y_cons (y_lcF rfl sc.nd (y_rng1 (by rfl) z_range (y_cons (y_cal rfl c_l_any hr (by decide) hg (by rfl) (y_cons (y_var (pv 0)) (y_cons (y_op (opAdd rfl) (y_var (pv 1)) y_int) y_nil))) y_nil)) (blkOk_by (own := [("turn", 3)]) (by first | decide +kernel | kernel_rfl | rfl)) (fun _ _ _ _ _ => (y_gname (vs := [3]) (pg_name (i := 3) sc.nd rfl (.inl rfl)) (by decide))) (fun _ _ _ _ _ => y_yes) (fun _ _ _ _ _ => (y_cal rfl c_l_any hr (by decide) hg (by rfl) (y_cons (y_var (pv 0)) (y_cons (y_var (pv 2)) y_nil))))) y_nil)))))
abbrev s_l_jobs : Stmt := topS 26
theorem sc_l_jobs : FnScope ["deal", "calendar", "most", "found", "form", "turn", "days", "day"] ["deal", "calendar", "most"] (C8.fnScope s_l_jobs) := C8.fnScope_by (by decide +kernel)
noncomputable def B_l_jobs : DS :=
  (dSeq (dAsg (dNewT (dCons (dNew dNil) (dCons (dCal 2 F_l_any (dCons (dVar 0) (dCons (dLit (.int 3)) dNil))) dNil))) (tTupR 2 (tCons' (tName 3) (tCons' (tName 4) tNil'))))
    (dSeq (dFor (dRng1 (dCons (dCal 2 F_l_any (dCons (dVar 0) (dCons (dBin vAdd (dVar 2) (dLit (.int 1))) dNil))) dNil)) (tName 5)
    (dSeq (dSet 6 (dLcF (dLc [7] (dRng1 (dCons (dCall gLen (dCons (dVar 1) dNil)) dNil)) (tName 7) (dOr (fun ρ st => asB (dBin (vEq false) (dVar 4) (dLit (.int 0)) ρ st)) (fun ρ st => asB (dBin vGt (dCal 2 F_l_any (dCons (dVar 0) (dCons (dLit (.int 4)) dNil))) (dLit (.int 0)) ρ st))) (dVar 7))))
    (dExpr (dMeth mAppend (dVar 3) (dCons (dTup (dCons (dCal 2 F_l_of (dCons (dVar 0) (dCons (dLst (dCons (dLit (.int 1)) (dCons (dLit (.int 2)) (dCons (dLit (.int 2)) (dCons (dLit (.int 3)) (dCons (dLit (.int 4)) dNil)))))) dNil))) (dCons (dCall gTupleOf (dCons (dVar 6) dNil)) dNil))) dNil)))))
    (dRet (dCall gTupleOf (dCons (dVar 3) dNil)))))
noncomputable def F_l_jobs : Fn := dDef 8 B_l_jobs
theorem ok_l_jobs {P : Program} {w : World} {K : PySem.W.Frag} {mg : Str → Option Value} {base : Heap} {f : Addr} {fd : FuncData} (F : C8.Def K mg "_law_jobs" s_l_jobs f fd) (df : fd.defaults = .none) (z_len : mg "len" = none) (z_range : mg "range" = none) (z_tuple : mg "tuple" = none) (c_l_any : CalG P w K mg base 1 "_law_any" s_l_any ["deal", "bound"] 2 F_l_any) (c_l_of : CalG P w K mg base 2 "_law_of" s_l_of ["deal", "some"] 2 F_l_of) : CalG P w K mg base 3 "_law_jobs" s_l_jobs ["deal", "calendar", "most"] 3 F_l_jobs := by
  have sc := sc_l_jobs
  refine calG_of (k := 2) (N := ["deal", "calendar", "most", "found", "form", "turn", "days", "day"]) (D := B_l_jobs) F df sc rfl (fun _ _ _ _ _ _ us hl => match us, hl with | [_, _, _], _ => rfl) (fun f cdv A outer s H E hg hr => ?_)
  exact (y_seq (y_asg (vs := [3, 4]) (y_newT (y_cons (y_new y_nil) (y_cons (y_cal rfl c_l_any hr (by decide) hg (by rfl) (y_cons (y_var (pv 0)) (y_cons y_int y_nil))) y_nil))) (y_gtupR rfl rfl (y_gcons (y_gname (vs := [3, 4]) (pg_name (i := 3) sc.nd rfl (.inl rfl)) (by decide)) (y_gcons (y_gname (vs := [3, 4]) (pg_name (i := 4) sc.nd rfl (.inr rfl)) (by decide)) y_gnil))))
    (y_seq (y_for (vs := [5]) PassesOwn.never rfl (y_rng1 (by rfl) z_range (y_cons (y_cal rfl c_l_any hr (by decide) hg (by rfl) (y_cons (y_var (pv 0)) (y_cons (y_op (opAdd rfl) (y_var (pv 2)) y_int) y_nil))) y_nil)) (y_gname (vs := [5]) (pg_name (i := 5) sc.nd rfl (.inl rfl)) (by decide))
    (y_seq (y_setLcF (i := 6) rfl sc.nd rfl rfl (sw_true rfl rfl rfl (by decide +kernel)) (y_rng1 (by rfl) z_range (y_cons (y_callB (cLen rfl) (by rfl) z_len (by decide +kernel) (y_cons (y_var (pv 1)) y_nil)) y_nil)) (blkOk_by (own := [("day", 7)]) (by first | decide +kernel | kernel_rfl | rfl)) (fun _ _ _ _ _ => (y_gname (vs := [7]) (pg_name (i := 7) sc.nd rfl (.inl rfl)) (by decide))) (fun _ _ _ _ _ => pts_one (y_or (y_tcmp (opEq rfl hr.units) (y_var (pv 4)) y_int (nomark _)) (y_pw1 (y_tcmp opGt (y_cal rfl c_l_any hr (by decide) hg (by rfl) (y_cons (y_var (pv 0)) (y_cons y_int y_nil))) y_int (nomark _)))).pt) (fun _ _ _ _ _ => (y_var (pv 7))))
    (y_last (y_expr (y_meth rfl PySem.F.plainAttrs_list PySem.F.slot_list_append PySem.F.type_list_append mtAppend (y_var (pv 3)) (y_cons (y_tup (y_cons (y_cal rfl c_l_of hr (by decide) hg (by rfl) (y_cons (y_var (pv 0)) (y_cons (y_lst (y_cons y_int (y_cons y_int (y_cons y_int (y_cons y_int (y_cons y_int y_nil)))))) y_nil))) (y_cons (y_callTy (cTupleOf rfl) (by rfl) z_tuple (by decide +kernel) (y_cons (y_var (pv 6)) y_nil)) y_nil))) y_nil))))))
    (y_last (y_ret (y_callTy (cTupleOf rfl) (by rfl) z_tuple (by decide +kernel) (y_cons (y_var (pv 3)) y_nil))))))
abbrev s_l_is_count : Stmt := topS 27
theorem sc_l_is_count : FnScope ["value", "least", "most"] ["value", "least", "most"] (C8.fnScope s_l_is_count) := C8.fnScope_by (by decide +kernel)
noncomputable def B_l_is_count : DS :=
  (dRet (dAndV (dIsi ["int"] (dVar 0)) (dAndV (dNotV (dIsi ["bool"] (dVar 0))) (dChain vLe vLe (dVar 1) (dVar 0) (dVar 2)))))
noncomputable def F_l_is_count : Fn := dDef 3 B_l_is_count
theorem ok_l_is_count {P : Program} {w : World} {K : PySem.W.Frag} {mg : Str → Option Value} {base : Heap} {f : Addr} {fd : FuncData} (F : C8.Def K mg "_law_is_count" s_l_is_count f fd) (df : fd.defaults = .none) (z_bool : mg "bool" = none) (z_int : mg "int" = none) (z_isinstance : mg "isinstance" = none) : CalG P w K mg base 1 "_law_is_count" s_l_is_count ["value", "least", "most"] 3 F_l_is_count := by
  have sc := sc_l_is_count
  refine calG_of (k := 0) (N := ["value", "least", "most"]) (D := B_l_is_count) F df sc rfl (fun _ _ _ _ _ _ us hl => match us, hl with | [_, _, _], _ => rfl) (fun f cdv A outer s H E hg hr => ?_)
  exact (y_last (y_ret (y_andV (y_isi1 (T := "int") rfl (by rfl) z_isinstance (by rfl) z_int (by decide +kernel) (y_var (pv 0))) (y_andV (y_notV (y_isi1 (T := "bool") rfl (by rfl) z_isinstance (by rfl) z_bool (by decide +kernel) (y_var (pv 0)))) (y_one (y_chain opLe opLe (y_var (pv 1)) (y_var (pv 0)) (y_var (pv 2))))))))
abbrev s_l_are_jobs : Stmt := topS 28
theorem sc_l_are_jobs : FnScope ["calendar", "value", "job", "day"] ["calendar", "value"] (C8.fnScope s_l_are_jobs) := C8.fnScope_by (by decide +kernel)
noncomputable def B_l_are_jobs : DS :=
  (dSeq (dIfS (dOr (dNot (fun ρ st => asB ((dIsi ["tuple"] (dVar 1)) ρ st))) (fun ρ st => asB (dBin vGt (dCall gLen (dCons (dVar 1) dNil)) (dLit (.int 14)) ρ st)))
    (dRet (dLit (.bool false)))
    dEnd)
    (dSeq (dFor (dIter (dVar 1)) (tName 2)
    (dSeq (dIfS (dOr (dNot (fun ρ st => asB ((dIsi ["tuple"] (dVar 2)) ρ st))) (dOr (fun ρ st => asB (dBin (vEq true) (dCall gLen (dCons (dVar 2) dNil)) (dLit (.int 2)) ρ st)) (dOr (dNot (fun ρ st => asB ((dCalP 3 F_l_is_count (dCons (dBin vIx (dVar 2) (dLit (.int 0))) (dCons (dLit (.int 1)) (dCons (dLit (.int 60)) dNil)))) ρ st))) (dNot (fun ρ st => asB ((dIsi ["tuple"] (dBin vIx (dVar 2) (dLit (.int 1)))) ρ st))))))
    (dRet (dLit (.bool false)))
    dEnd)
    (dIfS (dOr (fun ρ st => asB (dBin (vEq true) (dLcF (dLc [3] (dIter (dBin vIx (dVar 2) (dLit (.int 1)))) (tName 3) (dNot (fun ρ st => asB ((dCalP 3 F_l_is_count (dCons (dVar 3) (dCons (dLit (.int 0)) (dCons (dBin vSub (dCall gLen (dCons (dVar 0) dNil)) (dLit (.int 1))) dNil)))) ρ st))) (dVar 3))) (dLst dNil) ρ st)) (fun ρ st => asB (dBin (vEq true) (dCall gListOf (dCons (dBin vIx (dVar 2) (dLit (.int 1))) dNil)) (dCall gSortedSetIT (dCons (dBin vIx (dVar 2) (dLit (.int 1))) dNil)) ρ st)))
    (dRet (dLit (.bool false)))
    dEnd)))
    (dRet (dLit (.bool true)))))
noncomputable def F_l_are_jobs : Fn := dDef 4 B_l_are_jobs
theorem ok_l_are_jobs {P : Program} {w : World} {K : PySem.W.Frag} {mg : Str → Option Value} {base : Heap} {f : Addr} {fd : FuncData} (F : C8.Def K mg "_law_are_jobs" s_l_are_jobs f fd) (df : fd.defaults = .none) (z_isinstance : mg "isinstance" = none) (z_len : mg "len" = none) (z_list : mg "list" = none) (z_set : mg "set" = none) (z_sorted : mg "sorted" = none) (z_tuple : mg "tuple" = none) (c_l_is_count : CalG P w K mg base 1 "_law_is_count" s_l_is_count ["value", "least", "most"] 3 F_l_is_count) : CalG P w K mg base 2 "_law_are_jobs" s_l_are_jobs ["calendar", "value"] 2 F_l_are_jobs := by
  have sc := sc_l_are_jobs
  refine calG_of (k := 1) (N := ["calendar", "value", "job", "day"]) (D := B_l_are_jobs) F df sc rfl (fun _ _ _ _ _ _ us hl => match us, hl with | [_, _], _ => rfl) (fun f cdv A outer s H E hg hr => ?_)
  exact (y_seq (y_ifS (y_or (y_not (y_tval (y_isi1 (T := "tuple") rfl (by rfl) z_isinstance (by rfl) z_tuple (by decide +kernel) (y_var (pv 1))))) (y_pw1 (y_tcmp opGt (y_callB (cLen rfl) (by rfl) z_len (by decide +kernel) (y_cons (y_var (pv 1)) y_nil)) y_int (nomark _)))).pt
    (y_last (y_ret y_bl))
    y_end)
    (y_seq (y_for (vs := [2]) PassesOwn.never rfl (y_iter rfl (y_var (pv 1))) (y_gname (vs := [2]) (pg_name (i := 2) sc.nd rfl (.inl rfl)) (by decide))
    (y_seq (y_ifS (y_or (y_not (y_tval (y_isi1 (T := "tuple") rfl (by rfl) z_isinstance (by rfl) z_tuple (by decide +kernel) (y_var (pv 2))))) (y_or (y_tcmp (opNe rfl hr.units) (y_callB (cLen rfl) (by rfl) z_len (by decide +kernel) (y_cons (y_var (pv 2)) y_nil)) y_int (nomark _)) (y_or (y_not (y_tval (y_calP rfl c_l_is_count hr (by decide) hg (by rfl) (y_cons (y_ix rfl (y_var (pv 2)) y_int) (y_cons y_int (y_cons y_int y_nil)))))) (y_pw1 (y_not (y_tval (y_isi1 (T := "tuple") rfl (by rfl) z_isinstance (by rfl) z_tuple (by decide +kernel) (y_ix rfl (y_var (pv 2)) y_int)))))))).pt
    (y_last (y_ret y_bl))
    y_end)
    (y_last (y_ifS (y_or (y_tcmp (opNe rfl hr.units) (y_lcF rfl sc.nd (y_iter rfl (y_ix rfl (y_var (pv 2)) y_int)) (blkOk_by (own := [("day", 3)]) (by first | decide +kernel | kernel_rfl | rfl)) (fun _ _ _ _ _ => (y_gname (vs := [3]) (pg_name (i := 3) sc.nd rfl (.inl rfl)) (by decide))) (fun _ _ _ _ _ => pts_one (y_not (y_tval (y_calP rfl c_l_is_count hr (by decide) hg (by rfl) (y_cons (y_var (pv 3)) (y_cons y_int (y_cons (y_op opSub (y_callB (cLen rfl) (by rfl) z_len (by decide +kernel) (y_cons (y_var (pv 0)) y_nil)) y_int) y_nil))))))) (fun _ _ _ _ _ => (y_var (pv 3)))) (y_lst y_nil) (nomark _)) (y_pw1 (y_tcmp (opNe rfl hr.units) (y_callTy (cListOf rfl) (by rfl) z_list (by decide +kernel) (y_cons (y_ix rfl (y_var (pv 2)) y_int) y_nil)) (y_sortedSetIT rfl rfl (by rfl) z_sorted (by rfl) z_set (y_ix rfl (y_var (pv 2)) y_int)) (nomark _)))).pt
    (y_last (y_ret y_bl))
    y_end))))
    (y_last (y_ret y_bl))))
abbrev s_l_fits : Stmt := topS 29
theorem sc_l_fits : FnScope ["calendar", "jobs", "value", "left", "at", "day"] ["calendar", "jobs", "value"] (C8.fnScope s_l_fits) := C8.fnScope_by (by decide +kernel)
noncomputable def B_l_fits : DS :=
  (dSeq (dIfS (dOr (dNot (fun ρ st => asB ((dIsi ["tuple"] (dVar 2)) ρ st))) (fun ρ st => asB (dBin (vEq true) (dCall gLen (dCons (dVar 2) dNil)) (dCall gLen (dCons (dVar 1) dNil)) ρ st)))
    (dRet (dLit (.bool false)))
    dEnd)
    (dSeq (dSet 3 (dCall gListNew (dCons (dVar 0) dNil)))
    (dSeq (dFor (dEnumT (dVar 2)) (tTup' 2 (tCons' (tName 4) (tCons' (tName 5) tNil')))
    (dSeq (dIfS (dOr (dNot (fun ρ st => asB ((dCalP 3 F_l_is_count (dCons (dVar 5) (dCons (dLit (.int 0)) (dCons (dBin vSub (dCall gLen (dCons (dVar 0) dNil)) (dLit (.int 1))) dNil)))) ρ st))) (fun ρ st => asB (dBin (vIn true) (dVar 5) (dBin vIx (dBin vIx (dVar 1) (dVar 4)) (dLit (.int 1))) ρ st)))
    (dRet (dLit (.bool false)))
    dEnd)
    (dSetIx (dBin vSub (dBin vIx (dVar 3) (dVar 5)) (dBin vIx (dBin vIx (dVar 1) (dVar 4)) (dLit (.int 0)))) (dVar 3) (dVar 5))))
    (dSeq (dFrz 3)
    (dRet (dBin (vEq false) (dCall gMinA (dCons (dBin vAdd (dLst (dCons (dLit (.int 0)) dNil)) (dVar 3)) dNil)) (dLit (.int 0))))))))
noncomputable def F_l_fits : Fn := dDef 6 B_l_fits
theorem ok_l_fits {P : Program} {w : World} {K : PySem.W.Frag} {mg : Str → Option Value} {base : Heap} {f : Addr} {fd : FuncData} (F : C8.Def K mg "_law_fits" s_l_fits f fd) (df : fd.defaults = .none) (z_enumerate : mg "enumerate" = none) (z_isinstance : mg "isinstance" = none) (z_len : mg "len" = none) (z_list : mg "list" = none) (z_min : mg "min" = none) (z_tuple : mg "tuple" = none) (c_l_is_count : CalG P w K mg base 1 "_law_is_count" s_l_is_count ["value", "least", "most"] 3 F_l_is_count) : CalG P w K mg base 2 "_law_fits" s_l_fits ["calendar", "jobs", "value"] 3 F_l_fits := by
  have sc := sc_l_fits
  refine calG_of (k := 1) (N := ["calendar", "jobs", "value", "left", "at", "day"]) (D := B_l_fits) F df sc rfl (fun _ _ _ _ _ _ us hl => match us, hl with | [_, _, _], _ => rfl) (fun f cdv A outer s H E hg hr => ?_)
  exact (y_seq (y_ifS (y_or (y_not (y_tval (y_isi1 (T := "tuple") rfl (by rfl) z_isinstance (by rfl) z_tuple (by decide +kernel) (y_var (pv 2))))) (y_pw1 (y_tcmp (opNe rfl hr.units) (y_callB (cLen rfl) (by rfl) z_len (by decide +kernel) (y_cons (y_var (pv 2)) y_nil)) (y_callB (cLen rfl) (by rfl) z_len (by decide +kernel) (y_cons (y_var (pv 1)) y_nil)) (nomark _)))).pt
    (y_last (y_ret y_bl))
    y_end)
    (y_seq (y_set (ps_set (i := 3) sc.nd rfl (.inl rfl) (y_callTy (cListNew rfl) (by rfl) z_list (by decide +kernel) (y_cons (y_var (pv 0)) y_nil))))
    (y_seq (y_for (vs := [4, 5]) PassesOwn.never rfl (y_enumT (by rfl) z_enumerate (y_var (pv 2))) (y_gtup rfl rfl (y_gcons (y_gname (vs := [4, 5]) (pg_name (i := 4) sc.nd rfl (.inl rfl)) (by decide)) (y_gcons (y_gname (vs := [4, 5]) (pg_name (i := 5) sc.nd rfl (.inl rfl)) (by decide)) y_gnil)))
    (y_seq (y_ifS (y_or (y_not (y_tval (y_calP rfl c_l_is_count hr (by decide) hg (by rfl) (y_cons (y_var (pv 5)) (y_cons y_int (y_cons (y_op opSub (y_callB (cLen rfl) (by rfl) z_len (by decide +kernel) (y_cons (y_var (pv 0)) y_nil)) y_int) y_nil)))))) (y_pw1 (y_tcmp (opNotIn rfl (u65 hr)) (y_var (pv 5)) (y_ix rfl (y_ix rfl (y_var (pv 1)) (y_var (pv 4))) y_int) (by rfl)))).pt
    (y_last (y_ret y_bl))
    y_end)
    (y_last (y_setIx (y_op opSub (y_ix rfl (y_var (pv 3)) (y_var (pv 5))) (y_ix rfl (y_ix rfl (y_var (pv 1)) (y_var (pv 4))) y_int)) (y_var (pv 3)) (y_var (pv 5))))))
    (y_frz (i := 3) (y_last (y_ret (y_cmp (opEq rfl hr.units) (y_callB (cMinA rfl rfl hr.units) (by rfl) z_min (by decide +kernel) (y_cons (y_op (opAdd rfl) (y_lst (y_cons y_int y_nil)) (y_var (pv 3))) y_nil)) y_int (nomark _))))))))
abbrev s_l_turned : Stmt := topS 30
theorem sc_l_turned : FnScope ["deal", "value", "some", "form", "at"] ["deal", "value", "some"] (C8.fnScope s_l_turned) := C8.fnScope_by (by decide +kernel)
noncomputable def B_l_turned : DS :=
  (dSeq (dSet 3 (dCal 2 F_l_any (dCons (dVar 0) (dCons (dLit (.int 8)) dNil))))
    (dSeq (dIfS (dOr (fun ρ st => asB (dBin (vEq false) (dVar 1) (dTup dNil) ρ st)) (fun ρ st => asB (dBin (vEq false) (dVar 3) (dLit (.int 0)) ρ st)))
    (dRet (dCal 2 F_l_of (dCons (dVar 0) (dCons (dLst (dCons (dLit .none) (dCons (dCall gListOf (dCons (dVar 1) dNil)) (dCons (dTup (dCons (dLit .none) dNil)) (dCons (dLit (.int 0)) (dCons (dVar 1) (dCons (dVar 1) dNil))))))) dNil))))
    dEnd)
    (dSeq (dSet 4 (dCal 2 F_l_any (dCons (dVar 0) (dCons (dCall gLen (dCons (dVar 1) dNil)) dNil))))
    (dSeq (dIfS (fun ρ st => asB (dBin (vEq false) (dVar 3) (dLit (.int 1)) ρ st))
    (dRet (dBin vAdd (dSl (dVar 1) dNoP (dPart (dVar 4))) (dSl (dVar 1) (dPart (dBin vAdd (dVar 4) (dLit (.int 1)))) dNoP)))
    dEnd)
    (dSeq (dIfS (fun ρ st => asB (dBin (vEq false) (dVar 3) (dLit (.int 2)) ρ st))
    (dRet (dBin vAdd (dVar 1) (dSl (dVar 1) (dPart (dVar 4)) (dPart (dBin vAdd (dVar 4) (dLit (.int 1)))))))
    dEnd)
    (dRet (dBin vAdd (dBin vAdd (dSl (dVar 1) dNoP (dPart (dVar 4))) (dTup (dCons (dCal 2 F_l_of (dCons (dVar 0) (dCons (dVar 2) dNil))) dNil))) (dSl (dVar 1) (dPart (dBin vAdd (dVar 4) (dLit (.int 1)))) dNoP))))))))
noncomputable def F_l_turned : Fn := dDef 5 B_l_turned
theorem ok_l_turned {P : Program} {w : World} {K : PySem.W.Frag} {mg : Str → Option Value} {base : Heap} {f : Addr} {fd : FuncData} (F : C8.Def K mg "_law_turned" s_l_turned f fd) (df : fd.defaults = .none) (z_len : mg "len" = none) (z_list : mg "list" = none) (c_l_any : CalG P w K mg base 1 "_law_any" s_l_any ["deal", "bound"] 2 F_l_any) (c_l_of : CalG P w K mg base 2 "_law_of" s_l_of ["deal", "some"] 2 F_l_of) : CalG P w K mg base 3 "_law_turned" s_l_turned ["deal", "value", "some"] 3 F_l_turned := by
  have sc := sc_l_turned
  refine calG_of (k := 2) (N := ["deal", "value", "some", "form", "at"]) (D := B_l_turned) F df sc rfl (fun _ _ _ _ _ _ us hl => match us, hl with | [_, _, _], _ => rfl) (fun f cdv A outer s H E hg hr => ?_)
  exact (y_seq (y_set (ps_set (i := 3) sc.nd rfl (.inl rfl) (y_cal rfl c_l_any hr (by decide) hg (by rfl) (y_cons (y_var (pv 0)) (y_cons y_int y_nil)))))
    (y_seq (y_ifS (y_or (y_tcmp (opEq rfl hr.units) (y_var (pv 1)) (y_tup y_nil) (nomark _)) (y_pw1 (y_tcmp (opEq rfl hr.units) (y_var (pv 3)) y_int (nomark _)))).pt
    (y_last (y_ret (y_cal rfl c_l_of hr (by decide) hg (by rfl) (y_cons (y_var (pv 0)) (y_cons (y_lst (y_cons y_non (y_cons (y_callTy (cListOf rfl) (by rfl) z_list (by decide +kernel) (y_cons (y_var (pv 1)) y_nil)) (y_cons (y_tup (y_cons y_non y_nil)) (y_cons y_int (y_cons (y_var (pv 1)) (y_cons (y_var (pv 1)) y_nil))))))) y_nil)))))
    y_end)
    (y_seq (y_set (ps_set (i := 4) sc.nd rfl (.inl rfl) (y_cal rfl c_l_any hr (by decide) hg (by rfl) (y_cons (y_var (pv 0)) (y_cons (y_callB (cLen rfl) (by rfl) z_len (by decide +kernel) (y_cons (y_var (pv 1)) y_nil)) y_nil)))))
    (y_seq (y_ifS (y_tcmp (opEq rfl hr.units) (y_var (pv 3)) y_int (nomark _))
    (y_last (y_ret (y_op (opAdd rfl) (y_sl rfl (y_var (pv 1)) y_noP (y_part (y_var (pv 4)))) (y_sl rfl (y_var (pv 1)) (y_part (y_op (opAdd rfl) (y_var (pv 4)) y_int)) y_noP))))
    y_end)
    (y_seq (y_ifS (y_tcmp (opEq rfl hr.units) (y_var (pv 3)) y_int (nomark _))
    (y_last (y_ret (y_op (opAdd rfl) (y_var (pv 1)) (y_sl rfl (y_var (pv 1)) (y_part (y_var (pv 4))) (y_part (y_op (opAdd rfl) (y_var (pv 4)) y_int))))))
    y_end)
    (y_last (y_ret (y_op (opAdd rfl) (y_op (opAdd rfl) (y_sl rfl (y_var (pv 1)) y_noP (y_part (y_var (pv 4)))) (y_tup (y_cons (y_cal rfl c_l_of hr (by decide) hg (by rfl) (y_cons (y_var (pv 0)) (y_cons (y_var (pv 2)) y_nil))) y_nil))) (y_sl rfl (y_var (pv 1)) (y_part (y_op (opAdd rfl) (y_var (pv 4)) y_int)) y_noP)))))))))
abbrev s_l_pack : Stmt := topS 31
theorem sc_l_pack : FnScope ["deal", "many", "left", "found", "giver", "turn", "size", "row", "at"] ["deal", "many"] (C8.fnScope s_l_pack) := C8.fnScope_by (by decide +kernel)
noncomputable def B_l_pack : DS :=
  (dSeq (dPar3 2 3 4 (dCons (dCal 2 F_l_mixed (dCons (dVar 0) (dCons (dListRng (dVar 1)) dNil))) (dCons (dNew dNil) (dCons (dLit (.int 0)) dNil))))
    (dSeq (dFor (dRng1 (dCons (dLit (.int 6)) dNil)) (tName 5)
    (dSeq (dSet 6 (dBin vAdd (dLit (.int 1)) (dCal 2 F_l_any (dCons (dVar 0) (dCons (dLit (.int 4)) dNil)))))
    (dIfS (dAnd (fun ρ st => asB (dBin vLe (dVar 6) (dCall gLen (dCons (dVar 2) dNil)) ρ st)) (fun ρ st => asB (dBin vGt (dCal 2 F_l_any (dCons (dVar 0) (dCons (dLit (.int 4)) dNil))) (dLit (.int 0)) ρ st)))
    (dSeq (dPar 7 2 (dCons (dSl (dVar 2) dNoP (dPart (dVar 6))) (dCons (dSl (dVar 2) (dPart (dVar 6)) dNoP) dNil)))
    (dIfS (dOr (fun ρ st => asB (dBin (vEq false) (dVar 6) (dLit (.int 1)) ρ st)) (fun ρ st => asB (dBin (vEq false) (dCal 2 F_l_any (dCons (dVar 0) (dCons (dLit (.int 2)) dNil))) (dLit (.int 0)) ρ st)))
    (dSeq (dExpr (dMeth mAppend (dVar 3) (dCons (dTup (dCons (dLit (.str "chain")) (dCons (dVar 4) (dCons (dCall gTupleOf (dCons (dVar 7) dNil)) dNil)))) dNil)))
    (dSet 4 (dBin vAdd (dVar 4) (dLit (.int 1)))))
    (dSeq (dSet 8 (dLIdx (dVar 7) (dCall gMinA (dCons (dVar 7) dNil))))
    (dExpr (dMeth mAppend (dVar 3) (dCons (dTup (dCons (dLit (.str "ring")) (dCons (dCall gTupleOf (dCons (dBin vAdd (dSl (dVar 7) (dPart (dVar 8)) dNoP) (dSl (dVar 7) dNoP (dPart (dVar 8)))) dNil)) dNil))) dNil))))))
    dEnd)))
    (dRet (dCall gTupleOf (dCons (dCall gSortedW (dCons (dVar 3) dNil)) dNil)))))
noncomputable def F_l_pack : Fn := dDef 9 B_l_pack
theorem ok_l_pack {P : Program} {w : World} {K : PySem.W.Frag} {mg : Str → Option Value} {base : Heap} {f : Addr} {fd : FuncData} (F : C8.Def K mg "_law_pack" s_l_pack f fd) (df : fd.defaults = .none) (z_len : mg "len" = none) (z_list : mg "list" = none) (z_min : mg "min" = none) (z_range : mg "range" = none) (z_sorted : mg "sorted" = none) (z_tuple : mg "tuple" = none) (c_l_mixed : CalG P w K mg base 2 "_law_mixed" s_l_mixed ["deal", "some"] 2 F_l_mixed) (c_l_any : CalG P w K mg base 1 "_law_any" s_l_any ["deal", "bound"] 2 F_l_any) : CalG P w K mg base 3 "_law_pack" s_l_pack ["deal", "many"] 2 F_l_pack := by
  have sc := sc_l_pack
  refine calG_of (k := 2) (N := ["deal", "many", "left", "found", "giver", "turn", "size", "row", "at"]) (D := B_l_pack) F df sc rfl (fun _ _ _ _ _ _ us hl => match us, hl with | [_, _], _ => rfl) (fun f cdv A outer s H E hg hr => ?_)
  exact (y_seq (y_par3 (ps_par3 (i := 2) (j := 3) (l := 4) rfl sc.nd rfl rfl rfl (by decide) (by decide) (by decide) rfl rfl rfl (y_cons (y_cal rfl c_l_mixed hr (by decide) hg (by rfl) (y_cons (y_var (pv 0)) (y_cons (y_listRng rfl rfl (by rfl) z_list (by rfl) z_range (y_var (pv 1))) y_nil))) (y_cons (y_new y_nil) (y_cons y_int y_nil))) (by rfl)))
    (y_seq (y_for (vs := [5]) PassesOwn.never rfl (y_rng1 (by rfl) z_range (y_cons y_int y_nil)) (y_gname (vs := [5]) (pg_name (i := 5) sc.nd rfl (.inl rfl)) (by decide))
    (y_seq (y_set (ps_set (i := 6) sc.nd rfl (.inl rfl) (y_op (opAdd rfl) y_int (y_cal rfl c_l_any hr (by decide) hg (by rfl) (y_cons (y_var (pv 0)) (y_cons y_int y_nil))))))
    (y_last (y_ifS (y_and (y_tcmp opLe (y_var (pv 6)) (y_callB (cLen rfl) (by rfl) z_len (by decide +kernel) (y_cons (y_var (pv 2)) y_nil)) (nomark _)) (y_pw1 (y_tcmp opGt (y_cal rfl c_l_any hr (by decide) hg (by rfl) (y_cons (y_var (pv 0)) (y_cons y_int y_nil))) y_int (nomark _)))).pt
    (y_seq (y_par (ps_par (i := 7) (j := 2) rfl sc.nd rfl rfl (by decide) rfl rfl (y_cons (y_sl rfl (y_var (pv 2)) y_noP (y_part (y_var (pv 6)))) (y_cons (y_sl rfl (y_var (pv 2)) (y_part (y_var (pv 6))) y_noP) y_nil)) (by rfl)))
    (y_last (y_ifS (y_or (y_tcmp (opEq rfl hr.units) (y_var (pv 6)) y_int (nomark _)) (y_pw1 (y_tcmp (opEq rfl hr.units) (y_cal rfl c_l_any hr (by decide) hg (by rfl) (y_cons (y_var (pv 0)) (y_cons y_int y_nil))) y_int (nomark _)))).pt
    (y_seq (y_expr (y_meth rfl PySem.F.plainAttrs_list PySem.F.slot_list_append PySem.F.type_list_append mtAppend (y_var (pv 3)) (y_cons (y_tup (y_cons y_str (y_cons (y_var (pv 4)) (y_cons (y_callTy (cTupleOf rfl) (by rfl) z_tuple (by decide +kernel) (y_cons (y_var (pv 7)) y_nil)) y_nil)))) y_nil)))
    (y_last (y_set (ps_set (i := 4) sc.nd rfl (.inl rfl) (y_op (opAdd rfl) (y_var (pv 4)) y_int)))))
    (y_seq (y_set (ps_set (i := 8) sc.nd rfl (.inl rfl) (y_lidx rfl (u65 hr) (y_var (pv 7)) (y_callB (cMinA rfl rfl hr.units) (by rfl) z_min (by decide +kernel) (y_cons (y_var (pv 7)) y_nil)))))
    (y_last (y_expr (y_meth rfl PySem.F.plainAttrs_list PySem.F.slot_list_append PySem.F.type_list_append mtAppend (y_var (pv 3)) (y_cons (y_tup (y_cons y_str (y_cons (y_callTy (cTupleOf rfl) (by rfl) z_tuple (by decide +kernel) (y_cons (y_op (opAdd rfl) (y_sl rfl (y_var (pv 7)) (y_part (y_var (pv 8))) y_noP) (y_sl rfl (y_var (pv 7)) y_noP (y_part (y_var (pv 8))))) y_nil)) y_nil))) y_nil))))))))
    y_end))))
    (y_last (y_ret (y_callTy (cTupleOf rfl) (by rfl) z_tuple (by decide +kernel) (y_cons (y_callB (cSortedW rfl hr.units) (by rfl) z_sorted (by decide +kernel) (y_cons (y_var (pv 3)) y_nil)) y_nil))))))
abbrev s_law : Stmt := topS 32
theorem sc_law : FnScope ["script", "deal", "calendar", "turn", "value", "due", "jobs", "top", "some", "table", "many", "left", "at", "day", "people", "away", "pack", "piece", "gone", "person", "one", "job"] ["script"] (C8.fnScope s_law) := C8.fnScope_by (by decide +kernel)
noncomputable def X_law_2 : En → Sto → R W :=
  (dIf (fun ρ st => asB (dBin vGt (dCal 2 F_l_any (dCons (dVar 1) (dCons (dLit (.int 8)) dNil))) (dLit (.int 0)) ρ st)) (dCal 2 F_l_calendar (dCons (dVar 1) (dCons (dLit (.int 6)) dNil))) (dBin vRep (dTup (dCons (dCal 2 F_l_any (dCons (dVar 1) (dCons (dLit (.int 61)) dNil))) dNil)) (dCal 2 F_l_of (dCons (dVar 1) (dCons (dLst (dCons (dLit (.int 39)) (dCons (dLit (.int 40)) (dCons (dLit (.int 41)) dNil)))) dNil)))))
noncomputable def T_law_3 : En → Sto → R Bool :=
  (fun ρ st => asB (dBin (vEq true) (dCall gRepr (dCons (dCalP 1 (fun ws => F_is_calendar (pick [0] ws)) (dCons (dVar 2) dNil)) dNil)) (dCall gRepr (dCons (dBin vLe (dCall gLen (dCons (dVar 2) dNil)) (dLit (.int 40))) dNil)) ρ st))
noncomputable def X_law_7 : En → Sto → R W :=
  (dCal 3 F_l_turned (dCons (dVar 1) (dCons (dVar 2) (dCons (dLst (dCons (dLit (.int 60)) (dCons (dLit (.int 61)) (dCons (dUn vNeg (dLit (.int 1))) (dCons (dLit (.bool true)) (dCons (dLit .none) (dCons (dLit (.str "1")) (dCons (dTup dNil) (dCons (dLit (.int 0)) dNil))))))))) dNil))))
noncomputable def X_law_8 : En → Sto → R W :=
  (dAndV (dIsi ["tuple"] (dVar 4)) (dAndV (dBin vLe (dCall gLen (dCons (dVar 4) dNil)) (dLit (.int 40))) (dBin (vEq false) (dLcF (dLc [20] (dIter (dVar 4)) (tName 20) (dNot (fun ρ st => asB ((dCalP 3 F_l_is_count (dCons (dVar 20) (dCons (dLit (.int 0)) (dCons (dLit (.int 60)) dNil)))) ρ st))) (dVar 20))) (dLst dNil))))
noncomputable def T_law_9 : En → Sto → R Bool :=
  (fun ρ st => asB (dBin (vEq true) (dCall gRepr (dCons (dCalP 1 F_is_calendar (dCons (dVar 4) dNil)) dNil)) (dCall gRepr (dCons (dVar 5) dNil)) ρ st))
noncomputable def Q_law_6 : DS :=
  (dSeq (dSet 4 X_law_7)
    (dSeq (dSet 5 X_law_8)
    (dIfS T_law_9
    (dRet (dLit (.bool false)))
    dEnd)))
noncomputable def X_law_11 : En → Sto → R W :=
  (dIf (fun ρ st => asB (dBin vGt (dCal 2 F_l_any (dCons (dVar 1) (dCons (dLit (.int 8)) dNil))) (dLit (.int 0)) ρ st)) (dCal 3 F_l_jobs (dCons (dVar 1) (dCons (dVar 2) (dCons (dLit (.int 6)) dNil)))) (dBin vRep (dTup (dCons (dTup (dCons (dLit (.int 60)) (dCons (dTup dNil) dNil))) dNil)) (dCal 2 F_l_of (dCons (dVar 1) (dCons (dLst (dCons (dLit (.int 13)) (dCons (dLit (.int 14)) (dCons (dLit (.int 15)) dNil)))) dNil)))))
noncomputable def T_law_12 : En → Sto → R Bool :=
  (fun ρ st => asB (dBin (vEq true) (dCall gRepr (dCons (dCalP 2 (fun ws => F_are_jobs (pick [0, 1] ws)) (dCons (dVar 2) (dCons (dVar 6) dNil))) dNil)) (dCall gRepr (dCons (dBin vLe (dCall gLen (dCons (dVar 6) dNil)) (dLit (.int 14))) dNil)) ρ st))
noncomputable def X_law_16 : En → Sto → R W :=
  (dLst (dCons (dTup (dCons (dLit (.int 0)) (dCons (dTup dNil) dNil))) (dCons (dTup (dCons (dLit (.int 1)) (dCons (dTup dNil) dNil))) (dCons (dTup (dCons (dLit (.int 61)) (dCons (dTup dNil) dNil))) (dCons (dTup (dCons (dLit (.int 60)) (dCons (dTup (dCons (dLit (.int 0)) dNil)) dNil))) (dCons (dTup (dCons (dLit (.int 2)) (dCons (dTup (dCons (dLit (.int 0)) (dCons (dLit (.int 0)) dNil))) dNil))) (dCons (dTup (dCons (dLit (.int 2)) (dCons (dTup (dCons (dLit (.int 1)) (dCons (dLit (.int 0)) dNil))) dNil))) (dCons (dTup (dCons (dLit (.int 2)) (dCons (dTup (dCons (dVar 7) dNil)) dNil))) (dCons (dTup (dCons (dLit (.int 2)) (dCons (dLst (dCons (dLit (.int 0)) dNil)) dNil))) (dCons (dTup (dCons (dLit (.bool true)) (dCons (dTup dNil) dNil))) (dCons (dTup (dCons (dLit (.int 2)) dNil)) (dCons (dTup (dCons (dLit (.int 2)) (dCons (dTup dNil) (dCons (dLit (.int 0)) dNil)))) dNil))))))))))))
noncomputable def X_law_17 : En → Sto → R W :=
  (dCal 3 F_l_turned (dCons (dVar 1) (dCons (dVar 6) (dCons (dBin vAdd (dVar 8) (dLst (dCons (dLst (dCons (dLit (.int 2)) (dCons (dTup dNil) dNil))) (dCons (dTup (dCons (dLit (.int 2)) (dCons (dTup (dCons (dUn vNeg (dLit (.int 1))) dNil)) dNil))) (dCons (dTup (dCons (dLit (.int 2)) (dCons (dTup (dCons (dLit (.bool false)) dNil)) dNil))) (dCons (dTup (dCons (dLit (.int 2)) (dCons (dLit .none) dNil))) (dCons (dLit .none) (dCons (dLit (.int 0)) dNil)))))))) dNil))))
noncomputable def T_law_18 : En → Sto → R Bool :=
  (fun ρ st => asB (dBin (vEq true) (dCall gRepr (dCons (dCalP 2 F_are_jobs (dCons (dVar 2) (dCons (dVar 4) dNil))) dNil)) (dCall gRepr (dCons (dCalP 2 F_l_are_jobs (dCons (dVar 2) (dCons (dVar 4) dNil))) dNil)) ρ st))
noncomputable def Q_law_15 : DS :=
  (dSeq (dSet 8 X_law_16)
    (dSeq (dSet 4 X_law_17)
    (dIfS T_law_18
    (dRet (dLit (.bool false)))
    dEnd)))
noncomputable def X_law_20 : En → Sto → R W :=
  (dCall gTupleOf (dCons (dLcF (dLc [21] (dIter (dVar 6)) (tName 21) (fun _ st => .ok true st) (dIf (fun ρ st => asB (dBin (vEq true) (dBin vIx (dVar 21) (dLit (.int 1))) (dTup dNil) ρ st)) (dCal 2 F_l_of (dCons (dVar 1) (dCons (dBin vIx (dVar 21) (dLit (.int 1))) dNil))) (dLit (.int 0))))) dNil))
noncomputable def T_law_22 : En → Sto → R Bool :=
  (fun ρ st => asB (dBin (vEq true) (dCall gRepr (dCons (dCalP 3 (fun ws => F_is_timetable (pick [0, 1, 2] ws)) (dCons (dVar 2) (dCons (dVar 6) (dCons (dVar 4) dNil)))) dNil)) (dCall gRepr (dCons (dCalP 3 F_l_fits (dCons (dVar 2) (dCons (dVar 6) (dCons (dVar 4) dNil)))) dNil)) ρ st))
noncomputable def Q_law_27 : DS :=
  (dSetIx (dBin vSub (dBin vIx (dVar 11) (dVar 13)) (dBin vIx (dBin vIx (dVar 6) (dVar 12)) (dLit (.int 0)))) (dVar 11) (dVar 13))
noncomputable def T_law_29 : En → Sto → R Bool :=
  (fun ρ st => asB (dBin (vEq true) (dCall gRepr (dCons (dCalP 4 (fun ws => F_left_over (pick [0, 1, 2, 3] ws)) (dCons (dVar 2) (dCons (dVar 6) (dCons (dVar 4) (dCons (dVar 10) dNil))))) dNil)) (dCall gRepr (dCons (dCall gTupleOf (dCons (dVar 11) dNil)) dNil)) ρ st))
noncomputable def T_law_24 : En → Sto → R Bool :=
  (fun ρ st => asB ((dCalP 3 F_l_fits (dCons (dVar 2) (dCons (dVar 6) (dCons (dVar 4) dNil)))) ρ st))
noncomputable def Q_law_21 : DS :=
  (dSeq (dIfS T_law_22
    (dRet (dLit (.bool false)))
    dEnd)
    (dIfS T_law_24
    (dSeq (dSet 10 (dCal 2 F_l_any (dCons (dVar 1) (dCons (dBin vAdd (dCall gLen (dCons (dVar 6) dNil)) (dLit (.int 1))) dNil))))
    (dSeq (dSet 11 (dCall gListNew (dCons (dVar 2) dNil)))
    (dSeq (dFor (dEnumT (dSl (dVar 4) dNoP (dPart (dVar 10)))) (tTup' 2 (tCons' (tName 12) (tCons' (tName 13) tNil')))
    Q_law_27)
    (dIfS T_law_29
    (dRet (dLit (.bool false)))
    dEnd))))
    dEnd))
noncomputable def I_law_21 : En → Sto → R (List W) :=
  (dIter (dBin vAdd (dLst (dCons (dVar 9) dNil)) (dLcF (dLc [3] (dRng1 (dCons (dLit (.int 5)) dNil)) (tName 3) (fun _ st => .ok true st) (dCal 3 F_l_turned (dCons (dVar 1) (dCons (dVar 9) (dCons (dLst (dCons (dLit (.int 0)) (dCons (dLit (.int 0)) (dCons (dLit (.int 1)) (dCons (dLit (.int 2)) (dCons (dVar 7) (dCons (dUn vNeg (dLit (.int 1))) (dCons (dLit (.bool true)) (dCons (dLit (.bool false)) (dCons (dLit .none) (dCons (dLit (.str "0")) dNil))))))))))) dNil))))))))
noncomputable def X_law_32 : En → Sto → R W :=
  (dCall gTupleOf (dCons (dLcF (dLc [19] (dRng1 (dCons (dVar 14) dNil)) (tName 19) (fun _ st => .ok true st) (dCall gTupleOf (dCons (dLcF (dLc [13] (dRng1 (dCons (dVar 7) dNil)) (tName 13) (fun ρ st => asB (dBin (vEq false) (dCal 2 F_l_any (dCons (dVar 1) (dCons (dLit (.int 5)) dNil))) (dLit (.int 0)) ρ st)) (dVar 13))) dNil)))) dNil))
noncomputable def Q_law_36 : DS :=
  (dSet 18 (dBin vAdd (dVar 18) (dCall gListOf (dCons (dBin vIx (dVar 15) (dVar 19)) dNil))))
noncomputable def Q_law_34 : DS :=
  (dSeq (dSet 18 (dLst dNil))
    (dSeq (dFor (dIter (dBin vIx (dVar 17) (dUn vNeg (dLit (.int 1))))) (tName 19)
    Q_law_36)
    (dExpr (dMeth mAppend (dVar 5) (dCons (dTup (dCons (dCall gLen (dCons (dBin vIx (dVar 17) (dUn vNeg (dLit (.int 1)))) dNil)) (dCons (dCall gTupleOf (dCons (dLcF (dLc [13] (dRng1 (dCons (dVar 7) dNil)) (tName 13) (fun ρ st => asB (dBin (vIn true) (dVar 13) (dVar 18) ρ st)) (dVar 13))) dNil)) dNil))) dNil)))))
noncomputable def B_law : DS :=
  (dSeq (dSet 1 (dCal 2 F_l_draw (dCons (dVar 0) (dCons (dLit (.int 50)) dNil))))
    (dSeq (dSet 2 X_law_2)
    (dSeq (dIfS T_law_3
    (dRet (dLit (.bool false)))
    dEnd)
    (dSeq (dSet 2 (dSl (dVar 2) dNoP (dPart (dLit (.int 40)))))
    (dSeq (dFor (dRng1 (dCons (dLit (.int 3)) dNil)) (tName 3)
    Q_law_6)
    (dSeq (dSet 6 X_law_11)
    (dSeq (dIfS T_law_12
    (dRet (dLit (.bool false)))
    dEnd)
    (dSeq (dAsg (dTup (dCons (dSl (dVar 6) dNoP (dPart (dLit (.int 14)))) (dCons (dCall gLen (dCons (dVar 2) dNil)) dNil))) (tTup' 2 (tCons' (tName 6) (tCons' (tName 7) tNil'))))
    (dSeq (dFor (dRng1 (dCons (dLit (.int 4)) dNil)) (tName 3)
    Q_law_15)
    (dSeq (dSet 9 X_law_20)
    (dSeq (dFor I_law_21 (tName 4)
    Q_law_21)
    (dSeq (dSet 14 (dCal 2 F_l_any (dCons (dVar 1) (dCons (dLit (.int 15)) dNil))))
    (dSeq (dSet 15 X_law_32)
    (dSeq (dPar 16 5 (dCons (dCal 2 F_l_pack (dCons (dVar 1) (dCons (dVar 14) dNil))) (dCons (dNew dNil) dNil)))
    (dSeq (dFor (dIter (dVar 16)) (tName 17)
    Q_law_34)
    (dRet (dBin (vEq false) (dCall gRepr (dCons (dCalP 3 (fun ws => F_jobs_of (pick [0, 1, 2] ws)) (dCons (dVar 2) (dCons (dVar 16) (dCons (dVar 15) dNil)))) dNil)) (dCall gRepr (dCons (dCall gTupleOf (dCons (dVar 5) dNil)) dNil)))))))))))))))))))
noncomputable def F_law : Fn := dDef 22 B_law
theorem ok_law {P : Program} {w : World} {K : PySem.W.Frag} {mg : Str → Option Value} {base : Heap} {f : Addr} {fd : FuncData} (F : C8.Def K mg "law" s_law f fd) (df : fd.defaults = .none) (z_enumerate : mg "enumerate" = none) (z_isinstance : mg "isinstance" = none) (z_len : mg "len" = none) (z_list : mg "list" = none) (z_range : mg "range" = none) (z_repr : mg "repr" = none) (z_tuple : mg "tuple" = none) (c_l_draw : CalG P w K mg base 1 "_law_draw" s_l_draw ["script", "salt"] 2 F_l_draw) (c_l_any : CalG P w K mg base 1 "_law_any" s_l_any ["deal", "bound"] 2 F_l_any) (c_l_calendar : CalG P w K mg base 3 "_law_calendar" s_l_calendar ["deal", "most"] 2 F_l_calendar) (c_l_of : CalG P w K mg base 2 "_law_of" s_l_of ["deal", "some"] 2 F_l_of) (c_is_calendar : CalG P w K mg base 5 "is_calendar" s_is_calendar ["value"] 1 F_is_calendar) (c_l_turned : CalG P w K mg base 3 "_law_turned" s_l_turned ["deal", "value", "some"] 3 F_l_turned) (c_l_is_count : CalG P w K mg base 1 "_law_is_count" s_l_is_count ["value", "least", "most"] 3 F_l_is_count) (c_l_jobs : CalG P w K mg base 3 "_law_jobs" s_l_jobs ["deal", "calendar", "most"] 3 F_l_jobs) (c_are_jobs : CalG P w K mg base 7 "are_jobs" s_are_jobs ["calendar", "value"] 2 F_are_jobs) (c_l_are_jobs : CalG P w K mg base 2 "_law_are_jobs" s_l_are_jobs ["calendar", "value"] 2 F_l_are_jobs) (c_is_timetable : CalG P w K mg base 5 "is_timetable" s_is_timetable ["calendar", "jobs", "value"] 3 F_is_timetable) (c_l_fits : CalG P w K mg base 2 "_law_fits" s_l_fits ["calendar", "jobs", "value"] 3 F_l_fits) (c_left_over : CalG P w K mg base 1 "left_over" s_left_over ["calendar", "jobs", "table", "many"] 4 F_left_over) (c_l_pack : CalG P w K mg base 3 "_law_pack" s_l_pack ["deal", "many"] 2 F_l_pack) (c_jobs_of : CalG P w K mg base 2 "jobs_of" s_jobs_of ["calendar", "pack", "away"] 3 F_jobs_of) : CalG P w K mg base 8 "law" s_law ["script"] 1 F_law := by
  have sc := sc_law
  refine calG_of (k := 7) (N := ["script", "deal", "calendar", "turn", "value", "due", "jobs", "top", "some", "table", "many", "left", "at", "day", "people", "away", "pack", "piece", "gone", "person", "one", "job"]) (D := B_law) F df sc rfl (fun _ _ _ _ _ _ us hl => match us, hl with | [_], _ => rfl) (fun f cdv A outer s H E hg hr => ?_)
  exact (y_seq (y_set (ps_set (i := 1) sc.nd rfl (.inr rfl) (y_cal rfl c_l_draw hr (by decide) hg (by rfl) (y_cons (y_var (pv 0)) (y_cons y_int y_nil)))))
    (y_seq (y_set (ps_set (i := 2) sc.nd rfl (.inl rfl) (y_if (y_tcmp opGt (y_cal rfl c_l_any hr (by decide) hg (by rfl) (y_cons (y_var (pv 1)) (y_cons y_int y_nil))) y_int (nomark _)) (y_cal rfl c_l_calendar hr (by decide) hg (by rfl) (y_cons (y_var (pv 1)) (y_cons y_int y_nil))) (y_op (opRep rfl) (y_tup (y_cons (y_cal rfl c_l_any hr (by decide) hg (by rfl) (y_cons (y_var (pv 1)) (y_cons y_int y_nil))) y_nil)) (y_cal rfl c_l_of hr (by decide) hg (by rfl) (y_cons (y_var (pv 1)) (y_cons (y_lst (y_cons y_int (y_cons y_int (y_cons y_int y_nil)))) y_nil)))))))
    (y_seq (y_ifS (y_tcmp (opNe rfl hr.units) (y_callB (cRepr rfl hg (u66 hr)) (by rfl) z_repr (by decide +kernel) (y_cons (y_calK (pm := [0]) rfl c_is_calendar hr (by decide) hg (by rfl) (y_kcons (y_var (pv 2)) y_knil) (fun _ _ _ _ _ _ us hl => match us, hl with | [_], _ => rfl) (fun ws hl => match ws, hl with | [_], _ => rfl)) y_nil)) (y_callB (cRepr rfl hg (u66 hr)) (by rfl) z_repr (by decide +kernel) (y_cons (y_cmp opLe (y_callB (cLen rfl) (by rfl) z_len (by decide +kernel) (y_cons (y_var (pv 2)) y_nil)) y_int (nomark _)) y_nil)) (nomark _))
    (y_last (y_ret y_bl))
    y_end)
    (y_seq (y_set (ps_set (i := 2) sc.nd rfl (.inl rfl) (y_sl rfl (y_var (pv 2)) y_noP (y_part y_int))))
    (y_seq (y_for (vs := [3]) PassesOwn.never rfl (y_rng1 (by rfl) z_range (y_cons y_int y_nil)) (y_gname (vs := [3]) (pg_name (i := 3) sc.nd rfl (.inl rfl)) (by decide))
    (y_seq (y_set (ps_set (i := 4) sc.nd rfl (.inl rfl) (y_cal rfl c_l_turned hr (by decide) hg (by rfl) (y_cons (y_var (pv 1)) (y_cons (y_var (pv 2)) (y_cons (y_lst (y_cons y_int (y_cons y_int (y_cons (y_un unNeg y_int) (y_cons y_bl (y_cons y_non (y_cons y_str (y_cons (y_tup y_nil) (y_cons y_int y_nil))))))))) y_nil))))))
    (y_seq (y_set (ps_set (i := 5) sc.nd rfl (.inl rfl) (y_andV (y_isi1 (T := "tuple") rfl (by rfl) z_isinstance (by rfl) z_tuple (by decide +kernel) (y_var (pv 4))) (y_andV (y_cmp opLe (y_callB (cLen rfl) (by rfl) z_len (by decide +kernel) (y_cons (y_var (pv 4)) y_nil)) y_int (nomark _)) (y_one (y_cmp (opEq rfl hr.units) (y_lcF rfl sc.nd (y_iter rfl (y_var (pv 4))) (blkOk_by (own := [("one", 20)]) (by first | decide +kernel | kernel_rfl | rfl)) (fun _ _ _ _ _ => (y_gname (vs := [20]) (pg_name (i := 20) sc.nd rfl (.inl rfl)) (by decide))) (fun _ _ _ _ _ => pts_one (y_not (y_tval (y_calP rfl c_l_is_count hr (by decide) hg (by rfl) (y_cons (y_var (pv 20)) (y_cons y_int (y_cons y_int y_nil))))))) (fun _ _ _ _ _ => (y_var (pv 20)))) (y_lst y_nil) (nomark _)))))))
    (y_last (y_ifS (y_tcmp (opNe rfl hr.units) (y_callB (cRepr rfl hg (u66 hr)) (by rfl) z_repr (by decide +kernel) (y_cons (y_calP rfl c_is_calendar hr (by decide) hg (by rfl) (y_cons (y_var (pv 4)) y_nil)) y_nil)) (y_callB (cRepr rfl hg (u66 hr)) (by rfl) z_repr (by decide +kernel) (y_cons (y_var (pv 5)) y_nil)) (nomark _))
    (y_last (y_ret y_bl))
    y_end)))))
    (y_seq (y_set (ps_set (i := 6) sc.nd rfl (.inl rfl) (y_if (y_tcmp opGt (y_cal rfl c_l_any hr (by decide) hg (by rfl) (y_cons (y_var (pv 1)) (y_cons y_int y_nil))) y_int (nomark _)) (y_cal rfl c_l_jobs hr (by decide) hg (by rfl) (y_cons (y_var (pv 1)) (y_cons (y_var (pv 2)) (y_cons y_int y_nil)))) (y_op (opRep rfl) (y_tup (y_cons (y_tup (y_cons y_int (y_cons (y_tup y_nil) y_nil))) y_nil)) (y_cal rfl c_l_of hr (by decide) hg (by rfl) (y_cons (y_var (pv 1)) (y_cons (y_lst (y_cons y_int (y_cons y_int (y_cons y_int y_nil)))) y_nil)))))))
    (y_seq (y_ifS (y_tcmp (opNe rfl hr.units) (y_callB (cRepr rfl hg (u66 hr)) (by rfl) z_repr (by decide +kernel) (y_cons (y_calK (pm := [0, 1]) rfl c_are_jobs hr (by decide) hg (by rfl) (y_kcons (y_var (pv 2)) (y_kcons (y_var (pv 6)) y_knil)) (fun _ _ _ _ _ _ us hl => match us, hl with | [_, _], _ => rfl) (fun ws hl => match ws, hl with | [_, _], _ => rfl)) y_nil)) (y_callB (cRepr rfl hg (u66 hr)) (by rfl) z_repr (by decide +kernel) (y_cons (y_cmp opLe (y_callB (cLen rfl) (by rfl) z_len (by decide +kernel) (y_cons (y_var (pv 6)) y_nil)) y_int (nomark _)) y_nil)) (nomark _))
    (y_last (y_ret y_bl))
    y_end)
    (y_seq (y_asg (vs := [6, 7]) (y_tup (y_cons (y_sl rfl (y_var (pv 6)) y_noP (y_part y_int)) (y_cons (y_callB (cLen rfl) (by rfl) z_len (by decide +kernel) (y_cons (y_var (pv 2)) y_nil)) y_nil))) (y_gtup rfl rfl (y_gcons (y_gname (vs := [6, 7]) (pg_name (i := 6) sc.nd rfl (.inl rfl)) (by decide)) (y_gcons (y_gname (vs := [6, 7]) (pg_name (i := 7) sc.nd rfl (.inr rfl)) (by decide)) y_gnil))))
    (y_seq (y_for (vs := [3]) PassesOwn.never rfl (y_rng1 (by rfl) z_range (y_cons y_int y_nil)) (y_gname (vs := [3]) (pg_name (i := 3) sc.nd rfl (.inl rfl)) (by decide))
    (y_seq (y_set (ps_set (i := 8) sc.nd rfl (.inl rfl) (y_lst (y_cons (y_tup (y_cons y_int (y_cons (y_tup y_nil) y_nil))) (y_cons (y_tup (y_cons y_int (y_cons (y_tup y_nil) y_nil))) (y_cons (y_tup (y_cons y_int (y_cons (y_tup y_nil) y_nil))) (y_cons (y_tup (y_cons y_int (y_cons (y_tup (y_cons y_int y_nil)) y_nil))) (y_cons (y_tup (y_cons y_int (y_cons (y_tup (y_cons y_int (y_cons y_int y_nil))) y_nil))) (y_cons (y_tup (y_cons y_int (y_cons (y_tup (y_cons y_int (y_cons y_int y_nil))) y_nil))) (y_cons (y_tup (y_cons y_int (y_cons (y_tup (y_cons (y_var (pv 7)) y_nil)) y_nil))) (y_cons (y_tup (y_cons y_int (y_cons (y_lst (y_cons y_int y_nil)) y_nil))) (y_cons (y_tup (y_cons y_bl (y_cons (y_tup y_nil) y_nil))) (y_cons (y_tup (y_cons y_int y_nil)) (y_cons (y_tup (y_cons y_int (y_cons (y_tup y_nil) (y_cons y_int y_nil)))) y_nil))))))))))))))
    (y_seq (y_set (ps_set (i := 4) sc.nd rfl (.inl rfl) (y_cal rfl c_l_turned hr (by decide) hg (by rfl) (y_cons (y_var (pv 1)) (y_cons (y_var (pv 6)) (y_cons (y_op (opAdd rfl) (y_var (pv 8)) (y_lst (y_cons (y_lst (y_cons y_int (y_cons (y_tup y_nil) y_nil))) (y_cons (y_tup (y_cons y_int (y_cons (y_tup (y_cons (y_un unNeg y_int) y_nil)) y_nil))) (y_cons (y_tup (y_cons y_int (y_cons (y_tup (y_cons y_bl y_nil)) y_nil))) (y_cons (y_tup (y_cons y_int (y_cons y_non y_nil))) (y_cons y_non (y_cons y_int y_nil)))))))) y_nil))))))
    (y_last (y_ifS (y_tcmp (opNe rfl hr.units) (y_callB (cRepr rfl hg (u66 hr)) (by rfl) z_repr (by decide +kernel) (y_cons (y_calP rfl c_are_jobs hr (by decide) hg (by rfl) (y_cons (y_var (pv 2)) (y_cons (y_var (pv 4)) y_nil))) y_nil)) (y_callB (cRepr rfl hg (u66 hr)) (by rfl) z_repr (by decide +kernel) (y_cons (y_calP rfl c_l_are_jobs hr (by decide) hg (by rfl) (y_cons (y_var (pv 2)) (y_cons (y_var (pv 4)) y_nil))) y_nil)) (nomark _))
    (y_last (y_ret y_bl))
    y_end)))))
    (y_seq (y_set (ps_set (i := 9) sc.nd rfl (.inr rfl) (y_callTy (cTupleOf rfl) (by rfl) z_tuple (by decide +kernel) (y_cons (y_lcF rfl sc.nd (y_iter rfl (y_var (pv 6))) (blkOk_by (own := [("job", 21)]) (by first | decide +kernel | kernel_rfl | rfl)) (fun _ _ _ _ _ => (y_gname (vs := [21]) (pg_name (i := 21) sc.nd rfl (.inl rfl)) (by decide))) (fun _ _ _ _ _ => y_yes) (fun _ _ _ _ _ => (y_if (y_tcmp (opNe rfl hr.units) (y_ix rfl (y_var (pv 21)) y_int) (y_tup y_nil) (nomark _)) (y_cal rfl c_l_of hr (by decide) hg (by rfl) (y_cons (y_var (pv 1)) (y_cons (y_ix rfl (y_var (pv 21)) y_int) y_nil))) y_int))) y_nil))))
    (y_seq (y_for (vs := [4]) PassesOwn.never rfl (y_iter rfl (y_op (opAdd rfl) (y_lst (y_cons (y_var (pv 9)) y_nil)) (y_lcF rfl sc.nd (y_rng1 (by rfl) z_range (y_cons y_int y_nil)) (blkOk_by (own := [("turn", 3)]) (by first | decide +kernel | kernel_rfl | rfl)) (fun _ _ _ _ _ => (y_gname (vs := [3]) (pg_name (i := 3) sc.nd rfl (.inl rfl)) (by decide))) (fun _ _ _ _ _ => y_yes) (fun _ _ _ _ _ => (y_cal rfl c_l_turned hr (by decide) hg (by rfl) (y_cons (y_var (pv 1)) (y_cons (y_var (pv 9)) (y_cons (y_lst (y_cons y_int (y_cons y_int (y_cons y_int (y_cons y_int (y_cons (y_var (pv 7)) (y_cons (y_un unNeg y_int) (y_cons y_bl (y_cons y_bl (y_cons y_non (y_cons y_str y_nil))))))))))) y_nil)))))))) (y_gname (vs := [4]) (pg_name (i := 4) sc.nd rfl (.inl rfl)) (by decide))
    (y_seq (y_ifS (y_tcmp (opNe rfl hr.units) (y_callB (cRepr rfl hg (u66 hr)) (by rfl) z_repr (by decide +kernel) (y_cons (y_calK (pm := [0, 1, 2]) rfl c_is_timetable hr (by decide) hg (by rfl) (y_kcons (y_var (pv 2)) (y_kcons (y_var (pv 6)) (y_kcons (y_var (pv 4)) y_knil))) (fun _ _ _ _ _ _ us hl => match us, hl with | [_, _, _], _ => rfl) (fun ws hl => match ws, hl with | [_, _, _], _ => rfl)) y_nil)) (y_callB (cRepr rfl hg (u66 hr)) (by rfl) z_repr (by decide +kernel) (y_cons (y_calP rfl c_l_fits hr (by decide) hg (by rfl) (y_cons (y_var (pv 2)) (y_cons (y_var (pv 6)) (y_cons (y_var (pv 4)) y_nil)))) y_nil)) (nomark _))
    (y_last (y_ret y_bl))
    y_end)
    (y_last (y_ifS (y_tval (y_calP rfl c_l_fits hr (by decide) hg (by rfl) (y_cons (y_var (pv 2)) (y_cons (y_var (pv 6)) (y_cons (y_var (pv 4)) y_nil)))))
    (y_seq (y_set (ps_set (i := 10) sc.nd rfl (.inl rfl) (y_cal rfl c_l_any hr (by decide) hg (by rfl) (y_cons (y_var (pv 1)) (y_cons (y_op (opAdd rfl) (y_callB (cLen rfl) (by rfl) z_len (by decide +kernel) (y_cons (y_var (pv 6)) y_nil)) y_int) y_nil)))))
    (y_seq (y_set (ps_set (i := 11) sc.nd rfl (.inl rfl) (y_callTy (cListNew rfl) (by rfl) z_list (by decide +kernel) (y_cons (y_var (pv 2)) y_nil))))
    (y_seq (y_for (vs := [12, 13]) PassesOwn.never rfl (y_enumT (by rfl) z_enumerate (y_sl rfl (y_var (pv 4)) y_noP (y_part (y_var (pv 10))))) (y_gtup rfl rfl (y_gcons (y_gname (vs := [12, 13]) (pg_name (i := 12) sc.nd rfl (.inl rfl)) (by decide)) (y_gcons (y_gname (vs := [12, 13]) (pg_name (i := 13) sc.nd rfl (.inl rfl)) (by decide)) y_gnil)))
    (y_last (y_setIx (y_op opSub (y_ix rfl (y_var (pv 11)) (y_var (pv 13))) (y_ix rfl (y_ix rfl (y_var (pv 6)) (y_var (pv 12))) y_int)) (y_var (pv 11)) (y_var (pv 13)))))
    (y_last (y_ifS (y_tcmp (opNe rfl hr.units) (y_callB (cRepr rfl hg (u66 hr)) (by rfl) z_repr (by decide +kernel) (y_cons (y_calK (pm := [0, 1, 2, 3]) rfl c_left_over hr (by decide) hg (by rfl) (y_kcons (y_var (pv 2)) (y_kcons (y_var (pv 6)) (y_kcons (y_var (pv 4)) (y_kcons (y_var (pv 10)) y_knil)))) (fun _ _ _ _ _ _ us hl => match us, hl with | [_, _, _, _], _ => rfl) (fun ws hl => match ws, hl with | [_, _, _, _], _ => rfl)) y_nil)) (y_callB (cRepr rfl hg (u66 hr)) (by rfl) z_repr (by decide +kernel) (y_cons (y_callTy (cTupleOf rfl) (by rfl) z_tuple (by decide +kernel) (y_cons (y_var (pv 11)) y_nil)) y_nil)) (nomark _))
    (y_last (y_ret y_bl))
    y_end)))))
    y_end))))
    (y_seq (y_set (ps_set (i := 14) sc.nd rfl (.inl rfl) (y_cal rfl c_l_any hr (by decide) hg (by rfl) (y_cons (y_var (pv 1)) (y_cons y_int y_nil)))))
    (y_seq (y_set (ps_set (i := 15) sc.nd rfl (.inl rfl) (y_callTy (cTupleOf rfl) (by rfl) z_tuple (by decide +kernel) (y_cons (y_lcF rfl sc.nd (y_rng1 (by rfl) z_range (y_cons (y_var (pv 14)) y_nil)) (blkOk_by (own := [("person", 19)]) (by first | decide +kernel | kernel_rfl | rfl)) (fun _ _ _ _ _ => (y_gname (vs := [19]) (pg_name (i := 19) sc.nd rfl (.inl rfl)) (by decide))) (fun _ _ _ _ _ => y_yes) (fun _ _ _ _ _ => (y_callTy (cTupleOf rfl) (by rfl) z_tuple (by decide +kernel) (y_cons (y_lcF rfl sc.nd (y_rng1 (by rfl) z_range (y_cons (y_var (pv 7)) y_nil)) (blkOk_by (own := [("day", 13)]) (by first | decide +kernel | kernel_rfl | rfl)) (fun _ _ _ _ _ => (y_gname (vs := [13]) (pg_name (i := 13) sc.nd rfl (.inl rfl)) (by decide))) (fun _ _ _ _ _ => pts_one (y_tcmp (opEq rfl hr.units) (y_cal rfl c_l_any hr (by decide) hg (by rfl) (y_cons (y_var (pv 1)) (y_cons y_int y_nil))) y_int (nomark _))) (fun _ _ _ _ _ => (y_var (pv 13)))) y_nil)))) y_nil))))
    (y_seq (y_par (ps_par (i := 16) (j := 5) rfl sc.nd rfl rfl (by decide) rfl rfl (y_cons (y_cal rfl c_l_pack hr (by decide) hg (by rfl) (y_cons (y_var (pv 1)) (y_cons (y_var (pv 14)) y_nil))) (y_cons (y_new y_nil) y_nil)) (by rfl)))
    (y_seq (y_for (vs := [17]) PassesOwn.never rfl (y_iter rfl (y_var (pv 16))) (y_gname (vs := [17]) (pg_name (i := 17) sc.nd rfl (.inl rfl)) (by decide))
    (y_seq (y_set (ps_set (i := 18) sc.nd rfl (.inr rfl) (y_lst y_nil)))
    (y_seq (y_for (vs := [19]) PassesOwn.never rfl (y_iter rfl (y_ix rfl (y_var (pv 17)) (y_un unNeg y_int))) (y_gname (vs := [19]) (pg_name (i := 19) sc.nd rfl (.inl rfl)) (by decide))
    (y_last (y_set (ps_set (i := 18) sc.nd rfl (.inr rfl) (y_op (opAdd rfl) (y_var (pv 18)) (y_callTy (cListOf rfl) (by rfl) z_list (by decide +kernel) (y_cons (y_ix rfl (y_var (pv 15)) (y_var (pv 19))) y_nil)))))))
    (y_last (y_expr (y_meth rfl PySem.F.plainAttrs_list PySem.F.slot_list_append PySem.F.type_list_append mtAppend (y_var (pv 5)) (y_cons (y_tup (y_cons (y_callB (cLen rfl) (by rfl) z_len (by decide +kernel) (y_cons (y_ix rfl (y_var (pv 17)) (y_un unNeg y_int)) y_nil)) (y_cons (y_callTy (cTupleOf rfl) (by rfl) z_tuple (by decide +kernel) (y_cons (y_lcF rfl sc.nd (y_rng1 (by rfl) z_range (y_cons (y_var (pv 7)) y_nil)) (blkOk_by (own := [("day", 13)]) (by first | decide +kernel | kernel_rfl | rfl)) (fun _ _ _ _ _ => (y_gname (vs := [13]) (pg_name (i := 13) sc.nd rfl (.inl rfl)) (by decide))) (fun _ _ _ _ _ => pts_one (y_tcmp (opNotIn rfl (u65 hr)) (y_var (pv 13)) (y_var (pv 18)) (by rfl))) (fun _ _ _ _ _ => (y_var (pv 13)))) y_nil)) y_nil))) y_nil)))))))
    (y_last (y_ret (y_cmp (opEq rfl hr.units) (y_callB (cRepr rfl hg (u66 hr)) (by rfl) z_repr (by decide +kernel) (y_cons (y_calK (pm := [0, 1, 2]) rfl c_jobs_of hr (by decide) hg (by rfl) (y_kcons (y_var (pv 2)) (y_kcons (y_var (pv 16)) (y_kcons (y_var (pv 15)) y_knil))) (fun _ _ _ _ _ _ us hl => match us, hl with | [_, _, _], _ => rfl) (fun ws hl => match ws, hl with | [_, _, _], _ => rfl)) y_nil)) (y_callB (cRepr rfl hg (u66 hr)) (by rfl) z_repr (by decide +kernel) (y_cons (y_callTy (cTupleOf rfl) (by rfl) z_tuple (by decide +kernel) (y_cons (y_var (pv 5)) y_nil)) y_nil)) (nomark _)))))))))))))))))))
end G
namespace G
open PySem PySem.Spec PyProof.Rows L2 Y BL CAL
open BP (Wd or_t or_f)
local macro_rules
  | `(tactic| trivial) => `(tactic| first
    | with_reducible assumption
    | ((with_reducible apply dVar_ok); rfl)
    | with_reducible exact dLit_ok
    | with_reducible exact dNil_ok
    | ((with_reducible apply dCons_ok) <;> trivial)
    | ((with_reducible apply asB_ok); trivial)
    | ((with_reducible apply dBin_ok) <;> trivial)
    | ((with_reducible apply dCall_ok) <;> trivial)
    | ((with_reducible apply dCalP_ok); trivial; rfl; rfl; (with_reducible assumption))
    | ((with_reducible apply dCal_ok); trivial; rfl; (with_reducible assumption))
    | ((with_reducible apply and_ok) <;> trivial)
    | ((with_reducible apply or_ok) <;> trivial)
    | ((with_reducible apply dNot_ok); trivial)
    | ((with_reducible apply dSet_ok); trivial)
    | ((with_reducible apply dRet_ok); trivial)
    | with_reducible exact vIn_nat
    | with_reducible exact vNotIn_nat
    | with_reducible exact vIn_natL
    | with_reducible exact vNotIn_natL
    | with_reducible exact vIn_pair
    | with_reducible exact gLen_tmap
    | with_reducible exact gLen_map
    | with_reducible exact tupleOf_list
    | with_reducible exact vEq_nat
    | with_reducible exact vEq_int
    | with_reducible exact vNe_int
    | exact rfl)
theorem calendar50 : F_l_calendar = CAL.F_l_calendar := rfl
theorem jobs50 : F_l_jobs = CAL.F_l_jobs := rfl
theorem pack50 : F_l_pack = CAL.F_l_pack := rfl
theorem turned50 : F_l_turned = CAL.F_l_turned := rfl
theorem iscal50 : F_is_calendar = CAL.F_is_calendar := rfl
theorem arejobs50 : F_are_jobs = CAL.F_are_jobs := rfl
theorem larejobs50 : F_l_are_jobs = CAL.F_l_are_jobs := rfl
theorem istt50 : F_is_timetable = CAL.F_is_timetable := rfl
theorem fits50 : F_l_fits = CAL.F_l_fits := rfl
theorem left50 : F_left_over = CAL.F_left_over := rfl
theorem jobsof50 : F_jobs_of = CAL.F_jobs_of := rfl
def wdB (n : Nat) : Nat → PyData → Bool
  | _, .none => true
  | _, .bool _ => true
  | _, .int _ => true
  | _, .str s => PyData.strOk s
  | k + 1, .list xs => decide (xs.length ≤ n) && xs.all (wdB n k)
  | k + 1, .tuple xs => decide (xs.length ≤ n) && xs.all (wdB n k)
  | _, _ => false
theorem wd_of {n : Nat} : ∀ (k : Nat) (d : PyData), wdB n k d = true → Wd n k d
  | 0, .none, _ => .non _
  | 0, .bool b, _ => .bl _ b
  | 0, .int i, _ => .int _ i
  | 0, .str s, h => .str _ (by simpa [wdB] using h)
  | 0, .list _, h => by simp [wdB] at h
  | 0, .tuple _, h => by simp [wdB] at h
  | 0, .dict _, h => by simp [wdB] at h
  | k + 1, .none, _ => .non _
  | k + 1, .bool b, _ => .bl _ b
  | k + 1, .int i, _ => .int _ i
  | k + 1, .str s, h => .str _ (by simpa [wdB] using h)
  | k + 1, .list xs, h => by
    rw [wdB, Bool.and_eq_true, decide_eq_true_eq, List.all_eq_true] at h
    exact .lst (fun x hx => wd_of k x (h.2 x hx)) h.1
  | k + 1, .tuple xs, h => by
    rw [wdB, Bool.and_eq_true, decide_eq_true_eq, List.all_eq_true] at h
    exact .tup (fun x hx => wd_of k x (h.2 x hx)) h.1
  | k + 1, .dict _, h => by simp [wdB] at h
theorem wds_of {n k : Nat} {ds : List PyData} (h : ds.all (wdB n k) = true) : ∀ d ∈ ds, Wd n k d := fun d hd => wd_of k d (List.all_eq_true.mp h d hd)
theorem wd_nats {n k : Nat} {l : List Nat} : ∀ d ∈ l.map nI, Wd n k d := fun d hd => by
  obtain ⟨x, _, rfl⟩ := List.mem_map.mp hd
  exact .int _ _
theorem wd_lot {n k : Nat} {l : List Nat} (h : l.length ≤ n) : Wd n (k + 1) (lotD l) := .tup wd_nats (by rw [List.length_map]; exact h)
theorem wd_job {n : Nat} {j : Jb} (h2 : 2 ≤ n) (h : j.2.length ≤ n) : Wd n 2 (jobE j) := .tup (fun x hx => by
  simp only [List.mem_cons, List.not_mem_nil, or_false] at hx
  rcases hx with rfl | rfl
  · exact .int _ _
  · exact wd_lot h) h2
theorem ok1 : PyData.strOk "1" = true := by decide +kernel
theorem ok0 : PyData.strOk "0" = true := by decide +kernel
theorem em {ρ : En} {s : Sto} : dTup dNil ρ s = .ok (.d (.tuple [])) s := tup_ok (ds := []) rfl rfl (by decide)
theorem one {ρ : En} {s s1 : Sto} {f : En → Sto → R W} {a : PyData} (h : f ρ s = .ok (.d a) s1) : dTup (dCons f dNil) ρ s = .ok (.d (.tuple [a])) s1 := tup_ok (ds := [a]) (dCons1_ok h) rfl (by simp)
theorem two {ρ : En} {s s1 s2 : Sto} {f g : En → Sto → R W} {a b : PyData} (h : f ρ s = .ok (.d a) s1) (h2 : g ρ s1 = .ok (.d b) s2) : dTup (dCons f (dCons g dNil)) ρ s = .ok (.d (.tuple [a, b])) s2 := tup_ok (ds := [a, b]) (dCons_ok h (dCons1_ok h2)) rfl (by simp)
theorem ne_reprB {f g : En → Sto → R W} {ρ : En} {s s1 s2 : Sto} {b : Bool} (h1 : f ρ s = .ok (.d (.bool b)) s1) (h2 : g ρ s1 = .ok (.d (.bool b)) s2) : asB (dBin (vEq true) (dCall gRepr (dCons f dNil)) (dCall gRepr (dCons g dNil)) ρ s) = .ok false s2 := ne_repr (Sm.bool (k := 0) (w := 10)) (by decide) (by decide) h1 h2
theorem rep_lot {a k : Nat} : (List.replicate k [nI a]).flatten = (List.replicate k a).map nI := by
  induction k with
  | zero => rfl
  | succ k ih => rw [List.replicate_succ, List.replicate_succ, List.flatten_cons, ih]; rfl
theorem rep_jobs {j : Jb} {k : Nat} : (List.replicate k [jobE j]).flatten = (List.replicate k j).map jobE := by
  induction k with
  | zero => rfl
  | succ k ih => rw [List.replicate_succ, List.replicate_succ, List.flatten_cons, ih]; rfl
section
variable {ns : List Int} {D : List Nat} {js : List Jb}
noncomputable abbrev EL (ns : List Int) (x2 x3 x4 x5 x6 x7 x8 x9 x10 x11 x12 x13 : Option W) : En := [some (.scr ns), some (.ref 1), x2, x3, x4, x5, x6, x7, x8, x9, x10, x11, x12, x13, none, none, none, none, none, none, none, none]
theorem cal_start {s : Sto} (h : DealOk s 1 0) : ∃ D0 s2, X_law_2 (EL ns none none none none none none none none none none none none) s = .ok (.d (lotD D0)) s2 ∧ D0.length ≤ 41 ∧ (∀ x ∈ D0, x < 61) ∧ DealOk s2 1 0 := by
  let E := EL ns none none none none none none none none none none none none
  obtain ⟨j, s1, e1, _, d1⟩ := anyI (k := 8) h (by decide) (by decide)
  have t : asB (dBin vGt (dCal 2 F_l_any (dCons (dVar 1) (dCons (dLit (.int 8)) dNil))) (dLit (.int 0)) E s) = .ok (decide ((0 : Int) < (j : Int))) s1 := asB_ok (dBin_ok (dCal_ok (dCons_ok (dVar_ok rfl) (dCons1_ok dLit_ok)) rfl e1) dLit_ok rfl)
  cases z : decide ((0 : Int) < (j : Int)) with
  | true =>
    rw [z] at t
    obtain ⟨D0, s2, e2, l2, b2, d2⟩ := l_calendar_ok d1.ok
    rw [← calendar50] at e2
    exact ⟨D0, s2, dIf_t t (dCal_ok (dCons_ok (dVar_ok rfl) (dCons1_ok dLit_ok)) rfl e2), by omega, b2, d2⟩
  | false =>
    rw [z] at t
    obtain ⟨a, s2, e2, ha, d2⟩ := anyI (k := 61) d1.ok (by decide) (by decide)
    obtain ⟨k, s3, e3, hk, d3⟩ := F_of_ok (ds := [.int 39, .int 40, .int 41]) d2.ok (by simp) (by simp)
    obtain ⟨m, rfl, m0, m1⟩ : ∃ m : Nat, k = nI m ∧ 1 ≤ m ∧ m ≤ 41 := by
      simp only [List.mem_cons, List.not_mem_nil, or_false] at hk
      rcases hk with rfl | rfl | rfl
      · exact ⟨39, rfl, by decide, by decide⟩
      · exact ⟨40, rfl, by decide, by decide⟩
      · exact ⟨41, rfl, by decide, by decide⟩
    have rp : vRep (.d (.tuple [nI a])) (nW m) s3 = .ok (.d (lotD (List.replicate m a))) s3 := by
      show chk _ _ = _
      rw [chk_ok ⟨by simp, by omega, by omega, by simp⟩, Int.toNat_natCast, rep_lot]
    refine ⟨List.replicate m a, s3, dIf_f t (dBin_ok (one (dCal_ok (dCons_ok (dVar_ok rfl) (dCons1_ok dLit_ok)) rfl e2)) (dCal_ok (dCons_ok (dVar_ok rfl) (dCons1_ok (lst_ok (ds := [.int 39, .int 40, .int 41]) (dCons_ok dLit_ok (dCons_ok dLit_ok (dCons1_ok dLit_ok))) rfl (by simp)))) rfl e3) rp), by rw [List.length_replicate]; exact m1, fun x hx => by rw [List.eq_of_mem_replicate hx]; exact ha, d3.ok⟩
theorem cal_lot {D0 : List Nat} (h : ∀ x ∈ D0, x < 61) : calB (lotD D0) = decide (D0.length ≤ 40) := by
  show ((D0.map nI).all (isBelow 61) && decide ((D0.map nI).length ≤ 40)) = _
  have := below_all (m := 61) h
  rw [← nI_zs] at this
  have t : (D0.map nI).all (isBelow 61) = true := this
  rw [t, Bool.true_and, List.length_map]
theorem test3 {D0 : List Nat} (h : ∀ x ∈ D0, x < 61) (l : D0.length ≤ 41) {x3 x4 x5 x6 x7 x8 x9 x10 x11 x12 x13 : Option W} {s : Sto} : T_law_3 (EL ns (some (.d (lotD D0))) x3 x4 x5 x6 x7 x8 x9 x10 x11 x12 x13) s = .ok false s := by
  have g := is_calendar_g (n := 41) (k := 1) (d := lotD D0) (wd_lot l) (by decide)
  rw [← iscal50, cal_lot h] at g
  unfold T_law_3
  exact ne_reprB (dCalP_ok (dCons1_ok (dVar_ok rfl)) rfl rfl g) (dBin_ok (dCall_ok (dCons1_ok (dVar_ok rfl)) gLen_tmap) dLit_ok le40)
theorem turn6 (hD : ∀ x ∈ D, x < 61) (lD : D.length ≤ 40) {x3 x4 x5 x6 x7 x8 x9 x10 x11 x12 x13 : Option W} {s : Sto} (d : DealOk s 1 0) : ∃ y4 y5 s', Q_law_6 (EL ns (some (.d (lotD D))) x3 x4 x5 x6 x7 x8 x9 x10 x11 x12 x13) s = .ok (.nx, EL ns (some (.d (lotD D))) x3 y4 y5 x6 x7 x8 x9 x10 x11 x12 x13) s' ∧ DealOk s' 1 0 := by
  let E := fun x4 x5 => EL ns (some (.d (lotD D))) x3 x4 x5 x6 x7 x8 x9 x10 x11 x12 x13
  let xs : List PyData := [.int 60, .int 61, .int (-1), .bool true, .none, .str "1", .tuple [], .int 0]
  obtain ⟨v, s1, e1, wv, d1⟩ := l_turned_ok (N := 41) (k := 1) (vs := D.map nI) (xs := xs) d wd_nats (by rw [List.length_map]; omega) (wds_of (by simp [xs, wdB, ok1])) (by simp [xs]) (by simp [xs]) (by decide) (by decide) (by decide)
  rw [← turned50] at e1
  have g4 : dSet 4 X_law_7 (E x4 x5) s = .ok (.nx, E (some (.d v)) x5) s1 := dSet_ok (dCal_ok (dCons_ok (dVar_ok rfl) (dCons_ok (dVar_ok rfl) (dCons1_ok (lst_ok (ds := xs) (dCons_ok dLit_ok (dCons_ok dLit_ok (dCons_ok rfl (dCons_ok dLit_ok (dCons_ok dLit_ok (dCons_ok dLit_ok (dCons_ok em (dCons1_ok dLit_ok)))))))) rfl (by simp [xs]))))) rfl e1)
  have x8 : X_law_8 (E (some (.d v)) x5) s1 = .ok (.d (.bool (calB v))) s1 := by
    unfold X_law_8
    have ti := isi_tup (ρ := E (some (.d v)) x5) (s := s1) (i := 4) wv.pl rfl
    cases ht : isTup v with
    | false =>
      rw [ht] at ti
      have : calB v = false := by cases v <;> first | rfl | cases ht
      rw [this]
      exact dAndV_f ti
    | true =>
      rw [ht] at ti
      obtain ⟨ds, rfl⟩ : ∃ ds, v = .tuple ds := by cases v <;> first | exact ⟨_, rfl⟩ | cases ht
      obtain ⟨hl, i, hik, hi⟩ := wv.tup_inv
      have t2 : dBin vLe (dCall gLen (dCons (dVar 4) dNil)) (dLit (.int 40)) (E (some (.d (.tuple ds))) x5) s1 = .ok (.d (.bool (decide (ds.length ≤ 40)))) s1 := dBin_ok (dCall_ok (dCons1_ok (dVar_ok rfl)) (BP.gLen_tup ds s1)) dLit_ok le40
      have lc := odd_row (v := 20) (a := 0) (b := 60) (fi := dIter (dVar 4)) (fa := dLit (.int 0)) (fb := dLit (.int 60)) (ρ := E (some (.d (.tuple ds))) x5) (s := s1) (it_ds (dVar_ok rfl)) hi hl (by decide) (by show 20 < 22; omega) (fun w => dLit_ok) (fun w => dLit_ok)
      have sh : SeqAt.shaped (.list (ds.filter fun d => !cntB 0 60 d)) = true := (Wd.lst (n := 42) (k := i) (fun x hx => hi x (List.mem_filter.mp hx).1) (Nat.le_trans (List.length_filter_le _ _) hl)).shaped (by omega)
      have ae : (ds.all fun d => cntB 0 60 d) = ds.all (isBelow 61) := congrArg (fun p => ds.all p) (funext fun d => cnt60)
      have t3 : dBin (vEq false) (dLcF (dLc [20] (dIter (dVar 4)) (tName 20) (dNot (fun ρ st => asB ((dCalP 3 F_l_is_count (dCons (dVar 20) (dCons (dLit (.int 0)) (dCons (dLit (.int 60)) dNil)))) ρ st))) (dVar 20))) (dLst dNil) (E (some (.d (.tuple ds))) x5) s1 = .ok (.d (.bool (ds.all (isBelow 61)))) s1 := by
        rw [← ae, ← empty_all]
        exact dBin_ok lc (lst_ok (ds := []) rfl rfl (by simp)) (by rw [eq_nilD sh, Bool.false_xor])
      show _ = Y.R.ok (W.d (.bool (ds.all (isBelow 61) && decide (ds.length ≤ 40)))) s1
      rw [Bool.and_comm]
      cases c : decide (ds.length ≤ 40) with
      | false => rw [c] at t2; exact dAndV_t ti (dAndV_f t2)
      | true => rw [c] at t2; rw [Bool.true_and]; exact dAndV_t ti (dAndV_t t2 t3)
  have g5 := dSet_ok (i := 5) x8
  have g := is_calendar_g wv (by decide)
  rw [← iscal50] at g
  have t9 : T_law_9 (E (some (.d v)) (some (.d (.bool (calB v))))) s1 = .ok false s1 := by
    unfold T_law_9
    exact ne_reprB (dCalP_ok (dCons1_ok (dVar_ok rfl)) rfl rfl g) (dVar_ok rfl)
  exact ⟨_, _, s1, to g4 (to g5 (dIfS_f t9 rfl)), d1⟩
theorem jobs_start (lD : D.length ≤ 40) {x3 x4 x5 x7 x8 x9 x10 x11 x12 x13 : Option W} {s : Sto} (h : DealOk s 1 0) : ∃ js s2, X_law_11 (EL ns (some (.d (lotD D))) x3 x4 x5 none x7 x8 x9 x10 x11 x12 x13) s = .ok (.d (jobsD js)) s2 ∧ js.length ≤ 15 ∧ (∀ j ∈ js, JobOk D.length j) ∧ DealOk s2 1 0 := by
  let E := EL ns (some (.d (lotD D))) x3 x4 x5 none x7 x8 x9 x10 x11 x12 x13
  obtain ⟨j, s1, e1, _, d1⟩ := anyI (k := 8) h (by decide) (by decide)
  have t : asB (dBin vGt (dCal 2 F_l_any (dCons (dVar 1) (dCons (dLit (.int 8)) dNil))) (dLit (.int 0)) E s) = .ok (decide ((0 : Int) < (j : Int))) s1 := asB_ok (dBin_ok (dCal_ok (dCons_ok (dVar_ok rfl) (dCons1_ok dLit_ok)) rfl e1) dLit_ok rfl)
  cases z : decide ((0 : Int) < (j : Int)) with
  | true =>
    rw [z] at t
    obtain ⟨js, s2, e2, l2, b2, d2⟩ := l_jobs_ok (D := D) (by omega) d1.ok
    rw [← jobs50] at e2
    exact ⟨js, s2, dIf_t t (dCal_ok (dCons_ok (dVar_ok rfl) (dCons_ok (dVar_ok rfl) (dCons1_ok dLit_ok))) rfl e2), by omega, b2, d2⟩
  | false =>
    rw [z] at t
    obtain ⟨k, s3, e3, hk, d3⟩ := F_of_ok (ds := [.int 13, .int 14, .int 15]) d1.ok (by simp) (by simp)
    obtain ⟨m, rfl, m0, m1⟩ : ∃ m : Nat, k = nI m ∧ 1 ≤ m ∧ m ≤ 15 := by
      simp only [List.mem_cons, List.not_mem_nil, or_false] at hk
      rcases hk with rfl | rfl | rfl
      · exact ⟨13, rfl, by decide, by decide⟩
      · exact ⟨14, rfl, by decide, by decide⟩
      · exact ⟨15, rfl, by decide, by decide⟩
    have rp : vRep (.d (.tuple [jobE (60, [])])) (nW m) s3 = .ok (.d (jobsD (List.replicate m (60, [])))) s3 := by
      show chk _ _ = _
      rw [chk_ok ⟨by simp, by omega, by omega, by simp⟩, Int.toNat_natCast, rep_jobs]
    have w60 : dTup (dCons (dTup (dCons (dLit (.int 60)) (dCons (dTup dNil) dNil))) dNil) E s1 = .ok (.d (.tuple [jobE (60, [])])) s1 := one (a := jobE (60, [])) (two (a := .int 60) (b := .tuple []) dLit_ok em)
    refine ⟨List.replicate m (60, []), s3, dIf_f t (dBin_ok w60 (dCal_ok (dCons_ok (dVar_ok rfl) (dCons1_ok (lst_ok (ds := [.int 13, .int 14, .int 15]) (dCons_ok dLit_ok (dCons_ok dLit_ok (dCons1_ok dLit_ok))) rfl (by simp)))) rfl e3) rp), by rw [List.length_replicate]; exact m1, fun x hx => by
      rw [List.eq_of_mem_replicate hx]
      exact ⟨by decide, by decide, lotOk_of (List.nil_sublist _)⟩, d3.ok⟩
theorem jobs_all (h : ∀ j ∈ js, JobOk D.length j) : jobsB D.length (jobsD js) = decide (js.length ≤ 14) := by
  show (decide ((js.map jobE).length ≤ 14) && (js.map jobE).all (jobB D.length)) = _
  have : (js.map jobE).all (jobB D.length) = true := by
    rw [List.all_eq_true]
    intro x hx
    obtain ⟨j, hj, rfl⟩ := List.mem_map.mp hx
    exact (h j hj).b
  rw [this, Bool.and_true, List.length_map]
theorem wd_jobs (lD : D.length ≤ 40) (h : ∀ j ∈ js, JobOk D.length j) : ∀ d ∈ js.map jobE, Wd 40 2 d := fun d hd => by
  obtain ⟨j, hj, rfl⟩ := List.mem_map.mp hd
  exact wd_job (by decide) (Nat.le_trans (h j hj).ds.len lD)
theorem le14 {n : Nat} {s : Sto} : vLe (nW n) (.d (.int 14)) s = .ok (.d (.bool (decide (n ≤ 14)))) s := by
  have e : decide ((n : Int) ≤ 14) = decide (n ≤ 14) := decide_eq_decide.mpr (by omega)
  show R.ok (W.d (.bool (decide ((n : Int) ≤ 14)))) s = _
  rw [e]
theorem test12 (lD : D.length ≤ 40) (h : ∀ j ∈ js, JobOk D.length j) (l : js.length ≤ 15) {x3 x4 x5 x7 x8 x9 x10 x11 x12 x13 : Option W} {s : Sto} : T_law_12 (EL ns (some (.d (lotD D))) x3 x4 x5 (some (.d (jobsD js))) x7 x8 x9 x10 x11 x12 x13) s = .ok false s := by
  have g := are_jobs_g (D := D) (n := 40) (k := 3) (d := jobsD js) (.tup (wd_jobs lD h) (by rw [List.length_map]; omega)) (by decide)
  rw [← arejobs50, jobs_all h] at g
  unfold T_law_12
  exact ne_reprB (dCalP_ok (dCons_ok (dVar_ok rfl) (dCons1_ok (dVar_ok rfl))) rfl rfl g) (dBin_ok (dCall_ok (dCons1_ok (dVar_ok rfl)) gLen_tmap) dLit_ok le14)
theorem turn15 (lD : D.length ≤ 40) (h : ∀ j ∈ js, JobOk D.length j) (l : js.length ≤ 14) {x3 x4 x5 x8 x9 x10 x11 x12 x13 : Option W} {s : Sto} (d : DealOk s 1 0) : ∃ y4 y8 s', Q_law_15 (EL ns (some (.d (lotD D))) x3 x4 x5 (some (.d (jobsD js))) (some (nW D.length)) x8 x9 x10 x11 x12 x13) s = .ok (.nx, EL ns (some (.d (lotD D))) x3 y4 x5 (some (.d (jobsD js))) (some (nW D.length)) y8 x9 x10 x11 x12 x13) s' ∧ DealOk s' 1 0 := by
  let E := fun x4 x8 => EL ns (some (.d (lotD D))) x3 x4 x5 (some (.d (jobsD js))) (some (nW D.length)) x8 x9 x10 x11 x12 x13
  let ys : List PyData := [.tuple [.int 0, .tuple []], .tuple [.int 1, .tuple []], .tuple [.int 61, .tuple []], .tuple [.int 60, .tuple [.int 0]], .tuple [.int 2, .tuple [.int 0, .int 0]], .tuple [.int 2, .tuple [.int 1, .int 0]], .tuple [.int 2, .tuple [nI D.length]], .tuple [.int 2, .list [.int 0]], .tuple [.bool true, .tuple []], .tuple [.int 2], .tuple [.int 2, .tuple [], .int 0]]
  let zs : List PyData := [.list [.int 2, .tuple []], .tuple [.int 2, .tuple [.int (-1)]], .tuple [.int 2, .tuple [.bool false]], .tuple [.int 2, .none], .none, .int 0]
  have g8 : dSet 8 X_law_16 (E x4 x8) s = .ok (.nx, E x4 (some (.d (.list ys)))) s := by
    refine dSet_ok (lst_ok (ws := ys.map W.d) (ds := ys) ?_ (allD_map ys) (by simp [ys]))
    exact dCons_ok (two dLit_ok em) (dCons_ok (two dLit_ok em) (dCons_ok (two dLit_ok em) (dCons_ok (two dLit_ok (one dLit_ok)) (dCons_ok (two dLit_ok (two dLit_ok dLit_ok)) (dCons_ok (two dLit_ok (two dLit_ok dLit_ok)) (dCons_ok (two dLit_ok (one (dVar_ok rfl))) (dCons_ok (two dLit_ok (lst_ok (ds := [.int 0]) (dCons1_ok dLit_ok) rfl (by simp))) (dCons_ok (two dLit_ok em) (dCons_ok (one dLit_ok) (dCons1_ok (tup_ok (ds := [.int 2, .tuple [], .int 0]) (dCons_ok dLit_ok (dCons_ok em (dCons1_ok dLit_ok))) rfl (by simp))))))))))))
  obtain ⟨v, s1, e1, wv, d1⟩ := l_turned_ok (N := 40) (k := 2) (vs := js.map jobE) (xs := ys ++ zs) d (wd_jobs lD h) (by rw [List.length_map]; omega) (wds_of (by simp [ys, zs, wdB])) (by simp [ys]) (by simp [ys, zs]) (by decide) (by decide) (by decide)
  rw [← turned50] at e1
  have z : ∀ {ρ : En}, dLst (dCons (dLst (dCons (dLit (.int 2)) (dCons (dTup dNil) dNil))) (dCons (dTup (dCons (dLit (.int 2)) (dCons (dTup (dCons (dUn vNeg (dLit (.int 1))) dNil)) dNil))) (dCons (dTup (dCons (dLit (.int 2)) (dCons (dTup (dCons (dLit (.bool false)) dNil)) dNil))) (dCons (dTup (dCons (dLit (.int 2)) (dCons (dLit .none) dNil))) (dCons (dLit .none) (dCons (dLit (.int 0)) dNil)))))) ρ s = .ok (.d (.list zs)) s := fun {ρ} => lst_ok (ds := zs) (dCons_ok (lst_ok (ds := [.int 2, .tuple []]) (dCons_ok dLit_ok (dCons1_ok em)) rfl (by simp)) (dCons_ok (two dLit_ok (one rfl)) (dCons_ok (two dLit_ok (one dLit_ok)) (dCons_ok (two dLit_ok dLit_ok) (dCons_ok dLit_ok (dCons1_ok dLit_ok)))))) rfl (by simp [zs])
  have g4 : dSet 4 X_law_17 (E x4 (some (.d (.list ys)))) s = .ok (.nx, E (some (.d v)) (some (.d (.list ys)))) s1 := dSet_ok (dCal_ok (dCons_ok (dVar_ok rfl) (dCons_ok (dVar_ok rfl) (dCons1_ok (dBin_ok (dVar_ok rfl) z (vAdd_lists (a := ys) (b := zs) (by simp [ys, zs])))))) rfl e1)
  have a1 := are_jobs_g (D := D) wv (by decide)
  have a2 := l_are_jobs_g (D := D) wv (by decide) (by decide)
  rw [← arejobs50] at a1
  rw [← larejobs50] at a2
  have t18 : T_law_18 (E (some (.d v)) (some (.d (.list ys)))) s1 = .ok false s1 := by
    unfold T_law_18
    exact ne_reprB (dCalP_ok (dCons_ok (dVar_ok rfl) (dCons1_ok (dVar_ok rfl))) rfl rfl a1) (dCalP_ok (dCons_ok (dVar_ok rfl) (dCons1_ok (dVar_ok rfl))) rfl rfl a2)
  exact ⟨_, _, s1, to g8 (to g4 (dIfS_f t18 rfl)), d1⟩
theorem table_ok (lD : D.length ≤ 40) (h : ∀ j ∈ js, JobOk D.length j) (l : js.length ≤ 14) {x3 x4 x5 x7 x8 x9 x10 x11 x12 x13 : Option W} {s : Sto} (d : DealOk s 1 0) : ∃ ds s', X_law_20 (EL ns (some (.d (lotD D))) x3 x4 x5 (some (.d (jobsD js))) x7 x8 x9 x10 x11 x12 x13) s = .ok (.d (.tuple ds)) s' ∧ ds.length = js.length ∧ (∀ d ∈ ds, Wd 40 0 d) ∧ DealOk s' 1 0 := by
  let E := EL ns (some (.d (lotD D))) x3 x4 x5 (some (.d (jobsD js))) x7 x8 x9 x10 x11 x12 x13
  obtain ⟨ds, s', e, l', q, d'⟩ := lc_drawnL (v := 21) (emb := fun j : Jb => W.d (jobE j)) (fi := dIter (dVar 6)) (fe := dIf (fun ρ st => asB (dBin (vEq true) (dBin vIx (dVar 21) (dLit (.int 1))) (dTup dNil) ρ st)) (dCal 2 F_l_of (dCons (dVar 1) (dCons (dBin vIx (dVar 21) (dLit (.int 1))) dNil))) (dLit (.int 0))) (ρ := E) (s := s) (s1 := s) (P := fun s => DealOk s 1 0) (Q := fun d => Wd 40 0 d) js (it_t (emb := jobE) (dVar_ok rfl)) (by omega) d fun j hj s hs => by
    have ix : ∀ {s : Sto}, dBin vIx (dVar 21) (dLit (.int 1)) (E.set 21 (some (.d (jobE j)))) s = .ok (.d (lotD j.2)) s := fun {s} => dBin_ok (dVar_ok rfl) dLit_ok (vIx_tup (j := 1) rfl)
    have t : asB (dBin (vEq true) (dBin vIx (dVar 21) (dLit (.int 1))) (dTup dNil) (E.set 21 (some (.d (jobE j)))) s) = .ok (!(j.2.map nI).isEmpty) s := asB_ok (dBin_ok ix em (by rw [BP.eq_nilT (neg := true) (shaped_lot j.2), Bool.true_xor]))
    cases z : (j.2.map nI).isEmpty with
    | true =>
      rw [z] at t
      exact ⟨.int 0, s, dIf_f t dLit_ok, .int _ _, hs⟩
    | false =>
      rw [z] at t
      have ne : j.2.map nI ≠ [] := fun q => by rw [q] at z; cases z
      obtain ⟨d, s', e, hd, dd⟩ := ofT (ds := j.2.map nI) hs ne (by rw [List.length_map]; have := (h j hj).ds.len; omega)
      obtain ⟨x, _, rfl⟩ := List.mem_map.mp hd
      exact ⟨nI x, s', dIf_t t (dCal_ok (dCons_ok (dVar_ok rfl) (dCons1_ok ix)) rfl e), .int _ _, dd.ok⟩
  exact ⟨ds, s', dCall_ok (dCons1_ok e) tupleOf_list, l', q, d'⟩
theorem tables_ok {ds : List PyData} (ld : ds.length ≤ 14) (hd : ∀ d ∈ ds, Wd 40 0 d) {x2 x3 x4 x5 x6 x8 x10 x11 x12 x13 : Option W} {s : Sto} (d : DealOk s 1 0) : ∃ (vs : List PyData) (s' : Sto), I_law_21 (EL ns x2 x3 x4 x5 x6 (some (nW D.length)) x8 (some (.d (.tuple ds))) x10 x11 x12 x13) s = .ok (vs.map fun d => W.d d) s' ∧ (∀ v ∈ vs, Wd 42 2 v) ∧ DealOk s' 1 0 := by
  let E := EL ns x2 x3 x4 x5 x6 (some (nW D.length)) x8 (some (.d (.tuple ds))) x10 x11 x12 x13
  let xs : List PyData := [.int 0, .int 0, .int 1, .int 2, nI D.length, .int (-1), .bool true, .bool false, .none, .str "0"]
  obtain ⟨vs, s', e, l', q, d'⟩ := lc_drawnG (v := 3) (N := 5) (g := dLit (.int 5)) (fe := dCal 3 F_l_turned (dCons (dVar 1) (dCons (dVar 9) (dCons (dLst (dCons (dLit (.int 0)) (dCons (dLit (.int 0)) (dCons (dLit (.int 1)) (dCons (dLit (.int 2)) (dCons (dVar 7) (dCons (dUn vNeg (dLit (.int 1))) (dCons (dLit (.bool true)) (dCons (dLit (.bool false)) (dCons (dLit .none) (dCons (dLit (.str "0")) dNil))))))))))) dNil)))) (ρ := E) (s := s) (s1 := s) (P := fun s => DealOk s 1 0) (Q := fun d => Wd 42 2 d) rfl (by decide) d fun i s _ hs => by
    obtain ⟨v, s1, e1, wv, d1⟩ := l_turned_ok (N := 40) (k := 0) (vs := ds) (xs := xs) hs hd (by omega) (wds_of (by simp [xs, wdB, ok0])) (by simp [xs]) (by simp [xs]) (by decide) (by decide) (by decide)
    rw [← turned50] at e1
    exact ⟨v, s1, dCal_ok (dCons_ok (dVar_ok rfl) (dCons_ok (dVar_ok rfl) (dCons1_ok (lst_ok (ds := xs) (dCons_ok dLit_ok (dCons_ok dLit_ok (dCons_ok dLit_ok (dCons_ok dLit_ok (dCons_ok (dVar_ok rfl) (dCons_ok rfl (dCons_ok dLit_ok (dCons_ok dLit_ok (dCons_ok dLit_ok (dCons1_ok dLit_ok)))))))))) rfl (by simp [xs]))))) rfl e1, wv.up (by decide) (by decide), d1⟩
  have l1 : dLst (dCons (dVar 9) dNil) E s = .ok (.d (.list [.tuple ds])) s := lst_ok (ds := [.tuple ds]) (dCons1_ok (dVar_ok rfl)) rfl (by simp)
  refine ⟨[.tuple ds] ++ vs, s', ?_, fun v hv => ?_, d'⟩
  · have ad := dBin_ok l1 e (vAdd_lists (a := [.tuple ds]) (b := vs) (by rw [l']; simp))
    have := it_l (emb := fun d : PyData => d) (l := [.tuple ds] ++ vs) (by rw [List.map_id']; exact ad)
    exact this
  · rcases List.mem_append.mp hv with hv | hv
    · rw [List.mem_singleton.mp hv]
      exact .tup (fun x hx => (hd x hx).up (by decide) (by decide)) (by omega)
    · exact q v hv
/-- what is left over, by the law's own count -/
theorem loop27 {w : List Nat} {m : Nat} (hw : ∀ x ∈ w, x < D.length) (el : w.length = js.length) {x3 x5 x7 x8 x9 x12 x13 : Option W} {s : Sto} {B : Nat} (a : s[B]? = some (iL (CAL.leftF D []))) : ∃ y12 y13 s', dFor (dEnumT (dSl (dVar 4) dNoP (dPart (dVar 10)))) (tTup' 2 (tCons' (tName 12) (tCons' (tName 13) tNil'))) Q_law_27 (EL ns (some (.d (lotD D))) x3 (some (.d (lotD w))) x5 (some (.d (jobsD js))) x7 x8 x9 (some (nW m)) (some (.ref B)) x12 x13) s = .ok (.nx, EL ns (some (.d (lotD D))) x3 (some (.d (lotD w))) x5 (some (.d (jobsD js))) x7 x8 x9 (some (nW m)) (some (.ref B)) y12 y13) s' ∧ s'[B]? = some (iL (CAL.leftF D ((js.take m).zip w))) ∧ ∀ j, j < s.length → j ≠ B → s'[j]? = s[j]? := by
  let E := fun x12 x13 => EL ns (some (.d (lotD D))) x3 (some (.d (lotD w))) x5 (some (.d (jobsD js))) x7 x8 x9 (some (nW m)) (some (.ref B)) x12 x13
  let v := w.take m
  have vl : v.length ≤ js.length := by rw [← el]; exact List.length_take_le' ..
  obtain ⟨ρ', s', f, y12, y13, rfl, a', k', sl⟩ := forL_ok (tg := tTup' 2 (tCons' (tName 12) (tCons' (tName 13) tNil'))) (body := Q_law_27) (emb := fun i : Nat => W.d (.tuple [nI i, (v.map nI).getD i .none]))
    (P := fun pre ρ t => ∃ y12 y13, ρ = E y12 y13 ∧ t[B]? = some (iL (CAL.leftF D (pre.map fun i => (js.getD i (0, []), v.getD i 0)))) ∧ (∀ j, j < s.length → j ≠ B → t[j]? = s[j]?) ∧ t.length = s.length) (List.range v.length)
    (fun pre i post ρ t e q => by
      obtain ⟨y12, y13, rfl, at', kt, lt⟩ := q
      have hi : i < v.length := List.mem_range.mp (by rw [e]; simp)
      let y := v.getD i 0
      have ey : (v.map nI).getD i .none = nI y := by
        show _ = nI (v.getD i 0)
        rw [List.getD_eq_getElem?_getD, List.getD_eq_getElem?_getD, List.getElem?_map, List.getElem?_eq_getElem hi]; rfl
      have hy : y < D.length := hw y (List.mem_of_mem_take (show v.getD i 0 ∈ w.take m by show v.getD i 0 ∈ v; rw [List.getD_eq_getElem?_getD, List.getElem?_eq_getElem hi]; exact List.getElem_mem hi))
      have ej : js[i]? = some (js.getD i (0, [])) := by rw [List.getD_eq_getElem?_getD, List.getElem?_eq_getElem (by omega)]; rfl
      let E1 := E (some (nW i)) (some (nW y))
      let L := CAL.leftF D (pre.map fun i => (js.getD i (0, []), v.getD i 0))
      have ll : y < L.length := by show y < (CAL.leftF D _).length; rw [left_len]; exact hy
      have ix : dBin vIx (dVar 6) (dVar 12) E1 t = .ok (.d (jobE (js.getD i (0, [])))) t := dBin_ok (dVar_ok rfl) (dVar_ok rfl) (vIx_tup (by rw [List.getElem?_map, ej]; rfl))
      have st := setIx_ok (fe := dBin vSub (dBin vIx (dVar 11) (dVar 13)) (dBin vIx (dBin vIx (dVar 6) (dVar 12)) (dLit (.int 0)))) (fo := dVar 11) (fi := dVar 13) (ρ := E1) (s := t) (w := .d (.int (L.getD y 0 - ((js.getD i (0, [])).1 : Int)))) (dBin_ok (dBin_ok (dVar_ok rfl) (dVar_ok rfl) (vIx_iL at' ll)) (dBin_ok ix dLit_ok (vIx_tup (j := 0) rfl)) rfl) (dVar_ok rfl) (dVar_ok rfl) at' (by rw [List.length_map]; exact ll)
      refine ⟨E1, t, E1, _, ?_, st, _, _, rfl, ?_, fun j hj hB => ?_, by rw [List.length_set]; exact lt⟩
      · show tTup' 2 _ (W.d (.tuple [nI i, (v.map nI).getD i .none])) _ _ = _
        rw [ey]; rfl
      · rw [List.getElem?_set_self (lt_len at'), List.map_append]
        show some (SO.lst _) = some (iL (CAL.leftF D (_ ++ [(js.getD i (0, []), y)])))
        rw [left_snoc]
        unfold CAL.step
        show some (SO.lst ((List.map _ _).set y _)) = some (SO.lst (List.map _ (List.set _ y _)))
        rw [List.map_set]
      · rw [List.getElem?_set_ne (Ne.symm hB)]; exact kt j hj hB)
    (ρ := E x12 x13) (s := s) ⟨_, _, rfl, a, fun j _ _ => rfl, rfl⟩
  have zp : (List.range v.length).map (fun i => (js.getD i (0, []), v.getD i 0)) = (js.take m).zip w := by
    have hv : v.length = min m w.length := List.length_take ..
    have e5 : ((js.take m).zip w).length = min (min m js.length) w.length := by rw [List.length_zip, List.length_take]
    refine List.ext_getElem (by rw [List.length_map, List.length_range, e5, hv]; omega) fun i h1 h2 => ?_
    have hi : i < v.length := by rw [List.length_map, List.length_range] at h1; exact h1
    have hiw : i < w.length := by omega
    have e1 : js.getD i (0, []) = js[i]'(by omega) := by rw [List.getD_eq_getElem?_getD, List.getElem?_eq_getElem (by omega)]; rfl
    have e2 : v.getD i 0 = w[i] := by
      rw [List.getD_eq_getElem?_getD, List.getElem?_eq_getElem hi]
      show (w.take m)[i] = w[i]
      rw [List.getElem_take]
    rw [List.getElem_map, List.getElem_range, List.getElem_zip, List.getElem_take, e1, e2]
  rw [zp] at a'
  have sl4 : dSl (dVar 4) dNoP (dPart (dVar 10)) (E x12 x13) s = .ok (.d (.tuple (v.map nI))) s := by
    rw [BP.sl_ok (dVar_ok (w := .d (.tuple (w.map nI))) rfl) rfl (dPart_ok (dVar_ok rfl)), BL.cut_take, ← List.map_take]
  have it := enumT_ds sl4
  rw [List.length_map] at it
  exact ⟨y12, y13, s', dFor_ok it f, a', k'⟩
theorem turn21 (lD : D.length ≤ 40) (hD : ∀ x ∈ D, x < 61) (h : ∀ j ∈ js, JobOk D.length j) (l : js.length ≤ 14) {v : PyData} (wv : Wd 42 2 v) {x3 x5 x7 x8 x9 x10 x11 x12 x13 : Option W} {s : Sto} (d : DealOk s 1 0) : ∃ y10 y11 y12 y13 s', Q_law_21 (EL ns (some (.d (lotD D))) x3 (some (.d v)) x5 (some (.d (jobsD js))) x7 x8 x9 x10 x11 x12 x13) s = .ok (.nx, EL ns (some (.d (lotD D))) x3 (some (.d v)) x5 (some (.d (jobsD js))) x7 x8 x9 y10 y11 y12 y13) s' ∧ DealOk s' 1 0 := by
  let E := fun x10 x11 x12 x13 => EL ns (some (.d (lotD D))) x3 (some (.d v)) x5 (some (.d (jobsD js))) x7 x8 x9 x10 x11 x12 x13
  have a1 := is_tt_g (D := D) (js := js) wv (by decide) (by omega) (by omega)
  obtain ⟨t, a2⟩ := l_fits_g (D := D) (js := js) wv (by decide) (by omega) (by omega)
  rw [← istt50] at a1
  rw [← fits50] at a2
  have t22 : T_law_22 (E x10 x11 x12 x13) s = .ok false s := by
    unfold T_law_22
    exact ne_reprB (dCalP_ok (dCons_ok (dVar_ok rfl) (dCons_ok (dVar_ok rfl) (dCons1_ok (dVar_ok rfl)))) rfl rfl a1) (dCalP_ok (dCons_ok (dVar_ok rfl) (dCons_ok (dVar_ok rfl) (dCons1_ok (dVar_ok rfl)))) rfl rfl a2)
  have t24 : T_law_24 (E x10 x11 x12 x13) s = .ok (ttB D js v) s := by
    unfold T_law_24
    exact asB_ok (dCalP_ok (dCons_ok (dVar_ok rfl) (dCons_ok (dVar_ok rfl) (dCons1_ok (dVar_ok rfl)))) rfl rfl a2)
  cases z : ttB D js v with
  | false =>
    rw [z] at t24
    exact ⟨_, _, _, _, s, to (dIfS_f t22 rfl) (dIfS_f t24 rfl), d⟩
  | true =>
    rw [z] at t24
    obtain ⟨w, rfl, hw, el, _⟩ : IsTT D js v := Classical.byContradiction fun q => by rw [ttB_no q] at z; cases z
    obtain ⟨m, s1, e1, hm, d1⟩ := anyI (k := js.length + 1) d (Nat.succ_pos _) (by omega)
    have g10 : dSet 10 (dCal 2 F_l_any (dCons (dVar 1) (dCons (dBin vAdd (dCall gLen (dCons (dVar 6) dNil)) (dLit (.int 1))) dNil))) (E x10 x11 x12 x13) s = .ok (.nx, E (some (nW m)) x11 x12 x13) s1 := dSet_ok (dCal_ok (dCons_ok (dVar_ok rfl) (dCons1_ok (dBin_ok (dCall_ok (dCons1_ok (dVar_ok rfl)) gLen_tmap) dLit_ok rfl))) rfl e1)
    have g11 : dSet 11 (dCall gListNew (dCons (dVar 2) dNil)) (E (some (nW m)) x11 x12 x13) s1 = .ok (.nx, E (some (nW m)) (some (.ref s1.length)) x12 x13) (s1 ++ [iL (BL.zs D)]) := dSet_ok (new_iL (dVar_ok rfl))
    obtain ⟨y12, y13, s2, f, a', k'⟩ := loop27 (ns := ns) (D := D) (js := js) (m := m) (B := s1.length) (s := s1 ++ [iL (BL.zs D)]) hw el (x3 := x3) (x5 := x5) (x7 := x7) (x8 := x8) (x9 := x9) (x12 := x12) (x13 := x13) (by rw [List.getElem?_append_right (Nat.le_refl _), Nat.sub_self]; rfl)
    obtain ⟨t2, lo⟩ := left_over_ok (D := D) (js := js) (m := m) hw
    rw [← left50] at lo
    have bd : ∀ z ∈ CAL.leftF D ((js.take m).zip w), z.natAbs < 1024 := fun z hz => by
      have := left_bound ((js.take m).zip w) (BL.zs D) 60 (fun p hp => (h p.1 (List.mem_of_mem_take (List.of_mem_zip (show (p.1, p.2) ∈ (js.take m).zip w from hp)).1)).hi) (fun z hz => by
        obtain ⟨x, hx, rfl⟩ := List.mem_map.mp hz
        have := hD x hx
        omega) z hz
      have lz : ((js.take m).zip w).length ≤ 14 := by rw [List.length_zip, List.length_take]; omega
      omega
    have t29 : T_law_29 (E (some (nW m)) (some (.ref s1.length)) y12 y13) s2 = .ok false s2 := by
      unfold T_law_29
      exact ne_repr (sm_ints (n := 40) bd (by rw [left_len]; exact lD)) (by decide) (by decide) (dCalP_ok (dCons_ok (dVar_ok rfl) (dCons_ok (dVar_ok rfl) (dCons_ok (dVar_ok rfl) (dCons1_ok (dVar_ok rfl))))) rfl rfl lo) (dCall_ok (dCons1_ok (dVar_ok rfl)) (tuple_iL a'))
    refine ⟨_, _, _, _, s2, to (dIfS_f t22 rfl) (dIfS_t t24 (to g10 (to g11 (to f (dIfS_f t29 rfl))))), dealOk_keep d1.ok fun j hj => ?_⟩
    rw [k' j (by rw [List.length_append]; omega) (by omega), List.getElem?_append_left hj]
noncomputable abbrev EM (ns : List Int) (x2 x3 x4 x5 x6 x7 x8 x9 x10 x11 x12 x13 x14 x15 x16 x17 x18 x19 : Option W) : En := [some (.scr ns), some (.ref 1), x2, x3, x4, x5, x6, x7, x8, x9, x10, x11, x12, x13, x14, x15, x16, x17, x18, x19, none, none]
theorem lots_of' {Q : List Nat → Prop} : ∀ {ds : List PyData}, (∀ d ∈ ds, ∃ l : List Nat, d = lotD l ∧ Q l) → ∃ A : List (List Nat), ds = A.map lotD ∧ ∀ l ∈ A, Q l
  | [], _ => ⟨[], rfl, fun _ h => by cases h⟩
  | d :: ds, h => by
    obtain ⟨r, rfl, q⟩ := lots_of' fun d hd => h d (.tail _ hd)
    obtain ⟨y, rfl, hy⟩ := h d (.head _)
    exact ⟨y :: r, rfl, fun x hx => by
      rcases List.mem_cons.mp hx with rfl | hx
      · exact hy
      · exact q x hx⟩
theorem away_ok {T P : Nat} (hT : T ≤ 40) (hP : P ≤ 14) {x2 x3 x4 x5 x6 x8 x9 x10 x11 x12 x13 : Option W} {s : Sto} (d : DealOk s 1 0) : ∃ A s', X_law_32 (EM ns x2 x3 x4 x5 x6 (some (nW T)) x8 x9 x10 x11 x12 x13 (some (nW P)) none none none none none) s = .ok (.d (awD A)) s' ∧ A.length = P ∧ (∀ r ∈ A, r.Sublist (List.range T)) ∧ DealOk s' 1 0 := by
  let E := EM ns x2 x3 x4 x5 x6 (some (nW T)) x8 x9 x10 x11 x12 x13 (some (nW P)) none none none none none
  obtain ⟨ds, s', e, l', q, d'⟩ := lc_drawnG (v := 19) (N := P) (g := dVar 14) (fe := dCall gTupleOf (dCons (dLcF (dLc [13] (dRng1 (dCons (dVar 7) dNil)) (tName 13) (fun ρ st => asB (dBin (vEq false) (dCal 2 F_l_any (dCons (dVar 1) (dCons (dLit (.int 5)) dNil))) (dLit (.int 0)) ρ st)) (dVar 13))) dNil)) (ρ := E) (s := s) (s1 := s) (P := fun s => DealOk s 1 0) (Q := fun d => ∃ l : List Nat, d = lotD l ∧ l.Sublist (List.range T)) (dVar_ok rfl) (by omega) d fun i s _ hs => by
    obtain ⟨l, s', hl, e, d'⟩ := lc_subG (v := 13) (N := T) (g := dVar 7) (tt := fun ρ st => asB (dBin (vEq false) (dCal 2 F_l_any (dCons (dVar 1) (dCons (dLit (.int 5)) dNil))) (dLit (.int 0)) ρ st)) (ρ := E.set 19 (some (nW i))) (s := s) (s1 := s) (P := fun s => DealOk s 1 0) (dVar_ok rfl) (by omega) (by show 13 < 22; omega) hs fun x t ht => by
      obtain ⟨y, t', ey, _, dy⟩ := anyI (k := 5) ht (by decide) (by decide)
      exact ⟨_, t', asB_ok (dBin_ok (dCal_ok (dCons_ok (dVar_ok rfl) (dCons1_ok dLit_ok)) rfl ey) dLit_ok eq_ints), dy.ok⟩
    exact ⟨lotD l, s', dCall_ok (dCons1_ok e) tupleOf_list, ⟨l, rfl, hl⟩, d'⟩
  obtain ⟨A, rfl, hA⟩ := lots_of' q
  rw [List.length_map] at l'
  exact ⟨A, s', dCall_ok (dCons1_ok e) tupleOf_list, l', hA, d'⟩
theorem gone_mem {A : List (List Nat)} {row : List Nat} {day : Nat} : (!decide (day ∈ row.flatMap fun p => A.getD p [])) = !awayB A row day := by
  congr 1
  unfold awayB
  rw [Bool.eq_iff_iff, decide_eq_true_eq, List.mem_flatMap, List.any_eq_true]
  simp only [decide_eq_true_eq]
theorem loop34 {T B : Nat} {A : List (List Nat)} {ps : List Pc} (hT : T ≤ 40) (hA : ∀ r ∈ A, r.Sublist (List.range T)) (hp : ∀ p ∈ ps, p.2.length ≤ 1000 ∧ ∀ x ∈ p.2, x < A.length) (lp : ps.length ≤ 6) {x2 x3 x4 x6 x8 x9 x10 x11 x12 x13 x14 : Option W} {s : Sto} (a : s[B]? = some (.lst [])) : ∃ y17 y18 y19 s', dFor (dIter (dVar 16)) (tName 17) Q_law_34 (EM ns x2 x3 x4 (some (.ref B)) x6 (some (nW T)) x8 x9 x10 x11 x12 x13 x14 (some (.d (awD A))) (some (.d (packD ps))) none none none) s = .ok (.nx, EM ns x2 x3 x4 (some (.ref B)) x6 (some (nW T)) x8 x9 x10 x11 x12 x13 x14 (some (.d (awD A))) (some (.d (packD ps))) y17 y18 y19) s' ∧ s'[B]? = some (.lst (((ps.map fun p => jobOf A T p.2).map jobE).map W.d)) := by
  let E := fun x17 x18 x19 => EM ns x2 x3 x4 (some (.ref B)) x6 (some (nW T)) x8 x9 x10 x11 x12 x13 x14 (some (.d (awD A))) (some (.d (packD ps))) x17 x18 x19
  have rowl : ∀ p, (A.getD p []).length ≤ 40 := fun p => by
    rw [List.getD_eq_getElem?_getD]
    cases h : A[p]? with
    | none => exact Nat.zero_le _
    | some r =>
      have := (hA r (List.mem_of_getElem? h)).length_le
      rw [List.length_range] at this
      exact Nat.le_trans this hT
  have flat : ∀ l : List Nat, (l.flatMap fun p => A.getD p []).length ≤ 40 * l.length := fun l => by
    induction l with
    | nil => exact Nat.le_refl _
    | cons x l ih =>
      rw [List.flatMap_cons, List.length_append, List.length_cons]
      have := rowl x
      omega
  obtain ⟨ρ', s', f, y17, y18, y19, rfl, a'⟩ := forL_ok (tg := tName 17) (body := Q_law_34) (emb := fun p => W.d (pcE p))
    (P := fun pre ρ t => ∃ y17 y18 y19, ρ = E y17 y18 y19 ∧ t[B]? = some (.lst (((pre.map fun p => jobOf A T p.2).map jobE).map W.d))) ps
    (fun pre p post ρ t e q => by
      obtain ⟨y17, y18, y19, rfl, at'⟩ := q
      obtain ⟨h1, h2⟩ := hp p (by rw [e]; simp)
      have pl : pre.length ≤ 6 := by
        rw [e, List.length_append] at lp
        omega
      have pe : ∀ {x18 x19 : Option W} {t : Sto}, dBin vIx (dVar 17) (dUn vNeg (dLit (.int 1))) (E (some (.d (pcE p))) x18 x19) t = .ok (.d (lotD p.2)) t := fun {x18 x19 t} => dBin_ok (dVar_ok rfl) (dUn_ok (r := .ok (.d (.int (-1))) t) dLit_ok rfl) last_pc
      have g18 : dSet 18 (dLst dNil) (E (some (.d (pcE p))) y18 y19) t = .ok (.nx, E (some (.d (pcE p))) (some (.d (.list []))) y19) t := dSet_ok (lst_ok (ds := []) rfl rfl (by simp))
      obtain ⟨ρ2, t2, f2, z19, rfl, rfl⟩ := forL_ok (tg := tName 19) (body := Q_law_36) (emb := fun x : Nat => nW x)
        (P := fun pr ρ u => ∃ z19, ρ = E (some (.d (pcE p))) (some (.d (.list ((pr.flatMap fun p => A.getD p []).map nI)))) z19 ∧ t = u) p.2
        (fun pr x po ρ u e2 q => by
          obtain ⟨z19, rfl, rfl⟩ := q
          have hx := h2 x (by rw [e2]; simp)
          have lpr : pr.length + 1 ≤ 1000 := by
            rw [e2, List.length_append, List.length_cons] at h1
            omega
          let E2 := E (some (.d (pcE p))) (some (.d (.list ((pr.flatMap fun p => A.getD p []).map nI)))) (some (nW x))
          have lx : dCall gListOf (dCons (dBin vIx (dVar 15) (dVar 19)) dNil) E2 t = .ok (.d (.list ((A.getD x []).map nI))) t := dCall_ok (dCons1_ok (dBin_ok (dVar_ok rfl) (dVar_ok rfl) (aw_at hx))) (by simp [gListOf] <;> rfl)
          have f1 := flat pr
          have f2 := rowl x
          refine ⟨E2, t, _, t, rfl, dSet_ok (dBin_ok (dVar_ok rfl) lx (vAdd_lists (by rw [List.length_map, List.length_map]; omega))), some (nW x), ?_, rfl⟩
          rw [List.flatMap_append, List.map_append]
          have : [x].flatMap (fun p => A.getD p []) = A.getD x [] := by simp
          rw [this]; rfl)
        (ρ := E (some (.d (pcE p))) (some (.d (.list []))) y19) (s := t) ⟨_, rfl, rfl⟩
      let g := p.2.flatMap fun p => A.getD p []
      let E3 := E (some (.d (pcE p))) (some (.d (.list (g.map nI)))) z19
      have c := lc_flt (vs := [13]) (fi := dRng1 (dCons (dVar 7) dNil)) (tg := tName 13) (tt := fun ρ st => asB (dBin (vIn true) (dVar 13) (dVar 18) ρ st)) (fe := dVar 13) (ρ := E3) (s := t) (s1 := t) (emb := fun i : Nat => nW i) (p := fun i => !decide (i ∈ g)) (g := nI) (List.range T) (it_r (dVar_ok rfl) (by omega)) (by rw [List.length_range]; omega) fun i _ => ⟨E3.set 13 (some (nW i)), rfl, asB_ok (dBin_ok (dVar_ok rfl) (dVar_ok rfl) (by
        have := vNotIn_natL (l := g) (i := i) (st := t)
        exact this)), fun _ => dVar_ok rfl⟩
      have ef : (List.range T).filter (fun i => !decide (i ∈ g)) = (List.range T).filter fun i => !awayB A p.2 i := List.filter_congr fun i _ => gone_mem
      rw [ef] at c
      have tp : dTup (dCons (dCall gLen (dCons (dBin vIx (dVar 17) (dUn vNeg (dLit (.int 1)))) dNil)) (dCons (dCall gTupleOf (dCons (dLcF (dLc [13] (dRng1 (dCons (dVar 7) dNil)) (tName 13) (fun ρ st => asB (dBin (vIn true) (dVar 13) (dVar 18) ρ st)) (dVar 13))) dNil)) dNil)) E3 t = .ok (.d (jobE (jobOf A T p.2))) t := two (a := nI p.2.length) (b := lotD ((List.range T).filter fun i => !awayB A p.2 i)) (dCall_ok (dCons1_ok pe) gLen_tmap) (dCall_ok (dCons1_ok c) tupleOf_list)
      refine ⟨E (some (.d (pcE p))) y18 y19, t, E3, _, rfl, to g18 (to (dFor_ok (it_t (emb := nI) pe) f2) (dExpr_ok (dMeth_ok (dVar_ok rfl) at' (dCons1_ok tp) (append_ok at' (by rw [List.length_map, List.length_map, List.length_map]; omega))))), _, _, _, rfl, ?_⟩
      rw [List.getElem?_set_self (lt_len at'), List.map_append, List.map_append, List.map_append]; rfl)
    (ρ := E none none none) (s := s) ⟨_, _, _, rfl, a⟩
  exact ⟨_, _, _, s', dFor_ok (it_t (emb := pcE) (dVar_ok rfl)) f, a'⟩
end
theorem F_law_ok (ns : List Int) (hns : ns.length ≤ 63) : ∃ st, F_law [.scr ns] [] = .ok (.d (.bool true)) st := by
  obtain ⟨s1, d1, d2⟩ := F_draw_ok ns 50 hns (by decide)
  have g1 : dSet 1 (dCal 2 F_l_draw (dCons (dVar 0) (dCons (dLit (.int 50)) dNil))) [some (.scr ns), none, none, none, none, none, none, none, none, none, none, none, none, none, none, none, none, none, none, none, none, none] [] = .ok (.nx, EL ns none none none none none none none none none none none none) s1 :=
    dSet_ok (dCal_ok (dCons_ok (dVar_ok rfl) (dCons1_ok rfl)) rfl d1)
  obtain ⟨D0, s2, e2, l0, b0, d3⟩ := cal_start (ns := ns) d2
  have g2 : dSet 2 X_law_2 (EL ns none none none none none none none none none none none none) s1 = .ok (.nx, EL ns (some (.d (lotD D0))) none none none none none none none none none none none) s2 := dSet_ok e2
  have g3 : ∀ {F : DS}, dIfS T_law_3 F dEnd (EL ns (some (.d (lotD D0))) none none none none none none none none none none none) s2 = .ok (.nx, EL ns (some (.d (lotD D0))) none none none none none none none none none none none) s2 := fun {F} => dIfS_f (test3 b0 l0) rfl
  let D := D0.take 40
  have lD : D.length ≤ 40 := by show (D0.take 40).length ≤ 40; rw [List.length_take]; omega
  have hD : ∀ x ∈ D, x < 61 := fun x hx => b0 x (List.mem_of_mem_take hx)
  have g4 : dSet 2 (dSl (dVar 2) dNoP (dPart (dLit (.int 40)))) (EL ns (some (.d (lotD D0))) none none none none none none none none none none none) s2 = .ok (.nx, EL ns (some (.d (lotD D))) none none none none none none none none none none none) s2 := by
    refine dSet_ok ?_
    have := BP.sl_ok (fe := dVar 2) (lo := dNoP) (hi := dPart (dLit (.int 40))) (ρ := EL ns (some (.d (lotD D0))) none none none none none none none none none none none) (s := s2) (s1 := s2) (ds := D0.map nI) (a := none) (b := some ((40 : Nat) : Int)) (dVar_ok rfl) rfl (dPart_ok dLit_ok)
    rw [this, BL.cut_take, ← List.map_take]
  obtain ⟨ρ5, s5, f5, y3, y4, y5, rfl, d5⟩ := forL_ok (tg := tName 3) (body := Q_law_6) (emb := fun i : Nat => nW i)
    (P := fun pre ρ t => ∃ y3 y4 y5, ρ = EL ns (some (.d (lotD D))) y3 y4 y5 none none none none none none none none ∧ DealOk t 1 0) (List.range 3)
    (fun pre i post ρ t e q => by
      obtain ⟨y3, y4, y5, rfl, dt⟩ := q
      obtain ⟨z4, z5, t', et, dt'⟩ := turn6 (ns := ns) hD lD (x3 := some (nW i)) (x4 := y4) (x5 := y5) (x6 := none) (x7 := none) (x8 := none) (x9 := none) (x10 := none) (x11 := none) (x12 := none) (x13 := none) dt
      exact ⟨_, t, _, t', rfl, et, _, _, _, rfl, dt'⟩)
    (ρ := EL ns (some (.d (lotD D))) none none none none none none none none none none none) (s := s2) ⟨_, _, _, rfl, d3⟩
  obtain ⟨js0, s6, e6, l6, ok6, d6⟩ := jobs_start (ns := ns) lD (x3 := y3) (x4 := y4) (x5 := y5) (x7 := none) (x8 := none) (x9 := none) (x10 := none) (x11 := none) (x12 := none) (x13 := none) d5
  have g6 := dSet_ok (i := 6) e6
  have g7 : ∀ {F : DS}, dIfS T_law_12 F dEnd (EL ns (some (.d (lotD D))) y3 y4 y5 (some (.d (jobsD js0))) none none none none none none none) s6 = .ok (.nx, EL ns (some (.d (lotD D))) y3 y4 y5 (some (.d (jobsD js0))) none none none none none none none) s6 := fun {F} => dIfS_f (test12 lD ok6 l6) rfl
  let js := js0.take 14
  have lJ : js.length ≤ 14 := by show (js0.take 14).length ≤ 14; rw [List.length_take]; omega
  have hJ : ∀ j ∈ js, JobOk D.length j := fun j hj => ok6 j (List.mem_of_mem_take hj)
  have g8 : dAsg (dTup (dCons (dSl (dVar 6) dNoP (dPart (dLit (.int 14)))) (dCons (dCall gLen (dCons (dVar 2) dNil)) dNil))) (tTup' 2 (tCons' (tName 6) (tCons' (tName 7) tNil'))) (EL ns (some (.d (lotD D))) y3 y4 y5 (some (.d (jobsD js0))) none none none none none none none) s6 = .ok (.nx, EL ns (some (.d (lotD D))) y3 y4 y5 (some (.d (jobsD js))) (some (nW D.length)) none none none none none none) s6 := by
    have sl : dSl (dVar 6) dNoP (dPart (dLit (.int 14))) (EL ns (some (.d (lotD D))) y3 y4 y5 (some (.d (jobsD js0))) none none none none none none none) s6 = .ok (.d (jobsD js)) s6 := by
      have := BP.sl_ok (fe := dVar 6) (lo := dNoP) (hi := dPart (dLit (.int 14))) (ρ := EL ns (some (.d (lotD D))) y3 y4 y5 (some (.d (jobsD js0))) none none none none none none none) (s := s6) (s1 := s6) (ds := js0.map jobE) (a := none) (b := some ((14 : Nat) : Int)) (dVar_ok rfl) rfl (dPart_ok dLit_ok)
      rw [this, BL.cut_take, ← List.map_take]
    exact dAsg_ok (two (a := jobsD js) (b := nI D.length) sl (dCall_ok (dCons1_ok (dVar_ok rfl)) gLen_tmap)) rfl
  obtain ⟨ρ9, s9, f9, z3, z4, z8, rfl, d9⟩ := forL_ok (tg := tName 3) (body := Q_law_15) (emb := fun i : Nat => nW i)
    (P := fun pre ρ t => ∃ z3 z4 z8, ρ = EL ns (some (.d (lotD D))) z3 z4 y5 (some (.d (jobsD js))) (some (nW D.length)) z8 none none none none none ∧ DealOk t 1 0) (List.range 4)
    (fun pre i post ρ t e q => by
      obtain ⟨z3, z4, z8, rfl, dt⟩ := q
      obtain ⟨w4, w8, t', et, dt'⟩ := turn15 (ns := ns) lD hJ lJ (x3 := some (nW i)) (x4 := z4) (x5 := y5) (x8 := z8) (x9 := none) (x10 := none) (x11 := none) (x12 := none) (x13 := none) dt
      exact ⟨_, t, _, t', rfl, et, _, _, _, rfl, dt'⟩)
    (ρ := EL ns (some (.d (lotD D))) y3 y4 y5 (some (.d (jobsD js))) (some (nW D.length)) none none none none none none) (s := s6) ⟨_, _, _, rfl, d6⟩
  obtain ⟨ds, s10, e10, l10, w10, d10⟩ := table_ok (ns := ns) lD hJ lJ (x3 := z3) (x4 := z4) (x5 := y5) (x7 := some (nW D.length)) (x8 := z8) (x9 := none) (x10 := none) (x11 := none) (x12 := none) (x13 := none) d9
  have g10 := dSet_ok (i := 9) e10
  obtain ⟨vs, s11, e11, w11, d11⟩ := tables_ok (ns := ns) (D := D) (ds := ds) (by omega) w10 (x2 := some (.d (lotD D))) (x3 := z3) (x4 := z4) (x5 := y5) (x6 := some (.d (jobsD js))) (x8 := z8) (x10 := none) (x11 := none) (x12 := none) (x13 := none) d10
  let EV := fun v4 v10 v11 v12 v13 => EL ns (some (.d (lotD D))) z3 v4 y5 (some (.d (jobsD js))) (some (nW D.length)) z8 (some (.d (.tuple ds))) v10 v11 v12 v13
  obtain ⟨ρ12, s12, f12, v4, v10, v11, v12, v13, rfl, d12⟩ := forL_ok (tg := tName 4) (body := Q_law_21) (emb := fun d => W.d d)
    (P := fun pre ρ t => ∃ v4 v10 v11 v12 v13, ρ = EV v4 v10 v11 v12 v13 ∧ DealOk t 1 0) vs
    (fun pre v post ρ t e q => by
      obtain ⟨v4, v10, v11, v12, v13, rfl, dt⟩ := q
      obtain ⟨w10, w11', w12, w13, t', et, dt'⟩ := turn21 (ns := ns) lD hD hJ lJ (w11 v (by rw [e]; simp)) (x3 := z3) (x5 := y5) (x7 := some (nW D.length)) (x8 := z8) (x9 := some (.d (.tuple ds))) (x10 := v10) (x11 := v11) (x12 := v12) (x13 := v13) dt
      exact ⟨_, t, _, t', rfl, et, _, _, _, _, _, rfl, dt'⟩)
    (ρ := EV z4 none none none none) (s := s11) ⟨_, _, _, _, _, rfl, d11⟩
  obtain ⟨P, s13, e13, hP, d13⟩ := anyI (k := 15) d12 (by decide) (by decide)
  let EX := fun x5 x14 x15 x16 x17 x18 x19 => EM ns (some (.d (lotD D))) z3 v4 x5 (some (.d (jobsD js))) (some (nW D.length)) z8 (some (.d (.tuple ds))) v10 v11 v12 v13 x14 x15 x16 x17 x18 x19
  have g13 : dSet 14 (dCal 2 F_l_any (dCons (dVar 1) (dCons (dLit (.int 15)) dNil))) (EV v4 v10 v11 v12 v13) s12 = .ok (.nx, EX y5 (some (nW P)) none none none none none) s13 := dSet_ok (dCal_ok (dCons_ok (dVar_ok rfl) (dCons1_ok dLit_ok)) rfl e13)
  obtain ⟨A, s14, e14, lA, hA, d14⟩ := away_ok (ns := ns) (T := D.length) (P := P) lD (by omega) (x2 := some (.d (lotD D))) (x3 := z3) (x4 := v4) (x5 := y5) (x6 := some (.d (jobsD js))) (x8 := z8) (x9 := some (.d (.tuple ds))) (x10 := v10) (x11 := v11) (x12 := v12) (x13 := v13) d13.ok
  have g14 : dSet 15 X_law_32 (EX y5 (some (nW P)) none none none none none) s13 = .ok (.nx, EX y5 (some (nW P)) (some (.d (awD A))) none none none none) s14 := dSet_ok e14
  obtain ⟨ps, s15, e15, lp, hp, d15⟩ := l_pack_ok (m := P) (by omega) d14
  rw [← pack50] at e15
  have g15 : dPar 16 5 (dCons (dCal 2 F_l_pack (dCons (dVar 1) (dCons (dVar 14) dNil))) (dCons (dNew dNil) dNil)) (EX y5 (some (nW P)) (some (.d (awD A))) none none none none) s14 = .ok (.nx, EX (some (.ref s15.length)) (some (nW P)) (some (.d (awD A))) (some (.d (packD ps))) none none none) (s15 ++ [.lst []]) := by
    have r : dCons (dCal 2 F_l_pack (dCons (dVar 1) (dCons (dVar 14) dNil))) (dCons (dNew dNil) dNil) (EX y5 (some (nW P)) (some (.d (awD A))) none none none none) s14 = .ok [.d (packD ps), .ref s15.length] (s15 ++ [.lst []]) := dCons_ok (dCal_ok (dCons_ok (dVar_ok rfl) (dCons1_ok (dVar_ok rfl))) rfl e15) (dCons1_ok (dNew_ok (fa := dNil) (s1 := s15) (ws := []) rfl (Nat.zero_le _)))
    exact BL.dPar_ok r
  have hp' : ∀ p ∈ ps, p.2.length ≤ 1000 ∧ ∀ x ∈ p.2, x < A.length := by rw [lA]; exact hp
  obtain ⟨y17, y18, y19, s16, f16, a16⟩ := loop34 (ns := ns) (T := D.length) (B := s15.length) lD hA hp' lp (x2 := some (.d (lotD D))) (x3 := z3) (x4 := v4) (x6 := some (.d (jobsD js))) (x8 := z8) (x9 := some (.d (.tuple ds))) (x10 := v10) (x11 := v11) (x12 := v12) (x13 := v13) (x14 := some (nW P)) (s := s15 ++ [.lst []]) (by rw [List.getElem?_append_right (Nat.le_refl _), Nat.sub_self]; rfl)
  obtain ⟨t, jo⟩ := jobs_of_ok (D := D) (A := A) (ps := ps) (by omega) hp' (by omega)
  rw [← jobsof50] at jo
  have sj := sm_jobs (js := ps.map fun p => jobOf A D.length p.2) (fun j hj => by
    obtain ⟨p, hpm, rfl⟩ := List.mem_map.mp hj
    refine ⟨by show p.2.length < 1024; have := (hp p hpm).1; omega, fun x hx => ?_, ?_⟩
    · have := List.mem_range.mp (List.mem_filter.mp hx).1
      omega
    · refine Nat.le_trans (List.length_filter_le _ _) ?_
      rw [List.length_range]
      exact lD) (by rw [List.length_map]; omega)
  have fin : dBin (vEq false) (dCall gRepr (dCons (dCalP 3 (fun ws => F_jobs_of (pick [0, 1, 2] ws)) (dCons (dVar 2) (dCons (dVar 16) (dCons (dVar 15) dNil)))) dNil)) (dCall gRepr (dCons (dCall gTupleOf (dCons (dVar 5) dNil)) dNil)) (EX (some (.ref s15.length)) (some (nW P)) (some (.d (awD A))) (some (.d (packD ps))) y17 y18 y19) s16 = .ok (.d (.bool true)) s16 :=
    dBin_ok (dCall_ok (dCons1_ok (dCalP_ok (dCons_ok (dVar_ok rfl) (dCons_ok (dVar_ok rfl) (dCons1_ok (dVar_ok rfl)))) rfl rfl jo)) (sj.repr (by decide) (by decide))) (dCall_ok (dCons1_ok (dCall_ok (dCons1_ok (dVar_ok rfl)) (tuple_data a16))) (sj.repr (by decide) (by decide))) (by simp [vEq])
  exact ⟨_, dDef_rt (to g1 (to g2 (to g3 (to g4 (to (dFor_ok (it_r (n := 3) dLit_ok (by decide)) f5) (to g6 (to g7 (to g8 (to (dFor_ok (it_r (n := 4) dLit_ok (by decide)) f9) (to g10 (to (dFor_ok e11 f12) (to g13 (to g14 (to g15 (to f16 (dRet_ok fin))))))))))))))))⟩
end G
namespace G
open PySem PySem.Spec PyProof.Rows L2 Y
theorem all_mk {P : Program} {w : World} {K : PySem.W.Frag} {h : Heap} {mg : Str → Option Value} (X : K.In h) (G : h.Ns mainGlobals mg)
    {f0 : Addr} {od0 an0 : Option Addr} {sl0 : Array (Option Value)} {oc0 kV0 dc0 pm0 cd0 ct0 : Value}
    (a0 : PySem.W.nsIn K mainGlobals "is_integer" = some (some (.ref f0))) (l0 : K.lookup f0 = some ⟨oc0, od0, .func (PySem.W.fnOf "is_integer" "is_integer" (C8.fnArgs s_is_integer) (C8.fnBody s_is_integer) (C8.fnScope s_is_integer) .none kV0 dc0 pm0 an0 cd0 ct0), sl0⟩) (c0 : PySem.W.codeIn K cd0 "is_integer" = true) (k0 : PySem.W.keepIn K (.ref f0) = true)
    {f1 : Addr} {od1 an1 : Option Addr} {sl1 : Array (Option Value)} {oc1 kV1 dc1 pm1 cd1 ct1 : Value}
    (a1 : PySem.W.nsIn K mainGlobals "is_number" = some (some (.ref f1))) (l1 : K.lookup f1 = some ⟨oc1, od1, .func (PySem.W.fnOf "is_number" "is_number" (C8.fnArgs s_is_number) (C8.fnBody s_is_number) (C8.fnScope s_is_number) .none kV1 dc1 pm1 an1 cd1 ct1), sl1⟩) (c1 : PySem.W.codeIn K cd1 "is_number" = true) (k1 : PySem.W.keepIn K (.ref f1) = true)
    {f2 : Addr} {od2 an2 : Option Addr} {sl2 : Array (Option Value)} {oc2 kV2 dc2 pm2 cd2 ct2 : Value}
    (a2 : PySem.W.nsIn K mainGlobals "is_below" = some (some (.ref f2))) (l2 : K.lookup f2 = some ⟨oc2, od2, .func (PySem.W.fnOf "is_below" "is_below" (C8.fnArgs s_is_below) (C8.fnBody s_is_below) (C8.fnScope s_is_below) .none kV2 dc2 pm2 an2 cd2 ct2), sl2⟩) (c2 : PySem.W.codeIn K cd2 "is_below" = true) (k2 : PySem.W.keepIn K (.ref f2) = true)
    {f3 : Addr} {od3 an3 : Option Addr} {sl3 : Array (Option Value)} {oc3 kV3 dc3 pm3 cd3 ct3 : Value}
    (a3 : PySem.W.nsIn K mainGlobals "is_tuple_of" = some (some (.ref f3))) (l3 : K.lookup f3 = some ⟨oc3, od3, .func (PySem.W.fnOf "is_tuple_of" "is_tuple_of" (C8.fnArgs s_is_tuple_of) (C8.fnBody s_is_tuple_of) (C8.fnScope s_is_tuple_of) .none kV3 dc3 pm3 an3 cd3 ct3), sl3⟩) (c3 : PySem.W.codeIn K cd3 "is_tuple_of" = true) (k3 : PySem.W.keepIn K (.ref f3) = true)
    {f4 : Addr} {od4 an4 : Option Addr} {sl4 : Array (Option Value)} {oc4 kV4 dc4 pm4 cd4 ct4 : Value}
    (a4 : PySem.W.nsIn K mainGlobals "is_ascending" = some (some (.ref f4))) (l4 : K.lookup f4 = some ⟨oc4, od4, .func (PySem.W.fnOf "is_ascending" "is_ascending" (C8.fnArgs s_is_ascending) (C8.fnBody s_is_ascending) (C8.fnScope s_is_ascending) .none kV4 dc4 pm4 an4 cd4 ct4), sl4⟩) (c4 : PySem.W.codeIn K cd4 "is_ascending" = true) (k4 : PySem.W.keepIn K (.ref f4) = true)
    {f5 : Addr} {od5 an5 : Option Addr} {sl5 : Array (Option Value)} {oc5 kV5 dc5 pm5 cd5 ct5 : Value}
    (a5 : PySem.W.nsIn K mainGlobals "are_below" = some (some (.ref f5))) (l5 : K.lookup f5 = some ⟨oc5, od5, .func (PySem.W.fnOf "are_below" "are_below" (C8.fnArgs s_are_below) (C8.fnBody s_are_below) (C8.fnScope s_are_below) .none kV5 dc5 pm5 an5 cd5 ct5), sl5⟩) (c5 : PySem.W.codeIn K cd5 "are_below" = true) (k5 : PySem.W.keepIn K (.ref f5) = true)
    {f6 : Addr} {od6 an6 : Option Addr} {sl6 : Array (Option Value)} {oc6 kV6 dc6 pm6 cd6 ct6 : Value}
    (a6 : PySem.W.nsIn K mainGlobals "are_ascending_below" = some (some (.ref f6))) (l6 : K.lookup f6 = some ⟨oc6, od6, .func (PySem.W.fnOf "are_ascending_below" "are_ascending_below" (C8.fnArgs s_are_ascending_below) (C8.fnBody s_are_ascending_below) (C8.fnScope s_are_ascending_below) .none kV6 dc6 pm6 an6 cd6 ct6), sl6⟩) (c6 : PySem.W.codeIn K cd6 "are_ascending_below" = true) (k6 : PySem.W.keepIn K (.ref f6) = true)
    {f7 : Addr} {od7 an7 : Option Addr} {sl7 : Array (Option Value)} {oc7 kV7 dc7 pm7 cd7 ct7 : Value}
    (a7 : PySem.W.nsIn K mainGlobals "people_of" = some (some (.ref f7))) (l7 : K.lookup f7 = some ⟨oc7, od7, .func (PySem.W.fnOf "people_of" "people_of" (C8.fnArgs s_people_of) (C8.fnBody s_people_of) (C8.fnScope s_people_of) .none kV7 dc7 pm7 an7 cd7 ct7), sl7⟩) (c7 : PySem.W.codeIn K cd7 "people_of" = true) (k7 : PySem.W.keepIn K (.ref f7) = true)
    {f8 : Addr} {od8 an8 : Option Addr} {sl8 : Array (Option Value)} {oc8 kV8 dc8 pm8 cd8 ct8 : Value}
    (a8 : PySem.W.nsIn K mainGlobals "is_calendar" = some (some (.ref f8))) (l8 : K.lookup f8 = some ⟨oc8, od8, .func (PySem.W.fnOf "is_calendar" "is_calendar" (C8.fnArgs s_is_calendar) (C8.fnBody s_is_calendar) (C8.fnScope s_is_calendar) .none kV8 dc8 pm8 an8 cd8 ct8), sl8⟩) (c8 : PySem.W.codeIn K cd8 "is_calendar" = true) (k8 : PySem.W.keepIn K (.ref f8) = true)
    {f9 : Addr} {od9 an9 : Option Addr} {sl9 : Array (Option Value)} {oc9 kV9 dc9 pm9 cd9 ct9 : Value}
    (a9 : PySem.W.nsIn K mainGlobals "_is_job" = some (some (.ref f9))) (l9 : K.lookup f9 = some ⟨oc9, od9, .func (PySem.W.fnOf "_is_job" "_is_job" (C8.fnArgs s_is_job) (C8.fnBody s_is_job) (C8.fnScope s_is_job) .none kV9 dc9 pm9 an9 cd9 ct9), sl9⟩) (c9 : PySem.W.codeIn K cd9 "_is_job" = true) (k9 : PySem.W.keepIn K (.ref f9) = true)
    {f10 : Addr} {od10 an10 : Option Addr} {sl10 : Array (Option Value)} {oc10 kV10 dc10 pm10 cd10 ct10 : Value}
    (a10 : PySem.W.nsIn K mainGlobals "are_jobs" = some (some (.ref f10))) (l10 : K.lookup f10 = some ⟨oc10, od10, .func (PySem.W.fnOf "are_jobs" "are_jobs" (C8.fnArgs s_are_jobs) (C8.fnBody s_are_jobs) (C8.fnScope s_are_jobs) .none kV10 dc10 pm10 an10 cd10 ct10), sl10⟩) (c10 : PySem.W.codeIn K cd10 "are_jobs" = true) (k10 : PySem.W.keepIn K (.ref f10) = true)
    {f11 : Addr} {od11 an11 : Option Addr} {sl11 : Array (Option Value)} {oc11 kV11 dc11 pm11 cd11 ct11 : Value}
    (a11 : PySem.W.nsIn K mainGlobals "jobs_of" = some (some (.ref f11))) (l11 : K.lookup f11 = some ⟨oc11, od11, .func (PySem.W.fnOf "jobs_of" "jobs_of" (C8.fnArgs s_jobs_of) (C8.fnBody s_jobs_of) (C8.fnScope s_jobs_of) .none kV11 dc11 pm11 an11 cd11 ct11), sl11⟩) (c11 : PySem.W.codeIn K cd11 "jobs_of" = true) (k11 : PySem.W.keepIn K (.ref f11) = true)
    {f12 : Addr} {od12 an12 : Option Addr} {sl12 : Array (Option Value)} {oc12 kV12 dc12 pm12 cd12 ct12 : Value}
    (a12 : PySem.W.nsIn K mainGlobals "left_over" = some (some (.ref f12))) (l12 : K.lookup f12 = some ⟨oc12, od12, .func (PySem.W.fnOf "left_over" "left_over" (C8.fnArgs s_left_over) (C8.fnBody s_left_over) (C8.fnScope s_left_over) .none kV12 dc12 pm12 an12 cd12 ct12), sl12⟩) (c12 : PySem.W.codeIn K cd12 "left_over" = true) (k12 : PySem.W.keepIn K (.ref f12) = true)
    {f13 : Addr} {od13 an13 : Option Addr} {sl13 : Array (Option Value)} {oc13 kV13 dc13 pm13 cd13 ct13 : Value}
    (a13 : PySem.W.nsIn K mainGlobals "is_timetable" = some (some (.ref f13))) (l13 : K.lookup f13 = some ⟨oc13, od13, .func (PySem.W.fnOf "is_timetable" "is_timetable" (C8.fnArgs s_is_timetable) (C8.fnBody s_is_timetable) (C8.fnScope s_is_timetable) .none kV13 dc13 pm13 an13 cd13 ct13), sl13⟩) (c13 : PySem.W.codeIn K cd13 "is_timetable" = true) (k13 : PySem.W.keepIn K (.ref f13) = true)
    {f14 : Addr} {od14 an14 : Option Addr} {sl14 : Array (Option Value)} {oc14 kV14 dc14 pm14 cd14 ct14 : Value}
    (a14 : PySem.W.nsIn K mainGlobals "_law_draw" = some (some (.ref f14))) (l14 : K.lookup f14 = some ⟨oc14, od14, .func (PySem.W.fnOf "_law_draw" "_law_draw" (C8.fnArgs s_l_draw) (C8.fnBody s_l_draw) (C8.fnScope s_l_draw) .none kV14 dc14 pm14 an14 cd14 ct14), sl14⟩) (c14 : PySem.W.codeIn K cd14 "_law_draw" = true) (k14 : PySem.W.keepIn K (.ref f14) = true)
    {f15 : Addr} {od15 an15 : Option Addr} {sl15 : Array (Option Value)} {oc15 kV15 dc15 pm15 cd15 ct15 : Value}
    (a15 : PySem.W.nsIn K mainGlobals "_law_any" = some (some (.ref f15))) (l15 : K.lookup f15 = some ⟨oc15, od15, .func (PySem.W.fnOf "_law_any" "_law_any" (C8.fnArgs s_l_any) (C8.fnBody s_l_any) (C8.fnScope s_l_any) .none kV15 dc15 pm15 an15 cd15 ct15), sl15⟩) (c15 : PySem.W.codeIn K cd15 "_law_any" = true) (k15 : PySem.W.keepIn K (.ref f15) = true)
    {f16 : Addr} {od16 an16 : Option Addr} {sl16 : Array (Option Value)} {oc16 kV16 dc16 pm16 cd16 ct16 : Value}
    (a16 : PySem.W.nsIn K mainGlobals "_law_of" = some (some (.ref f16))) (l16 : K.lookup f16 = some ⟨oc16, od16, .func (PySem.W.fnOf "_law_of" "_law_of" (C8.fnArgs s_l_of) (C8.fnBody s_l_of) (C8.fnScope s_l_of) .none kV16 dc16 pm16 an16 cd16 ct16), sl16⟩) (c16 : PySem.W.codeIn K cd16 "_law_of" = true) (k16 : PySem.W.keepIn K (.ref f16) = true)
    {f17 : Addr} {od17 an17 : Option Addr} {sl17 : Array (Option Value)} {oc17 kV17 dc17 pm17 cd17 ct17 : Value}
    (a17 : PySem.W.nsIn K mainGlobals "_law_mixed" = some (some (.ref f17))) (l17 : K.lookup f17 = some ⟨oc17, od17, .func (PySem.W.fnOf "_law_mixed" "_law_mixed" (C8.fnArgs s_l_mixed) (C8.fnBody s_l_mixed) (C8.fnScope s_l_mixed) .none kV17 dc17 pm17 an17 cd17 ct17), sl17⟩) (c17 : PySem.W.codeIn K cd17 "_law_mixed" = true) (k17 : PySem.W.keepIn K (.ref f17) = true)
    {f18 : Addr} {od18 an18 : Option Addr} {sl18 : Array (Option Value)} {oc18 kV18 dc18 pm18 cd18 ct18 : Value}
    (a18 : PySem.W.nsIn K mainGlobals "_law_calendar" = some (some (.ref f18))) (l18 : K.lookup f18 = some ⟨oc18, od18, .func (PySem.W.fnOf "_law_calendar" "_law_calendar" (C8.fnArgs s_l_calendar) (C8.fnBody s_l_calendar) (C8.fnScope s_l_calendar) .none kV18 dc18 pm18 an18 cd18 ct18), sl18⟩) (c18 : PySem.W.codeIn K cd18 "_law_calendar" = true) (k18 : PySem.W.keepIn K (.ref f18) = true)
    {f19 : Addr} {od19 an19 : Option Addr} {sl19 : Array (Option Value)} {oc19 kV19 dc19 pm19 cd19 ct19 : Value}
    (a19 : PySem.W.nsIn K mainGlobals "_law_jobs" = some (some (.ref f19))) (l19 : K.lookup f19 = some ⟨oc19, od19, .func (PySem.W.fnOf "_law_jobs" "_law_jobs" (C8.fnArgs s_l_jobs) (C8.fnBody s_l_jobs) (C8.fnScope s_l_jobs) .none kV19 dc19 pm19 an19 cd19 ct19), sl19⟩) (c19 : PySem.W.codeIn K cd19 "_law_jobs" = true) (k19 : PySem.W.keepIn K (.ref f19) = true)
    {f20 : Addr} {od20 an20 : Option Addr} {sl20 : Array (Option Value)} {oc20 kV20 dc20 pm20 cd20 ct20 : Value}
    (a20 : PySem.W.nsIn K mainGlobals "_law_is_count" = some (some (.ref f20))) (l20 : K.lookup f20 = some ⟨oc20, od20, .func (PySem.W.fnOf "_law_is_count" "_law_is_count" (C8.fnArgs s_l_is_count) (C8.fnBody s_l_is_count) (C8.fnScope s_l_is_count) .none kV20 dc20 pm20 an20 cd20 ct20), sl20⟩) (c20 : PySem.W.codeIn K cd20 "_law_is_count" = true) (k20 : PySem.W.keepIn K (.ref f20) = true)
    {f21 : Addr} {od21 an21 : Option Addr} {sl21 : Array (Option Value)} {oc21 kV21 dc21 pm21 cd21 ct21 : Value}
    (a21 : PySem.W.nsIn K mainGlobals "_law_are_jobs" = some (some (.ref f21))) (l21 : K.lookup f21 = some ⟨oc21, od21, .func (PySem.W.fnOf "_law_are_jobs" "_law_are_jobs" (C8.fnArgs s_l_are_jobs) (C8.fnBody s_l_are_jobs) (C8.fnScope s_l_are_jobs) .none kV21 dc21 pm21 an21 cd21 ct21), sl21⟩) (c21 : PySem.W.codeIn K cd21 "_law_are_jobs" = true) (k21 : PySem.W.keepIn K (.ref f21) = true)
    {f22 : Addr} {od22 an22 : Option Addr} {sl22 : Array (Option Value)} {oc22 kV22 dc22 pm22 cd22 ct22 : Value}
    (a22 : PySem.W.nsIn K mainGlobals "_law_fits" = some (some (.ref f22))) (l22 : K.lookup f22 = some ⟨oc22, od22, .func (PySem.W.fnOf "_law_fits" "_law_fits" (C8.fnArgs s_l_fits) (C8.fnBody s_l_fits) (C8.fnScope s_l_fits) .none kV22 dc22 pm22 an22 cd22 ct22), sl22⟩) (c22 : PySem.W.codeIn K cd22 "_law_fits" = true) (k22 : PySem.W.keepIn K (.ref f22) = true)
    {f23 : Addr} {od23 an23 : Option Addr} {sl23 : Array (Option Value)} {oc23 kV23 dc23 pm23 cd23 ct23 : Value}
    (a23 : PySem.W.nsIn K mainGlobals "_law_turned" = some (some (.ref f23))) (l23 : K.lookup f23 = some ⟨oc23, od23, .func (PySem.W.fnOf "_law_turned" "_law_turned" (C8.fnArgs s_l_turned) (C8.fnBody s_l_turned) (C8.fnScope s_l_turned) .none kV23 dc23 pm23 an23 cd23 ct23), sl23⟩) (c23 : PySem.W.codeIn K cd23 "_law_turned" = true) (k23 : PySem.W.keepIn K (.ref f23) = true)
    {f24 : Addr} {od24 an24 : Option Addr} {sl24 : Array (Option Value)} {oc24 kV24 dc24 pm24 cd24 ct24 : Value}
    (a24 : PySem.W.nsIn K mainGlobals "_law_pack" = some (some (.ref f24))) (l24 : K.lookup f24 = some ⟨oc24, od24, .func (PySem.W.fnOf "_law_pack" "_law_pack" (C8.fnArgs s_l_pack) (C8.fnBody s_l_pack) (C8.fnScope s_l_pack) .none kV24 dc24 pm24 an24 cd24 ct24), sl24⟩) (c24 : PySem.W.codeIn K cd24 "_law_pack" = true) (k24 : PySem.W.keepIn K (.ref f24) = true)
    {f25 : Addr} {od25 an25 : Option Addr} {sl25 : Array (Option Value)} {oc25 kV25 dc25 pm25 cd25 ct25 : Value}
    (a25 : PySem.W.nsIn K mainGlobals "law" = some (some (.ref f25))) (l25 : K.lookup f25 = some ⟨oc25, od25, .func (PySem.W.fnOf "law" "law" (C8.fnArgs s_law) (C8.fnBody s_law) (C8.fnScope s_law) .none kV25 dc25 pm25 an25 cd25 ct25), sl25⟩) (c25 : PySem.W.codeIn K cd25 "law" = true) (k25 : PySem.W.keepIn K (.ref f25) = true)
    (y_abs : PySem.W.nsIn K mainGlobals "abs" = some none)
    (y_all : PySem.W.nsIn K mainGlobals "all" = some none)
    (y_any : PySem.W.nsIn K mainGlobals "any" = some none)
    (y_bool : PySem.W.nsIn K mainGlobals "bool" = some none)
    (y_enumerate : PySem.W.nsIn K mainGlobals "enumerate" = some none)
    (y_int : PySem.W.nsIn K mainGlobals "int" = some none)
    (y_isinstance : PySem.W.nsIn K mainGlobals "isinstance" = some none)
    (y_len : PySem.W.nsIn K mainGlobals "len" = some none)
    (y_list : PySem.W.nsIn K mainGlobals "list" = some none)
    (y_min : PySem.W.nsIn K mainGlobals "min" = some none)
    (y_range : PySem.W.nsIn K mainGlobals "range" = some none)
    (y_repr : PySem.W.nsIn K mainGlobals "repr" = some none)
    (y_set : PySem.W.nsIn K mainGlobals "set" = some none)
    (y_sorted : PySem.W.nsIn K mainGlobals "sorted" = some none)
    (y_tuple : PySem.W.nsIn K mainGlobals "tuple" = some none)
    (y_zip : PySem.W.nsIn K mainGlobals "zip" = some none)
    {tk_MOST_DAYS : Tok} (x_MOST_DAYS : PySem.W.nsIn K mainGlobals "MOST_DAYS" = some (some (.int 40 tk_MOST_DAYS)))
    {tk_MOST_GIFTS : Tok} (x_MOST_GIFTS : PySem.W.nsIn K mainGlobals "MOST_GIFTS" = some (some (.int 60 tk_MOST_GIFTS)))
    {tk_MOST_JOBS : Tok} (x_MOST_JOBS : PySem.W.nsIn K mainGlobals "MOST_JOBS" = some (some (.int 14 tk_MOST_JOBS)))
    (base : Heap) : CalG P w K mg base 8 "law" s_law ["script"] 1 F_law := by
  have h_is_integer := ok_is_integer (P := P) (w := w) (K := K) (mg := mg) (base := base) ⟨⟨oc0, od0, .none, kV0, dc0, pm0, an0, cd0, ct0, sl0, rfl, l0, c0⟩, PySem.W.mg_of X G a0, k0⟩ rfl (PySem.W.mg_none_of X G y_bool) (PySem.W.mg_none_of X G y_int) (PySem.W.mg_none_of X G y_isinstance)
  have h_is_number := ok_is_number (P := P) (w := w) (K := K) (mg := mg) (base := base) ⟨⟨oc1, od1, .none, kV1, dc1, pm1, an1, cd1, ct1, sl1, rfl, l1, c1⟩, PySem.W.mg_of X G a1, k1⟩ rfl h_is_integer
  have h_is_below := ok_is_below (P := P) (w := w) (K := K) (mg := mg) (base := base) ⟨⟨oc2, od2, .none, kV2, dc2, pm2, an2, cd2, ct2, sl2, rfl, l2, c2⟩, PySem.W.mg_of X G a2, k2⟩ rfl h_is_number
  have h_is_tuple_of := ok_is_tuple_of (P := P) (w := w) (K := K) (mg := mg) (base := base) ⟨⟨oc3, od3, .none, kV3, dc3, pm3, an3, cd3, ct3, sl3, rfl, l3, c3⟩, PySem.W.mg_of X G a3, k3⟩ rfl (PySem.W.mg_none_of X G y_isinstance) (PySem.W.mg_none_of X G y_len) (PySem.W.mg_none_of X G y_tuple)
  have h_is_ascending := ok_is_ascending (P := P) (w := w) (K := K) (mg := mg) (base := base) ⟨⟨oc4, od4, .none, kV4, dc4, pm4, an4, cd4, ct4, sl4, rfl, l4, c4⟩, PySem.W.mg_of X G a4, k4⟩ rfl (PySem.W.mg_none_of X G y_all) (PySem.W.mg_none_of X G y_len) (PySem.W.mg_none_of X G y_range)
  have h_are_below := ok_are_below (P := P) (w := w) (K := K) (mg := mg) (base := base) ⟨⟨oc5, od5, .none, kV5, dc5, pm5, an5, cd5, ct5, sl5, rfl, l5, c5⟩, PySem.W.mg_of X G a5, k5⟩ rfl (PySem.W.mg_none_of X G y_all) (PySem.W.mg_none_of X G y_isinstance) (PySem.W.mg_none_of X G y_tuple) h_is_below
  have h_are_ascending_below := ok_are_ascending_below (P := P) (w := w) (K := K) (mg := mg) (base := base) ⟨⟨oc6, od6, .none, kV6, dc6, pm6, an6, cd6, ct6, sl6, rfl, l6, c6⟩, PySem.W.mg_of X G a6, k6⟩ rfl h_are_below h_is_ascending
  have h_people_of := ok_people_of (P := P) (w := w) (K := K) (mg := mg) (base := base) ⟨⟨oc7, od7, .none, kV7, dc7, pm7, an7, cd7, ct7, sl7, rfl, l7, c7⟩, PySem.W.mg_of X G a7, k7⟩ rfl
  have h_is_calendar := ok_is_calendar (P := P) (w := w) (K := K) (mg := mg) (base := base) ⟨⟨oc8, od8, .none, kV8, dc8, pm8, an8, cd8, ct8, sl8, rfl, l8, c8⟩, PySem.W.mg_of X G a8, k8⟩ rfl (PySem.W.mg_none_of X G y_len) (PySem.W.mg_of X G x_MOST_DAYS) (PySem.W.mg_of X G x_MOST_GIFTS) h_are_below
  have h_is_job := ok_is_job (P := P) (w := w) (K := K) (mg := mg) (base := base) ⟨⟨oc9, od9, .none, kV9, dc9, pm9, an9, cd9, ct9, sl9, rfl, l9, c9⟩, PySem.W.mg_of X G a9, k9⟩ rfl (PySem.W.mg_none_of X G y_len) (PySem.W.mg_of X G x_MOST_GIFTS) h_is_tuple_of h_is_below h_are_ascending_below
  have h_are_jobs := ok_are_jobs (P := P) (w := w) (K := K) (mg := mg) (base := base) ⟨⟨oc10, od10, .none, kV10, dc10, pm10, an10, cd10, ct10, sl10, rfl, l10, c10⟩, PySem.W.mg_of X G a10, k10⟩ rfl (PySem.W.mg_none_of X G y_all) (PySem.W.mg_none_of X G y_isinstance) (PySem.W.mg_none_of X G y_len) (PySem.W.mg_none_of X G y_tuple) (PySem.W.mg_of X G x_MOST_JOBS) h_is_job
  have h_jobs_of := ok_jobs_of (P := P) (w := w) (K := K) (mg := mg) (base := base) ⟨⟨oc11, od11, .none, kV11, dc11, pm11, an11, cd11, ct11, sl11, rfl, l11, c11⟩, PySem.W.mg_of X G a11, k11⟩ rfl (PySem.W.mg_none_of X G y_any) (PySem.W.mg_none_of X G y_len) (PySem.W.mg_none_of X G y_range) (PySem.W.mg_none_of X G y_tuple) h_people_of
  have h_left_over := ok_left_over (P := P) (w := w) (K := K) (mg := mg) (base := base) ⟨⟨oc12, od12, .none, kV12, dc12, pm12, an12, cd12, ct12, sl12, rfl, l12, c12⟩, PySem.W.mg_of X G a12, k12⟩ rfl (PySem.W.mg_none_of X G y_list) (PySem.W.mg_none_of X G y_tuple) (PySem.W.mg_none_of X G y_zip)
  have h_is_timetable := ok_is_timetable (P := P) (w := w) (K := K) (mg := mg) (base := base) ⟨⟨oc13, od13, .none, kV13, dc13, pm13, an13, cd13, ct13, sl13, rfl, l13, c13⟩, PySem.W.mg_of X G a13, k13⟩ rfl (PySem.W.mg_none_of X G y_all) (PySem.W.mg_none_of X G y_len) (PySem.W.mg_none_of X G y_zip) h_are_below h_left_over
  have h_l_draw := ok_l_draw (P := P) (w := w) (K := K) (mg := mg) (base := base) ⟨⟨oc14, od14, .none, kV14, dc14, pm14, an14, cd14, ct14, sl14, rfl, l14, c14⟩, PySem.W.mg_of X G a14, k14⟩ rfl (PySem.W.mg_none_of X G y_abs) (PySem.W.mg_none_of X G y_int)
  have h_l_any := ok_l_any (P := P) (w := w) (K := K) (mg := mg) (base := base) ⟨⟨oc15, od15, .none, kV15, dc15, pm15, an15, cd15, ct15, sl15, rfl, l15, c15⟩, PySem.W.mg_of X G a15, k15⟩ rfl (PySem.W.mg_none_of X G y_int)
  have h_l_of := ok_l_of (P := P) (w := w) (K := K) (mg := mg) (base := base) ⟨⟨oc16, od16, .none, kV16, dc16, pm16, an16, cd16, ct16, sl16, rfl, l16, c16⟩, PySem.W.mg_of X G a16, k16⟩ rfl (PySem.W.mg_none_of X G y_len) h_l_any
  have h_l_mixed := ok_l_mixed (P := P) (w := w) (K := K) (mg := mg) (base := base) ⟨⟨oc17, od17, .none, kV17, dc17, pm17, an17, cd17, ct17, sl17, rfl, l17, c17⟩, PySem.W.mg_of X G a17, k17⟩ rfl (PySem.W.mg_none_of X G y_len) (PySem.W.mg_none_of X G y_list) h_l_any
  have h_l_calendar := ok_l_calendar (P := P) (w := w) (K := K) (mg := mg) (base := base) ⟨⟨oc18, od18, .none, kV18, dc18, pm18, an18, cd18, ct18, sl18, rfl, l18, c18⟩, PySem.W.mg_of X G a18, k18⟩ rfl (PySem.W.mg_none_of X G y_range) (PySem.W.mg_none_of X G y_tuple) h_l_of h_l_any
  have h_l_jobs := ok_l_jobs (P := P) (w := w) (K := K) (mg := mg) (base := base) ⟨⟨oc19, od19, .none, kV19, dc19, pm19, an19, cd19, ct19, sl19, rfl, l19, c19⟩, PySem.W.mg_of X G a19, k19⟩ rfl (PySem.W.mg_none_of X G y_len) (PySem.W.mg_none_of X G y_range) (PySem.W.mg_none_of X G y_tuple) h_l_any h_l_of
  have h_l_is_count := ok_l_is_count (P := P) (w := w) (K := K) (mg := mg) (base := base) ⟨⟨oc20, od20, .none, kV20, dc20, pm20, an20, cd20, ct20, sl20, rfl, l20, c20⟩, PySem.W.mg_of X G a20, k20⟩ rfl (PySem.W.mg_none_of X G y_bool) (PySem.W.mg_none_of X G y_int) (PySem.W.mg_none_of X G y_isinstance)
  have h_l_are_jobs := ok_l_are_jobs (P := P) (w := w) (K := K) (mg := mg) (base := base) ⟨⟨oc21, od21, .none, kV21, dc21, pm21, an21, cd21, ct21, sl21, rfl, l21, c21⟩, PySem.W.mg_of X G a21, k21⟩ rfl (PySem.W.mg_none_of X G y_isinstance) (PySem.W.mg_none_of X G y_len) (PySem.W.mg_none_of X G y_list) (PySem.W.mg_none_of X G y_set) (PySem.W.mg_none_of X G y_sorted) (PySem.W.mg_none_of X G y_tuple) h_l_is_count
  have h_l_fits := ok_l_fits (P := P) (w := w) (K := K) (mg := mg) (base := base) ⟨⟨oc22, od22, .none, kV22, dc22, pm22, an22, cd22, ct22, sl22, rfl, l22, c22⟩, PySem.W.mg_of X G a22, k22⟩ rfl (PySem.W.mg_none_of X G y_enumerate) (PySem.W.mg_none_of X G y_isinstance) (PySem.W.mg_none_of X G y_len) (PySem.W.mg_none_of X G y_list) (PySem.W.mg_none_of X G y_min) (PySem.W.mg_none_of X G y_tuple) h_l_is_count
  have h_l_turned := ok_l_turned (P := P) (w := w) (K := K) (mg := mg) (base := base) ⟨⟨oc23, od23, .none, kV23, dc23, pm23, an23, cd23, ct23, sl23, rfl, l23, c23⟩, PySem.W.mg_of X G a23, k23⟩ rfl (PySem.W.mg_none_of X G y_len) (PySem.W.mg_none_of X G y_list) h_l_any h_l_of
  have h_l_pack := ok_l_pack (P := P) (w := w) (K := K) (mg := mg) (base := base) ⟨⟨oc24, od24, .none, kV24, dc24, pm24, an24, cd24, ct24, sl24, rfl, l24, c24⟩, PySem.W.mg_of X G a24, k24⟩ rfl (PySem.W.mg_none_of X G y_len) (PySem.W.mg_none_of X G y_list) (PySem.W.mg_none_of X G y_min) (PySem.W.mg_none_of X G y_range) (PySem.W.mg_none_of X G y_sorted) (PySem.W.mg_none_of X G y_tuple) h_l_mixed h_l_any
  have h_law := ok_law (P := P) (w := w) (K := K) (mg := mg) (base := base) ⟨⟨oc25, od25, .none, kV25, dc25, pm25, an25, cd25, ct25, sl25, rfl, l25, c25⟩, PySem.W.mg_of X G a25, k25⟩ rfl (PySem.W.mg_none_of X G y_enumerate) (PySem.W.mg_none_of X G y_isinstance) (PySem.W.mg_none_of X G y_len) (PySem.W.mg_none_of X G y_list) (PySem.W.mg_none_of X G y_range) (PySem.W.mg_none_of X G y_repr) (PySem.W.mg_none_of X G y_tuple) h_l_draw h_l_any h_l_calendar h_l_of h_is_calendar h_l_turned h_l_is_count h_l_jobs h_are_jobs h_l_are_jobs h_is_timetable h_l_fits h_left_over h_l_pack h_jobs_of
  exact h_law
end G
open PySem PySem.W PyProof.Rows
set_option maxHeartbeats 0 in
theorem PySem.Challenge.cw_givesifgets_k50_jobs_and_timetables_holds : PySem.Challenge.rw_givesifgets_k50_jobs_and_timetables.Holds := by
  w_on; o_law; k_head; (case hw => w_witness2)
  k_fill
  refine Y.walk_end (l := PySem.Challenge.rw_givesifgets_k50_jobs_and_timetables) (k := 8) (st := G.s_law) (ps := ["script"]) (F := G.F_law) rfl rfl ⟨rfl, by decide, by decide⟩ (fun w h y => PySem.W.kIn_of y) ?cal (fun ns h => G.F_law_ok ns h)
  case cal =>
    intro w mg h KX GN base _ _
    refine' G.all_mk KX GN ?a0 ?l0 ?c0 ?k0 ?a1 ?l1 ?c1 ?k1 ?a2 ?l2 ?c2 ?k2 ?a3 ?l3 ?c3 ?k3 ?a4 ?l4 ?c4 ?k4 ?a5 ?l5 ?c5 ?k5 ?a6 ?l6 ?c6 ?k6 ?a7 ?l7 ?c7 ?k7 ?a8 ?l8 ?c8 ?k8 ?a9 ?l9 ?c9 ?k9 ?a10 ?l10 ?c10 ?k10 ?a11 ?l11 ?c11 ?k11 ?a12 ?l12 ?c12 ?k12 ?a13 ?l13 ?c13 ?k13 ?a14 ?l14 ?c14 ?k14 ?a15 ?l15 ?c15 ?k15 ?a16 ?l16 ?c16 ?k16 ?a17 ?l17 ?c17 ?k17 ?a18 ?l18 ?c18 ?k18 ?a19 ?l19 ?c19 ?k19 ?a20 ?l20 ?c20 ?k20 ?a21 ?l21 ?c21 ?k21 ?a22 ?l22 ?c22 ?k22 ?a23 ?l23 ?c23 ?k23 ?a24 ?l24 ?c24 ?k24 ?a25 ?l25 ?c25 ?k25 ?y_abs ?y_all ?y_any ?y_bool ?y_enumerate ?y_int ?y_isinstance ?y_len ?y_list ?y_min ?y_range ?y_repr ?y_set ?y_sorted ?y_tuple ?y_zip ?x_MOST_DAYS ?x_MOST_GIFTS ?x_MOST_JOBS base
    (case a0 => k_is); (case l0 => k_is); (case c0 => k_is); (case k0 => k_is); (case a1 => k_is); (case l1 => k_is); (case c1 => k_is); (case k1 => k_is); (case a2 => k_is); (case l2 => k_is); (case c2 => k_is); (case k2 => k_is); (case a3 => k_is); (case l3 => k_is); (case c3 => k_is); (case k3 => k_is); (case a4 => k_is); (case l4 => k_is); (case c4 => k_is); (case k4 => k_is); (case a5 => k_is); (case l5 => k_is); (case c5 => k_is); (case k5 => k_is); (case a6 => k_is); (case l6 => k_is); (case c6 => k_is); (case k6 => k_is); (case a7 => k_is); (case l7 => k_is); (case c7 => k_is); (case k7 => k_is); (case a8 => k_is); (case l8 => k_is); (case c8 => k_is); (case k8 => k_is); (case a9 => k_is); (case l9 => k_is); (case c9 => k_is); (case k9 => k_is); (case a10 => k_is); (case l10 => k_is); (case c10 => k_is); (case k10 => k_is); (case a11 => k_is); (case l11 => k_is); (case c11 => k_is); (case k11 => k_is); (case a12 => k_is); (case l12 => k_is); (case c12 => k_is); (case k12 => k_is); (case a13 => k_is); (case l13 => k_is); (case c13 => k_is); (case k13 => k_is); (case a14 => k_is); (case l14 => k_is); (case c14 => k_is); (case k14 => k_is); (case a15 => k_is); (case l15 => k_is); (case c15 => k_is); (case k15 => k_is); (case a16 => k_is); (case l16 => k_is); (case c16 => k_is); (case k16 => k_is); (case a17 => k_is); (case l17 => k_is); (case c17 => k_is); (case k17 => k_is); (case a18 => k_is); (case l18 => k_is); (case c18 => k_is); (case k18 => k_is); (case a19 => k_is); (case l19 => k_is); (case c19 => k_is); (case k19 => k_is); (case a20 => k_is); (case l20 => k_is); (case c20 => k_is); (case k20 => k_is); (case a21 => k_is); (case l21 => k_is); (case c21 => k_is); (case k21 => k_is); (case a22 => k_is); (case l22 => k_is); (case c22 => k_is); (case k22 => k_is); (case a23 => k_is); (case l23 => k_is); (case c23 => k_is); (case k23 => k_is); (case a24 => k_is); (case l24 => k_is); (case c24 => k_is); (case k24 => k_is); (case a25 => k_is); (case l25 => k_is); (case c25 => k_is); (case k25 => k_is); (case y_abs => k_is); (case y_all => k_is); (case y_any => k_is); (case y_bool => k_is); (case y_enumerate => k_is); (case y_int => k_is); (case y_isinstance => k_is); (case y_len => k_is); (case y_list => k_is); (case y_min => k_is); (case y_range => k_is); (case y_repr => k_is); (case y_set => k_is); (case y_sorted => k_is); (case y_tuple => k_is); (case y_zip => k_is); (case x_MOST_DAYS => k_is); (case x_MOST_GIFTS => k_is); (case x_MOST_JOBS => k_is)
