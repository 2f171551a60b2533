import PyProof.Rows.All
import Wide.All
import OpenK.AllK
import Wide.FinOn
import HandS.ForMost
import HandS.Exc
import HandS.AnyAll
import HandS.Lambda
import HandS.TupAny
import HandS.TupMul
import HandS.TupLe
import HandS.Deep
import HandS.IsInst
import HandS.Style
import HandS.Strs
import HandS.Sort
import HandS.TupSets
import KE.KTupSum
import HandS.CallSlots
import HandS.Zip
import HandS.Defaults
import HandS.GenList
import PyProof.TupleOfGen
import PyProof.ConsumeS
import HandS.SetFor
import HandS.Conv
import KE.DataMinKey
import PyProof.StrBlock
import KE.DataMinMax
import HandS.SortKw
import HandS.WideBits
import HandS.Dict
import KE.KDictZip
import KE.KItemsList
import HandS.ListItems
import KE.KRevSl
import KE.SortData
import KE.GoesEnumKw
import KE.GoesZip
import HandS.ExcInit
import HandS.FStr
import KE.KExcSuper
import KE.KExcMake
import KE.KSuper
import HandS.ExcField
import HandS.ExcIs
import HandS.TryMany
import KE.KExcIs
import HandS.Iter
import HandS.WordsExc
import HandS.Head0
import HandS.Head1
import HandS.Head2
import HandS.HeadEnd
import HandS.HeadHook1
import HandS.HeadHook2
import HandS.HeadHook4
import HandS.HeadWalk
import HandS.EndTab
import HandS.NestedK
import KE.DatumOrd
import PySem.Challenge.RW_rankswithin_k41_whole_problems_in_other
set_option Elab.async false
set_option linter.all false
set_option maxRecDepth 100000
set_option maxHeartbeats 4000000
namespace Rk
open PySem PySem.Spec PyProof.Rows L2
abbrev D := PyData
abbrev St := L2.St
/-- a tuple without a dict of its own -/
def SqN (K : PySem.W.Frag) (G : Hp) (a : Addr) (xs : List V) : Prop :=
  (∃ o : Obj, o.dict = none ∧ G a = some (.frz o (.tup xs))) ∨ ∃ (o : Obj) (its : Array Value) (n : Nat), K.lookup a = some o ∧ o.cls = .type "tuple" ∧ o.dict = none ∧ o.data = .seq its n ∧ its.size ≤ sizeLine ∧ Vals xs its.toList
theorem SqN.t {K : PySem.W.Frag} {G : Hp} {a : Addr} {xs : List V} (h : SqN K G a xs) : SqT K G a xs := by
  rcases h with ⟨o, _, h⟩ | ⟨o, its, n, h1, h2, _, h3⟩
  · exact .inl (.inr ⟨o, h⟩)
  · exact .inr ⟨o, its, n, h1, h2, h3⟩
theorem sqN_mono {K : PySem.W.Frag} {G G' : Hp} {a : Addr} {xs : List V} (e : Same G G') (h : SqN K G a xs) : SqN K G' a xs := by
  rcases h with ⟨o, h0, h⟩ | h
  · exact .inl ⟨o, h0, e _ _ h⟩
  · exact .inr h
mutual
inductive Rp (K : PySem.W.Frag) (G : Hp) : V → D → Prop
  | non : Rp K G .non .none
  | bl (b : Bool) : Rp K G (.bl b) (.bool b)
  | int (i : Int) : Rp K G (.int i) (.int i)
  | str (x : Str) : Rp K G (.str x) (.str x)
  | lst {a : Addr} {xs : List V} {ds : List D} : G a = some (.lst xs) → RpAll K G xs ds → Rp K G (.ref a) (.list ds)
  | tup {a : Addr} {xs : List V} {ds : List D} : SqN K G a xs → RpAll K G xs ds → Rp K G (.ref a) (.tuple ds)
inductive RpAll (K : PySem.W.Frag) (G : Hp) : List V → List D → Prop
  | nil : RpAll K G [] []
  | cons {v : V} {vs : List V} {d : D} {ds : List D} : Rp K G v d → RpAll K G vs ds → RpAll K G (v :: vs) (d :: ds)
end
section
variable {K : PySem.W.Frag} {G G' H : Hp}
mutual
theorem Rp.mono (e : Same G G') : ∀ (d : D) (v : V), Rp K G v d → Rp K G' v d
  | .none, _, h => by cases h; exact .non
  | .bool b, _, h => by cases h; exact .bl _
  | .int i, _, h => by cases h; exact .int _
  | .str x, _, h => by cases h; exact .str _
  | .list ds, _, h => by cases h with | lst h1 h2 => exact .lst (e _ _ h1) (RpAll.mono e ds _ h2)
  | .tuple ds, _, h => by cases h with | tup h1 h2 => exact .tup (sqN_mono e h1) (RpAll.mono e ds _ h2)
  | .dict _, _, h => by cases h
theorem RpAll.mono (e : Same G G') : ∀ (ds : List D) (vs : List V), RpAll K G vs ds → RpAll K G' vs ds
  | [], _, h => by cases h; exact .nil
  | d :: ds, _, h => by cases h with | cons h1 h2 => exact .cons (Rp.mono e d _ h1) (RpAll.mono e ds _ h2)
end
mutual
theorem Rp.dp (e : Same G H) : ∀ (d : D) (v : V), Rp K G v d → Dp K H v d
  | .none, _, h => by cases h; exact .non
  | .bool b, _, h => by cases h; exact .bl _
  | .int i, _, h => by cases h; exact .int _
  | .str x, _, h => by cases h; exact .str _
  | .list ds, _, h => by cases h with | lst h1 h2 => exact .lst (SqL.of (e _ _ h1)) (RpAll.dp e ds _ h2)
  | .tuple ds, _, h => by cases h with | tup h1 h2 => exact .tup (sqN_mono e h1).t (RpAll.dp e ds _ h2)
  | .dict _, _, h => by cases h
theorem RpAll.dp (e : Same G H) : ∀ (ds : List D) (vs : List V), RpAll K G vs ds → DpAll K H vs ds
  | [], _, h => by cases h; exact .nil
  | d :: ds, _, h => by cases h with | cons h1 h2 => exact .cons (Rp.dp e d _ h1) (RpAll.dp e ds _ h2)
end
theorem RpAll.len : ∀ {vs : List V} {ds : List D}, RpAll K G vs ds → vs.length = ds.length
  | _, _, .nil => rfl
  | _, _, .cons _ t => congrArg (· + 1) (RpAll.len t)
theorem RpAll.app : ∀ {vs ws : List V} {ds es : List D}, RpAll K G vs ds → RpAll K G ws es → RpAll K G (vs ++ ws) (ds ++ es)
  | _, _, _, _, .nil, h => h
  | _, _, _, _, .cons r t, h => .cons r (RpAll.app t h)
theorem RpAll.one {v : V} {d : D} (h : Rp K G v d) : RpAll K G [v] [d] := .cons h .nil
theorem RpAll.get : ∀ {vs : List V} {ds : List D} {i : Nat} {d : D}, RpAll K G vs ds → ds[i]? = some d → ∃ v, vs[i]? = some v ∧ Rp K G v d
  | _, _, _, _, .nil, e => by simp at e
  | _, _, 0, _, .cons r _, e => by simp at e; subst e; exact ⟨_, rfl, r⟩
  | _, _, i + 1, d, .cons _ t, e => by
    obtain ⟨u, h1, h2⟩ := RpAll.get (i := i) (d := d) t (by simpa using e)
    exact ⟨u, by simpa using h1, h2⟩
theorem RpAll.take : ∀ {vs : List V} {ds : List D} (n : Nat), RpAll K G vs ds → RpAll K G (vs.take n) (ds.take n)
  | _, _, 0, _ => by simp only [List.take_zero]; exact .nil
  | _, _, _ + 1, .nil => .nil
  | _, _, n + 1, .cons r t => .cons r (RpAll.take n t)
theorem RpAll.drop : ∀ {vs : List V} {ds : List D} (n : Nat), RpAll K G vs ds → RpAll K G (vs.drop n) (ds.drop n)
  | _, _, 0, h => h
  | _, _, _ + 1, .nil => .nil
  | _, _, n + 1, .cons _ t => RpAll.drop n t
theorem RpAll.set {v : V} {d : D} (r : Rp K G v d) : ∀ {vs : List V} {ds : List D} (i : Nat), RpAll K G vs ds → RpAll K G (vs.set i v) (ds.set i d)
  | _, _, _, .nil => .nil
  | _, _, 0, .cons _ t => .cons r t
  | _, _, i + 1, .cons q t => .cons q (RpAll.set r i t)
theorem RpAll.erase : ∀ {vs : List V} {ds : List D} (i : Nat), RpAll K G vs ds → RpAll K G (vs.eraseIdx i) (ds.eraseIdx i)
  | _, _, _, .nil => .nil
  | _, _, 0, .cons _ t => t
  | _, _, i + 1, .cons q t => .cons q (RpAll.erase i t)
theorem RpAll.rep {v : V} {d : D} (r : Rp K G v d) : ∀ n : Nat, RpAll K G (List.replicate n v) (List.replicate n d)
  | 0 => .nil
  | n + 1 => .cons r (RpAll.rep r n)
end
inductive Sl where
  | un
  | sh (d : D)
  | ow (ds : List D)
  | scr (ns : List Int)
  | rg (lo hi : Int)
  | xc (c : Str) (fs : List (Str × D))
abbrev Rho := List Sl
inductive Oc (α : Type) where
  | ok (a : α) (ρ : Rho)
  | ex (c : Str) (fs : List (Str × D)) (ρ : Rho)
/-- what stands through a whole law: the written part, the tables of code objects, the classes of errors -/
structure Gd where
  K : PySem.W.Frag
  T : List Addr
  L : List (Addr × Str)
  cl : Str → Option Addr
/-- where a lambda's code stands in the table, it bears the lambda's name -/
def TabL (g : Gd) (H : Hp) (P : Addr) (ps : Array Value) : Prop := ∀ q, (P, q) ∈ g.L → ∀ (pos : Pos) (cv : Value), codeAmong pos ps.toList = some cv → ∃ c, cv = .ref c ∧ H c = some (LamX.CodeO c q)
theorem TabL.mono {g : Gd} {H H' : Hp} {P : Addr} {ps : Array Value} (h : TabL g H P ps) (k : ∀ c q, H c = some (LamX.CodeO c q) → H' c = some (LamX.CodeO c q)) : TabL g H' P ps := fun q m pos cv e => by
  obtain ⟨c, e1, e2⟩ := h q m pos cv e
  exact ⟨c, e1, k c q e2⟩
theorem TabL.upd {g : Gd} {H : Hp} {P a : Addr} {ps : Array Value} {o : HO} (h : TabL g H P ps) (n : ∀ q, H a ≠ some (LamX.CodeO a q)) : TabL g (upd H a o) P ps := h.mono fun c q e => by
  have z : c ≠ a := fun z => by subst z; exact n q e
  rw [upd_ne z]
  exact e
theorem lst_ne {H : Hp} {a : Addr} {xs : List V} (h : H a = some (.lst xs)) (q : Str) : H a ≠ some (LamX.CodeO a q) := fun z => by
  rw [h] at z
  unfold LamX.CodeO at z
  cases z
theorem tbl_ne {H : Hp} {a : Addr} {ps : Array Value} (h : H a = some (.tbl ps)) (q : Str) : H a ≠ some (LamX.CodeO a q) := fun z => by
  rw [h] at z
  unfold LamX.CodeO at z
  cases z
def TabG (g : Gd) (H : Hp) (P : Addr) : Prop := ∃ ps : Array Value, H P = some (.tbl ps) ∧ TriplesOk ps.toList ∧ TabL g H P ps
/-- an exception's own dict -/
def XdOk (g : Gd) (G H : Hp) (c : Str) (fs : List (Str × D)) (cls : Value) (d : Option Addr) : Prop :=
  ∃ C dx vs, g.cl c = some C ∧ cls = .ref C ∧ d = some dx ∧ H dx = some (.xd ((fs.map (·.1)).zip vs)) ∧ RpAll g.K G vs (fs.map (·.2))
def SlOk (g : Gd) (G H : Hp) (v : Option V) : Sl → Prop
  | .un => True
  | .sh d => ∃ x, v = some x ∧ Rp g.K G x d
  | .ow ds => ∃ a xs, v = some (.ref a) ∧ G a = none ∧ H a = some (.lst xs) ∧ RpAll g.K G xs ds
  | .scr ns => ∃ a, v = some (.ref a) ∧ SqL g.K G a (ns.map V.int)
  | .rg lo hi => ∃ a, v = some (.ref a) ∧ G a = some (.rng lo hi)
  | .xc _ _ => False
structure Wo (g : Gd) (σ : St) (ρ : Rho) (G H : Hp) : Prop where
  gh : Same G H
  len : σ.length = ρ.length
  sl : ∀ (i : Nat) (s : Sl), ρ[i]? = some s → SlOk g G H ((σ[i]?).join) s
  dj : ∀ (i j : Nat) (a : Addr) (ds es : List D), ρ[i]? = some (.ow ds) → ρ[j]? = some (.ow es) → σ[i]? = some (some (.ref a)) → σ[j]? = some (some (.ref a)) → i = j
  tb : ∀ P ∈ g.T, G P = none ∧ TabG g H P
def Ow (ρ : Rho) (σ : St) (a : Addr) : Prop := ∃ (i : Nat) (ds : List D), ρ[i]? = some (.ow ds) ∧ σ[i]? = some (some (.ref a))
structure StE (g : Gd) (σ : St) (ρ : Rho) (G H : Hp) (ρ' : Rho) (G' H' : Hp) : Prop where
  gg : Same G G'
  wo : Wo g σ ρ' G' H'
  fr : ∀ a o, H a = some o → ¬ Ow ρ σ a → a ∉ g.T → H' a = some o
  al : ∀ a, H a ≠ none → H' a ≠ none
  nc : ∀ a, G a = none → H a ≠ none → ¬ Ow ρ σ a → G' a = none
  ow : ∀ (i : Nat) (ds : List D), ρ'[i]? = some (.ow ds) → ∃ es, ρ[i]? = some (.ow es)
/-- only new things -/
structure Grow (G H G' H' : Hp) : Prop where
  gg : Same G G'
  gh : Same G' H'
  hh : Same H H'
  nc : ∀ a, G a = none → H a ≠ none → G' a = none
section
variable {g : Gd} {σ : St} {ρ ρ1 ρ2 : Rho} {G H G1 H1 G2 H2 G' H' : Hp}
theorem SlOk.mono {v : Option V} {s : Sl} (h : SlOk g G H v s) (e : Same G G') (k : ∀ a xs, v = some (.ref a) → G a = none → H a = some (.lst xs) → (∃ ds, s = .ow ds) → G' a = none ∧ H' a = some (.lst xs)) : SlOk g G' H' v s := by
  cases s with
  | un => trivial
  | sh d => obtain ⟨x, e1, r⟩ := h; exact ⟨x, e1, r.mono e⟩
  | ow ds => obtain ⟨a, xs, e1, h1, h2, r⟩ := h; obtain ⟨k1, k2⟩ := k a xs e1 h1 h2 ⟨ds, rfl⟩; exact ⟨a, xs, e1, k1, k2, r.mono e⟩
  | scr ns => obtain ⟨a, e1, r⟩ := h; exact ⟨a, e1, e.seq r⟩
  | rg lo hi => obtain ⟨a, e1, r⟩ := h; exact ⟨a, e1, e _ _ r⟩
  | xc _ _ => exact h.elim
theorem Wo.at (w : Wo g σ ρ G H) {a : Addr} (h : Ow ρ σ a) : G a = none ∧ ∃ xs, H a = some (.lst xs) := by
  obtain ⟨i, ds, e1, e2⟩ := h
  have q := w.sl i _ e1
  rw [e2] at q
  obtain ⟨b, xs, e3, h1, h2, _⟩ := q
  cases e3
  exact ⟨h1, xs, h2⟩
theorem Wo.noT (w : Wo g σ ρ G H) {a : Addr} {xs : List V} (h : H a = some (.lst xs)) : a ∉ g.T := fun m => by
  obtain ⟨_, ps, e, _⟩ := w.tb a m
  rw [h] at e
  cases e
theorem StE.refl (w : Wo g σ ρ G H) : StE g σ ρ G H ρ G H := ⟨Same.refl _, w, fun _ _ h _ _ => h, fun _ h => h, fun _ h _ _ => h, fun _ ds h => ⟨ds, h⟩⟩
theorem StE.owb (a : StE g σ ρ G H ρ1 G1 H1) {x : Addr} (h : Ow ρ1 σ x) : Ow ρ σ x := by
  obtain ⟨i, ds, e1, e2⟩ := h
  obtain ⟨es, e3⟩ := a.ow i ds e1
  exact ⟨i, es, e3, e2⟩
theorem StE.trans (a : StE g σ ρ G H ρ1 G1 H1) (b : StE g σ ρ1 G1 H1 ρ2 G2 H2) : StE g σ ρ G H ρ2 G2 H2 where
  gg := a.gg.trans b.gg
  wo := b.wo
  fr := fun x o h n t => b.fr x o (a.fr x o h n t) (fun z => n (a.owb z)) t
  al := fun x h => b.al x (a.al x h)
  nc := fun x h1 h2 n => b.nc x (a.nc x h1 h2 n) (a.al x h2) fun z => n (a.owb z)
  ow := fun i ds h => let ⟨es, e⟩ := b.ow i ds h; a.ow i es e
theorem Grow.refl (h : Same G H) : Grow G H G H := ⟨Same.refl _, h, Same.refl _, fun _ h _ => h⟩
theorem Grow.trans (a : Grow G H G1 H1) (b : Grow G1 H1 G2 H2) : Grow G H G2 H2 :=
  ⟨a.gg.trans b.gg, b.gh, a.hh.trans b.hh, fun x h1 h2 => b.nc x (a.nc x h1 h2) (fun z => by
    cases q : H x with
    | none => exact h2 q
    | some o => rw [a.hh x o q] at z; cases z)⟩
theorem Wo.grow (w : Wo g σ ρ G H) (b : Grow G H G' H') : Wo g σ ρ G' H' where
  gh := b.gh
  len := w.len
  sl := fun i s e => (w.sl i s e).mono b.gg fun a xs _ h1 h2 _ => ⟨b.nc a h1 (by rw [h2]; simp), b.hh _ _ h2⟩
  dj := w.dj
  tb := fun P hP => by
    obtain ⟨h1, ps, h2, h3⟩ := w.tb P hP
    exact ⟨b.nc P h1 (by rw [h2]; simp), ps, b.hh _ _ h2, h3.1, h3.2.mono fun c q e => b.hh _ _ e⟩
theorem Wo.step (w : Wo g σ ρ G H) (b : Grow G H G' H') : StE g σ ρ G H ρ G' H' where
  gg := b.gg
  wo := w.grow b
  fr := fun a o h _ _ => b.hh a o h
  al := fun a h z => by
    cases q : H a with
    | none => exact h q
    | some o => rw [b.hh a o q] at z; cases z
  nc := fun a h1 h2 _ => b.nc a h1 h2
  ow := fun _ ds h => ⟨ds, h⟩
end
/-- the value of an expression; H0: the heap ahead of it -/
def ValOk (g : Gd) (H0 G H : Hp) (v : V) : Sl → Prop
  | .sh d => Rp g.K G v d
  | .ow ds => ∃ a xs, v = .ref a ∧ H0 a = none ∧ G a = none ∧ H a = some (.lst xs) ∧ RpAll g.K G xs ds
  | .scr ns => ∃ a, v = .ref a ∧ SqL g.K G a (ns.map V.int)
  | .rg lo hi => ∃ a, v = .ref a ∧ G a = some (.rng lo hi)
  | _ => False
theorem ValOk.ahead {g : Gd} {H0 H1 G H : Hp} {v : V} {r : Sl} (h : ValOk g H1 G H v r) (k : ∀ a, H1 a = none → H0 a = none) : ValOk g H0 G H v r := by
  cases r with
  | sh d => exact h
  | ow ds => obtain ⟨a, xs, e, h1, h2, h3, h4⟩ := h; exact ⟨a, xs, e, k a h1, h2, h3, h4⟩
  | scr ns => exact h
  | rg lo hi => exact h
  | un => exact h
  | xc _ _ => exact h
section
variable (g : Gd) (W : WX)
/-- how an error leaves -/
def Away (σ : St) (ρ : Rho) (G H : Hp) (c : Str) (fs : List (Str × D)) (ρ' : Rho) : Prop :=
  ∀ cls d G' H', StE g σ ρ G H ρ' G' H' → XdOk g G' H' c fs cls d → W cls d σ H'
def Post (σ : St) (ρ : Rho) (G H : Hp) (Q : VK) : Oc Sl → Prop
  | .ok r ρ' => ∀ v G' H', StE g σ ρ G H ρ' G' H' → ValOk g H G' H' v r → Q v H'
  | .ex c fs ρ' => Away g W σ ρ G H c fs ρ'
def tD (f : Rho → Option (Oc Sl)) : TE := fun σ H Q => ∃ ρ G o, Wo g σ ρ G H ∧ f ρ = some o ∧ Post g W σ ρ G H Q o
def PostA (σ : St) (ρ : Rho) (G H : Hp) (Q : List V → Hp → Prop) : Oc (List D) → Prop
  | .ok ds ρ' => ∀ vs G' H', StE g σ ρ G H ρ' G' H' → RpAll g.K G' vs ds → Q vs H'
  | .ex c fs ρ' => Away g W σ ρ G H c fs ρ'
def tDA (f : Rho → Option (Oc (List D))) : TA := fun σ H Q => ∃ ρ G o, Wo g σ ρ G H ∧ f ρ = some o ∧ PostA g W σ ρ G H Q o
def PostT (σ : St) (ρ : Rho) (G H : Hp) (Q : Bool → Hp → Prop) : Oc Bool → Prop
  | .ok b ρ' => ∀ G' H', StE g σ ρ G H ρ' G' H' → Q b H'
  | .ex c fs ρ' => Away g W σ ρ G H c fs ρ'
def tDT (f : Rho → Option (Oc Bool)) : TT := fun σ H Q => ∃ ρ G o, Wo g σ ρ G H ∧ f ρ = some o ∧ PostT g W σ ρ G H Q o
end
section
variable {g : Gd} {W : WX} {σ : St} {ρ ρ1 : Rho} {G H G1 H1 : Hp}
theorem StE.none_of (a : StE g σ ρ G H ρ1 G1 H1) {x : Addr} (h : H1 x = none) : H x = none := by
  cases q : H x with
  | none => rfl
  | some o => exact absurd h (a.al x (by rw [q]; simp))
theorem Away.step {c : Str} {fs : List (Str × D)} {ρ' : Rho} (a : StE g σ ρ G H ρ1 G1 H1) (p : Away g W σ ρ G H c fs ρ') : Away g W σ ρ1 G1 H1 c fs ρ' :=
  fun cls d G' H' s x => p cls d G' H' (a.trans s) x
theorem Post.step {Q : VK} {o : Oc Sl} (a : StE g σ ρ G H ρ1 G1 H1) (p : Post g W σ ρ G H Q o) : Post g W σ ρ1 G1 H1 Q o := by
  cases o with
  | ok r ρ' => exact fun v G' H' s x => p v G' H' (a.trans s) (x.ahead fun _ h => a.none_of h)
  | ex c fs ρ' => exact Away.step a p
theorem PostA.step {Q : List V → Hp → Prop} {o : Oc (List D)} (a : StE g σ ρ G H ρ1 G1 H1) (p : PostA g W σ ρ G H Q o) : PostA g W σ ρ1 G1 H1 Q o := by
  cases o with
  | ok r ρ' => exact fun v G' H' s x => p v G' H' (a.trans s) x
  | ex c fs ρ' => exact Away.step a p
theorem PostT.step {Q : Bool → Hp → Prop} {o : Oc Bool} (a : StE g σ ρ G H ρ1 G1 H1) (p : PostT g W σ ρ G H Q o) : PostT g W σ ρ1 G1 H1 Q o := by
  cases o with
  | ok r ρ' => exact fun G' H' s => p G' H' (a.trans s)
  | ex c fs ρ' => exact Away.step a p
end
/-- a result, as data -/
def pub : Sl → Option D
  | .sh d => some d
  | .ow ds => some (.list ds)
  | _ => none
def bdO {α β : Type} (x : Option (Oc α)) (k : α → Rho → Option (Oc β)) : Option (Oc β) := match x with
  | some (.ok a ρ) => k a ρ
  | some (.ex c fs ρ) => some (.ex c fs ρ)
  | none => none
def bdD {β : Type} (x : Option (Oc Sl)) (k : D → Rho → Option (Oc β)) : Option (Oc β) := bdO x fun r ρ => match pub r with
  | some d => k d ρ
  | none => none
section
variable {g : Gd} {W : WX} {σ : St} {ρ ρ1 : Rho} {G H G1 H1 : Hp}
theorem same_upd {o : HO} {a : Addr} (h : G a = none) : Same G (upd G a o) := fun b x e => by
  rw [upd_ne (ne_of_none e h)]
  exact e
/-- a fresh list is laid down for good -/
theorem StE.lay {ds : List D} {xs : List V} {a : Addr} (w : Wo g σ ρ G H) (s : StE g σ ρ G H ρ1 G1 H1) (h0 : H a = none) (hg : G1 a = none) (hh : H1 a = some (.lst xs)) : StE g σ ρ G H ρ1 (upd G1 a (.lst xs)) H1 where
  gg := s.gg.trans (same_upd hg)
  wo := {
    gh := fun b o e => by
      by_cases hb : b = a
      · subst hb; rw [upd_same] at e; cases e; exact hh
      · rw [upd_ne hb] at e; exact s.wo.gh b o e
    len := s.wo.len
    sl := fun i sl e => (s.wo.sl i sl e).mono (same_upd hg) fun b ys e1 h1 h2 ⟨es, e2⟩ => by
      subst e2
      have nb : b ≠ a := fun z => by
        subst z
        have : Ow ρ1 σ b := ⟨i, es, e, by
          cases q : σ[i]? with
          | none => rw [q] at e1; cases e1
          | some x => rw [q] at e1; rw [show x = some (V.ref b) from e1]⟩
        obtain ⟨_, zs, q⟩ := w.at (s.owb this)
        rw [h0] at q; cases q
      exact ⟨by rw [upd_ne nb]; exact h1, h2⟩
    dj := s.wo.dj
    tb := fun P hP => by
      obtain ⟨h1, ps, h2, h3⟩ := s.wo.tb P hP
      have nP : P ≠ a := fun z => by
        subst z
        rw [hh] at h2; cases h2
      exact ⟨by rw [upd_ne nP]; exact h1, ps, h2, h3⟩ }
  fr := s.fr
  al := s.al
  nc := fun b h1 h2 n => by
    have nb : b ≠ a := fun z => by subst z; exact h2 h0
    rw [upd_ne nb]
    exact s.nc b h1 h2 n
  ow := s.ow
theorem pub_ok {r : Sl} {d : D} {v : V} (w : Wo g σ ρ G H) (s : StE g σ ρ G H ρ1 G1 H1) (x : ValOk g H G1 H1 v r) (e : pub r = some d) : ∃ G2, StE g σ ρ G H ρ1 G2 H1 ∧ Rp g.K G2 v d := by
  cases r with
  | sh d' => cases e; exact ⟨G1, s, x⟩
  | ow ds =>
    cases e
    obtain ⟨a, xs, rfl, h0, hg, hh, r⟩ := x
    exact ⟨_, s.lay (ds := ds) w h0 hg hh, .lst upd_same (r.mono (same_upd hg))⟩
  | un => cases e
  | scr _ => cases e
  | rg _ _ => cases e
  | xc _ _ => cases e
/-- one value behind another: the first one, as data -/
theorem tD_bd {β : Type} {fa : Rho → Option (Oc Sl)} {k : D → Rho → Option (Oc β)} {o : Oc β} {Q' : VK} (w : Wo g σ ρ G H) (e : bdD (fa ρ) k = some o)
    (hx : ∀ c fs ρ', o = .ex c fs ρ' → Away g W σ ρ G H c fs ρ')
    (hk : ∀ v d ρ1 G1 H1, StE g σ ρ G H ρ1 G1 H1 → Rp g.K G1 v d → k d ρ1 = some o → Q' v H1) : tD g W fa σ H Q' := by
  unfold bdD bdO at e
  cases q : fa ρ with
  | none => rw [q] at e; cases e
  | some oa =>
    rw [q] at e
    refine ⟨ρ, G, oa, w, q, ?_⟩
    cases oa with
    | ex c fs ρ' => cases e; exact hx c fs ρ' rfl
    | ok r ρ1 =>
      intro v G1 H1 s x
      have e' : (match pub r with | some d => k d ρ1 | none => none) = some o := e
      cases p : pub r with
      | none => rw [p] at e'; cases e'
      | some d =>
        rw [p] at e'
        obtain ⟨G2, s2, rp⟩ := pub_ok w s x p
        exact hk v d ρ1 G2 H1 s2 rp e'
theorem Post.exn {Q : VK} {o : Oc Sl} (p : Post g W σ ρ G H Q o) : ∀ c fs ρ', o = .ex c fs ρ' → Away g W σ ρ G H c fs ρ' := fun c fs ρ' e => by subst e; exact p
theorem PostT.exn {Q : Bool → Hp → Prop} {o : Oc Bool} (p : PostT g W σ ρ G H Q o) : ∀ c fs ρ', o = .ex c fs ρ' → Away g W σ ρ G H c fs ρ' := fun c fs ρ' e => by subst e; exact p
theorem PostA.exn {Q : List V → Hp → Prop} {o : Oc (List D)} (p : PostA g W σ ρ G H Q o) : ∀ c fs ρ', o = .ex c fs ρ' → Away g W σ ρ G H c fs ρ' := fun c fs ρ' e => by subst e; exact p
end
section
variable {X : Cx} {e : Expr}
theorem _root_.L2.PE.imp {t t' : TE} (h : PE X e t) (k : ∀ σ H Q, t' σ H Q → t σ H Q) : PE X e t' := ⟨fun pins s σ H Q I q => h.run pins s σ H Q I (k σ H Q q)⟩
theorem _root_.L2.PT.imp {t t' : TT} (h : PT X e t) (k : ∀ σ H Q, t' σ H Q → t σ H Q) : PT X e t' := ⟨fun pins s σ H Q I q => h.run pins s σ H Q I (k σ H Q q)⟩
theorem _root_.L2.PA.imp {es : List Expr} {t t' : TA} (h : PA X es t) (k : ∀ σ H Q, t' σ H Q → t σ H Q) : PA X es t' := ⟨fun pos pins s σ H Q I q => h.run pos pins s σ H Q I (k σ H Q q)⟩
theorem _root_.L2.PS.imp {st : Stmt} {t t' : TS} (h : PS X st t) (k : ∀ D σ H, t' D σ H → t D σ H) : PS X st t' := ⟨fun pins s σ H D I q => h.run pins s σ H D I (k D σ H q)⟩
theorem _root_.L2.PSs.imp {st : List Stmt} {t t' : TS} (h : PSs X st t) (k : ∀ D σ H, t' D σ H → t D σ H) : PSs X st t' := ⟨fun pins s σ H D I q => h.run pins s σ H D I (k D σ H q)⟩
end
end Rk
set_option Elab.async false
set_option linter.all false
set_option maxRecDepth 100000
set_option maxHeartbeats 4000000
namespace Rk
open PySem PySem.Spec PyProof.Rows L2
section
variable {X : Cx} {pins : List (Addr × Obj)} {σ : St} {H : Hp} {s : Shared}
abbrev tobj (its : List Value) : Obj := { cls := .type "tuple", data := .seq its.toArray }
theorem laidF {xs : List V} {its : List Value} {t' : Nat} (I : Inv X pins σ H s) (r : Vals xs its) (hz : xs.length ≤ sizeLine) :
    Inv X pins σ (upd H s.heap.objs.size (.frz (tobj its) (.tup xs))) { s with heap := s.heap.push (tobj its), toks := t' } :=
  I.laid (t' := t') (fun b u e => Heap.get?_push_of_some _ e) (Nat.le_refl _) ⟨Heap.get?_push_size _ rfl, hz, its, r, ⟨_, Heap.get?_push_size _ rfl, rfl, _, rfl⟩⟩
abbrev TQ (H : Hp) (Q : VK) (xs : List V) : Prop := ∀ p (o : Obj), H p = none → o.dict = none → Q (.ref p) (upd H p (.frz o (.tup xs)))
def tTupF (t : TA) : TE := fun σ H Q => t σ H fun xs H1 => xs.length ≤ sizeLine ∧ TQ H1 Q xs
theorem pe_tupF {es : List Expr} {t : TA} {x1 : Nat} {pos : Pos} (h : PA X es t) : PE X (.Tuple es x1 pos) (tTupF t) := by
  refine ⟨fun pins s σ H Q I hq => ?_⟩
  refine wpAny_Tuple_spliced (thn (h.run pos pins s σ H _ I hq) fun us s1 ⟨xs, H1, I1, r, z, q⟩ => ⟨by rw [← r.length]; exact z, ?_⟩)
  exact ⟨.ref s1.heap.objs.size, _, laidF (t' := s1.toks) I1 r z, rfl, q _ _ (I1.hok.fresh (Nat.le_refl _)) rfl⟩
def rCatF (K : PySem.W.Frag) : R2 := fun x y H Q => ∃ a b xs ys, x = .ref a ∧ y = .ref b ∧ SqT K H a xs ∧ SqT K H b ys ∧ xs.length + ys.length ≤ sizeLine ∧
  (xs = [] → Q (.ref b) H) ∧ (xs ≠ [] → ys = [] → Q (.ref a) H) ∧ (xs ≠ [] → ys ≠ [] → TQ H Q (xs ++ ys))
theorem op_catF : OpR X (binaryOp .Add) (rCatF X.K) := by
  intro pins s σ H x y v u Q I rx ry h
  obtain ⟨a, b, xs, ys, rfl, rfl, ha, hb, hz, q0, q1, q2⟩ := h
  cases rx
  cases ry
  obtain ⟨its, r1, p1, _⟩ := I.tuple ha
  obtain ⟨its2, r2, p2, _⟩ := I.tuple hb
  by_cases hx : xs = []
  · subst hx
    cases r1
    exact cat_tup0 p1 p2 ⟨.ref b, H, I, rfl, q0 rfl⟩
  · refine HT.cat_tup p1 p2 (fun z => hx (r1.nil_iff.mp z)) (fun z => ⟨.ref a, H, I, rfl, q1 hx (r2.nil_iff.mp z)⟩) (fun z => ?_) (by rw [← r1.length, ← r2.length]; exact hz)
    exact ⟨.ref s.heap.objs.size, _, laidF (t' := s.toks) I (r1.append r2) (by rw [List.length_append]; exact hz), rfl, q2 hx (fun w => z (r2.nil_iff.mpr w)) _ _ (I.hok.fresh (Nat.le_refl _)) rfl⟩
def rSlF (K : PySem.W.Frag) : V → Option Int → Option Int → Hp → VK → Prop := fun x lo hi H Q => ∃ a xs, x = .ref a ∧ SqT K H a xs ∧
  (HT.sIx xs.length 0 lo = 0 ∧ HT.sIx xs.length xs.length hi = xs.length → Q (.ref a) H) ∧ (¬ (HT.sIx xs.length 0 lo = 0 ∧ HT.sIx xs.length xs.length hi = xs.length) → TQ H Q (cutV xs lo hi))
theorem sl_tupF : SlR X (rSlF X.K) := by
  intro pins s σ H x v vl vu lo hi sl Q I rx hs pl pu h
  obtain ⟨a, xs, rfl, hx, q1, q2⟩ := h
  cases rx
  obtain ⟨its, r, ht, hz⟩ := I.tuple hx
  have hlen : its.toArray.size = xs.length := by rw [List.size_toArray]; exact r.length.symm
  by_cases hw : HT.sIx xs.length 0 lo = 0 ∧ HT.sIx xs.length xs.length hi = xs.length
  · refine ⟨"tuple", _, PyProof.Rows.slot_tuple_getitem.lookup, ht.typeIs, ?_⟩
    exact getItem_tuple_whole ht hs pl pu (by rw [hlen]; exact hw) ⟨.ref a, H, I, rfl, q1 hw⟩
  · refine ⟨"tuple", _, PyProof.Rows.slot_tuple_getitem.lookup, ht.typeIs, ?_⟩
    refine HT.getItem_tuple_cut ht hs pl pu (by rw [hlen]; exact hw) ?_ (by rw [hlen]; exact hz)
    rw [hlen]
    exact ⟨.ref s.heap.objs.size, _, laidF (t' := s.toks) I ((r.drop (HT.sIx xs.length 0 lo)).take (HT.sIx xs.length xs.length hi - HT.sIx xs.length 0 lo)) (Nat.le_trans (cutV_length xs lo hi) hz), rfl, q2 hw _ _ (I.hok.fresh (Nat.le_refl _)) rfl⟩
theorem call_tupleF : CallR X (.type "tuple") (fun xs H Q => ∃ p ys, xs = [.ref p] ∧ SqL X.K H p ys ∧ TQ H Q ys) := by
  intro pins s σ H xs us Q I r h
  obtain ⟨p, ys, rfl, hq, q⟩ := h
  obtain ⟨u, rfl, rx⟩ := vals1 r
  cases rx
  obtain ⟨its, r', pl, hz⟩ := I.list hq
  have hlen := r'.length
  refine call_tuple_list pl.isList (fun h' kp => ?_) (by simp only [List.size_toArray] <;> omega)
  have I1 : Inv X pins σ H { s with heap := h' } := I.kept (t' := s.toks) kp
  exact ⟨.ref h'.objs.size, _, laidF (t' := s.toks) I1 r' hz, rfl, q _ _ (I1.hok.fresh (Nat.le_refl _)) rfl⟩
def rRepF (K : PySem.W.Frag) : R2 := fun x y H Q => ∃ l k xs, x = .ref l ∧ y = .int k ∧ SqT K H l xs ∧ xs ≠ [] ∧ 2 ≤ k ∧ k ≤ 1000 ∧ xs.length ≤ 1000 ∧ TQ H Q (List.replicate k.toNat xs).flatten
/-- the machine's own conditions for t * k -/
theorem rep_conds {its : List Value} {k : Int} (hn : its ≠ []) (h1 : 2 ≤ k) (h2 : k ≤ 1000) (hz : its.length ≤ 1000) :
    (decide (k < -(2 ^ 63)) || decide (k ≥ 2 ^ 63)) = false ∧ (its.toArray.isEmpty || k == 1) = false ∧ (decide (k ≤ 0) || its.toArray.isEmpty) = false ∧ ¬ ((its.toArray.size : Nat) : Int) * k > (2 ^ 63 - 1) / 8 ∧
    Builtin.Tuple.tupleTooMany (((its.toArray.size : Nat) : Int) * k) = false ∧ (List.replicate k.toNat its).flatten.length ≤ sizeLine := by
  have em : its.toArray.isEmpty = false := by
    cases its with
    | nil => exact absurd rfl hn
    | cons a b => rfl
  have few : ((its.toArray.size : Nat) : Int) * k ≤ 1000000 := by
    have e : its.toArray.size = its.length := List.size_toArray
    have : ((its.length : Nat) : Int) * k ≤ 1000 * k := Int.mul_le_mul_of_nonneg_right (by omega) (by omega)
    rw [e]
    omega
  have len : (List.replicate k.toNat its).flatten.length ≤ 1000 * 1000 := by
    rw [PyProof.Rows.lm_len_rep_flat]
    exact Nat.mul_le_mul (by omega) hz
  have sl := sizeLine_eq
  refine ⟨?_, ?_, ?_, by omega, ?_, by omega⟩
  · rw [decide_eq_false (by omega), Bool.false_or]
    exact decide_eq_false (by omega)
  · rw [em, Bool.false_or, beq_eq_false_iff_ne]
    omega
  · rw [em, Bool.or_false]
    exact decide_eq_false (by omega)
  · show decide _ = false
    exact decide_eq_false (by omega)
theorem op_repF : OpR X (binaryOp .Mult) (rRepF X.K) := by
  intro pins s σ H x y v u Q I rx ry ⟨l, k, xs, ex, ey, hT, hne, h1, h2, hz, q⟩
  subst ex ey
  obtain rfl : v = Value.ref l := rx
  obtain ⟨tk, rfl⟩ := (show ∃ t, u = Value.int k t from ry)
  obtain ⟨its, r, ⟨⟨oc, od, odt, osl⟩, ho, hc, n, hd⟩, _⟩ := I.tuple hT
  dsimp only at hc hd
  subst hc hd
  have hn : its ≠ [] := fun e => by subst e; cases r; exact hne rfl
  obtain ⟨c0, c1, c2, c3, c4, c5⟩ := rep_conds hn h1 h2 (by rw [← r.length]; exact hz)
  have inner : wpAny (model X.prog X.w) X.A (call (.builtin "tuple.__mul__") [.ref l, .int k tk]) (EP X pins σ Q) X.xe s := by
    refine call_meets F.slot_tuple_mul ⟨_, ho, rfl⟩ F.entry_tuple_mul (F.args_tuple_mul_2 _ _) (tuple_mulW l its.toArray n od osl k tk c0 c1 c2 c3 c4 (by rw [size_rep, List.size_toArray]; exact c5)) ⟨ho, ?_⟩
    rw [size_rep]
    exact ⟨.ref s.heap.objs.size, _, laidF (t' := s.toks) I (r.rep k.toNat) (by rw [(r.rep k.toNat).length]; exact c5), rfl, q _ _ (I.hok.fresh (Nat.le_refl _)) rfl⟩
  exact wpAny_binaryOp_repeat_ref (T := "tuple") (U := "int") (by decide) ⟨_, ho, rfl⟩ (fun z => typeIs_int z k tk) noFill_tuple_mul F.fills_int_mul F.slot_int_rmul repeat_tuple F.slot_int_index.lookup
    (call_meets F.slot_int_rmul (typeIs_int s k tk) F.entry_int_rmul (F.args_int_rmul_2 _ _) (int_rmul_tuple k tk l its.toArray n od osl) ⟨ho, rfl, ⟨_, ho, rfl⟩, inner⟩)
/-- t * 1 is t itself -/
theorem mul_one (l : Addr) (items : Array Value) (n : Nat) (dd : Option Addr) (sl : Array (Option Value)) (u : Tok) :
    Meets (Builtin.«tuple.__mul__» ⟨[.ref l, .int 1 u], []⟩) (fun _ R s => s.heap.get? l = some { cls := .type "tuple", dict := dd, data := .seq items n, slots := sl } ∧ R (.ok (.ret (Value.ref l))) s) :=
  .of_wp fun prog w A R s h => by
    obtain ⟨hp, g, d, tk, os⟩ := s
    obtain ⟨hl, h⟩ := h
    have f1 := AutoSeq1.idx_int
    have c1 : (items.isEmpty || (1 : Int) == 1) = true := by simp
    wp_walk using wpAny_loadPart' hl
    exact ⟨_, rfl, h⟩
theorem op_rep1 : OpR X (binaryOp .Mult) (fun x y H Q => ∃ l xs, x = .ref l ∧ y = .int 1 ∧ SqT X.K H l xs ∧ Q (.ref l) H) := by
  intro pins s σ H x y v u Q I rx ry ⟨l, xs, ex, ey, hT, q⟩
  subst ex ey
  obtain rfl : v = Value.ref l := rx
  obtain ⟨tk, rfl⟩ := (show ∃ t, u = Value.int 1 t from ry)
  obtain ⟨its, r, ⟨⟨oc, od, odt, osl⟩, ho, hc, n, hd⟩, _⟩ := I.tuple hT
  dsimp only at hc hd
  subst hc hd
  have inner : wpAny (model X.prog X.w) X.A (call (.builtin "tuple.__mul__") [.ref l, .int 1 tk]) (EP X pins σ Q) X.xe s :=
    call_meets F.slot_tuple_mul ⟨_, ho, rfl⟩ F.entry_tuple_mul (F.args_tuple_mul_2 _ _) (mul_one l its.toArray n od osl tk) ⟨ho, .ref l, H, I, rfl, q⟩
  exact wpAny_binaryOp_repeat_ref (T := "tuple") (U := "int") (by decide) ⟨_, ho, rfl⟩ (fun z => typeIs_int z 1 tk) noFill_tuple_mul F.fills_int_mul F.slot_int_rmul repeat_tuple F.slot_int_index.lookup
    (call_meets F.slot_int_rmul (typeIs_int s 1 tk) F.entry_int_rmul (F.args_int_rmul_2 _ _) (int_rmul_tuple 1 tk l its.toArray n od osl) ⟨ho, rfl, ⟨_, ho, rfl⟩, inner⟩)
end
end Rk
set_option Elab.async false
set_option linter.all false
set_option maxRecDepth 100000
set_option maxHeartbeats 4000000
namespace Rk
open PySem PySem.Spec PyProof.Rows L2
def intsOf : List D → Option (List Int)
  | [] => some []
  | .int i :: r => (intsOf r).map (i :: ·)
  | _ :: _ => none
theorem ints_eq : ∀ {ds : List D} {ns : List Int}, intsOf ds = some ns → ds = ns.map .int
  | [], ns, h => by cases h; rfl
  | .int i :: r, ns, h => by
    obtain ⟨ms, h1, rfl⟩ := Option.map_eq_some_iff.mp (show (intsOf r).map (i :: ·) = some ns from h)
    rw [ints_eq h1]
    rfl
  | .none :: _, _, h => by cases h
  | .bool _ :: _, _, h => by cases h
  | .str _ :: _, _, h => by cases h
  | .list _ :: _, _, h => by cases h
  | .tuple _ :: _, _, h => by cases h
  | .dict _ :: _, _, h => by cases h
theorem rp_ints {K : PySem.W.Frag} {G : Hp} : ∀ {ns : List Int} {vs : List V}, RpAll K G vs (ns.map .int) → vs = ns.map V.int
  | [], _, h => by cases h; rfl
  | n :: r, _, h => by cases h with | cons h1 h2 => cases h1; rw [rp_ints h2]; rfl
theorem rp_of_ints {K : PySem.W.Frag} {G : Hp} : ∀ (ns : List Int), RpAll K G (ns.map V.int) (ns.map .int)
  | [] => .nil
  | n :: r => .cons (.int _) (rp_of_ints r)
/-- how two ints stand -/
def sg3 (i j : Int) : Int := if i < j then -1 else if j < i then 1 else 0
/-- how two rows of ints stand: by the first place where they part, or by their lengths -/
def lexc : List Int → List Int → Int
  | [], [] => 0
  | [], _ :: _ => -1
  | _ :: _, [] => 1
  | x :: xs, y :: ys => if x = y then lexc xs ys else sg3 x y
def Sgn (p : Int → Int → Bool) : Prop := ∀ i j, p i j = p (sg3 i j) 0
theorem sgn_lt : Sgn fun i j => decide (i < j) := fun i j => by
  unfold sg3
  rw [Bool.eq_iff_iff, decide_eq_true_eq, decide_eq_true_eq]
  split <;> (try split) <;> omega
theorem sgn_le : Sgn fun i j => decide (i ≤ j) := fun i j => by
  unfold sg3
  rw [Bool.eq_iff_iff, decide_eq_true_eq, decide_eq_true_eq]
  split <;> (try split) <;> omega
theorem sgn_gt : Sgn fun i j => decide (j < i) := fun i j => by
  unfold sg3
  rw [Bool.eq_iff_iff, decide_eq_true_eq, decide_eq_true_eq]
  split <;> (try split) <;> omega
theorem sgn_ge : Sgn fun i j => decide (j ≤ i) := fun i j => by
  unfold sg3
  rw [Bool.eq_iff_iff, decide_eq_true_eq, decide_eq_true_eq]
  split <;> (try split) <;> omega
theorem lexAt_c {p : Int → Int → Bool} (hp : Sgn p) {ns ms : List Int} : ∀ (k i : Nat), i + k = min ns.length ms.length → Ob.lexAt (fun j => decide (ns.getD j 0 = ms.getD j 0)) (fun j => p (ns.getD j 0) (ms.getD j 0)) (p (ns.length : Nat) (ms.length : Nat)) i k = p (lexc (ns.drop i) (ms.drop i)) 0
  | 0, i, h => by
    rw [Ob.lexAt_zero, hp]
    congr 1
    unfold sg3
    by_cases c1 : i < ns.length
    · have e2 : ms.drop i = [] := List.drop_of_length_le (by omega)
      rw [e2, List.drop_eq_getElem_cons c1, if_neg (by omega), if_pos (by omega)]
      rfl
    · have e1 : ns.drop i = [] := List.drop_of_length_le (by omega)
      by_cases c2 : i < ms.length
      · rw [e1, List.drop_eq_getElem_cons c2, if_pos (by omega)]
        rfl
      · have e2 : ms.drop i = [] := List.drop_of_length_le (by omega)
        rw [e1, e2, if_neg (by omega), if_neg (by omega)]
        rfl
  | k + 1, i, h => by
    have c1 : i < ns.length := by omega
    have c2 : i < ms.length := by omega
    have ih := lexAt_c hp (ns := ns) (ms := ms) k (i + 1) (by omega)
    rw [Ob.lexAt_succ, ih, List.drop_eq_getElem_cons c1, List.drop_eq_getElem_cons c2]
    have g1 : ns.getD i 0 = ns[i] := by rw [List.getD_eq_getElem?_getD, List.getElem?_eq_getElem c1]; rfl
    have g2 : ms.getD i 0 = ms[i] := by rw [List.getD_eq_getElem?_getD, List.getElem?_eq_getElem c2]; rfl
    rw [g1, g2]
    show _ = p (if ns[i] = ms[i] then lexc (ns.drop (i + 1)) (ms.drop (i + 1)) else sg3 ns[i] ms[i]) 0
    by_cases q : ns[i] = ms[i]
    · rw [if_pos (decide_eq_true q), if_pos q]
    · rw [if_neg (by simpa using q), if_neg q, ← hp]
/-- a comparison of tuples, by the comparisons of their items -/
structure TupR (op : CmpOp) (p : Int → Int → Bool) : Prop where
  rc : compareOp op = richCompare op
  sg : Sgn p
  int : ∀ {A : Around} {s : Shared} (a b : Int) (t u : Tok), Ob.RcOp op A s (.int a t) (.int b u) (p a b)
  tup : ∀ {A : Around} {s : Shared} {l b : Addr} {items items2 : Array Value} {e r : Nat → Bool}, s.heap.IsTuple l items → s.heap.IsTuple b items2 → A.units < cLine → (∀ j (h1 : j < items.size) (h2 : j < items2.size), SeqAt.EqAt A.in1 s items[j] items2[j] (e j)) →
    (∀ j (h1 : j < items.size) (h2 : j < items2.size), e j = false → Ob.RcOp op A.in1 s items[j] items2[j] (r j)) → Ob.RcOp op A s (.ref l) (.ref b) (Ob.lexAt e r (p (items.size : Nat) (items2.size : Nat)) 0 (min items.size items2.size))
theorem tr_lt : TupR .Lt fun i j => decide (i < j) := ⟨rfl, sgn_lt, Ob.RcOp.lt_int, fun {A s l b items items2 e r} h1 h2 h3 h4 h5 => by
  have := Ob.RcOp.tuples_lt h1 h2 h3 h4 h5
  rwa [show decide (items.size < items2.size) = decide ((items.size : Int) < (items2.size : Int)) from by rw [Bool.eq_iff_iff, decide_eq_true_eq, decide_eq_true_eq]; omega] at this⟩
theorem tr_le : TupR .LtE fun i j => decide (i ≤ j) := ⟨rfl, sgn_le, Ob.RcOp.le_int, fun {A s l b items items2 e r} h1 h2 h3 h4 h5 => by
  have := Ob.RcOp.tuples_le h1 h2 h3 h4 h5
  rwa [show decide (items.size ≤ items2.size) = decide ((items.size : Int) ≤ (items2.size : Int)) from by rw [Bool.eq_iff_iff, decide_eq_true_eq, decide_eq_true_eq]; omega] at this⟩
theorem tr_gt : TupR .Gt fun i j => decide (j < i) := ⟨rfl, sgn_gt, Ob.RcOp.gt_int, fun {A s l b items items2 e r} h1 h2 h3 h4 h5 => by
  have := Ob.RcOp.tuples_gt h1 h2 h3 h4 h5
  rwa [show decide (items.size > items2.size) = decide ((items2.size : Int) < (items.size : Int)) from by rw [Bool.eq_iff_iff, decide_eq_true_eq, decide_eq_true_eq]; omega] at this⟩
theorem tr_ge : TupR .GtE fun i j => decide (j ≤ i) := ⟨rfl, sgn_ge, Ob.RcOp.ge_int, fun {A s l b items items2 e r} h1 h2 h3 h4 h5 => by
  have := Ob.RcOp.tuples_ge h1 h2 h3 h4 h5
  rwa [show decide (items.size ≥ items2.size) = decide ((items2.size : Int) ≤ (items.size : Int)) from by rw [Bool.eq_iff_iff, decide_eq_true_eq, decide_eq_true_eq]; omega] at this⟩
theorem op_tupI {X : Cx} {op : CmpOp} {p : Int → Int → Bool} (T : TupR op p) (hu : X.A.units < cLine) : OpR X (compareOp op) (fun x y H Q => ∃ (a b : Addr) (ns ms : List Int), x = .ref a ∧ y = .ref b ∧ SqT X.K H a (ns.map V.int) ∧ SqT X.K H b (ms.map V.int) ∧ Q (.bl (p (lexc ns ms) 0)) H) := by
  intro pins s σ H x y v u Q I rx ry ⟨a, b, ns, ms, ex, ey, ha, hb, q⟩
  subst ex ey
  obtain rfl : v = Value.ref a := rx
  obtain rfl : u = Value.ref b := ry
  obtain ⟨xs, r1, p1, _⟩ := I.tuple ha
  obtain ⟨ys, r2, p2, _⟩ := I.tuple hb
  have i1 : IntsAre xs ns := Vals.ints r1
  have i2 : IntsAre ys ms := Vals.ints r2
  have z1 : xs.toArray.size = ns.length := by rw [List.size_toArray, i1.length]
  have z2 : ys.toArray.size = ms.length := by rw [List.size_toArray, i2.length]
  have g1 : ∀ j (h : j < xs.toArray.size), ∃ t, xs.toArray[j] = .int (ns.getD j 0) t := fun j h => PyProof.Rows.IntsAre.int_at i1 _ _ (by simp at h; simp [h])
  have g2 : ∀ j (h : j < ys.toArray.size), ∃ t, ys.toArray[j] = .int (ms.getD j 0) t := fun j h => PyProof.Rows.IntsAre.int_at i2 _ _ (by simp at h; simp [h])
  have bq : ∀ i j : Int, (i == j) = decide (i = j) := fun i j => by
    by_cases h : i = j <;> simp [h]
  have R := T.tup (A := X.A) (s := s) (e := fun j => decide (ns.getD j 0 = ms.getD j 0)) (r := fun j => p (ns.getD j 0) (ms.getD j 0)) p1 p2 hu
    (fun j h1 h2 => by
      obtain ⟨t1, q1⟩ := g1 j h1
      obtain ⟨t2, q2⟩ := g2 j h2
      rw [q1, q2, ← bq]
      exact SeqAt.EqAt.int_int _ _ _ _)
    (fun j h1 h2 _ => by
      obtain ⟨t1, q1⟩ := g1 j h1
      obtain ⟨t2, q2⟩ := g2 j h2
      rw [q1, q2]
      exact T.int _ _ _ _)
  rw [z1, z2, lexAt_c T.sg _ 0 (Nat.zero_add _), List.drop_zero, List.drop_zero] at R
  rw [T.rc]
  exact R X.prog X.w X.xe (EP X pins σ Q) ⟨.bl _, H, I, rfl, q⟩
end Rk
set_option Elab.async false
set_option linter.all false
set_option maxRecDepth 100000
set_option maxHeartbeats 4000000
namespace Rk
open PySem PySem.Spec PyProof.Rows L2
section
variable {g : Gd} {G H : Hp}
/-- what a rule of values hands on -/
abbrev Kq (g : Gd) (G H : Hp) (Q : VK) (z : Sl) : Prop := ∀ v G' H', Grow G H G' H' → ValOk g H G' H' v z → Q v H'
theorem Kq.sh {Q : VK} {d : D} {v : V} (k : Kq g G H Q (.sh d)) (e : Same G H) (r : Rp g.K G v d) : Q v H := k v G H (.refl e) r
theorem none_of_same (e : Same G H) {p : Addr} (h : H p = none) : G p = none := e.free h
theorem Kq.ow {Q : VK} {ds : List D} {xs : List V} {p : Addr} (k : Kq g G H Q (.ow ds)) (e : Same G H) (hp : H p = none) (r : RpAll g.K G xs ds) : Q (.ref p) (upd H p (.lst xs)) :=
  k _ G _ ⟨Same.refl _, fun b o h => by rw [upd_ne (ne_of_none (e _ _ h) hp)]; exact e _ _ h, same_upd hp, fun _ h _ => h⟩ ⟨p, xs, rfl, hp, e.free hp, upd_same, r⟩
theorem Kq.tup {Q : VK} {ds : List D} {xs : List V} {p : Addr} {ob : Obj} (k : Kq g G H Q (.sh (.tuple ds))) (e : Same G H) (hp : H p = none) (hd : ob.dict = none) (r : RpAll g.K G xs ds) : Q (.ref p) (upd H p (.frz ob (.tup xs))) := by
  refine k _ (upd G p (.frz ob (.tup xs))) _ ⟨same_upd (e.free hp), fun b o h => ?_, same_upd hp, fun b h h2 => ?_⟩ (.tup (.inl ⟨ob, hd, upd_same⟩) (r.mono (same_upd (e.free hp))))
  · by_cases hb : b = p
    · subst hb; rw [upd_same] at h ⊢; exact h
    · rw [upd_ne hb] at h ⊢; exact e _ _ h
  · have nb : b ≠ p := fun z => by subst z; exact h2 hp
    rw [upd_ne nb]; exact h
end
def rS2 (g : Gd) (sem : D → D → Option Sl) : R2 := fun x y H Q => ∃ G dx dy z, Same G H ∧ Rp g.K G x dx ∧ Rp g.K G y dy ∧ sem dx dy = some z ∧ Kq g G H Q z
def rS1 (g : Gd) (sem : D → Option Sl) : V → Hp → VK → Prop := fun x H Q => ∃ G dx z, Same G H ∧ Rp g.K G x dx ∧ sem dx = some z ∧ Kq g G H Q z
def rSC (g : Gd) (sem : List D → Option Sl) : List V → Hp → VK → Prop := fun vs H Q => ∃ G ds z, Same G H ∧ RpAll g.K G vs ds ∧ sem ds = some z ∧ Kq g G H Q z
def big : Nat := 16777216
theorem big_eq : big = sizeLine := sizeLine_eq.symm
def sAdd : D → D → Option Sl
  | .int i, .int j => some (.sh (.int (i + j)))
  | .str x, .str y => if x.length + y.length ≤ big then some (.sh (.str (x ++ y))) else none
  | .list xs, .list ys => if xs.length + ys.length ≤ big then some (.ow (xs ++ ys)) else none
  | .tuple xs, .tuple ys => if xs.length + ys.length ≤ big then some (.sh (.tuple (xs ++ ys))) else none
  | _, _ => none
def sSub : D → D → Option Sl
  | .int i, .int j => some (.sh (.int (i - j)))
  | _, _ => none
def sMul : D → D → Option Sl
  | .int i, .int j => if (-(2 ^ 64) < i ∧ i < 2 ^ 64) ∨ (-(2 ^ 64) < j ∧ j < 2 ^ 64) then some (.sh (.int (i * j))) else none
  | .list xs, .int k => if k < 1000000 ∧ -1000000 < k ∧ xs.length * k.toNat ≤ big then some (.ow (List.replicate k.toNat xs).flatten) else none
  | .tuple xs, .int k => if xs ≠ [] ∧ 1 ≤ k ∧ k ≤ 1000 ∧ xs.length ≤ 1000 then some (.sh (.tuple (List.replicate k.toNat xs).flatten)) else none
  | _, _ => none
def sMod : D → D → Option Sl
  | .int i, .int j => if 0 < j then some (.sh (.int (i % j))) else none
  | _, _ => none
def sDiv : D → D → Option Sl
  | .int i, .int j => if 0 < j ∧ j < 1073741824 then some (.sh (.int (i / j))) else none
  | _, _ => none
def sPow : D → D → Option Sl
  | .int i, .int j => if 0 ≤ j ∧ j ≤ 1000000 ∧ i.natAbs < 2 ^ 64 then some (.sh (.int (i ^ j.toNat))) else none
  | _, _ => none
section
variable {X : Cx} {g : Gd} (hK : g.K = X.K)
include hK
theorem rpAll_rep {K : PySem.W.Frag} {G : Hp} {xs : List V} {ds : List D} (r : RpAll K G xs ds) : ∀ n : Nat, RpAll K G (List.replicate n xs).flatten (List.replicate n ds).flatten
  | 0 => .nil
  | n + 1 => by
    simp only [List.replicate_succ, List.flatten_cons]
    exact r.app (rpAll_rep r n)
theorem o_add : OpR X (binaryOp .Add) (rS2 g sAdd) := by
  intro pins s σ H x y v u Q I rx ry ⟨G, dx, dy, z, e, r1, r2, hs, k⟩
  unfold sAdd at hs
  split at hs
  · cases hs; cases r1; cases r2
    exact op_add pins s σ H _ _ v u Q I rx ry ⟨_, _, rfl, rfl, k.sh e (.int _)⟩
  · split at hs
    · rename_i hz; cases hs; cases r1; cases r2
      rw [big_eq] at hz
      exact op_add_str pins s σ H _ _ v u Q I rx ry ⟨_, _, rfl, rfl, hz, k.sh e (.str _)⟩
    · cases hs
  · split at hs
    · rename_i hz; cases hs
      cases r1 with | lst a1 b1 =>
      cases r2 with | lst a2 b2 =>
      rw [big_eq, ← b1.len, ← b2.len] at hz
      exact op_cat pins s σ H _ _ v u Q I rx ry ⟨_, _, _, _, rfl, rfl, e _ _ a1, e _ _ a2, hz, fun p hp => k.ow e hp (b1.app b2)⟩
    · cases hs
  · split at hs
    · rename_i hz; cases hs
      cases r1 with | tup a1 b1 =>
      cases r2 with | tup a2 b2 =>
      rw [big_eq, ← b1.len, ← b2.len] at hz
      have a1' := (sqN_mono e a1).t
      have a2' := (sqN_mono e a2).t
      rw [hK] at a1' a2'
      refine op_catF pins s σ H _ _ v u Q I rx ry ⟨_, _, _, _, rfl, rfl, a1', a2', hz, fun z => ?_, fun _ z => ?_, fun _ _ p o hp hd => k.tup e hp hd (b1.app b2)⟩
      · subst z; cases b1
        exact k.sh e (.tup a2 b2)
      · subst z; cases b2
        rw [List.append_nil] at k
        exact k.sh e (.tup a1 b1)
    · cases hs
  · cases hs
theorem o_sub : OpR X (binaryOp .Sub) (rS2 g sSub) := by
  intro pins s σ H x y v u Q I rx ry ⟨G, dx, dy, z, e, r1, r2, hs, k⟩
  unfold sSub at hs
  split at hs
  · cases hs; cases r1; cases r2
    exact op_sub pins s σ H _ _ v u Q I rx ry ⟨_, _, rfl, rfl, k.sh e (.int _)⟩
  · cases hs
theorem o_mul : OpR X (binaryOp .Mult) (rS2 g sMul) := by
  intro pins s σ H x y v u Q I rx ry ⟨G, dx, dy, z, e, r1, r2, hs, k⟩
  unfold sMul at hs
  split at hs
  · split at hs
    · rename_i hz; cases hs; cases r1; cases r2
      exact op_mul pins s σ H _ _ v u Q I rx ry ⟨_, _, rfl, rfl, hz, k.sh e (.int _)⟩
    · cases hs
  · split at hs
    · rename_i hz; cases hs
      cases r1 with | lst a1 b1 =>
      cases r2
      obtain ⟨h1, h2, h3⟩ := hz
      rw [big_eq, ← b1.len] at h3
      exact op_rep pins s σ H _ _ v u Q I rx ry ⟨_, _, _, rfl, rfl, e _ _ a1, by omega, by omega, h3, fun p hp => k.ow e hp (rpAll_rep hK b1 _)⟩
    · cases hs
  · split at hs
    · rename_i hz; cases hs
      cases r1 with | tup a1 b1 =>
      cases r2
      obtain ⟨h0, h1, h2, h3⟩ := hz
      have a1' := (sqN_mono e a1).t
      rw [hK] at a1'
      rename_i k0 _ _
      by_cases hk1 : k0 = 1
      · subst hk1
        refine op_rep1 pins s σ H _ _ v u Q I rx ry ⟨_, _, rfl, rfl, a1', ?_⟩
        rw [show (List.replicate (1 : Int).toNat _).flatten = _ from List.append_nil _] at k
        exact k.sh e (.tup a1 b1)
      have h1 : 2 ≤ k0 := by omega
      rw [← b1.len] at h3
      exact op_repF pins s σ H _ _ v u Q I rx ry ⟨_, _, _, rfl, rfl, a1', fun z => (by subst z; cases b1; exact h0 rfl), h1, h2, h3, fun p o hp hd => k.tup e hp hd (rpAll_rep hK b1 _)⟩
    · cases hs
  · cases hs
theorem o_mod : OpR X (binaryOp .Mod) (rS2 g sMod) := by
  intro pins s σ H x y v u Q I rx ry ⟨G, dx, dy, z, e, r1, r2, hs, k⟩
  unfold sMod at hs
  split at hs
  · split at hs
    · rename_i hz; cases hs; cases r1; cases r2
      exact op_mod pins s σ H _ _ v u Q I rx ry ⟨_, _, rfl, rfl, hz, k.sh e (.int _)⟩
    · cases hs
  · cases hs
theorem o_div : OpR X (binaryOp .FloorDiv) (rS2 g sDiv) := by
  intro pins s σ H x y v u Q I rx ry ⟨G, dx, dy, z, e, r1, r2, hs, k⟩
  unfold sDiv at hs
  split at hs
  · split at hs
    · rename_i hz; cases hs; cases r1; cases r2
      exact op_fdiv pins s σ H _ _ v u Q I rx ry ⟨_, _, rfl, rfl, hz, k.sh e (.int _)⟩
    · cases hs
  · cases hs
theorem o_pow : OpR X (binaryOp .Pow) (rS2 g sPow) := by
  intro pins s σ H x y v u Q I rx ry ⟨G, dx, dy, z, e, r1, r2, hs, k⟩
  unfold sPow at hs
  split at hs
  · split at hs
    · rename_i hz; cases hs; cases r1; cases r2
      exact op_pow pins s σ H _ _ v u Q I rx ry ⟨_, _, rfl, rfl, hz, k.sh e (.int _)⟩
    · cases hs
  · cases hs
end
def bl (b : Bool) : Sl := .sh (.bool b)
def okc (d e : D) : Bool := d.canLay0 && e.canLay0 && decide (d.depth ≤ 64) && decide (e.depth ≤ 64)
def sEq (d e : D) : Option Sl := if okc d e then some (bl (PyData.eqv d e)) else none
def sNe (d e : D) : Option Sl := if okc d e then some (bl (!PyData.eqv d e)) else none
def sCmp (p : Int → Int → Bool) : D → D → Option Sl
  | .int i, .int j => some (bl (p i j))
  | .tuple xs, .tuple ys => (match intsOf xs, intsOf ys with
    | some ns, some ms => some (bl (p (lexc ns ms) 0))
    | _, _ => none)
  | _, _ => none
def inL (d : D) (es : List D) (neg : Bool) : Option Sl := if d.canLay0 && PyData.canLayAll0 es && decide (d.depth ≤ 64) then some (bl (if neg then !(es.any fun z => PyData.eqv z d) else es.any fun z => PyData.eqv z d)) else none
def sIn (neg : Bool) : D → D → Option Sl
  | d, .list es => inL d es neg
  | d, .tuple es => inL d es neg
  | .str x, .str y => some (bl (if neg then !(!(Builtin.Str.occurrences y x 0 y.length 1).isEmpty) else !(Builtin.Str.occurrences y x 0 y.length 1).isEmpty))
  | _, _ => none
def isN : D → Bool
  | .none => true
  | _ => false
def sIsB (neg : Bool) : D → D → Option Sl
  | .bool a, .bool b => some (bl (if neg then !decide (a = b) else decide (a = b)))
  | _, _ => none
def sIsN (neg : Bool) (d e : D) : Option Sl := if isN e then some (bl (if neg then !isN d else isN d)) else sIsB neg d e
section
variable {X : Cx} {g : Gd} {k : Nat} (hK : g.K = X.K)
include hK
theorem okc_sh {d e : D} (h : okc d e = true) : SeqAt.shaped d = true ∧ SeqAt.shaped e = true := by
  unfold okc at h
  simp only [Bool.and_eq_true, decide_eq_true_eq] at h
  obtain ⟨⟨⟨h1, h2⟩, h3⟩, h4⟩ := h
  exact ⟨by show (d.canLay0 && decide (d.depth ≤ 64)) = true; simp [h1, h3], by show (e.canLay0 && decide (e.depth ≤ 64)) = true; simp [h2, h4]⟩
theorem o_eq (hu : X.A.units + 64 < cLine) : OpR X (compareOp .Eq) (rS2 g sEq) := by
  intro pins s σ H x y v u Q I rx ry ⟨G, dx, dy, z, e, r1, r2, hs, k⟩
  unfold sEq at hs
  split at hs
  · rename_i hz; cases hs
    obtain ⟨s1, s2⟩ := okc_sh hK hz
    exact op_eqD hu pins s σ H x y v u Q I rx ry ⟨dx, dy, hK ▸ r1.dp e, hK ▸ r2.dp e, s1, s2, k.sh e (.bl _)⟩
  · cases hs
theorem o_ne (hu : X.A.units + 64 < cLine) : OpR X (compareOp .NotEq) (rS2 g sNe) := by
  intro pins s σ H x y v u Q I rx ry ⟨G, dx, dy, z, e, r1, r2, hs, k⟩
  unfold sNe at hs
  split at hs
  · rename_i hz; cases hs
    obtain ⟨s1, s2⟩ := okc_sh hK hz
    exact op_neD hu pins s σ H x y v u Q I rx ry ⟨dx, dy, hK ▸ r1.dp e, hK ▸ r2.dp e, s1, s2, k.sh e (.bl _)⟩
  · cases hs
theorem o_cmp {op : CmpOp} {p : Int → Int → Bool} (h : OpR X (compareOp op) (rI0 fun i j => .bl (p i j))) (hu : X.A.units + 64 < cLine) (T : TupR op p) : OpR X (compareOp op) (rS2 g (sCmp p)) := by
  intro pins s σ H x y v u Q I rx ry ⟨G, dx, dy, z, e, r1, r2, hs, k⟩
  unfold sCmp at hs
  split at hs
  · cases hs; cases r1; cases r2
    exact h pins s σ H _ _ v u Q I rx ry ⟨_, _, rfl, rfl, k.sh e (.bl _)⟩
  · split at hs
    · rename_i ns ms q1 q2
      cases hs
      cases r1 with | tup a1 b1 =>
      cases r2 with | tup a2 b2 =>
      rw [ints_eq q1] at b1
      rw [ints_eq q2] at b2
      rw [rp_ints b1] at a1
      rw [rp_ints b2] at a2
      exact op_tupI T (by omega) pins s σ H _ _ v u Q I rx ry ⟨_, _, ns, ms, rfl, rfl, hK ▸ (sqN_mono e a1).t, hK ▸ (sqN_mono e a2).t, k.sh e (.bl _)⟩
    · cases hs
  · cases hs
theorem o_in (hu : X.A.units + 65 < cLine) : OpR X (compareOp .In) (rS2 g (sIn false)) := by
  intro pins s σ H x y v u Q I rx ry ⟨G, dx, dy, z, e, r1, r2, hs, k⟩
  unfold sIn at hs
  split at hs
  · unfold inL at hs
    split at hs
    · rename_i es hz; cases hs
      simp only [Bool.and_eq_true, decide_eq_true_eq] at hz
      obtain ⟨⟨h1, h2⟩, h3⟩ := hz
      obtain ⟨as, q1⟩ := Dp.reads I _ x v (hK ▸ r1.dp e) rx
      obtain ⟨bs, q2⟩ := Dp.reads I _ y u (hK ▸ r2.dp e) ry
      exact SeqAt.in_list_reads q2 q1 h2 h1 (by have : min (PyData.depthAll es) dx.depth ≤ dx.depth := Nat.min_le_right _ _; omega) ⟨.bl _, H, I, rfl, k.sh e (.bl _)⟩
    · cases hs
  · unfold inL at hs
    split at hs
    · rename_i es hz; cases hs
      simp only [Bool.and_eq_true, decide_eq_true_eq] at hz
      obtain ⟨⟨h1, h2⟩, h3⟩ := hz
      obtain ⟨as, q1⟩ := Dp.reads I _ x v (hK ▸ r1.dp e) rx
      obtain ⟨bs, q2⟩ := Dp.reads I _ y u (hK ▸ r2.dp e) ry
      exact SeqAt.in_tuple_reads q2 q1 h2 h1 (by have : min (PyData.depthAll es) dx.depth ≤ dx.depth := Nat.min_le_right _ _; omega) ⟨.bl _, H, I, rfl, k.sh e (.bl _)⟩
    · cases hs
  · cases hs; cases r1; cases r2
    exact op_in_str pins s σ H _ _ v u Q I rx ry ⟨_, _, rfl, rfl, k.sh e (.bl _)⟩
  · cases hs
theorem o_notin (hu : X.A.units + 65 < cLine) : OpR X (compareOp .NotIn) (rS2 g (sIn true)) := by
  intro pins s σ H x y v u Q I rx ry ⟨G, dx, dy, z, e, r1, r2, hs, k⟩
  unfold sIn at hs
  split at hs
  · unfold inL at hs
    split at hs
    · rename_i es hz; cases hs
      simp only [Bool.and_eq_true, decide_eq_true_eq] at hz
      obtain ⟨⟨h1, h2⟩, h3⟩ := hz
      obtain ⟨as, q1⟩ := Dp.reads I _ x v (hK ▸ r1.dp e) rx
      obtain ⟨bs, q2⟩ := Dp.reads I _ y u (hK ▸ r2.dp e) ry
      exact SeqAt.notIn_list_reads q2 q1 h2 h1 (by have : min (PyData.depthAll es) dx.depth ≤ dx.depth := Nat.min_le_right _ _; omega) ⟨.bl _, H, I, rfl, k.sh e (.bl _)⟩
    · cases hs
  · unfold inL at hs
    split at hs
    · rename_i es hz; cases hs
      simp only [Bool.and_eq_true, decide_eq_true_eq] at hz
      obtain ⟨⟨h1, h2⟩, h3⟩ := hz
      obtain ⟨as, q1⟩ := Dp.reads I _ x v (hK ▸ r1.dp e) rx
      obtain ⟨bs, q2⟩ := Dp.reads I _ y u (hK ▸ r2.dp e) ry
      exact SeqAt.notIn_tuple_reads q2 q1 h2 h1 (by have : min (PyData.depthAll es) dx.depth ≤ dx.depth := Nat.min_le_right _ _; omega) ⟨.bl _, H, I, rfl, k.sh e (.bl _)⟩
    · cases hs
  · cases hs; cases r1; cases r2
    exact op_notIn_str pins s σ H _ _ v u Q I rx ry ⟨_, _, rfl, rfl, k.sh e (.bl _)⟩
  · cases hs
theorem Rp.isN {K : PySem.W.Frag} {G : Hp} {v : V} {d : D} (h : Rp K G v d) : isN d = decide (v = .non) := by
  cases h <;> rfl
theorem o_is : OpR X (compareOp .Is) (rS2 g (sIsN false)) := by
  intro pins s σ H x y v u Q I rx ry ⟨G, dx, dy, z, e, r1, r2, hs, k⟩
  unfold sIsN at hs
  split at hs
  · rename_i hz; cases hs
    have : dy = .none := by cases dy <;> first | rfl | cases hz
    subst this
    cases r2
    refine op_isN pins s σ H _ _ v u Q I rx ry ⟨rfl, ?_⟩
    rw [← Rp.isN hK r1]
    exact k.sh e (.bl _)
  · unfold sIsB at hs
    split at hs
    · cases hs; cases r1; cases r2
      exact op_isBl pins s σ H _ _ v u Q I rx ry ⟨_, _, rfl, rfl, k.sh e (.bl _)⟩
    · cases hs
theorem o_isnot : OpR X (compareOp .IsNot) (rS2 g (sIsN true)) := by
  intro pins s σ H x y v u Q I rx ry ⟨G, dx, dy, z, e, r1, r2, hs, k⟩
  unfold sIsN at hs
  split at hs
  · rename_i hz; cases hs
    have : dy = .none := by cases dy <;> first | rfl | cases hz
    subst this
    cases r2
    refine op_notN pins s σ H _ _ v u Q I rx ry ⟨rfl, ?_⟩
    rw [← Rp.isN hK r1]
    exact k.sh e (.bl _)
  · unfold sIsB at hs
    split at hs
    · cases hs; cases r1; cases r2
      exact op_notBl pins s σ H _ _ v u Q I rx ry ⟨_, _, rfl, rfl, k.sh e (.bl _)⟩
    · cases hs
end
def truD : D → Option Bool
  | .none => some false
  | .bool b => some b
  | .int i => some (i != 0)
  | .str x => if x.length ≤ big then some ((x.length : Int) != 0) else none
  | .list xs => some (!xs.isEmpty)
  | .tuple xs => some (!xs.isEmpty)
  | .dict _ => none
def lenD : D → Option Nat
  | .str x => if x.length ≤ big then some x.length else none
  | .list xs => some xs.length
  | .tuple xs => some xs.length
  | _ => none
section
variable {g : Gd} {K : PySem.W.Frag} {G H : Hp}
theorem isEmpty_rp {xs : List V} {ds : List D} (r : RpAll K G xs ds) : (!xs.isEmpty) = !ds.isEmpty := by cases r <;> rfl
theorem tru_of (e : Same G H) {d : D} {v : V} {b : Bool} (r : Rp K G v d) (h : truD d = some b) : TruV K v H b := by
  cases r with
  | non => cases h; rfl
  | bl c => cases h; rfl
  | int i => cases h; rfl
  | str x =>
    have h : (if x.length ≤ big then some ((x.length : Int) != 0) else none) = some b := h
    split at h
    · rename_i hz
      cases h
      rw [big_eq] at hz
      exact ⟨hz, rfl⟩
    · cases h
  | lst a1 b1 =>
    cases h
    exact .inl ⟨_, SqL.of (e _ _ a1), (isEmpty_rp b1).symm⟩
  | tup a1 b1 =>
    cases h
    exact .inr (.inl ⟨_, (sqN_mono e a1).t, (isEmpty_rp b1).symm⟩)
theorem len_of (e : Same G H) {d : D} {v : V} {n : Nat} (r : Rp K G v d) (h : lenD d = some n) : LenV K v H n := by
  cases r with
  | non => cases h
  | bl c => cases h
  | int i => cases h
  | str x =>
    have h : (if x.length ≤ big then some x.length else none) = some n := h
    split at h
    · rename_i hz
      cases h
      rw [big_eq] at hz
      exact ⟨hz, rfl⟩
    · cases h
  | lst a1 b1 =>
    cases h
    exact .inl ⟨_, SqL.of (e _ _ a1), b1.len.symm⟩
  | tup a1 b1 =>
    cases h
    exact .inr ⟨_, (sqN_mono e a1).t, b1.len.symm⟩
end
end Rk
set_option Elab.async false
set_option linter.all false
set_option maxRecDepth 100000
set_option maxHeartbeats 4000000
namespace Rk
open PySem PySem.Spec PyProof.Rows L2
abbrev Ev := Rho → Option (Oc Sl)
abbrev EvT := Rho → Option (Oc Bool)
abbrev EvA := Rho → Option (Oc (List D))
def lift (z : Option Sl) (ρ : Rho) : Option (Oc Sl) := match z with
  | some r => some (.ok r ρ)
  | none => none
theorem lift_ok {z : Option Sl} {ρ : Rho} {o : Oc Sl} (h : lift z ρ = some o) : ∃ r, z = some r ∧ o = .ok r ρ := by
  cases z with
  | none => cases h
  | some r => cases h; exact ⟨r, rfl, rfl⟩
def cK (d : D) : Ev := fun ρ => some (.ok (.sh d) ρ)
def cName (i : Nat) : Ev := fun ρ => match ρ[i]? with
  | some (.sh d) => some (.ok (.sh d) ρ)
  | some (.ow ds) => some (.ok (.sh (.list ds)) (ρ.set i (.sh (.list ds))))
  | some (.scr ns) => some (.ok (.scr ns) ρ)
  | _ => none
def cBin (sem : D → D → Option Sl) (fa fb : Ev) : Ev := fun ρ => bdD (fa ρ) fun x ρ1 => bdD (fb ρ1) fun y ρ2 => lift (sem x y) ρ2
def cUn (sem : D → Option Sl) (fa : Ev) : Ev := fun ρ => bdD (fa ρ) fun x ρ1 => lift (sem x) ρ1
def cT (fa : Ev) : EvT := fun ρ => bdD (fa ρ) fun d ρ1 => match truD d with
  | some b => some (.ok b ρ1)
  | none => none
def cAndT (fa fb : EvT) : EvT := fun ρ => bdO (fa ρ) fun b ρ1 => match b with
  | true => fb ρ1
  | false => some (.ok false ρ1)
def cOrT (fa fb : EvT) : EvT := fun ρ => bdO (fa ρ) fun b ρ1 => match b with
  | true => some (.ok true ρ1)
  | false => fb ρ1
def cNotT (fa : EvT) : EvT := fun ρ => bdO (fa ρ) fun b ρ1 => some (.ok (!b) ρ1)
def cAndV (fa fb : Ev) : Ev := fun ρ => bdD (fa ρ) fun x ρ1 => match x with
  | .bool true => fb ρ1
  | .bool false => some (.ok (bl false) ρ1)
  | _ => none
def cOrV (fa fb : Ev) : Ev := fun ρ => bdD (fa ρ) fun x ρ1 => match x with
  | .bool true => some (.ok (bl true) ρ1)
  | .bool false => fb ρ1
  | _ => none
def cNotV (fa : Ev) : Ev := fun ρ => bdD (fa ρ) fun x ρ1 => match x with
  | .bool b => some (.ok (bl (!b)) ρ1)
  | _ => none
def cIf (t : EvT) (fa fb : Ev) : Ev := fun ρ => bdO (t ρ) fun b ρ1 => match b with
  | true => fa ρ1
  | false => fb ρ1
def cChain (s1 s2 : D → D → Option Sl) (fa fb fc : Ev) : Ev := fun ρ => bdD (fa ρ) fun x ρ1 => bdD (fb ρ1) fun y ρ2 => match s1 x y with
  | some (.sh (.bool true)) => bdD (fc ρ2) fun z ρ3 => lift (s2 y z) ρ3
  | some (.sh (.bool false)) => some (.ok (bl false) ρ2)
  | _ => none
def cA0 : EvA := fun ρ => some (.ok [] ρ)
def cA1 (f : Ev) (fs : EvA) : EvA := fun ρ => bdD (f ρ) fun x ρ1 => bdO (fs ρ1) fun xs ρ2 => some (.ok (x :: xs) ρ2)
def cTup (fs : EvA) : Ev := fun ρ => bdO (fs ρ) fun xs ρ1 => if xs.length ≤ big then some (.ok (.sh (.tuple xs)) ρ1) else none
def cLst (fs : EvA) : Ev := fun ρ => bdO (fs ρ) fun xs ρ1 => if xs.length ≤ big then some (.ok (.ow xs) ρ1) else none
def cCall (sem : List D → Option Sl) (fs : EvA) : Ev := fun ρ => bdO (fs ρ) fun xs ρ1 => lift (sem xs) ρ1
section
variable {g : Gd} {W : WX} {σ : St} {ρ ρ1 : Rho} {G H G1 H1 : Hp}
theorem Post.kq {Q : VK} {z : Sl} (p : Post g W σ ρ G H Q (.ok z ρ)) (w : Wo g σ ρ G H) : Kq g G H Q z := fun v G' H' gr x => p v G' H' (w.step gr) x
theorem Post.now {Q : VK} {d : D} {v : V} (p : Post g W σ ρ G H Q (.ok (.sh d) ρ)) (w : Wo g σ ρ G H) (r : Rp g.K G v d) : Q v H := p v G H (.refl w) r
theorem PostT.now {Q : Bool → Hp → Prop} {b : Bool} (p : PostT g W σ ρ G H Q (.ok b ρ)) (w : Wo g σ ρ G H) : Q b H := p G H (.refl w)
/-- one test ahead -/
theorem tD_bt {β : Type} {ft : EvT} {k : Bool → Rho → Option (Oc β)} {o : Oc β} {Q' : Bool → Hp → Prop} (w : Wo g σ ρ G H) (e : bdO (ft ρ) k = some o)
    (hx : ∀ c fs ρ', o = .ex c fs ρ' → Away g W σ ρ G H c fs ρ')
    (hk : ∀ b ρ1 G1 H1, StE g σ ρ G H ρ1 G1 H1 → k b ρ1 = some o → Q' b H1) : tDT g W ft σ H Q' := by
  unfold bdO at e
  cases q : ft ρ with
  | none => rw [q] at e; cases e
  | some oa =>
    rw [q] at e
    refine ⟨ρ, G, oa, w, q, ?_⟩
    cases oa with
    | ex c fs ρ' => cases e; exact hx c fs ρ' rfl
    | ok b ρ1 => exact fun G1 H1 s => hk b ρ1 G1 H1 s e
theorem tD_ba {β : Type} {fa : EvA} {k : List D → Rho → Option (Oc β)} {o : Oc β} {Q' : List V → Hp → Prop} (w : Wo g σ ρ G H) (e : bdO (fa ρ) k = some o)
    (hx : ∀ c fs ρ', o = .ex c fs ρ' → Away g W σ ρ G H c fs ρ')
    (hk : ∀ vs ds ρ1 G1 H1, StE g σ ρ G H ρ1 G1 H1 → RpAll g.K G1 vs ds → k ds ρ1 = some o → Q' vs H1) : tDA g W fa σ H Q' := by
  unfold bdO at e
  cases q : fa ρ with
  | none => rw [q] at e; cases e
  | some oa =>
    rw [q] at e
    refine ⟨ρ, G, oa, w, q, ?_⟩
    cases oa with
    | ex c fs ρ' => cases e; exact hx c fs ρ' rfl
    | ok ds ρ1 => exact fun vs G1 H1 s r => hk vs ds ρ1 G1 H1 s r e
/-- a slot's own list is laid down for good -/
theorem Wo.layAt {i : Nat} {ds : List D} (w : Wo g σ ρ G H) (e : ρ[i]? = some (.ow ds)) : ∃ a xs, σ[i]? = some (some (.ref a)) ∧ H a = some (.lst xs) ∧ StE g σ ρ G H (ρ.set i (.sh (.list ds))) (upd G a (.lst xs)) H ∧ Rp g.K (upd G a (.lst xs)) (.ref a) (.list ds) := by
  obtain ⟨a, xs, e1, hg, hh, r⟩ := w.sl i _ e
  have es : σ[i]? = some (some (.ref a)) := by
    cases q : σ[i]? with
    | none => rw [q] at e1; cases e1
    | some x => rw [q] at e1; rw [show x = some (V.ref a) from e1]
  have hr : Rp g.K (upd G a (.lst xs)) (.ref a) (.list ds) := .lst upd_same (r.mono (same_upd hg))
  have hi : i < ρ.length := (List.getElem?_eq_some_iff.mp e).1
  refine ⟨a, xs, es, hh, ⟨same_upd hg, ⟨fun b o q => ?_, by rw [List.length_set]; exact w.len, fun j sl q => ?_, fun j k b d1 d2 q1 q2 q3 q4 => ?_, fun P hP => ?_⟩, fun _ _ q _ _ => q, fun _ q => q, fun b h1 h2 n => ?_, fun j d1 q => ?_⟩, hr⟩
  · by_cases hb : b = a
    · subst hb; rw [upd_same] at q; cases q; exact hh
    · rw [upd_ne hb] at q; exact w.gh b o q
  · by_cases hj : i = j
    · subst hj
      rw [List.getElem?_set_self hi] at q
      cases q
      rw [es]
      exact ⟨_, rfl, hr⟩
    · rw [List.getElem?_set_ne hj] at q
      refine (w.sl j sl q).mono (same_upd hg) fun b ys e2 h1 h2 ⟨d1, e3⟩ => ⟨?_, h2⟩
      subst e3
      have eb : σ[j]? = some (some (.ref b)) := by
        cases q2 : σ[j]? with
        | none => rw [q2] at e2; cases e2
        | some x => rw [q2] at e2; rw [show x = some (V.ref b) from e2]
      have nb : b ≠ a := fun z => by
        subst z
        exact hj (w.dj i j b ds d1 e q es eb)
      rw [upd_ne nb]
      exact h1
  · have ne : ∀ (m : Nat) (d : List D), (ρ.set i (.sh (.list ds)))[m]? = some (.ow d) → ρ[m]? = some (.ow d) := fun m d q => by
      by_cases hm : i = m
      · subst hm; rw [List.getElem?_set_self hi] at q; cases q
      · rw [List.getElem?_set_ne hm] at q; exact q
    exact w.dj j k b d1 d2 (ne j d1 q1) (ne k d2 q2) q3 q4
  · obtain ⟨h1, ps, h2, h3⟩ := w.tb P hP
    have nP : P ≠ a := fun z => by subst z; rw [hh] at h2; cases h2
    exact ⟨by rw [upd_ne nP]; exact h1, ps, h2, h3⟩
  · have nb : b ≠ a := fun z => by subst z; exact n ⟨i, ds, e, es⟩
    rw [upd_ne nb]
    exact h1
  · by_cases hj : i = j
    · subst hj; rw [List.getElem?_set_self hi] at q; cases q
    · rw [List.getElem?_set_ne hj] at q; exact ⟨d1, q⟩
end
section
variable {X : Cx} {g : Gd} {W : WX} {e a b c : Expr} {es : List Expr} {pos : Pos} {fa fb fc : Ev}
theorem e_const {f : Expr} {d : D} {v : V} (h : PE X f (tC v)) (r : ∀ G, Rp g.K G v d) : PE X f (tD g W (cK d)) := h.imp fun σ H Q ⟨ρ, G, o, w, e, p⟩ => by
  cases e
  exact p.now w (r G)
theorem e_name {i : Nat} {x : Str} (hN : X.N[i]? = some x) (hv : Vis X.env.scope x) (hd : (x == ("__debug__" : Str)) = false) (hcd : (x == ("__classdict__" : Str)) = false) : PE X (.Name x pos) (tD g W (cName i)) :=
  (pe_var hN hv hd hcd).imp fun σ H Q ⟨ρ, G, o, w, e, p⟩ => by
    unfold cName at e
    split at e
    · rename_i d q
      cases e
      obtain ⟨v, e1, r⟩ := w.sl i _ q
      refine ⟨v, ?_, p.now w r⟩
      cases q2 : σ[i]? with
      | none => rw [q2] at e1; cases e1
      | some y => rw [q2] at e1; rw [show y = some v from e1]
    · rename_i ds q
      cases e
      obtain ⟨a, xs, es, hh, st, r⟩ := w.layAt q
      exact ⟨_, es, p _ _ _ st r⟩
    · rename_i ns q
      cases e
      obtain ⟨a, e1, r⟩ := w.sl i _ q
      refine ⟨.ref a, ?_, p _ _ _ (.refl w) ⟨a, rfl, r⟩⟩
      cases q2 : σ[i]? with
      | none => rw [q2] at e1; cases e1
      | some y => rw [q2] at e1; rw [show y = some (.ref a) from e1]
    · cases e
theorem e_op {f : Expr} {r : R2} {sem : D → D → Option Sl} (h : PE X f (tOp (rS2 g sem) (tD g W fa) (tD g W fb))) : PE X f (tD g W (cBin sem fa fb)) := h.imp fun σ H Q ⟨ρ, G, o, w, e, p⟩ =>
  tD_bd w e p.exn fun v d ρ1 G1 H1 s1 r1 e1 => tD_bd s1.wo e1 (p.step s1).exn fun u d2 ρ2 G2 H2 s2 r2 e2 => by
    obtain ⟨z, hz, rfl⟩ := lift_ok e2
    exact ⟨G2, d, d2, z, s2.wo.gh, r1.mono s2.gg, r2, hz, (p.step (s1.trans s2)).kq s2.wo⟩
theorem e_bin {op : Operator} {sem : D → D → Option Sl} (ho : OpR X (binaryOp op) (rS2 g sem)) (ha : PE X a (tD g W fa)) (hb : PE X b (tD g W fb)) : PE X (.BinOp a op b pos) (tD g W (cBin sem fa fb)) := e_op (r := rS2 g sem) (pe_op ho ha hb)
theorem e_cmp {op : CmpOp} {sem : D → D → Option Sl} (ho : OpR X (compareOp op) (rS2 g sem)) (ha : PE X a (tD g W fa)) (hb : PE X b (tD g W fb)) (hm : behindInMarks op b = false) : PE X (.Compare a [op] [b] pos) (tD g W (cBin sem fa fb)) := e_op (r := rS2 g sem) (pe_cmpR ho ha hb hm)
theorem e_un {op : UnaryOp} {sem : D → Option Sl} (ho : UnR X (unaryOp op) (rS1 g sem)) (ha : PE X a (tD g W fa)) : PE X (.UnaryOp op a pos) (tD g W (cUn sem fa)) := (pe_un ho ha).imp fun σ H Q ⟨ρ, G, o, w, e, p⟩ =>
  tD_bd w e p.exn fun v d ρ1 G1 H1 s1 r1 e1 => by
    obtain ⟨z, hz, rfl⟩ := lift_ok e1
    exact ⟨G1, d, z, s1.wo.gh, r1, hz, (p.step s1).kq s1.wo⟩
def sNeg : D → Option Sl
  | .int i => some (.sh (.int (-i)))
  | _ => none
theorem o_neg : UnR X (unaryOp .USub) (rS1 g sNeg) := by
  intro pins s σ H x v Q I rx ⟨G, dx, z, e, r1, hs, k⟩
  unfold sNeg at hs
  split at hs
  · cases hs; cases r1
    exact un_neg pins s σ H _ v Q I rx ⟨_, rfl, k.sh e (.int _)⟩
  · cases hs
theorem e_test (hK : g.K = X.K) (ha : PE X a (tD g W fa)) (he : ∀ whole, isTrue a X.env whole = (do let v ← whole; standAt a.pos; holding [v] (truthy v))) : PT X a (tDT g W (cT fa)) := (pt_truth ha he).imp fun σ H Q ⟨ρ, G, o, w, e, p⟩ =>
  tD_bd w e p.exn fun v d ρ1 G1 H1 s1 r1 e1 => by
    cases q : truD d with
    | none => rw [q] at e1; cases e1
    | some b =>
      rw [q] at e1
      cases e1
      exact ⟨b, hK ▸ tru_of s1.wo.gh r1 q, (p.step s1).now s1.wo⟩
/-- a comparison as a test -/
theorem e_cmpT {op : CmpOp} {sem : D → D → Option Sl} (hb1 : ∀ x y z, sem x y = some z → ∃ b, z = bl b) (ho : OpR X (compareOp op) (rS2 g sem)) (ha : PE X a (tD g W fa)) (hb : PE X b (tD g W fb)) (hm : behindInMarks op b = false) :
    PT X (.Compare a [op] [b] pos) (tDT g W (cT (cBin sem fa fb))) := (pt_cmpR ho ha hb hm).imp fun σ H Q ⟨ρ, G, o, w, e, p⟩ => by
  have e' : bdD (fa ρ) (fun x ρ1 => bdD (fb ρ1) fun y ρ2 => match sem x y with
    | some (.sh (.bool b)) => some (.ok b ρ2)
    | _ => none) = some o := by
    unfold cT cBin bdD at e
    unfold bdD
    revert e
    unfold bdO
    cases fa ρ with
    | none => exact id
    | some oa =>
      cases oa with
      | ex c fs ρ' => exact id
      | ok r ρ1 =>
        dsimp only
        cases pub r with
        | none => exact id
        | some x =>
          dsimp only
          cases fb ρ1 with
          | none => exact id
          | some ob =>
            cases ob with
            | ex c fs ρ' => exact id
            | ok r2 ρ2 =>
              dsimp only
              cases pub r2 with
              | none => exact id
              | some y =>
                dsimp only
                cases q : sem x y with
                | none => intro z; cases z
                | some z =>
                  obtain ⟨b, rfl⟩ := hb1 _ _ _ q
                  intro z; exact z
  refine tD_bd w e' p.exn fun v d ρ1 G1 H1 s1 r1 e1 => tD_bd s1.wo e1 (p.step s1).exn fun u d2 ρ2 G2 H2 s2 r2 e2 => ?_
  cases q : sem d d2 with
  | none => rw [q] at e2; cases e2
  | some z =>
    obtain ⟨b, rfl⟩ := hb1 _ _ _ q
    rw [q] at e2
    cases e2
    refine ⟨G2, d, d2, _, s2.wo.gh, r1.mono s2.gg, r2, q, fun v' G' H' gr x => ?_⟩
    cases x
    exact ⟨b, rfl, (p.step (s1.trans s2)) G' H' (s2.wo.step gr)⟩
theorem e_and1 {t : EvT} (ha : PT X a (tDT g W t)) : PW X (.BoolOp .And [a] pos) (tDT g W t) := pw_and1 ha
theorem e_or1 {t : EvT} (ha : PT X a (tDT g W t)) : PW X (.BoolOp .Or [a] pos) (tDT g W t) := pw_or1 ha
theorem _root_.L2.PW.imp {t t' : TT} (h : PW X e t) (k : ∀ σ H Q, t' σ H Q → t σ H Q) : PW X e t' := ⟨fun wh pins s σ H Q I q => h.run wh pins s σ H Q I (k σ H Q q)⟩
theorem e_andT {rest : List Expr} {ta tb : EvT} (ha : PT X a (tDT g W ta)) (hb : PW X (.BoolOp .And (b :: rest) pos) (tDT g W tb)) : PW X (.BoolOp .And (a :: b :: rest) pos) (tDT g W (cAndT ta tb)) := L2.PW.imp (pw_and ha hb) fun σ H Q ⟨ρ, G, o, w, e, p⟩ =>
  tD_bt w e p.exn fun c ρ1 G1 H1 s1 e1 => by
    cases c with
    | true => exact iteT ⟨ρ1, G1, o, s1.wo, e1, p.step s1⟩
    | false => cases e1; exact iteF ((p.step s1).now s1.wo)
theorem e_orT {rest : List Expr} {ta tb : EvT} (ha : PT X a (tDT g W ta)) (hb : PW X (.BoolOp .Or (b :: rest) pos) (tDT g W tb)) : PW X (.BoolOp .Or (a :: b :: rest) pos) (tDT g W (cOrT ta tb)) := L2.PW.imp (pw_or ha hb) fun σ H Q ⟨ρ, G, o, w, e, p⟩ =>
  tD_bt w e p.exn fun c ρ1 G1 H1 s1 e1 => by
    cases c with
    | false => exact iteF ⟨ρ1, G1, o, s1.wo, e1, p.step s1⟩
    | true => cases e1; exact iteT ((p.step s1).now s1.wo)
theorem e_notT {t : EvT} (ha : PT X a (tDT g W t)) : PT X (.UnaryOp .Not a pos) (tDT g W (cNotT t)) := (pt_not ha).imp fun σ H Q ⟨ρ, G, o, w, e, p⟩ =>
  tD_bt w e p.exn fun c ρ1 G1 H1 s1 e1 => by
    cases e1
    exact (p.step s1).now s1.wo
theorem e_one {op : BoolOp} {f : Ev} (ha : PE X a (tD g W f)) : PE X (.BoolOp op [a] pos) (tD g W f) := pe_one ha
theorem e_andV {rest : List Expr} (ha : PE X a (tD g W fa)) (hb : PE X (.BoolOp .And (b :: rest) pos) (tD g W fb)) : PE X (.BoolOp .And (a :: b :: rest) pos) (tD g W (cAndV fa fb)) := (pe_and ha hb).imp fun σ H Q ⟨ρ, G, o, w, e, p⟩ =>
  tD_bd w e p.exn fun v d ρ1 G1 H1 s1 r1 e1 => by
    split at e1
    · cases r1; exact ⟨true, rfl, iteT ⟨ρ1, G1, o, s1.wo, e1, p.step s1⟩⟩
    · cases r1; cases e1; exact ⟨false, rfl, iteF ((p.step s1).now s1.wo (.bl _))⟩
    · cases e1
theorem e_orV {rest : List Expr} (ha : PE X a (tD g W fa)) (hb : PE X (.BoolOp .Or (b :: rest) pos) (tD g W fb)) : PE X (.BoolOp .Or (a :: b :: rest) pos) (tD g W (cOrV fa fb)) := (pe_or ha hb).imp fun σ H Q ⟨ρ, G, o, w, e, p⟩ =>
  tD_bd w e p.exn fun v d ρ1 G1 H1 s1 r1 e1 => by
    split at e1
    · cases r1; cases e1; exact ⟨true, rfl, iteT ((p.step s1).now s1.wo (.bl _))⟩
    · cases r1; exact ⟨false, rfl, iteF ⟨ρ1, G1, o, s1.wo, e1, p.step s1⟩⟩
    · cases e1
theorem e_notV (ha : PE X a (tD g W fa)) : PE X (.UnaryOp .Not a pos) (tD g W (cNotV fa)) := (pe_not ha).imp fun σ H Q ⟨ρ, G, o, w, e, p⟩ =>
  tD_bd w e p.exn fun v d ρ1 G1 H1 s1 r1 e1 => by
    split at e1
    · cases r1; cases e1; exact ⟨_, rfl, (p.step s1).now s1.wo (.bl _)⟩
    · cases e1
theorem e_if {t : EvT} (hc : PT X c (tDT g W t)) (ha : PE X a (tD g W fa)) (hb : PE X b (tD g W fb)) : PE X (.IfExp c a b pos) (tD g W (cIf t fa fb)) := (pe_ifExp hc ha hb).imp fun σ H Q ⟨ρ, G, o, w, e, p⟩ =>
  tD_bt w e p.exn fun k ρ1 G1 H1 s1 e1 => by
    cases k with
    | true => exact iteT ⟨ρ1, G1, o, s1.wo, e1, p.step s1⟩
    | false => exact iteF ⟨ρ1, G1, o, s1.wo, e1, p.step s1⟩
theorem e_chain {op op' : CmpOp} {s1 s2 : D → D → Option Sl} (ho : OpR X (compareOp op) (rS2 g s1)) (ho' : OpR X (compareOp op') (rS2 g s2)) (ha : PE X a (tD g W fa)) (hb : PE X b (tD g W fb)) (hc : PE X c (tD g W fc)) (hm : lastMarks [op, op'] [b, c] = false) :
    PE X (.Compare a [op, op'] [b, c] pos) (tD g W (cChain s1 s2 fa fb fc)) := (pe_chain ho ho' ha hb hc hm).imp fun σ H Q ⟨ρ, G, o, w, e, p⟩ =>
  tD_bd w e p.exn fun v d ρ1 G1 H1 st1 r1 e1 => tD_bd st1.wo e1 (p.step st1).exn fun u d2 ρ2 G2 H2 st2 r2 e2 => by
    have p2 := p.step (st1.trans st2)
    split at e2
    · rename_i q
      refine ⟨G2, d, d2, _, st2.wo.gh, r1.mono st2.gg, r2, q, fun v' G' H' gr x => ?_⟩
      cases x
      have st3 := st2.wo.step gr
      refine ⟨true, rfl, iteT (tD_bd st3.wo e2 (p2.step st3).exn fun x3 d3 ρ3 G3 H3 st4 r3 e3 => ?_)⟩
      obtain ⟨z, hz, rfl⟩ := lift_ok e3
      exact ⟨G3, d2, d3, z, st4.wo.gh, r2.mono (st3.gg.trans st4.gg), r3, hz, (p2.step (st3.trans st4)).kq st4.wo⟩
    · rename_i q
      cases e2
      refine ⟨G2, d, d2, _, st2.wo.gh, r1.mono st2.gg, r2, q, fun v' G' H' gr x => ?_⟩
      cases x
      have st3 := st2.wo.step gr
      exact ⟨false, rfl, iteF ((p2.step st3).now st3.wo (.bl _))⟩
    · cases e2
def notStar : Expr → Bool
  | .Starred .. => false
  | _ => true
theorem star_cons {env : Env} (h : notStar e = true) : starEach (e :: es) env = (false, eval e env) :: starEach es env := by
  cases e <;> first | rfl | cases h
theorem e_a0 : PA X [] (tDA g W cA0) := pa_nil.imp fun σ H Q ⟨ρ, G, o, w, e, p⟩ => by
  cases e
  exact p [] G H (.refl w) .nil
theorem e_a1 {fs : EvA} (ha : PE X e (tD g W fa)) (hr : PA X es (tDA g W fs)) (hs : notStar e = true) : PA X (e :: es) (tDA g W (cA1 fa fs)) := (pa_cons ha hr (star_cons hs)).imp fun σ H Q ⟨ρ, G, o, w, e, p⟩ =>
  tD_bd w e p.exn fun v d ρ1 G1 H1 s1 r1 e1 => tD_ba s1.wo e1 (p.step s1).exn fun vs ds ρ2 G2 H2 s2 r2 e2 => by
    cases e2
    exact (p.step (s1.trans s2)) _ _ _ (.refl s2.wo) (.cons (r1.mono s2.gg) r2)
theorem e_tup {fs : EvA} {x1 : Nat} (h : PA X es (tDA g W fs)) : PE X (.Tuple es x1 pos) (tD g W (cTup fs)) := (pe_tupF h).imp fun σ H Q ⟨ρ, G, o, w, e, p⟩ =>
  tD_ba w e p.exn fun vs ds ρ1 G1 H1 s1 r1 e1 => by
    split at e1
    · rename_i hz
      cases e1
      rw [big_eq, ← r1.len] at hz
      exact ⟨hz, fun q o hq hd => ((p.step s1).kq s1.wo).tup s1.wo.gh hq hd r1⟩
    · cases e1
theorem e_lst {fs : EvA} (h : PA X es (tDA g W fs)) : PE X (.List es pos) (tD g W (cLst fs)) := (pe_lst h).imp fun σ H Q ⟨ρ, G, o, w, e, p⟩ =>
  tD_ba w e p.exn fun vs ds ρ1 G1 H1 s1 r1 e1 => by
    split at e1
    · rename_i hz
      cases e1
      rw [big_eq, ← r1.len] at hz
      exact ⟨hz, fun q hq => ((p.step s1).kq s1.wo).ow s1.wo.gh hq r1⟩
    · cases e1
/-- a built-in by its name -/
theorem tCB_of {sem : List D → Option Sl} {fs : EvA} {f : Expr} (h : PE X f (tCB (rSC g sem) (tDA g W fs))) : PE X f (tD g W (cCall sem fs)) := h.imp fun σ H Q ⟨ρ, G, o, w, e, p⟩ =>
  tD_ba w e p.exn fun vs ds ρ1 G1 H1 s1 r1 e1 => by
    obtain ⟨z, hz, rfl⟩ := lift_ok e1
    exact ⟨G1, ds, z, s1.wo.gh, r1, hz, (p.step s1).kq s1.wo⟩
end
end Rk
set_option Elab.async false
set_option linter.all false
set_option maxRecDepth 100000
set_option maxHeartbeats 4000000
namespace Rk
open PySem PySem.Spec PyProof.Rows L2
def sIx : D → D → Option Sl
  | .list xs, .int i => (atI xs i).map .sh
  | .tuple xs, .int i => (atI xs i).map .sh
  | .str z, .int i => if z.length ≤ big then (atI z.cps.toList i).map fun c => .sh (.str ⟨#[c]⟩) else none
  | _, _ => none
def asD : Sl → Option D
  | .sh d => some d
  | .ow ds => some (.list ds)
  | _ => none
/-- x[b], x a name: its list is not laid down -/
def slD (ρ : Rho) (i : Nat) : Option D := match ρ[i]? with
  | some s => asD s
  | none => none
def slO (ρ : Rho) (i : Nat) : Option (List D) := match ρ[i]? with
  | some (.ow ds) => some ds
  | _ => none
def cIxN (i : Nat) (fb : Ev) : Ev := fun ρ => match slD ρ i with
  | none => none
  | some _ => bdD (fb ρ) fun y ρ1 => match slD ρ1 i with
    | some d => lift (sIx d y) ρ1
    | none => none
def cLenN (i : Nat) : Ev := fun ρ => match slD ρ i with
  | some d => (match lenD d with
    | some n => some (.ok (.sh (.int n)) ρ)
    | none => none)
  | none => none
/-- a value that a slot holds, its list not laid down -/
def Held (g : Gd) (G H : Hp) (v : V) (d : D) : Prop := Rp g.K G v d ∨ ∃ a xs ds, v = .ref a ∧ d = .list ds ∧ G a = none ∧ H a = some (.lst xs) ∧ RpAll g.K G xs ds
theorem get_join {σ : St} {i : Nat} {v : V} (h : (σ[i]?).join = some v) : σ[i]? = some (some v) := by
  cases q : σ[i]? with
  | none => rw [q] at h; cases h
  | some y => rw [q] at h; rw [show y = some v from h]
section
variable {g : Gd} {σ : St} {ρ ρ1 : Rho} {G H G1 H1 : Hp}
theorem Wo.held {i : Nat} {d : D} (w : Wo g σ ρ G H) (h : slD ρ i = some d) : ∃ v, σ[i]? = some (some v) ∧ Held g G H v d := by
  unfold slD at h
  cases q : ρ[i]? with
  | none => rw [q] at h; cases h
  | some s =>
    rw [q] at h
    have hs := w.sl i s q
    cases s with
    | sh d' => cases h; obtain ⟨x, e, r⟩ := hs; exact ⟨x, get_join e, .inl r⟩
    | ow ds => cases h; obtain ⟨a, xs, e, hg, hh, r⟩ := hs; exact ⟨_, get_join e, .inr ⟨a, xs, ds, rfl, rfl, hg, hh, r⟩⟩
    | _ => cases h
theorem slO_at {i : Nat} {ds : List D} (h : slO ρ i = some ds) : ρ[i]? = some (.ow ds) := by
  unfold slO at h
  split at h
  · cases h; assumption
  · cases h
theorem Wo.own {i : Nat} {ds : List D} (w : Wo g σ ρ G H) (h : slO ρ i = some ds) : ∃ a xs, σ[i]? = some (some (.ref a)) ∧ G a = none ∧ H a = some (.lst xs) ∧ RpAll g.K G xs ds := by
  obtain ⟨a, xs, e, hg, hh, r⟩ := w.sl i _ (slO_at h)
  exact ⟨a, xs, get_join e, hg, hh, r⟩
theorem Held.len {v : V} {d : D} {n : Nat} (e : Same G H) (h : Held g G H v d) (q : lenD d = some n) : LenV g.K v H n := by
  rcases h with h | ⟨a, xs, ds, rfl, rfl, hg, hh, r⟩
  · exact len_of e h q
  · cases q
    exact .inl ⟨_, SqL.of hh, r.len.symm⟩
/-- a slot's own list is changed -/
theorem Wo.mutAt {i : Nat} {ds es : List D} {a : Addr} {ys : List V} (w : Wo g σ ρ G H) (e : ρ[i]? = some (.ow ds)) (ea : σ[i]? = some (some (.ref a))) (r : RpAll g.K G ys es) : StE g σ ρ G H (ρ.set i (.ow es)) G (upd H a (.lst ys)) := by
  obtain ⟨b, xs, e1, hg, hh, _⟩ := w.sl i _ e
  rw [ea] at e1
  cases e1
  have hi : i < ρ.length := (List.getElem?_eq_some_iff.mp e).1
  have nG : ∀ b o, G b = some o → b ≠ a := fun b o q z => by subst z; rw [hg] at q; cases q
  have back : ∀ (m : Nat) (d : List D), (ρ.set i (.ow es))[m]? = some (.ow d) → ∃ d', ρ[m]? = some (.ow d') := fun m d q => by
    by_cases hm : i = m
    · subst hm; exact ⟨ds, e⟩
    · rw [List.getElem?_set_ne hm] at q; exact ⟨d, q⟩
  refine ⟨Same.refl _, ⟨fun b o q => by rw [upd_ne (nG b o q)]; exact w.gh b o q, by rw [List.length_set]; exact w.len, fun j sl q => ?_, fun j k b d1 d2 q1 q2 q3 q4 => ?_, fun P hP => ?_⟩, fun b o q n t => ?_, fun b q => ?_, fun b h1 _ _ => h1, fun j d1 q => back j d1 q⟩
  · by_cases hj : i = j
    · subst hj
      rw [List.getElem?_set_self hi] at q
      cases q
      rw [ea]
      exact ⟨a, ys, rfl, hg, upd_same, r⟩
    · rw [List.getElem?_set_ne hj] at q
      refine (w.sl j sl q).mono (Same.refl _) fun b zs e2 h1 h2 ⟨d1, e3⟩ => ⟨h1, ?_⟩
      subst e3
      have nb : b ≠ a := fun z => by
        subst z
        exact hj (w.dj i j b ds d1 e q ea (get_join e2))
      rw [upd_ne nb]
      exact h2
  · obtain ⟨d1', q1'⟩ := back j d1 q1
    obtain ⟨d2', q2'⟩ := back k d2 q2
    exact w.dj j k b d1' d2' q1' q2' q3 q4
  · obtain ⟨h1, ps, h2, h3⟩ := w.tb P hP
    have nP : P ≠ a := fun z => by subst z; rw [hh] at h2; cases h2
    exact ⟨h1, ps, by rw [upd_ne nP]; exact h2, h3.1, h3.2.upd (lst_ne hh)⟩
  · have nb : b ≠ a := fun z => by subst z; exact n ⟨i, ds, e, ea⟩
    rw [upd_ne nb]
    exact q
  · by_cases hb : b = a
    · subst hb; rw [upd_same]; simp
    · rw [upd_ne hb]; exact q
end
theorem atI_rp {K : PySem.W.Frag} {G : Hp} {xs : List V} {ds : List D} {i : Int} {d : D} (r : RpAll K G xs ds) (h : atI ds i = some d) : ∃ v, atI xs i = some v ∧ Rp K G v d := by
  unfold atI at h ⊢
  rw [r.len]
  cases q : ixN ds.length i with
  | none => rw [q] at h; cases h
  | some j =>
    rw [q] at h
    exact r.get h
section
variable {X : Cx} {g : Gd} {W : WX} (hK : g.K = X.K)
include hK
theorem i_ix : IxR X (rS2 g sIx) := by
  intro value slice pins s σ H x y v u Q I rx ry ⟨G, dx, dy, z, e, r1, r2, hs, k⟩ hp
  unfold sIx at hs
  split at hs
  · cases r1 with | lst a1 b1 =>
    cases r2
    obtain ⟨d, hd, rfl⟩ := Option.map_eq_some_iff.mp hs
    obtain ⟨w, hw, rw'⟩ := atI_rp b1 hd
    exact ix_list value slice pins s σ H _ _ v u Q I rx ry ⟨_, _, _, w, rfl, rfl, SqL.of (e _ _ a1), hw, k.sh e rw'⟩ hp
  · cases r1 with | tup a1 b1 =>
    cases r2
    obtain ⟨d, hd, rfl⟩ := Option.map_eq_some_iff.mp hs
    obtain ⟨w, hw, rw'⟩ := atI_rp b1 hd
    have a1' := (sqN_mono e a1).t
    rw [hK] at a1'
    exact ix_tup value slice pins s σ H _ _ v u Q I rx ry ⟨_, _, _, w, rfl, rfl, a1', hw, k.sh e rw'⟩ hp
  · split at hs
    · rename_i hz
      cases r1; cases r2
      obtain ⟨c, hc, rfl⟩ := Option.map_eq_some_iff.mp hs
      rw [big_eq] at hz
      exact ix_str value slice pins s σ H _ _ v u Q I rx ry ⟨_, _, c, rfl, rfl, hz, hc, k.sh e (.str _)⟩ hp
    · cases hs
  · cases hs
def notSlice : Expr → Bool
  | .Slice .. => false
  | _ => true
theorem plain_ix {b : Expr} (h : notSlice b = true) : PlainIx b := by
  intro o i
  cases b <;> first | rfl | cases h
theorem e_ix {a b : Expr} {pos : Pos} {fa fb : Ev} (ha : PE X a (tD g W fa)) (hb : PE X b (tD g W fb)) (hs : notSlice b = true) : PE X (.Subscript a b pos) (tD g W (cBin sIx fa fb)) := e_op (r := rS2 g sIx) (pe_ix (i_ix hK) ha hb (plain_ix hK hs))
theorem e_ixN {i : Nat} {x : Str} {b : Expr} {p pos : Pos} {fb : Ev} (hN : X.N[i]? = some x) (hv : Vis X.env.scope x) (hd : (x == ("__debug__" : Str)) = false) (hcd : (x == ("__classdict__" : Str)) = false) (hb : PE X b (tD g W fb)) (hs : notSlice b = true) :
    PE X (.Subscript (.Name x p) b pos) (tD g W (cIxN i fb)) := (pe_ix (ix_seq (X := X)) (pe_var hN hv hd hcd) hb (plain_ix hK hs)).imp fun σ H Q ⟨ρ, G, o, w, e, p⟩ => by
  unfold cIxN at e
  split at e
  · cases e
  · rename_i d0 q0
    obtain ⟨v, hvv, _⟩ := w.held q0
    refine ⟨v, hvv, tD_bd w e p.exn fun y dy ρ1 G1 H1 s1 r1 e1 => ?_⟩
    have p1 := p.step s1
    split at e1
    · rename_i d q
      obtain ⟨v', hv', hd⟩ := s1.wo.held q
      rw [hvv] at hv'
      cases hv'
      obtain ⟨z, hz, rfl⟩ := lift_ok e1
      have kq := p1.kq s1.wo
      rcases hd with rx | ⟨a, xs, ds, rfl, rfl, hg, hh, ra⟩
      · unfold sIx at hz
        split at hz
        · cases rx with | lst a1 b1 =>
          cases r1
          obtain ⟨d, hd, rfl⟩ := Option.map_eq_some_iff.mp hz
          obtain ⟨w', hw, rw'⟩ := atI_rp b1 hd
          exact .inl ⟨_, _, _, w', rfl, rfl, SqL.of (s1.wo.gh _ _ a1), hw, kq.sh s1.wo.gh rw'⟩
        · cases rx with | tup a1 b1 =>
          cases r1
          obtain ⟨d, hd, rfl⟩ := Option.map_eq_some_iff.mp hz
          obtain ⟨w', hw, rw'⟩ := atI_rp b1 hd
          have a1' := (sqN_mono s1.wo.gh a1).t
          rw [hK] at a1'
          exact .inr (.inl ⟨_, _, _, w', rfl, rfl, a1', hw, kq.sh s1.wo.gh rw'⟩)
        · split at hz
          · rename_i hzz
            cases rx; cases r1
            obtain ⟨c, hc, rfl⟩ := Option.map_eq_some_iff.mp hz
            rw [big_eq] at hzz
            exact .inr (.inr ⟨_, _, c, rfl, rfl, hzz, hc, kq.sh s1.wo.gh (.str _)⟩)
          · cases hz
        · cases hz
      · cases r1 with
        | int j =>
          obtain ⟨d, hd, rfl⟩ := Option.map_eq_some_iff.mp (show (atI ds j).map Sl.sh = some z from hz)
          obtain ⟨w', hw, rw'⟩ := atI_rp ra hd
          exact .inl ⟨_, _, _, w', rfl, rfl, SqL.of hh, hw, kq.sh s1.wo.gh rw'⟩
        | _ => cases hz
    · cases e1
end
def cutD {α : Type} (xs : List α) (lo hi : Option Int) : List α := (xs.drop (HT.sIx xs.length 0 lo)).take (HT.sIx xs.length xs.length hi - HT.sIx xs.length 0 lo)
def sSl (d : D) (lo hi : Option Int) : Option Sl := match d with
  | .list xs => some (.ow (cutD xs lo hi))
  | .tuple xs => some (.sh (.tuple (cutD xs lo hi)))
  | .str z => if z.length ≤ big then some (.sh (.str (cutS z lo hi))) else none
  | _ => none
def cPart : Option Ev → Rho → Option (Oc (Option Int))
  | none, ρ => some (.ok none ρ)
  | some f, ρ => bdD (f ρ) fun d ρ1 => match d with
    | .int i => some (.ok (some i) ρ1)
    | _ => none
def cSl (fa : Ev) (fl fh : Option Ev) : Ev := fun ρ => bdD (fa ρ) fun d ρ1 => bdO (cPart fl ρ1) fun lo ρ2 => bdO (cPart fh ρ2) fun hi ρ3 => lift (sSl d lo hi) ρ3
theorem cut_rp {K : PySem.W.Frag} {G : Hp} {xs : List V} {ds : List D} (r : RpAll K G xs ds) (lo hi : Option Int) : RpAll K G (cutV xs lo hi) (cutD ds lo hi) := by
  unfold cutV cutD
  rw [r.len]
  exact (r.drop _).take _
def PostO (g : Gd) (W : WX) (σ : St) (ρ : Rho) (G H : Hp) (Q : Option Int → Hp → Prop) : Oc (Option Int) → Prop
  | .ok ds ρ' => ∀ G' H', StE g σ ρ G H ρ' G' H' → Q ds H'
  | .ex c fs ρ' => Away g W σ ρ G H c fs ρ'
def tDO (g : Gd) (W : WX) (f : Rho → Option (Oc (Option Int))) : TO := fun σ H Q => ∃ ρ G o, Wo g σ ρ G H ∧ f ρ = some o ∧ PostO g W σ ρ G H Q o
section
variable {X : Cx} {g : Gd} {W : WX}
theorem tD_bo {β : Type} {σ : St} {ρ : Rho} {G H : Hp} {ft : Rho → Option (Oc (Option Int))} {k : Option Int → Rho → Option (Oc β)} {o : Oc β} {Q' : Option Int → Hp → Prop} (w : Wo g σ ρ G H) (e : bdO (ft ρ) k = some o)
    (hx : ∀ c fs ρ', o = .ex c fs ρ' → Away g W σ ρ G H c fs ρ')
    (hk : ∀ b ρ1 G1 H1, StE g σ ρ G H ρ1 G1 H1 → k b ρ1 = some o → Q' b H1) : tDO g W ft σ H Q' := by
  unfold bdO at e
  cases q : ft ρ with
  | none => rw [q] at e; cases e
  | some oa =>
    rw [q] at e
    refine ⟨ρ, G, oa, w, q, ?_⟩
    cases oa with
    | ex c fs ρ' => cases e; exact hx c fs ρ' rfl
    | ok b ρ1 => exact fun G1 H1 s => hk b ρ1 G1 H1 s e
theorem _root_.L2.PO.imp {e : Option Expr} {t t' : TO} (h : PO X e t) (k : ∀ σ H Q, t' σ H Q → t σ H Q) : PO X e t' := ⟨fun pins s σ H Q I q => h.run pins s σ H Q I (k σ H Q q)⟩
theorem e_part0 : PO X none (tDO g W (cPart none)) := po_none.imp fun σ H Q ⟨ρ, G, o, w, e, p⟩ => by
  cases e
  exact p G H (.refl w)
theorem e_part1 {e : Expr} {f : Ev} (h : PE X e (tD g W f)) : PO X (some e) (tDO g W (cPart (some f))) := (po_some h).imp fun σ H Q ⟨ρ, G, o, w, e, p⟩ =>
  tD_bd w e (fun c fs ρ' z => by subst z; exact p) fun v d ρ1 G1 H1 s1 r1 e1 => by
    split at e1
    · cases e1; cases r1
      exact ⟨_, rfl, p _ _ s1⟩
    · cases e1
def rSS (g : Gd) : V → Option Int → Option Int → Hp → VK → Prop := fun x lo hi H Q => ∃ G dx z, Same G H ∧ Rp g.K G x dx ∧ sSl dx lo hi = some z ∧ Kq g G H Q z
theorem o_sl (hK : g.K = X.K) : SlR X (rSS g) := by
  intro pins s σ H x v vl vu lo hi sl Q I rx hs pl pu ⟨G, dx, z, e, r1, hz, k⟩
  unfold sSl at hz
  split at hz
  · cases hz
    cases r1 with | lst a1 b1 =>
    exact sl_list pins s σ H _ v vl vu lo hi sl Q I rx hs pl pu ⟨_, _, rfl, SqL.of (e _ _ a1), fun p hp => k.ow e hp (cut_rp b1 lo hi)⟩
  · rename_i ds0
    cases hz
    cases r1 with | tup a1 b1 =>
    have a1' := (sqN_mono e a1).t
    rw [hK] at a1'
    refine sl_tupF pins s σ H _ v vl vu lo hi sl Q I rx hs pl pu ⟨_, _, rfl, a1', fun z => ?_, fun _ p o hp hd => k.tup e hp hd (cut_rp b1 lo hi)⟩
    have eq : cutD ds0 lo hi = ds0 := by
      unfold cutD
      rw [← b1.len, z.1, z.2, List.drop_zero, Nat.sub_zero, b1.len]
      exact List.take_length
    rw [eq] at k
    exact k.sh e (.tup a1 b1)
  · split at hz
    · rename_i hzz
      cases hz
      cases r1
      rw [big_eq] at hzz
      exact sl_str pins s σ H _ v vl vu lo hi sl Q I rx hs pl pu ⟨_, rfl, hzz, k.sh e (.str _)⟩
    · cases hz
  · cases hz
theorem e_sl (hK : g.K = X.K) {a : Expr} {lo hi : Option Expr} {pos p2 : Pos} {fa : Ev} {fl fh : Option Ev} (ha : PE X a (tD g W fa)) (hl : PO X lo (tDO g W (cPart fl))) (hh : PO X hi (tDO g W (cPart fh))) :
    PE X (.Subscript a (.Slice lo hi none p2) pos) (tD g W (cSl fa fl fh)) := (pe_slice (o_sl hK) ha hl hh).imp fun σ H Q ⟨ρ, G, o, w, e, p⟩ =>
  tD_bd w e p.exn fun v d ρ1 G1 H1 s1 r1 e1 => tD_bo s1.wo e1 (p.step s1).exn fun l ρ2 G2 H2 s2 e2 => tD_bo s2.wo e2 (p.step (s1.trans s2)).exn fun h ρ3 G3 H3 s3 e3 => by
    obtain ⟨z, hz, rfl⟩ := lift_ok e3
    exact ⟨G3, d, z, s3.wo.gh, r1.mono (s2.gg.trans s3.gg), hz, (p.step ((s1.trans s2).trans s3)).kq s3.wo⟩
theorem e_lenN (hK : g.K = X.K) {i : Nat} {x : Str} {p p2 pos : Pos} (hN : X.N[i]? = some x) (hv : Vis X.env.scope x) (hd : (x == ("__debug__" : Str)) = false) (hcd : (x == ("__classdict__" : Str)) = false) (hg : Gl X "len") (hm : X.mg "len" = none) :
    PE X (.Call (.Name "len" p2) [.Name x p] [] pos) (tD g W (cLenN i)) := (pe_callB call_len hg hm boot_len (pa_cons (pe_var hN hv hd hcd) pa_nil)).imp fun σ H Q ⟨ρ, G, o, w, e, p⟩ => by
  unfold cLenN at e
  split at e
  · rename_i d q
    split at e
    · rename_i n hn
      cases e
      obtain ⟨v, hvv, hh⟩ := w.held q
      exact ⟨v, hvv, v, n, rfl, hK ▸ hh.len w.gh hn, p.now w (.int _)⟩
    · cases e
  · cases e
end
end Rk
set_option Elab.async false
set_option linter.all false
set_option maxRecDepth 100000
set_option maxHeartbeats 4000000
namespace Rk
open PySem PySem.Spec PyProof.Rows L2
def blsOf : List D → Option (List Bool)
  | [] => some []
  | .bool i :: r => (blsOf r).map (i :: ·)
  | _ :: _ => none
theorem bls_eq : ∀ {ds : List D} {ns : List Bool}, blsOf ds = some ns → ds = ns.map .bool
  | [], ns, h => by cases h; rfl
  | .bool i :: r, ns, h => by
    obtain ⟨ms, h1, rfl⟩ := Option.map_eq_some_iff.mp (show (blsOf r).map (i :: ·) = some ns from h)
    rw [bls_eq h1]
    rfl
  | .none :: _, _, h => by cases h
  | .int _ :: _, _, h => by cases h
  | .str _ :: _, _, h => by cases h
  | .list _ :: _, _, h => by cases h
  | .tuple _ :: _, _, h => by cases h
  | .dict _ :: _, _, h => by cases h
theorem rp_bls {K : PySem.W.Frag} {G : Hp} : ∀ {ns : List Bool} {vs : List V}, RpAll K G vs (ns.map .bool) → vs = ns.map V.bl
  | [], _, h => by cases h; rfl
  | n :: r, _, h => by cases h with | cons h1 h2 => cases h1; rw [rp_bls h2]; rfl
def sLen : List D → Option Sl
  | [d] => (lenD d).map fun (n : Nat) => .sh (.int (n : Int))
  | _ => none
def sInt : List D → Option Sl
  | [.int i] => some (.sh (.int i))
  | [.bool b] => some (.sh (.int (if b then 1 else 0)))
  | _ => none
def sAbs : List D → Option Sl
  | [.int i] => some (.sh (.int (if i < 0 then -i else i)))
  | _ => none
def maxL : Int → List Int → Int
  | m, [] => m
  | m, x :: r => maxL (if x > m then x else m) r
def minL : Int → List Int → Int
  | m, [] => m
  | m, x :: r => minL (if x < m then x else m) r
theorem maxL_spec : ∀ (m : Int) (r : List Int), (maxL m r = m ∨ maxL m r ∈ r) ∧ m ≤ maxL m r ∧ ∀ y ∈ r, y ≤ maxL m r
  | m, [] => ⟨.inl rfl, Int.le_refl _, fun y h => by cases h⟩
  | m, x :: r => by
    obtain ⟨h1, h2, h3⟩ := maxL_spec (if x > m then x else m) r
    show ((maxL (if x > m then x else m) r = m ∨ maxL (if x > m then x else m) r ∈ x :: r) ∧ m ≤ maxL (if x > m then x else m) r ∧ ∀ y ∈ x :: r, y ≤ maxL (if x > m then x else m) r)
    by_cases c : x > m
    · rw [if_pos c] at *
      refine ⟨.inr ?_, by omega, fun y hy => ?_⟩
      · rcases h1 with h1 | h1
        · rw [h1]; exact List.mem_cons_self
        · exact List.mem_cons_of_mem _ h1
      · rcases List.mem_cons.mp hy with e | hy
        · subst e; exact h2
        · exact h3 y hy
    · rw [if_neg c] at *
      refine ⟨?_, h2, fun y hy => ?_⟩
      · rcases h1 with h1 | h1
        · exact .inl h1
        · exact .inr (List.mem_cons_of_mem _ h1)
      · rcases List.mem_cons.mp hy with e | hy
        · subst e; omega
        · exact h3 y hy
theorem minL_spec : ∀ (m : Int) (r : List Int), (minL m r = m ∨ minL m r ∈ r) ∧ minL m r ≤ m ∧ ∀ y ∈ r, minL m r ≤ y
  | m, [] => ⟨.inl rfl, Int.le_refl _, fun y h => by cases h⟩
  | m, x :: r => by
    obtain ⟨h1, h2, h3⟩ := minL_spec (if x < m then x else m) r
    show ((minL (if x < m then x else m) r = m ∨ minL (if x < m then x else m) r ∈ x :: r) ∧ minL (if x < m then x else m) r ≤ m ∧ ∀ y ∈ x :: r, minL (if x < m then x else m) r ≤ y)
    by_cases c : x < m
    · rw [if_pos c] at *
      refine ⟨.inr ?_, by omega, fun y hy => ?_⟩
      · rcases h1 with h1 | h1
        · rw [h1]; exact List.mem_cons_self
        · exact List.mem_cons_of_mem _ h1
      · rcases List.mem_cons.mp hy with e | hy
        · subst e; exact h2
        · exact h3 y hy
    · rw [if_neg c] at *
      refine ⟨?_, h2, fun y hy => ?_⟩
      · rcases h1 with h1 | h1
        · exact .inl h1
        · exact .inr (List.mem_cons_of_mem _ h1)
      · rcases List.mem_cons.mp hy with e | hy
        · subst e; omega
        · exact h3 y hy
def sMax : List D → Option Sl
  | [.int i, .int j] => some (.sh (.int (if j > i then j else i)))
  | [.list ds] => (match intsOf ds with
    | some (n :: r) => some (.sh (.int (maxL n r)))
    | _ => none)
  | _ => none
def sMin0 : List D → Option Sl
  | [.int i, .int j] => some (.sh (.int (if j < i then j else i)))
  | [.list ds] => (match intsOf ds with
    | some (n :: r) => some (.sh (.int (minL n r)))
    | _ => none)
  | _ => none
def sTuple : List D → Option Sl
  | [.list ds] => some (.sh (.tuple ds))
  | [.tuple ds] => some (.sh (.tuple ds))
  | _ => none
def sList : List D → Option Sl
  | [.list ds] => some (.ow ds)
  | [.tuple ds] => some (.ow ds)
  | _ => none
def sSum : List D → Option Sl
  | [.list ds] => (intsOf ds).map fun ns => .sh (.int ns.sum)
  | [.tuple ds] => (intsOf ds).map fun ns => .sh (.int ns.sum)
  | _ => none
def sAll : List D → Option Sl
  | [.list ds] => (blsOf ds).map fun bs => bl (bs.all id)
  | _ => none
def sAny : List D → Option Sl
  | [.list ds] => (blsOf ds).map fun bs => bl (bs.any id)
  | _ => none
section
variable {X : Cx} {g : Gd} {W : WX} (hK : g.K = X.K)
include hK
theorem c_len : CallR X (.builtin "len") (rSC g sLen) := by
  intro pins s σ H xs us Q I rv ⟨G, ds, z, e, r, hs, k⟩
  unfold sLen at hs
  split at hs
  · cases r with | cons r1 r2 =>
    cases r2
    obtain ⟨n, hn, rfl⟩ := Option.map_eq_some_iff.mp hs
    exact call_len pins s σ H _ us Q I rv ⟨_, n, rfl, hK ▸ len_of e r1 hn, k.sh e (.int _)⟩
  · cases hs
theorem c_int : CallR X (.type "int") (rSC g sInt) := by
  intro pins s σ H xs us Q I rv ⟨G, ds, z, e, r, hs, k⟩
  unfold sInt at hs
  split at hs
  · cases hs; cases r with | cons r1 r2 =>
    cases r2; cases r1
    exact call_int1 pins s σ H _ us Q I rv (.inl ⟨_, rfl, k.sh e (.int _)⟩)
  · cases hs; cases r with | cons r1 r2 =>
    cases r2; cases r1
    exact call_int1 pins s σ H _ us Q I rv (.inr ⟨_, rfl, k.sh e (.int _)⟩)
  · cases hs
theorem c_abs : CallR X (.builtin "abs") (rSC g sAbs) := by
  intro pins s σ H xs us Q I rv ⟨G, ds, z, e, r, hs, k⟩
  unfold sAbs at hs
  split at hs
  · cases hs; cases r with | cons r1 r2 =>
    cases r2; cases r1
    exact call_abs pins s σ H _ us Q I rv ⟨_, rfl, k.sh e (.int _)⟩
  · cases hs
theorem c_max (hc : X.calm = true) : CallR X (.builtin "max") (rSC g sMax) := by
  intro pins s σ H xs us Q I rv ⟨G, ds, z, e, r, hs, k⟩
  unfold sMax at hs
  split at hs
  · cases hs; cases r with | cons r1 r2 =>
    cases r2 with | cons r2 r3 =>
    cases r3; cases r1; cases r2
    exact call_max2 hc pins s σ H _ us Q I rv ⟨_, _, rfl, k.sh e (.int _)⟩
  · cases r with | cons r1 r2 =>
    cases r2
    split at hs
    · rename_i n l q
      cases hs
      rw [ints_eq q] at r1
      cases r1 with | lst a1 b1 =>
      rw [rp_ints b1] at a1
      refine cr_max hc pins s σ H _ us Q I rv ⟨_, n :: l, rfl, hK ▸ SqL.of (e _ _ a1), Nat.succ_pos _, fun m hm hy => ?_⟩
      obtain ⟨h1, h2, h3⟩ := maxL_spec n l
      have e1 : maxL n l ∈ n :: l := h1.elim (fun z => List.mem_cons.mpr (.inl z)) fun z => List.mem_cons_of_mem _ z
      have e2 : m ≤ maxL n l := (List.mem_cons.mp hm).elim (fun z => z ▸ h2) fun z => h3 m z
      have e3 := hy _ e1
      have : m = maxL n l := Int.le_antisymm e2 e3
      rw [this]
      exact k.sh e (.int _)
    · cases hs
  · cases hs
theorem c_min0 (hc : X.calm = true) : CallR X (.builtin "min") (rSC g sMin0) := by
  intro pins s σ H xs us Q I rv ⟨G, ds, z, e, r, hs, k⟩
  unfold sMin0 at hs
  split at hs
  · cases hs; cases r with | cons r1 r2 =>
    cases r2 with | cons r2 r3 =>
    cases r3; cases r1; cases r2
    exact call_min2 hc pins s σ H _ us Q I rv ⟨_, _, rfl, k.sh e (.int _)⟩
  · cases r with | cons r1 r2 =>
    cases r2
    split at hs
    · rename_i n l q
      cases hs
      rw [ints_eq q] at r1
      cases r1 with | lst a1 b1 =>
      rw [rp_ints b1] at a1
      refine cr_min hc pins s σ H _ us Q I rv ⟨_, n :: l, rfl, hK ▸ SqL.of (e _ _ a1), Nat.succ_pos _, fun m hm hy => ?_⟩
      obtain ⟨h1, h2, h3⟩ := minL_spec n l
      have e1 : minL n l ∈ n :: l := h1.elim (fun z => List.mem_cons.mpr (.inl z)) fun z => List.mem_cons_of_mem _ z
      have e2 : minL n l ≤ m := (List.mem_cons.mp hm).elim (fun z => z ▸ h2) fun z => h3 m z
      have e3 := hy _ e1
      have : m = minL n l := Int.le_antisymm e3 e2
      rw [this]
      exact k.sh e (.int _)
    · cases hs
  · cases hs
theorem c_tuple : CallR X (.type "tuple") (rSC g sTuple) := by
  intro pins s σ H xs us Q I rv ⟨G, ds, z, e, r, hs, k⟩
  unfold sTuple at hs
  split at hs
  · cases hs; cases r with | cons r1 r2 =>
    cases r2
    cases r1 with | lst a1 b1 =>
    exact call_tupleF pins s σ H _ us Q I rv ⟨_, _, rfl, hK ▸ SqL.of (e _ _ a1), fun p o hp hd => k.tup e hp hd b1⟩
  · cases hs; cases r with | cons r1 r2 =>
    cases r2
    cases r1 with | tup a1 b1 =>
    have a1' := (sqN_mono e a1).t
    rw [hK] at a1'
    exact call_tuple_of pins s σ H _ us Q I rv ⟨_, _, rfl, .inr ⟨a1', k.sh e (.tup a1 b1)⟩⟩
  · cases hs
theorem c_list : CallR X (.type "list") (rSC g sList) := by
  intro pins s σ H xs us Q I rv ⟨G, ds, z, e, r, hs, k⟩
  unfold sList at hs
  split at hs
  · cases hs; cases r with | cons r1 r2 =>
    cases r2
    cases r1 with | lst a1 b1 =>
    exact call_list_of pins s σ H _ us Q I rv ⟨_, _, rfl, .inl (SqL.of (e _ _ a1)), fun p hp => k.ow e hp b1⟩
  · cases hs; cases r with | cons r1 r2 =>
    cases r2
    cases r1 with | tup a1 b1 =>
    have a1' := (sqN_mono e a1).t
    rw [hK] at a1'
    exact call_list_of pins s σ H _ us Q I rv ⟨_, _, rfl, .inr a1', fun p hp => k.ow e hp b1⟩
  · cases hs
theorem c_sum (hc : X.calm = true) : CallR X (.builtin "sum") (rSC g sSum) := by
  intro pins s σ H xs us Q I rv ⟨G, ds, z, e, r, hs, k⟩
  unfold sSum at hs
  split at hs
  · cases r with | cons r1 r2 =>
    cases r2
    obtain ⟨ns, q, rfl⟩ := Option.map_eq_some_iff.mp hs
    rw [ints_eq q] at r1
    cases r1 with | lst a1 b1 =>
    rw [rp_ints b1] at a1
    exact cr_sum hc pins s σ H _ us Q I rv ⟨_, ns, rfl, hK ▸ SqL.of (e _ _ a1), k.sh e (.int _)⟩
  · cases r with | cons r1 r2 =>
    cases r2
    obtain ⟨ns, q, rfl⟩ := Option.map_eq_some_iff.mp hs
    rw [ints_eq q] at r1
    cases r1 with | tup a1 b1 =>
    rw [rp_ints b1] at a1
    have a2 := (sqN_mono e a1).t
    rw [hK] at a2
    rw [Vals.ref1 rv]
    obtain ⟨its, iv, it, _⟩ := I.tuple a2
    have ia : IntsAre its ns := Vals.ints iv
    obtain ⟨xs, hx⟩ := ia.allInts.items
    have hn : numsOf its.toArray.toList = ns := by rw [show its.toArray.toList = its from rfl, ia.numsOf]
    rw [hx] at hn
    rw [nums_intItems] at hn
    have it2 : s.heap.IsTuple _ its.toArray := it
    rw [hx] at it2
    refine PySem.W.ktm_sumG (I.ok.hd hc) it2 fun h' tk t' kp => ?_
    rw [preSum_eq, List.take_of_length_le (by simp), hn]
    exact ⟨.int ns.sum, H, I.kept kp, ⟨t', rfl⟩, k.sh e (.int _)⟩
  · cases hs
theorem c_all (hc : X.calm = true) : CallR X (.builtin "all") (rSC g sAll) := by
  intro pins s σ H xs us Q I rv ⟨G, ds, z, e, r, hs, k⟩
  unfold sAll at hs
  split at hs
  · cases r with | cons r1 r2 =>
    cases r2
    obtain ⟨ns, q, rfl⟩ := Option.map_eq_some_iff.mp hs
    rw [bls_eq q] at r1
    cases r1 with | lst a1 b1 =>
    rw [rp_bls b1] at a1
    exact cr_all hc pins s σ H _ us Q I rv ⟨_, ns, rfl, hK ▸ SqL.of (e _ _ a1), k.sh e (.bl _)⟩
  · cases hs
theorem c_any (hc : X.calm = true) : CallR X (.builtin "any") (rSC g sAny) := by
  intro pins s σ H xs us Q I rv ⟨G, ds, z, e, r, hs, k⟩
  unfold sAny at hs
  split at hs
  · cases r with | cons r1 r2 =>
    cases r2
    obtain ⟨ns, q, rfl⟩ := Option.map_eq_some_iff.mp hs
    rw [bls_eq q] at r1
    cases r1 with | lst a1 b1 =>
    rw [rp_bls b1] at a1
    exact cr_any hc pins s σ H _ us Q I rv ⟨_, ns, rfl, hK ▸ SqL.of (e _ _ a1), k.sh e (.bl _)⟩
  · cases hs
end
def tyD : D → String
  | .none => "NoneType"
  | .bool _ => "bool"
  | .int _ => "int"
  | .str _ => "str"
  | .list _ => "list"
  | .tuple _ => "tuple"
  | .dict _ => "dict"
def isiD (T : String) (d : D) : Option Bool := match T with
  | "int" => some (match d with | .int _ => true | .bool _ => true | _ => false)
  | "bool" => some (match d with | .bool _ => true | _ => false)
  | "str" => some (match d with | .str _ => true | _ => false)
  | "list" => some (match d with | .list _ => true | _ => false)
  | "tuple" => some (match d with | .tuple _ => true | _ => false)
  | _ => none
def cIsi (T : String) (fa : Ev) : Ev := fun ρ => bdD (fa ρ) fun d ρ1 => lift ((isiD T d).map bl) ρ1
theorem tyx_of {K : PySem.W.Frag} {G H : Hp} (e : Same G H) {v : V} {d : D} (r : Rp K G v d) : TyX K H v (.type (tyD d)) := by
  cases r with
  | non => exact .base .non
  | bl b => exact .base (.bl b)
  | int i => exact .base (.int i)
  | str x => exact .base (.str x)
  | lst a1 _ => exact .base (.lst (e _ _ a1))
  | tup a1 _ =>
    rcases a1 with ⟨o, _, h⟩ | ⟨o, its, n, hk, hc, _⟩
    · exact .fTuple (e _ _ h)
    · exact .kTuple hk hc
theorem isi_kit {K : PySem.W.Frag} {T : String} {d : D} {b : Bool} {v : V} {G : Hp} (r : Rp K G v d) (h : isiD T d = some b) : PySem.W.kitOne K (.type (tyD d)) (.type T) = some b := by
  unfold isiD at h
  split at h
  · cases h
    cases d with
    | none => exact kit_ty (a := "NoneType") (b := "int") (r := false) (by decide +kernel)
    | bool _ => exact kit_ty (a := "bool") (b := "int") (r := true) (by decide +kernel)
    | int _ => exact kit_ty (a := "int") (b := "int") (r := true) (by decide +kernel)
    | str _ => exact kit_ty (a := "str") (b := "int") (r := false) (by decide +kernel)
    | list _ => exact kit_ty (a := "list") (b := "int") (r := false) (by decide +kernel)
    | tuple _ => exact kit_ty (a := "tuple") (b := "int") (r := false) (by decide +kernel)
    | dict _ => cases r
  · cases h
    cases d with
    | none => exact kit_ty (a := "NoneType") (b := "bool") (r := false) (by decide +kernel)
    | bool _ => exact kit_ty (a := "bool") (b := "bool") (r := true) (by decide +kernel)
    | int _ => exact kit_ty (a := "int") (b := "bool") (r := false) (by decide +kernel)
    | str _ => exact kit_ty (a := "str") (b := "bool") (r := false) (by decide +kernel)
    | list _ => exact kit_ty (a := "list") (b := "bool") (r := false) (by decide +kernel)
    | tuple _ => exact kit_ty (a := "tuple") (b := "bool") (r := false) (by decide +kernel)
    | dict _ => cases r
  · cases h
    cases d with
    | none => exact kit_ty (a := "NoneType") (b := "str") (r := false) (by decide +kernel)
    | bool _ => exact kit_ty (a := "bool") (b := "str") (r := false) (by decide +kernel)
    | int _ => exact kit_ty (a := "int") (b := "str") (r := false) (by decide +kernel)
    | str _ => exact kit_ty (a := "str") (b := "str") (r := true) (by decide +kernel)
    | list _ => exact kit_ty (a := "list") (b := "str") (r := false) (by decide +kernel)
    | tuple _ => exact kit_ty (a := "tuple") (b := "str") (r := false) (by decide +kernel)
    | dict _ => cases r
  · cases h
    cases d with
    | none => exact kit_ty (a := "NoneType") (b := "list") (r := false) (by decide +kernel)
    | bool _ => exact kit_ty (a := "bool") (b := "list") (r := false) (by decide +kernel)
    | int _ => exact kit_ty (a := "int") (b := "list") (r := false) (by decide +kernel)
    | str _ => exact kit_ty (a := "str") (b := "list") (r := false) (by decide +kernel)
    | list _ => exact kit_ty (a := "list") (b := "list") (r := true) (by decide +kernel)
    | tuple _ => exact kit_ty (a := "tuple") (b := "list") (r := false) (by decide +kernel)
    | dict _ => cases r
  · cases h
    cases d with
    | none => exact kit_ty (a := "NoneType") (b := "tuple") (r := false) (by decide +kernel)
    | bool _ => exact kit_ty (a := "bool") (b := "tuple") (r := false) (by decide +kernel)
    | int _ => exact kit_ty (a := "int") (b := "tuple") (r := false) (by decide +kernel)
    | str _ => exact kit_ty (a := "str") (b := "tuple") (r := false) (by decide +kernel)
    | list _ => exact kit_ty (a := "list") (b := "tuple") (r := false) (by decide +kernel)
    | tuple _ => exact kit_ty (a := "tuple") (b := "tuple") (r := true) (by decide +kernel)
    | dict _ => cases r
  · cases h
theorem e_isi {X : Cx} {g : Gd} {W : WX} (hK : g.K = X.K) {a : Expr} {fa : Ev} {T : String} {p p2 pos : Pos} {Ts : Str} (ha : PE X a (tD g W fa)) (hs : notStar a = true) (hg : Gl X "isinstance") (hm : X.mg "isinstance" = none) (hv : bootBuiltins "isinstance" = some (.builtin "isinstance"))
    (hg2 : Gl X Ts) (hm2 : X.mg Ts = none) (hv2 : bootBuiltins Ts = some (.type T)) (hn2 : Ts ≠ "__name__") (hd2 : (Ts == ("__debug__" : Str)) = false) :
    PE X (.Call (.Name "isinstance" p) [a, .Name Ts p2] [] pos) (tD g W (cIsi T fa)) :=
  (pe_callB call_isi hg hm hv (pa_cons ha (pa_cons (pe_bltn (v := .ty T) hg2 hm2 hv2 rfl hn2 hd2) pa_nil (star_cons rfl)) (star_cons hs)) (by decide) (by decide) (star_cons hs)).imp fun σ H Q ⟨ρ, G, o, w, e, p⟩ =>
  tD_bd w e p.exn fun v d ρ1 G1 H1 s1 r1 e1 => by
    obtain ⟨z, hz, rfl⟩ := lift_ok e1
    obtain ⟨b, hb, rfl⟩ := Option.map_eq_some_iff.mp hz
    exact ⟨v, .ty T, _, .type T, b, rfl, .ty T, hK ▸ tyx_of s1.wo.gh r1, isi_kit (hK ▸ r1) hb, (p.step s1).now s1.wo (.bl _)⟩
end Rk
set_option Elab.async false
set_option linter.all false
set_option maxRecDepth 100000
set_option maxHeartbeats 4000000
namespace Rk
open PySem PySem.Spec PyProof.Rows L2
section
variable {X : Cx} {g : Gd} {W : WX} {e o : Expr} {es : List Expr} {pos cpos apos : Pos} {name : Str}
def notCall : Expr → Bool
  | .Call .. => false
  | _ => true
theorem base_plain {env : Env} {whole : Sem Value} (h : notCall o = true) : attributeBase o name env whole = whole := by
  cases o <;> first | rfl | cases h
theorem few_one {env : Env} (h : notStar e = true) : ((backTo cpos (starEach [e] env)).all (fun x => !x.1) && (backToKw cpos (keywordEach [] env)).all (fun x => x.1.isSome)
      && decide ([e].length + ([] : List Keyword).length + (if ([] : List Keyword).isEmpty then 0 else 1) < 30)) = true := by
  rw [star_cons h]
  rfl
def cApp (i : Nat) (fe : Ev) : Ev := fun ρ => match slO ρ i with
  | none => none
  | some _ => bdD (fe ρ) fun d ρ1 => match slO ρ1 i with
    | some ds => if ds.length < big then some (.ok (.sh .none) (ρ1.set i (.ow (ds ++ [d])))) else none
    | none => none
def cExt (i : Nat) (fe : Ev) : Ev := fun ρ => match slO ρ i with
  | none => none
  | some _ => bdD (fe ρ) fun d ρ1 => match slO ρ1 i, d with
    | some ds, .list es => if ds.length + es.length ≤ big then some (.ok (.sh .none) (ρ1.set i (.ow (ds ++ es)))) else none
    | _, _ => none
def cPop (i : Nat) (fe : Ev) : Ev := fun ρ => match slO ρ i with
  | none => none
  | some _ => bdD (fe ρ) fun d ρ1 => match slO ρ1 i, d with
    | some ds, .int k => if ds.length ≤ big then (match ixN ds.length k with
      | some j => (match ds[j]? with
        | some y => some (.ok (.sh y) (ρ1.set i (.ow (ds.eraseIdx j))))
        | none => none)
      | none => none) else none
    | _, _ => none
theorem own_ty {H : Hp} {K : PySem.W.Frag} {a : Addr} {xs : List V} (h : H a = some (.lst xs)) : tyV K "list" (.ref a) H := .inl ⟨rfl, xs, SqL.of h⟩
theorem own_go {i : Nat} {σ : St} {ρ : Rho} {G H : Hp} {oc : Oc Sl} {fe : Ev} {k : D → Rho → Option (Oc Sl)} {Q : VK} {r : V → List V → Hp → VK → Prop}
    (w : Wo g σ ρ G H) (e : (match slO ρ i with | none => none | some _ => bdD (fe ρ) k) = some oc) (p : Post g W σ ρ G H Q oc)
    (hk : ∀ a v d ρ1 G1 H1, σ[i]? = some (some (.ref a)) → StE g σ ρ G H ρ1 G1 H1 → Rp g.K G1 v d → k d ρ1 = some oc → Post g W σ ρ1 G1 H1 Q oc → r (.ref a) [v] H1 Q) :
    tBM X.K "list" r (tVar i) (tCons (tD g W fe) tNil) σ H Q := by
  split at e
  · cases e
  · rename_i ds q
    obtain ⟨a, xs, ea, _, hh, _⟩ := w.own q
    exact ⟨_, ea, own_ty hh, tD_bd w e p.exn fun v d ρ1 G1 H1 s1 r1 e1 => hk a v d ρ1 G1 H1 ea s1 r1 e1 (p.step s1)⟩
theorem e_app {i : Nat} {x : Str} {p ap cp : Pos} {fe : Ev} (hN : X.N[i]? = some x) (hv : Vis X.env.scope x) (hd : (x == ("__debug__" : Str)) = false) (hcd : (x == ("__classdict__" : Str)) = false) (he : PE X e (tD g W fe)) (hs : notStar e = true)
    (hl : (ap.endLine == cp.line) = true) : PE X (.Call (.Attribute (.Name x p) "append" ap) [e] [] cp) (tD g W (cApp i fe)) :=
  (pe_bm PySem.F.plainAttrs_list PySem.F.slot_list_append PySem.F.type_list_append mt_append (pe_var hN hv hd hcd) (pa_cons he pa_nil (star_cons hs)) rfl (few_one hs) hl (star_cons hs) rfl).imp fun σ H Q ⟨ρ, G, oc, w, e, p⟩ =>
  own_go w e p fun a v d ρ1 G1 H1 ea s1 r1 e1 p1 => by
    split at e1
    · rename_i ds q
      split at e1
      · rename_i hz
        cases e1
        obtain ⟨b, xs, eb, _, hh, ra⟩ := s1.wo.own q
        rw [ea] at eb
        cases eb
        rw [big_eq, ← ra.len] at hz
        have st := s1.wo.mutAt (slO_at q) ea (ra.app (.one r1))
        exact ⟨a, xs, v, rfl, rfl, hh, hz, p1 _ _ _ st .non⟩
      · cases e1
    · cases e1
theorem e_ext {i : Nat} {x : Str} {p ap cp : Pos} {fe : Ev} (hN : X.N[i]? = some x) (hv : Vis X.env.scope x) (hd : (x == ("__debug__" : Str)) = false) (hcd : (x == ("__classdict__" : Str)) = false) (he : PE X e (tD g W fe)) (hs : notStar e = true)
    (hl : (ap.endLine == cp.line) = true) : PE X (.Call (.Attribute (.Name x p) "extend" ap) [e] [] cp) (tD g W (cExt i fe)) :=
  (pe_bm PySem.F.plainAttrs_list PySem.F.slot_list_extend PySem.F.type_list_extend mt_extend (pe_var hN hv hd hcd) (pa_cons he pa_nil (star_cons hs)) rfl (few_one hs) hl (star_cons hs) rfl).imp fun σ H Q ⟨ρ, G, oc, w, e, p⟩ =>
  own_go w e p fun a v d ρ1 G1 H1 ea s1 r1 e1 p1 => by
    split at e1
    · rename_i ds es q
      split at e1
      · rename_i hz
        cases e1
        obtain ⟨b, xs, eb, _, hh, ra⟩ := s1.wo.own q
        rw [ea] at eb
        cases eb
        cases r1 with | lst a1 b1 =>
        rw [big_eq, ← ra.len, ← b1.len] at hz
        have st := s1.wo.mutAt (slO_at q) ea (ra.app b1)
        exact ⟨a, _, xs, _, rfl, rfl, hh, s1.wo.gh _ _ a1, hz, p1 _ _ _ st .non⟩
      · cases e1
    · cases e1
theorem e_pop {i : Nat} {x : Str} {p ap cp : Pos} {fe : Ev} (hN : X.N[i]? = some x) (hv : Vis X.env.scope x) (hd : (x == ("__debug__" : Str)) = false) (hcd : (x == ("__classdict__" : Str)) = false) (he : PE X e (tD g W fe)) (hs : notStar e = true)
    (hl : (ap.endLine == cp.line) = true) : PE X (.Call (.Attribute (.Name x p) "pop" ap) [e] [] cp) (tD g W (cPop i fe)) :=
  (pe_bm PySem.F.plainAttrs_list PySem.F.slot_list_pop PySem.F.type_list_pop mt_popAt (pe_var hN hv hd hcd) (pa_cons he pa_nil (star_cons hs)) rfl (few_one hs) hl (star_cons hs) rfl).imp fun σ H Q ⟨ρ, G, oc, w, e, p⟩ =>
  own_go w e p fun a v d ρ1 G1 H1 ea s1 r1 e1 p1 => by
    split at e1
    · rename_i ds k q
      split at e1
      · rename_i hz0
        split at e1
        · rename_i j hj
          split at e1
          · rename_i y hy
            cases e1
            obtain ⟨b, xs, eb, _, hh, ra⟩ := s1.wo.own q
            rw [ea] at eb
            cases eb
            cases r1
            obtain ⟨z, hz, rz⟩ := ra.get hy
            obtain ⟨q1, q2, q3, q4⟩ := ixN_seq hj
            rw [← ra.len] at q1 q2 q3 q4 hz0
            have hb : big = 16777216 := rfl
            have st := s1.wo.mutAt (slO_at q) ea (ra.erase j)
            exact ⟨a, xs, k, j, z, rfl, rfl, hh, by omega, by omega, q1, hz, p1 _ _ _ st rz⟩
          · cases e1
        · cases e1
      · cases e1
    · cases e1
def seqD : D → Option (List D)
  | .list ds => some ds
  | .tuple ds => some ds
  | _ => none
def idxD (ds : List D) (y : D) : Option Nat := if y.canLay0 && PyData.canLayAll0 ds && decide (y.depth ≤ 64) && decide (ds.length ≤ big) then ds.findIdx? fun z => PyData.eqv z y else none
def cIndex (fo fe : Ev) : Ev := fun ρ => bdD (fo ρ) fun d ρ1 => match seqD d with
  | none => none
  | some ds => bdD (fe ρ1) fun y ρ2 => match idxD ds y with
    | some j => some (.ok (.sh (.int (j : Int))) ρ2)
    | none => none
theorem idx_key {pins : List (Addr × Obj)} {s : Shared} {σ : St} {G H : Hp} {y : V} {uv : Value} {dy : D} {ds : List D} {j : Nat} (hK : g.K = X.K) (hu : X.A.units + 65 < cLine) (I : Inv X pins σ H s) (e : Same G H)
    (r2 : Rp g.K G y dy) (ru : RelV y uv) (hj : idxD ds dy = some j) (vs : List V) (its : List Value) (b1 : RpAll g.K G vs ds) (rv' : Vals vs its) :
    (∀ w, w ∈ its.toArray → SeqAt.EqAt X.A.in1 s w uv (PyData.eqv (SeqAt.readOf s.heap w) dy)) ∧ its.length = ds.length ∧ ds.length ≤ sizeLine ∧
        ∃ hj' : j < its.toArray.size, PyData.eqv (SeqAt.readOf s.heap its.toArray[j]) dy = true ∧ ∀ (m : Nat) (hm : m < its.toArray.size), m < j → PyData.eqv (SeqAt.readOf s.heap its.toArray[m]) dy = false := by
  unfold idxD at hj
  split at hj
  · rename_i hc
    simp only [Bool.and_eq_true, decide_eq_true_eq] at hc
    obtain ⟨⟨⟨c1, c2⟩, c3⟩, c4⟩ := hc
    obtain ⟨hjl, hjt, hjn⟩ := List.findIdx?_eq_some_iff_getElem.mp hj
    obtain ⟨bs, rdy⟩ := Dp.reads I dy y uv (hK ▸ r2.dp e) ru
    have room : X.A.units + 1 + min (PyData.depthAll ds) dy.depth < cLine := by
      have : min (PyData.depthAll ds) dy.depth ≤ dy.depth := Nat.min_le_right _ _
      omega
    obtain ⟨as, rd⟩ := Dp.readsAll I ds _ its (hK ▸ b1.dp e) rv'
    have hn : its.length = ds.length := SeqAt.ReadsAll.length ds its as rd
    have hmap : its.map (SeqAt.readOf s.heap) = ds := SeqAt.readsAll_map ds its as c2 rd
    have sz : its.toArray.size = its.length := List.size_toArray
    have at_ : ∀ (m : Nat) (hm : m < its.toArray.size), SeqAt.readOf s.heap its.toArray[m] = ds[m]'(by omega) := by
      intro m hm
      have h1 : (its.map (SeqAt.readOf s.heap))[m]? = ds[m]? := by rw [hmap]
      rw [List.getElem?_map, List.getElem?_eq_getElem (by omega), List.getElem?_eq_getElem (by omega)] at h1
      simpa using h1
    have sl := sizeLine_eq
    have hb : big = 16777216 := rfl
    refine ⟨SeqAt.items_eqAt (vs := its.toArray) (show ReadsAll s.heap its.toArray.toList ds as from rd) rdy c2 c1 room, hn, by omega, by omega, ?_, fun m hm hmj => ?_⟩
    · rw [at_ j (by omega)]; exact hjt
    · rw [at_ m hm]; exact Bool.eq_false_iff.mpr (hjn m hmj)
  · cases hj
theorem idx_list {pins : List (Addr × Obj)} {s : Shared} {σ : St} {G H : Hp} {v y : V} {vv uv : Value} {dy : D} {ds : List D} {j : Nat} {Q : VK} (hK : g.K = X.K) (hu : X.A.units + 65 < cLine) (I : Inv X pins σ H s) (e : Same G H)
    (r1 : Rp g.K G v (.list ds)) (r2 : Rp g.K G y dy) (rv : RelV v vv) (ru : RelV y uv) (hj : idxD ds dy = some j) (q : Q (.int (j : Int)) H) :
    wpAny (model X.prog X.w) X.A (call (.builtin "list.index") [vv, uv]) (EP X pins σ Q) X.xe s := by
  cases r1 with | lst a1 b1 =>
  obtain rfl : vv = Value.ref _ := rv
  obtain ⟨its, rv', ⟨⟨cls, dd, data, sls⟩, n, ho, hc, hdn, hdt⟩, hlen⟩ := I.list (SqL.of (K := X.K) (e _ _ a1))
  simp only at hc hdt hdn
  subst hc hdt hdn
  obtain ⟨k1, k2, k6, k3, k4, k5⟩ := idx_key hK hu I e r2 ru hj _ its b1 rv'
  have sz : its.toArray.size = its.length := List.size_toArray
  have sl := sizeLine_eq
  refine call_meets PySem.F.slot_list_index ⟨_, ho, rfl⟩ PySem.F.entry_list_index (PySem.F.args_list_index_2 _ _)
    (SeqAt.list_indexAt _ its.toArray n _ sls uv (fun u => PyData.eqv (SeqAt.readOf s.heap u) dy) j k3 (by omega) k4 k5) ⟨ho, k1, ?_⟩
  exact ⟨.int (j : Nat), H, I.tok _, ⟨_, rfl⟩, q⟩
theorem idx_tup {pins : List (Addr × Obj)} {s : Shared} {σ : St} {G H : Hp} {v y : V} {vv uv : Value} {dy : D} {ds : List D} {j : Nat} {Q : VK} (hK : g.K = X.K) (hu : X.A.units + 65 < cLine) (I : Inv X pins σ H s) (e : Same G H)
    (r1 : Rp g.K G v (.tuple ds)) (r2 : Rp g.K G y dy) (rv : RelV v vv) (ru : RelV y uv) (hj : idxD ds dy = some j) (q : Q (.int (j : Int)) H) :
    wpAny (model X.prog X.w) X.A (call (.builtin "tuple.index") [vv, uv]) (EP X pins σ Q) X.xe s := by
  cases r1 with | tup a1 b1 =>
  obtain rfl : vv = Value.ref _ := rv
  obtain ⟨its, rv', ⟨⟨cls, dd, data, sls⟩, ho, hc, n, hdt⟩, hlen⟩ := I.tuple (show SqT X.K H _ _ from hK ▸ (sqN_mono e a1).t)
  simp only at hc hdt
  subst hc hdt
  obtain ⟨k1, k2, k6, k3, k4, k5⟩ := idx_key hK hu I e r2 ru hj _ its b1 rv'
  have sz : its.toArray.size = its.length := List.size_toArray
  have sl := sizeLine_eq
  refine call_meets PySem.F.slot_tuple_index ⟨_, ho, rfl⟩ PySem.F.entry_tuple_index (PySem.F.args_tuple_index_2 _ _)
    (TI.tuple_indexAt _ its.toArray n _ sls uv (fun u => PyData.eqv (SeqAt.readOf s.heap u) dy) j k3 k4 k5) ⟨ho, k1, ?_⟩
  exact ⟨.int (j : Nat), H, I.tok _, ⟨_, rfl⟩, q⟩
theorem tupN_ty {pins : List (Addr × Obj)} {s : Shared} {σ : St} {G H : Hp} {v : V} {vv : Value} {ds : List D} (hK : g.K = X.K) (I : Inv X pins σ H s) (e : Same G H) (r1 : Rp g.K G v (.tuple ds)) (rv : RelV v vv) :
    s.TypeIs vv "tuple" ∧ ∀ a, vv = .ref a → ∃ ob, s.heap.get? a = some ob ∧ ob.dict = none := by
  cases r1 with | tup a1 b1 =>
  obtain rfl : vv = Value.ref _ := rv
  obtain ⟨its, rv', ⟨ob, ho, hc, n, hdt⟩, hlen⟩ := I.tuple (show SqT X.K H _ _ from hK ▸ (sqN_mono e a1).t)
  refine ⟨⟨ob, ho, hc⟩, fun a z => ?_⟩
  cases z
  rcases sqN_mono e a1 with ⟨ob', h0, h⟩ | ⟨ob', its', n', hk, _, h0, _⟩
  · obtain ⟨h1, _⟩ := (show ObjOk X.prog X.w H s.heap _ (.frz ob' (.tup _)) from I.hok _ _ h)
    exact ⟨ob', h1, h0⟩
  · exact ⟨ob', I.kIn _ ob' (hK ▸ hk), h0⟩
theorem e_index {fo fe : Ev} (hK : g.K = X.K) (hu : X.A.units + 65 < cLine) (ho : PE X o (tD g W fo)) (hb : notCall o = true) (he : PE X e (tD g W fe)) (hs : notStar e = true) (hl : (apos.endLine == cpos.line) = true) :
    PE X (.Call (.Attribute o "index" apos) [e] [] cpos) (tD g W (cIndex fo fe)) := by
  refine ⟨fun pins s σ H Q I ⟨ρ, G, oc, w, eq, p⟩ => ?_⟩
  refine wpAny_Call_method_late (base_plain hb) (few_one hs) hl rfl (thn (ho.run pins s σ H
    (fun v H1 => ∃ d ds G1 ρ1, Wo g σ ρ1 G1 H1 ∧ Rp g.K G1 v d ∧ seqD d = some ds ∧ bdD (fe ρ1) (fun y ρ2 => match idxD ds y with | some j => some (.ok (.sh (.int (j : Int))) ρ2) | none => none) = some oc ∧ Post g W σ ρ1 G1 H1 Q oc) I
    (tD_bd w eq p.exn fun v d ρ1 G1 H1 s1 r1 e1 => ?_)) fun vv s1 ⟨v, H1, I1, rv, d, ds, G1, ρ1, w1, r1, hd, e1, p1⟩ => ?_)
  · split at e1
    · cases e1
    · rename_i ds hd
      exact ⟨d, ds, G1, ρ1, s1.wo, r1, hd, e1, p.step s1⟩
  · have hA := (pa_cons (X := X) he pa_nil (star_cons hs)).run cpos pins s1 σ H1 (fun vs H2 => ∃ y dy G2 j, vs = [y] ∧ Same G1 G2 ∧ Same G2 H2 ∧ Rp g.K G2 y dy ∧ idxD ds dy = some j ∧ Q (.int (j : Int)) H2) I1
      (tD_bd w1 e1 p1.exn fun y dy ρ2 G2 H2 s2 r2 e2 => by
        split at e2
        · rename_i j hj
          cases e2
          exact ⟨y, dy, G2, j, rfl, s2.gg, s2.wo.gh, r2, hj, (p1.step s2).now s2.wo (.int _)⟩
        · cases e2)
    rw [star_cons hs] at hA ⊢
    cases d with
    | list es =>
      cases hd
      have ty : tyV X.K "list" v H1 := by
        cases r1 with | lst a1 b1 =>
        exact .inl ⟨rfl, _, SqL.of (w1.gh _ _ a1)⟩
      obtain ⟨t1, t2⟩ := tyV_is I1 rv ty
      refine ⟨"list", _, PySem.F.plainAttrs_list, PySem.F.slot_list_index, PySem.F.type_list_index, t1, t2, ?_⟩
      refine Calls.callWith_builtin rfl (Calls.evalArgs_plain (thn hA fun us s2 ⟨vs, H2, I2, ru, y, dy, G2, j, e3, g2, h2, r2, hj, q2⟩ => ?_))
      subst e3
      obtain ⟨u, rfl, ru1⟩ := Vals.one ru
      exact idx_list hK hu I2 h2 (r1.mono g2) r2 rv ru1 hj q2
    | tuple es =>
      cases hd
      obtain ⟨t1, t2⟩ := tupN_ty hK I1 w1.gh r1 rv
      refine ⟨"tuple", _, PySem.F.plainAttrs_tuple, PySem.F.slot_tuple_index, PySem.F.type_tuple_index, t1, t2, ?_⟩
      refine Calls.callWith_builtin rfl (Calls.evalArgs_plain (thn hA fun us s2 ⟨vs, H2, I2, ru, y, dy, G2, j, e3, g2, h2, r2, hj, q2⟩ => ?_))
      subst e3
      obtain ⟨u, rfl, ru1⟩ := Vals.one ru
      exact idx_tup hK hu I2 h2 (r1.mono g2) r2 rv ru1 hj q2
    | _ => cases hd
end
end Rk
set_option Elab.async false
set_option linter.all false
set_option maxRecDepth 100000
set_option maxHeartbeats 4000000
namespace Rk
open PySem PySem.Spec PyProof.Rows L2
/-- what a call leaves out: the callee's error at the caller's slots -/
def PostC (g : Gd) (σ : St) (ρ : Rho) (G H : Hp) (Q : VK) (E : XK) (o : Oc Sl) : Prop := Post g (fun c d _ H' => E c d H') σ ρ G H Q o
def spF (g : Gd) (ar : Nat) (sem : Ev) : Sp := fun vs H Q E => vs.length = ar ∧ ∃ as G o, Wo g (vs.map some) as G H ∧ sem as = some o ∧ PostC g (vs.map some) as G H Q E o
theorem not_ow_sh {ds : List D} {σ : St} {a : Addr} : ¬ Ow (ds.map Sl.sh) σ a := fun ⟨i, es, e, _⟩ => by
  rw [List.getElem?_map] at e
  cases q : ds[i]? with
  | none => rw [q] at e; cases e
  | some d => rw [q] at e; cases e
section
variable {g : Gd} {σ : St} {ρ : Rho} {G H G' H' : Hp}
theorem wo_args {vs : List V} {ds : List D} (w : Wo g σ ρ G H) (r : RpAll g.K G vs ds) : Wo g (vs.map some) (ds.map Sl.sh) G H where
  gh := w.gh
  len := by rw [List.length_map, List.length_map]; exact r.len
  sl := fun i s e => by
    rw [List.getElem?_map] at e
    cases q : ds[i]? with
    | none => rw [q] at e; cases e
    | some d =>
      rw [q] at e
      cases e
      obtain ⟨v, hv, rv⟩ := r.get q
      exact ⟨v, by rw [List.getElem?_map, hv]; rfl, rv⟩
  dj := fun i j a d1 d2 e _ _ _ => by
    rw [List.getElem?_map] at e
    cases q : ds[i]? with
    | none => rw [q] at e; cases e
    | some d => rw [q] at e; cases e
  tb := w.tb
/-- behind a call without an own argument -/
theorem StE.frame {vs : List V} {ds : List D} {as' : Rho} (w : Wo g σ ρ G H) (s : StE g (vs.map some) (ds.map Sl.sh) G H as' G' H') : StE g σ ρ G H ρ G' H' where
  gg := s.gg
  wo := {
    gh := s.wo.gh
    len := w.len
    sl := fun i sl e => (w.sl i sl e).mono s.gg fun a xs _ h1 h2 _ => ⟨s.nc a h1 (by rw [h2]; simp) not_ow_sh, s.fr a _ h2 not_ow_sh (w.noT h2)⟩
    dj := w.dj
    tb := s.wo.tb }
  fr := fun a o h _ t => s.fr a o h not_ow_sh t
  al := s.al
  nc := fun a h1 h2 _ => s.nc a h1 h2 not_ow_sh
  ow := fun _ ds h => ⟨ds, h⟩
theorem ow_first {s0 : Sl} {ds : List D} {v0 : V} {vs : List V} {a : Addr} (h : Ow (s0 :: ds.map Sl.sh) ((v0 :: vs).map some) a) : (∃ es, s0 = .ow es) ∧ v0 = .ref a := by
  obtain ⟨i, es, e1, e2⟩ := h
  cases i with
  | zero =>
    simp at e1 e2
    exact ⟨⟨es, e1⟩, e2⟩
  | succ n => exact absurd ⟨n, es, by simpa using e1, by simpa using e2⟩ (not_ow_sh (ds := ds) (σ := vs.map some) (a := a))
theorem wo_args1 {vs : List V} {ds : List D} {i : Nat} {s0 : Sl} {v0 : V} (w : Wo g σ ρ G H) (r : RpAll g.K G vs ds) (e0 : ρ[i]? = some s0) (ev : σ[i]? = some (some v0)) : Wo g ((v0 :: vs).map some) (s0 :: ds.map Sl.sh) G H where
  gh := w.gh
  len := by simp only [List.length_map, List.length_cons]; rw [r.len]
  sl := fun j s e => by
    cases j with
    | zero =>
      simp at e
      subst e
      have := w.sl i s0 e0
      rw [ev] at this
      exact this
    | succ n => exact (wo_args w r).sl n s (by simpa using e)
  dj := fun j k a d1 d2 e1 e2 e3 e4 => by
    cases j with
    | zero =>
      cases k with
      | zero => rfl
      | succ n => exact absurd ⟨n, d2, by simpa using e2, by simpa using e4⟩ (not_ow_sh (ds := ds) (σ := vs.map some) (a := a))
    | succ n => exact absurd ⟨n, d1, by simpa using e1, by simpa using e3⟩ (not_ow_sh (ds := ds) (σ := vs.map some) (a := a))
  tb := w.tb
/-- behind a call whose first argument is the list of a slot -/
theorem StE.frame1 {vs : List V} {ds : List D} {as' : Rho} {i : Nat} {s0 s1 : Sl} {v0 : V} (w : Wo g σ ρ G H) (e0 : ρ[i]? = some s0) (ev : σ[i]? = some (some v0)) (s : StE g ((v0 :: vs).map some) (s0 :: ds.map Sl.sh) G H as' G' H') (e1 : as'[0]? = some s1) :
    StE g σ ρ G H (ρ.set i s1) G' H' := by
  have hi : i < ρ.length := (List.getElem?_eq_some_iff.mp e0).1
  have up : ∀ a, Ow (s0 :: ds.map Sl.sh) ((v0 :: vs).map some) a → Ow ρ σ a := fun a h => by
    obtain ⟨⟨es, rfl⟩, rfl⟩ := ow_first h
    exact ⟨i, es, e0, ev⟩
  have ow1 : ∀ ds1, s1 = .ow ds1 → ∃ es, s0 = .ow es := fun ds1 e => by
    subst e
    obtain ⟨es, q⟩ := s.ow 0 ds1 e1
    exact ⟨es, by simpa using q⟩
  have back : ∀ (m : Nat) (d : List D), (ρ.set i s1)[m]? = some (.ow d) → ∃ d', ρ[m]? = some (.ow d') := fun m d q => by
    by_cases hm : i = m
    · subst hm
      rw [List.getElem?_set_self hi] at q
      obtain ⟨es, z⟩ := ow1 d (Option.some.inj q)
      exact ⟨es, z ▸ e0⟩
    · rw [List.getElem?_set_ne hm] at q; exact ⟨d, q⟩
  refine ⟨s.gg, ⟨s.wo.gh, by rw [List.length_set]; exact w.len, fun j sl e => ?_, fun j k a d1 d2 q1 q2 q3 q4 => ?_, s.wo.tb⟩, fun a o h n t => s.fr a o h (fun z => n (up a z)) t, s.al, fun a h1 h2 n => s.nc a h1 h2 fun z => n (up a z), back⟩
  · by_cases hj : i = j
    · subst hj
      rw [List.getElem?_set_self hi] at e
      cases e
      have := s.wo.sl 0 _ e1
      rw [ev]
      exact this
    · rw [List.getElem?_set_ne hj] at e
      refine (w.sl j sl e).mono s.gg fun a xs ea h1 h2 ⟨d1, e3⟩ => ?_
      subst e3
      have n : ¬ Ow (s0 :: ds.map Sl.sh) ((v0 :: vs).map some) a := fun z => by
        obtain ⟨⟨es, rfl⟩, rfl⟩ := ow_first z
        exact hj (w.dj i j a es d1 e0 e ev (get_join ea))
      exact ⟨s.nc a h1 (by rw [h2]; simp) n, s.fr a _ h2 n (w.noT h2)⟩
  · obtain ⟨d1', q1'⟩ := back j d1 q1
    obtain ⟨d2', q2'⟩ := back k d2 q2
    exact w.dj j k a d1' d2' q1' q2' q3 q4
end
/-- a call: the arguments as data -/
def cFn (ar : Nat) (sem : Ev) (fs : EvA) : Ev := fun ρ => bdO (fs ρ) fun xs ρ1 => if xs.length = ar then (match sem (xs.map .sh) with
  | some (.ok r _) => some (.ok r ρ1)
  | some (.ex c fs _) => some (.ex c fs ρ1)
  | none => none) else none
def goesBy : Sl → Bool
  | .ow _ => true
  | .scr _ => true
  | _ => false
/-- the first argument's slot behind the call -/
def back1 (i : Nat) (ρ1 : Rho) : Option (Oc Sl) → Option (Oc Sl)
  | some (.ok r as') => (match as'[0]? with
    | some s1 => some (.ok r (ρ1.set i s1))
    | none => none)
  | some (.ex c fs as') => (match as'[0]? with
    | some s1 => some (.ex c fs (ρ1.set i s1))
    | none => none)
  | none => none
def by1 (i : Nat) (ρ : Rho) : Option Sl := match ρ[i]? with
  | some s => if goesBy s then some s else none
  | none => none
/-- a call whose first argument is the list of a slot itself -/
def cFn1 (i : Nat) (ar : Nat) (sem : Ev) (fs : EvA) : Ev := fun ρ => match by1 i ρ with
  | none => none
  | some _ => bdO (fs ρ) fun xs ρ1 => match by1 i ρ1 with
    | none => none
    | some s0 => if xs.length + 1 = ar then back1 i ρ1 (sem (s0 :: xs.map .sh)) else none
theorem by1_at {i : Nat} {ρ : Rho} {s : Sl} (h : by1 i ρ = some s) : ρ[i]? = some s ∧ goesBy s = true := by
  unfold by1 at h
  cases q : ρ[i]? with
  | none => rw [q] at h; cases h
  | some s' =>
    rw [q] at h
    dsimp only at h
    split at h
    · cases h; exact ⟨rfl, by assumption⟩
    · cases h
theorem Wo.by {g : Gd} {σ : St} {ρ : Rho} {G H : Hp} {i : Nat} {s : Sl} (w : Wo g σ ρ G H) (h : by1 i ρ = some s) : ∃ v, σ[i]? = some (some v) := by
  obtain ⟨h1, h2⟩ := by1_at h
  have := w.sl i s h1
  cases s with
  | ow ds => obtain ⟨a, xs, e, _⟩ := this; exact ⟨_, get_join e⟩
  | scr ns => obtain ⟨a, e, _⟩ := this; exact ⟨_, get_join e⟩
  | _ => cases h2
section
variable {X : Cx} {g : Gd} {W : WX} {k : Nat} {f : Addr} {fd : FuncData} {ps : List Str} {ar : Nat} {sem : Ev} {x : Str} {p pos : Pos} {e : Expr} {es : List Expr}
theorem e_fn {fs : EvA} (F : FnOk X.prog X.w X.K X.mg X.base (L2.CX X.prog X.w) k f fd ps (spF g ar sem)) (hr : Room k X.A) (hg : Gl X x) (hm : X.mg x = some (.ref f)) (hk : PySem.W.keepIn X.K (.ref f) = true) (hb : Binds X.K fd ps []) (tk : Takes X W)
    (ha : PA X (e :: es) (tDA g W fs)) (hdb : (x == ("__debug__" : Str)) = false) (he : starEach (e :: es) X.env = (false, eval e X.env) :: starEach es X.env) (hpl : (backTo pos (starEach es X.env)).any (·.1) = false) :
    PE X (.Call (.Name x p) (e :: es) [] pos) (tD g W (cFn ar sem fs)) := (pe_callS (E := WE W) F hr hg hm hk hb (fun σ => passAt tk σ) ha hdb he hpl).imp fun σ H Q ⟨ρ, G, o, w, eq, po⟩ =>
  tD_ba w eq po.exn fun vs ds ρ1 G1 H1 s1 r1 e1 => by
    have p1 := po.step s1
    split at e1
    · rename_i hl
      refine ⟨by rw [r1.len]; exact hl, ds.map .sh, G1, ?_⟩
      cases q : sem (ds.map .sh) with
      | none => rw [q] at e1; cases e1
      | some oc =>
        rw [q] at e1
        refine ⟨oc, wo_args s1.wo r1, rfl, ?_⟩
        cases oc with
        | ok r as' =>
          cases e1
          exact fun v G' H' st x => p1 v G' H' (st.frame s1.wo) x
        | ex c fs as' =>
          cases e1
          exact fun cls d G' H' st x => p1 cls d G' H' (st.frame s1.wo) x
    · cases e1
theorem e_fn1 {i : Nat} {y : Str} {py : Pos} {fs : EvA} (F : FnOk X.prog X.w X.K X.mg X.base (L2.CX X.prog X.w) k f fd ps (spF g ar sem)) (hr : Room k X.A) (hg : Gl X x) (hm : X.mg x = some (.ref f)) (hk : PySem.W.keepIn X.K (.ref f) = true) (hb : Binds X.K fd ps []) (tk : Takes X W)
    (hN : X.N[i]? = some y) (hv : Vis X.env.scope y) (hd : (y == ("__debug__" : Str)) = false) (hcd : (y == ("__classdict__" : Str)) = false)
    (ha : PA X es (tDA g W fs)) (hdb : (x == ("__debug__" : Str)) = false) (hpl : (backTo pos (starEach es X.env)).any (·.1) = false) :
    PE X (.Call (.Name x p) (.Name y py :: es) [] pos) (tD g W (cFn1 i ar sem fs)) := (pe_callS (E := WE W) F hr hg hm hk hb (fun σ => passAt tk σ) (pa_cons (pe_var hN hv hd hcd) ha (star_cons rfl)) hdb (star_cons rfl) hpl).imp fun σ H Q ⟨ρ, G, o, w, eq, po⟩ => by
  unfold cFn1 at eq
  split at eq
  · cases eq
  · rename_i s q
    obtain ⟨v, hv⟩ := w.by q
    refine ⟨v, hv, tD_ba w eq po.exn fun vs ds ρ1 G1 H1 s1 r1 e1 => ?_⟩
    have p1 := po.step s1
    split at e1
    · cases e1
    · rename_i s0 q0
      split at e1
      · rename_i hl
        obtain ⟨h1, h2⟩ := by1_at q0
        refine ⟨by rw [List.length_cons, r1.len]; exact hl, s0 :: ds.map .sh, G1, ?_⟩
        cases qq : sem (s0 :: ds.map .sh) with
        | none => rw [qq] at e1; cases e1
        | some oc =>
          rw [qq] at e1
          refine ⟨oc, wo_args1 s1.wo r1 h1 hv, rfl, ?_⟩
          unfold back1 at e1
          cases oc with
          | ok r as' =>
            dsimp only at e1
            split at e1
            · rename_i s2 q2
              cases e1
              exact fun v' G' H' st x => p1 v' G' H' (st.frame1 s1.wo h1 hv q2) x
            · cases e1
          | ex c fs as' =>
            dsimp only at e1
            split at e1
            · rename_i s2 q2
              cases e1
              exact fun cls d G' H' st x => p1 cls d G' H' (st.frame1 s1.wo h1 hv q2) x
            · cases e1
      · cases e1
/-- a call without arguments is not needed; a module's constant -/
theorem e_glob {d : D} {v : V} {u : Value} (hg : Gl X x) (hm : X.mg x = some u) (r : RelV v u) (hdb : (x == ("__debug__" : Str)) = false) (hr : ∀ G, Rp g.K G v d) : PE X (.Name x pos) (tD g W (cK d)) := e_const (pe_glob hg hm r hdb) hr
end
end Rk
set_option Elab.async false
set_option linter.all false
set_option maxRecDepth 100000
set_option maxHeartbeats 4000000
namespace Rk
open PySem PySem.Spec PyProof.Rows L2
/-- a value that a walk hands out: data, or a pair that its walk owns -/
def YOk (g : Gd) (G H : Hp) (x : V) (d : D) : Prop := Rp g.K G x d ∨ ∃ T vs ds, x = .ref T ∧ d = .tuple ds ∧ SqT g.K H T vs ∧ RpAll g.K G vs ds
structure Wk (g : Gd) (G : Hp) (pr : Bool) (ds : List D) (J : It) : Prop where
  len : ds.length ≤ big
  go : ∀ i d G' H', ds[i]? = some d → Same G G' → Same G' H' → J.go i H'
  yld : ∀ i d G' H' x H'', ds[i]? = some d → Same G G' → Same G' H' → J.yld i H' x H'' → ∃ G'', Grow G' H' G'' H'' ∧ YOk g G'' H'' x d ∧ (pr = false → Rp g.K G'' x d)
  stop : ∀ G' H', Same G G' → Same G' H' → J.stop ds.length H'
def PostI (g : Gd) (W : WX) (σ : St) (ρ : Rho) (G H : Hp) (pr : Bool) (R : It → Hp → Prop) : Oc (List D) → Prop
  | .ok ds ρ' => ∀ J G' H', StE g σ ρ G H ρ' G' H' → Wk g G' pr ds J → R J H'
  | .ex c fs ρ' => Away g W σ ρ G H c fs ρ'
def tDI (g : Gd) (W : WX) (pr : Bool) (f : EvA) : TI := fun σ H R => ∃ ρ G o, Wo g σ ρ G H ∧ f ρ = some o ∧ PostI g W σ ρ G H pr R o
theorem _root_.L2.PI.imp {X : Cx} {tg iter : Expr} {t t' : TI} (h : PI X tg iter t) (k : ∀ σ H R, t' σ H R → t σ H R) : PI X tg iter t' := ⟨fun pins s σ H R I q => h.run pins s σ H R I (k σ H R q)⟩
def itD : D → Option (List D)
  | .list ds => some ds
  | .tuple ds => some ds
  | .str x => some (x.cps.toList.map fun c => .str ⟨#[c]⟩)
  | _ => none
def cIt (f : Ev) : EvA := fun ρ => bdD (f ρ) fun d ρ1 => match itD d with
  | some ds => if ds.length ≤ big then some (.ok ds ρ1) else none
  | none => none
section
variable {X : Cx} {g : Gd} {W : WX} {tg e : Expr}
theorem wk_list {G : Hp} {a : Addr} {xs : List V} {ds : List D} (h : G a = some (.lst xs)) (r : RpAll g.K G xs ds) (hz : ds.length ≤ big) : Wk g G false ds (Itl g.K a) where
  len := hz
  go := fun i d G' H' e e1 e2 => by
    obtain ⟨x, hx, _⟩ := r.get e
    exact ⟨xs, x, SqL.of (e2 _ _ (e1 _ _ h)), hx⟩
  yld := fun i d G' H' x H'' e e1 e2 y => by
    obtain ⟨rfl, y⟩ := y
    obtain ⟨x', hx, rx⟩ := r.get e
    have := y xs (SqL.of (e2 _ _ (e1 _ _ h)))
    rw [hx] at this
    cases this
    exact ⟨G', .refl e2, .inl (rx.mono e1), fun _ => rx.mono e1⟩
  stop := fun G' H' e1 e2 => ⟨xs, SqL.of (e2 _ _ (e1 _ _ h)), by rw [r.len]; exact Nat.le_refl _⟩
theorem wk_tup {G : Hp} {a : Addr} {xs : List V} {ds : List D} (h : SqN g.K G a xs) (r : RpAll g.K G xs ds) (hz : ds.length ≤ big) : Wk g G false ds (Itt g.K a) where
  len := hz
  go := fun i d G' H' e e1 e2 => by
    obtain ⟨x, hx, _⟩ := r.get e
    exact ⟨xs, x, (sqN_mono (e1.trans e2) h).t, hx⟩
  yld := fun i d G' H' x H'' e e1 e2 y => by
    obtain ⟨rfl, y⟩ := y
    obtain ⟨x', hx, rx⟩ := r.get e
    have := y xs (sqN_mono (e1.trans e2) h).t
    rw [hx] at this
    cases this
    exact ⟨G', .refl e2, .inl (rx.mono e1), fun _ => rx.mono e1⟩
  stop := fun G' H' e1 e2 => ⟨xs, (sqN_mono (e1.trans e2) h).t, by rw [r.len]; exact Nat.le_refl _⟩
theorem wk_str {G : Hp} {x : Str} (hz : (x.cps.toList.map fun c => (PyData.str ⟨#[c]⟩ : D)).length ≤ big) : Wk g G false (x.cps.toList.map fun c => .str ⟨#[c]⟩) (Its x) where
  len := hz
  go := fun i d G' H' e e1 e2 => by
    have := (List.getElem?_eq_some_iff.mp e).1
    show i < x.cps.size
    simpa using this
  yld := fun i d G' H' y H'' e e1 e2 q => by
    obtain ⟨rfl, c, hc, rfl⟩ := q
    rw [List.getElem?_map, Array.getElem?_toList, hc] at e
    cases e
    exact ⟨G', .refl e2, .inl (.str _), fun _ => .str _⟩
  stop := fun G' H' e1 e2 => by show x.cps.size ≤ _; simp
theorem i_seq {f : Ev} (hK : g.K = X.K) (h : PE X e (tD g W f)) : PI X tg e (tDI g W false (cIt f)) := by
  refine ⟨fun pins s σ H R I ⟨ρ, G, o, w, eq, p⟩ => ?_⟩
  have hx : ∀ c fs ρ', o = .ex c fs ρ' → Away g W σ ρ G H c fs ρ' := fun c fs ρ' z => by subst z; exact p
  refine thn (h.run pins s σ H (fun v H1 => ∃ d ds ρ1 G1, StE g σ ρ G H ρ1 G1 H1 ∧ Rp g.K G1 v d ∧ itD d = some ds ∧ ds.length ≤ big ∧ o = .ok ds ρ1) I (tD_bd w eq hx fun v d ρ1 G1 H1 s1 r1 e1 => ?_)) fun u s1 ⟨v, H1, I1, ru, d, ds, ρ1, G1, st, rp, hd, hz, e1⟩ => ?_
  · split at e1
    · rename_i ds hd
      split at e1
      · cases e1
        exact ⟨d, ds, ρ1, G1, s1, r1, hd, by assumption, rfl⟩
      · cases e1
    · cases e1
  · subst e1
    cases rp with
    | lst a1 b1 =>
      cases hd
      have hq := SqL.of (K := X.K) (st.wo.gh _ _ a1)
      obtain rfl : u = Value.ref _ := ru
      obtain ⟨its, rv, pl, hz'⟩ := I1.list hq
      refine wpAny_pyIter_list pl.isList ?_
      refine ⟨s1.heap.objs.size, [s1.heap.objs.size], _, _, H1, rfl, I1.kept (t' := s1.toks) fun b o e => Heap.get?_push_of_some _ e, turn_list _ _, ⟨_, Heap.get?_push_size _ rfl, rfl, rfl⟩, fun b hb => ?_, p _ _ _ st (hK ▸ wk_list a1 b1 hz)⟩
      have e : b = s1.heap.objs.size := by simpa using hb
      subst e
      exact I1.fpOk (Nat.le_refl _) (I1.hok.fresh (Nat.le_refl _))
    | tup a1 b1 =>
      cases hd
      have hq : SqT X.K H1 _ _ := hK ▸ (sqN_mono st.wo.gh a1).t
      obtain rfl : u = Value.ref _ := ru
      obtain ⟨its, rv, pl, hz'⟩ := I1.tuple hq
      refine wpAny_pyIter_tuple (show s1.heap.IsTuple _ its.toArray from pl) ?_
      refine ⟨s1.heap.objs.size, [s1.heap.objs.size], _, _, H1, rfl, I1.kept (t' := s1.toks) fun b o e => Heap.get?_push_of_some _ e, turn_tuple _ _, ⟨_, Heap.get?_push_size _ rfl, rfl, rfl⟩, fun b hb => ?_, p _ _ _ st (hK ▸ wk_tup a1 b1 hz)⟩
      have e : b = s1.heap.objs.size := by simpa using hb
      subst e
      exact I1.fpOk (Nat.le_refl _) (I1.hok.fresh (Nat.le_refl _))
    | str x =>
      cases hd
      obtain ⟨t, rfl⟩ := ru
      cases ha : x.cps.all (· < 128)
      · exact wpAny_pyIter_wide ha (pi_one (tk := s1.toks) I1 _ (turn_str _ x t "str_iterator" (.inr rfl)) ⟨_, Heap.get?_push_size _ rfl, rfl, rfl⟩ (p _ _ _ st (wk_str hz)))
      · exact wpAny_pyIter_ascii ha (pi_one (tk := s1.toks) I1 _ (turn_str _ x t "str_ascii_iterator" (.inl rfl)) ⟨_, Heap.get?_push_size _ rfl, rfl, rfl⟩ (p _ _ _ st (wk_str hz)))
    | _ => cases hd
def rngD (lo : Int) (n : Nat) : List D := (List.range n).map fun (i : Nat) => .int (lo + (i : Int))
def rngOk (i : Int) : Bool := decide (i.natAbs ≤ 1000000)
def cRng1 (fs : EvA) : EvA := fun ρ => bdO (fs ρ) fun xs ρ1 => match xs with
  | [.int j] => if rngOk j then some (.ok (rngD 0 j.toNat) ρ1) else none
  | _ => none
def cRng2 (fs : EvA) : EvA := fun ρ => bdO (fs ρ) fun xs ρ1 => match xs with
  | [.int i, .int j] => if rngOk i && rngOk j then some (.ok (rngD i (j - i).toNat) ρ1) else none
  | _ => none
theorem rngD_len (lo : Int) (n : Nat) : (rngD lo n).length = n := by simp [rngD]
theorem rngD_get {lo : Int} {n i : Nat} {d : D} (h : (rngD lo n)[i]? = some d) : i < n ∧ d = .int (lo + (i : Int)) := by
  have hi := (List.getElem?_eq_some_iff.mp h).1
  rw [rngD_len] at hi
  refine ⟨hi, ?_⟩
  unfold rngD at h
  rw [List.getElem?_map, List.getElem?_range hi] at h
  exact (Option.some.inj h).symm
theorem wk_rng {G : Hp} {lo : Int} {n : Nat} (hz : n ≤ big) : Wk g G false (rngD lo n) (Itr lo n) where
  len := by rw [rngD_len]; exact hz
  go := fun i d G' H' e e1 e2 => (rngD_get e).1
  yld := fun i d G' H' x H'' e e1 e2 y => by
    obtain ⟨rfl, rfl⟩ := y
    obtain ⟨_, rfl⟩ := rngD_get e
    exact ⟨G', .refl e2, .inl (.int _), fun _ => .int _⟩
  stop := fun G' H' e1 e2 => by show n ≤ _; rw [rngD_len]; exact Nat.le_refl _
theorem rngOk_of {i : Int} (h : rngOk i = true) : -1000000 ≤ i ∧ i ≤ 1000000 := by
  unfold rngOk at h
  rw [decide_eq_true_eq] at h
  omega
theorem i_rng1 {p pos : Pos} {fs : EvA} (hg : Gl X "range") (hm : X.mg "range" = none) (h : PA X [e] (tDA g W fs)) (hs : notStar e = true) : PI X tg (.Call (.Name "range" p) [e] [] pos) (tDI g W false (cRng1 fs)) :=
  (pi_range1 hg hm h (star_cons hs)).imp fun σ H R ⟨ρ, G, o, w, eq, po⟩ => tD_ba w eq (fun c fs ρ' z => by subst z; exact po) fun vs ds ρ1 G1 H1 s1 r1 e1 => by
    split at e1
    · split at e1
      · rename_i hb
        cases e1
        cases r1 with | cons r1 r2 =>
        cases r2; cases r1
        have hb2 : big = 16777216 := rfl
        obtain ⟨h1, h2⟩ := rngOk_of hb
        exact ⟨_, rfl, by omega, by omega, po _ _ _ s1 (wk_rng (by omega))⟩
      · cases e1
    · cases e1
theorem i_rng2 {e2 : Expr} {p pos : Pos} {fs : EvA} (hg : Gl X "range") (hm : X.mg "range" = none) (h : PA X [e, e2] (tDA g W fs)) (hs : notStar e = true) (hs2 : notStar e2 = true) : PI X tg (.Call (.Name "range" p) [e, e2] [] pos) (tDI g W false (cRng2 fs)) :=
  (pi_range2 hg hm h (by rw [star_cons hs, star_cons hs2]; rfl) (star_cons hs2)).imp fun σ H R ⟨ρ, G, o, w, eq, po⟩ => tD_ba w eq (fun c fs ρ' z => by subst z; exact po) fun vs ds ρ1 G1 H1 s1 r1 e1 => by
    split at e1
    · split at e1
      · rename_i hb
        cases e1
        cases r1 with | cons r1 r2 =>
        cases r2 with | cons r2 r3 =>
        cases r3; cases r1; cases r2
        have hb2 : big = 16777216 := rfl
        rw [Bool.and_eq_true] at hb
        obtain ⟨h1, h2⟩ := rngOk_of hb.1
        obtain ⟨h3, h4⟩ := rngOk_of hb.2
        exact ⟨_, _, rfl, ⟨by omega, by omega, by omega, by omega⟩, po _ _ _ s1 (wk_rng (by omega))⟩
      · cases e1
    · cases e1
def enD (k : Nat) : List D → List D
  | [] => []
  | d :: ds => .tuple [.int (k : Int), d] :: enD (k + 1) ds
def zipD : List D → List D → List D
  | d :: ds, e :: es => .tuple [d, e] :: zipD ds es
  | _, _ => []
theorem enD_len : ∀ (k : Nat) (ds : List D), (enD k ds).length = ds.length
  | _, [] => rfl
  | k, _ :: ds => congrArg (· + 1) (enD_len (k + 1) ds)
theorem enD_get : ∀ {ds : List D} {k i : Nat} {d : D}, (enD k ds)[i]? = some d → ∃ x, ds[i]? = some x ∧ d = .tuple [.int ((k + i : Nat) : Int), x]
  | [], _, _, _, h => by cases h
  | x :: ds, k, 0, d, h => ⟨x, rfl, by cases h; rfl⟩
  | x :: ds, k, i + 1, d, h => by
    obtain ⟨y, h1, h2⟩ := enD_get (ds := ds) (k := k + 1) (i := i) h
    refine ⟨y, h1, ?_⟩
    rw [h2, show k + 1 + i = k + (i + 1) by omega]
theorem zipD_len : ∀ (ds es : List D), (zipD ds es).length = min ds.length es.length
  | [], es => by simp [zipD]
  | _ :: _, [] => by simp [zipD]
  | d :: ds, e :: es => by
    show (zipD ds es).length + 1 = _
    rw [zipD_len ds es, List.length_cons, List.length_cons, Nat.add_min_add_right]
theorem zipD_get : ∀ {ds es : List D} {i : Nat} {d : D}, (zipD ds es)[i]? = some d → ∃ x y, ds[i]? = some x ∧ es[i]? = some y ∧ d = .tuple [x, y]
  | [], _, _, _, h => by simp [zipD] at h
  | _ :: _, [], _, _, h => by simp [zipD] at h
  | x :: ds, y :: es, 0, d, h => ⟨x, y, rfl, rfl, by cases h; rfl⟩
  | x :: ds, y :: es, i + 1, d, h => zipD_get (ds := ds) (es := es) (i := i) h
theorem grow_new {G H : Hp} {T : Addr} {u : HO} (e : Same G H) (h : H T = none) : Grow G H G (upd H T u) :=
  ⟨Same.refl _, fun b o q => by rw [upd_ne (ne_of_none (e _ _ q) h)]; exact e _ _ q, same_upd h, fun _ q _ => q⟩
def cEnum (f : Ev) : EvA := fun ρ => bdD (f ρ) fun d ρ1 => match d with
  | .list ds => if ds.length ≤ big then some (.ok (enD 0 ds) ρ1) else none
  | .tuple ds => if ds.length ≤ big then some (.ok (enD 0 ds) ρ1) else none
  | _ => none
theorem wk_enum {G : Hp} {a : Addr} {xs : List V} {ds : List D} (h : G a = some (.lst xs)) (r : RpAll g.K G xs ds) (hz : ds.length ≤ big) : Wk g G true (enD 0 ds) (Ite g.K a) where
  len := by rw [enD_len]; exact hz
  go := fun i d G' H' e e1 e2 => by
    obtain ⟨y, hy, rfl⟩ := enD_get e
    obtain ⟨x, hx, _⟩ := r.get hy
    exact ⟨xs, x, SqL.of (e2 _ _ (e1 _ _ h)), hx⟩
  yld := fun i d G' H' x H'' e e1 e2 q => by
    obtain ⟨T, v, rfl, hT, rfl, q⟩ := q
    obtain ⟨y, hy, rfl⟩ := enD_get e
    obtain ⟨x, hx, rx⟩ := r.get hy
    have := q xs (SqL.of (e2 _ _ (e1 _ _ h)))
    rw [hx] at this
    cases this
    rw [Nat.zero_add]
    exact ⟨G', grow_new e2 hT, .inr ⟨T, _, _, rfl, rfl, SqT.of upd_same, .cons (.int _) (.one (rx.mono e1))⟩, fun z => by cases z⟩
  stop := fun G' H' e1 e2 => ⟨xs, SqL.of (e2 _ _ (e1 _ _ h)), by rw [enD_len, r.len]; exact Nat.le_refl _⟩
theorem Draws.tuple {prog : Program} {w : World} {A : Around} (hh : A.handled = none) (it l : Addr) (hne : l ≠ it) (items : Array Value) :
    Draws prog w A it [it, l] items.size (fun i v => items[i]? = some v) (fun i h => h.IsTupleIter it l i ∧ IsTup h l items) where
  live := fun _ _ st => let ⟨o, ho, _⟩ := st.1; ⟨o, ho⟩
  frame := fun _ _ _ st hk => ⟨st.1.at fun o e => hk it (by simp) o e, let ⟨o, ho, r⟩ := st.2; ⟨o, hk l (by simp) o ho, r⟩⟩
  item := fun i s Q E hi st hQ => by
    refine RZ.nextOf_tuple_item st.1 st.2 (x := items[i]) (by simp [hi]) fun h' hit' hs' => ?_
    obtain ⟨o, ho, r⟩ := st.2
    exact hQ _ h' s.toks (by simp [hi]) ⟨hit', ⟨o, (hs'.2 l hne).trans ho, r⟩⟩ hs'
  done := fun s Q E st hE => RZ.nextOf_tuple_end hh st.1 st.2 (by simp) hE
end
end Rk
set_option Elab.async false
set_option linter.all false
set_option maxRecDepth 100000
set_option maxHeartbeats 4000000
namespace Rk
open PySem PySem.Spec PyProof.Rows L2
open Sem (wp)
open AutoSeq1 (wpAny_loadPart')
theorem new_enum_tup (l : Addr) (items : Array Value) (ol : Obj) (hc0 : ol.cls = .type "tuple") (hd0 : ∃ n, ol.data = .seq items n) :
    Meets (Builtin.«enumerate.__new__» ⟨[.type "enumerate", .ref l], []⟩) (fun _ R s => s.heap.get? l = some ol ∧
      R (.ok (.ret (.ref (s.heap.push { cls := .type "tuple_iterator", data := .fields #[.ref l, .int 0 0] }).objs.size)))
        { s with heap := (s.heap.push { cls := .type "tuple_iterator", data := .fields #[.ref l, .int 0 0] }).push { cls := .type "enumerate", data := .fields #[.none, .bool false, .ref s.heap.objs.size, rawInt 0, .none, .none] } }) :=
  .of_wp fun prog w A R s h => by
    obtain ⟨n, hd0⟩ := hd0
    obtain ⟨c, dd, dt, sl⟩ := ol
    simp only at hc0 hd0
    subst hc0 hd0
    obtain ⟨hp, g, d, tk, os⟩ := s; obtain ⟨hl, h⟩ := h
    have hsub := sub_enumerate
    have hL : Heap.IsTuple (Shared.heap ⟨hp, g, d, tk, os⟩) l items := ⟨_, hl, rfl, n, rfl⟩
    wp_walk using wpAny_loadPart' hl
    refine wpAny_stack_any fun st => wpAny_pure ?_
    split
    · rename_i c _ _ _ _ _
      cases (c == Value.type "enumerate")
      · wp_walk using wpAny_loadPart' hl, wpAny_pyIter_tuple hL
        exact ⟨_, rfl, h⟩
      · wp_walk using wpAny_loadPart' hl, wpAny_pyIter_tuple hL
        exact ⟨_, rfl, h⟩
    · wp_walk using wpAny_loadPart' hl, wpAny_pyIter_tuple hL
      exact ⟨_, rfl, h⟩
theorem call_enum_tup {prog : Program} {w : World} {A : Around} {E : Value → Shared → Prop} {s : Shared} {l : Addr} {items : Array Value} {Q : Value → Shared → Prop} (hL : s.heap.IsTuple l items)
    (h : ∀ h', IsEnum h' (s.heap.objs.size + 1) s.heap.objs.size 0 .none → h'.IsTupleIter s.heap.objs.size l 0 → h'.objs.size = s.heap.objs.size + 2 →
      (∀ b o, s.heap.get? b = some o → h'.get? b = some o) → Q (.ref (s.heap.objs.size + 1)) { s with heap := h' }) :
    wpAny (model prog w) A (call (.type "enumerate") [.ref l]) Q E s := by
  obtain ⟨ol, hl, hc, n, hd⟩ := hL
  refine callType_new F.called_enumerate (by decide) (F.typeCall_enumerate_1 _) (F.newCall_enumerate_1 _) (fun obj => F.args_object_init_2 obj _) F.entry_enumerate_new
    (new_enum_tup l items ol hc ⟨n, hd⟩) ⟨hl, ?_⟩
  have hz : (s.heap.push { cls := .type "tuple_iterator", data := .fields #[.ref l, .int 0 0] }).objs.size = s.heap.objs.size + 1 := Heap.size_push ..
  show _ ∧ _
  rw [hz]
  have he : IsEnum ((s.heap.push { cls := .type "tuple_iterator", data := .fields #[.ref l, .int 0 0] }).push
      { cls := .type "enumerate", data := .fields #[.none, .bool false, .ref s.heap.objs.size, rawInt 0, .none, .none] }) (s.heap.objs.size + 1) s.heap.objs.size 0 .none := by
    have := Heap.get?_push_size (s.heap.push { cls := .type "tuple_iterator", data := .fields #[.ref l, .int 0 0] })
      (o := { cls := .type "enumerate", data := .fields #[.none, .bool false, .ref s.heap.objs.size, rawInt 0, .none, .none] }) rfl
    rw [hz] at this; exact this
  exact ⟨⟨_, he, rfl⟩, h _ he ⟨_, Heap.get?_push_of_some _ (Heap.get?_push_size _ rfl), rfl, rfl⟩ (by rw [Heap.size_push, hz]) fun b o x => Heap.get?_push_of_some _ (Heap.get?_push_of_some _ x)⟩
/-- the tuple at a, each item in a new pair -/
def IteT (K : PySem.W.Frag) (a : Addr) : It :=
  ⟨fun i H => ∃ (xs : List V) (x : V), SqT K H a xs ∧ xs[i]? = some x, fun i H v H' => ∃ T x, v = .ref T ∧ H T = none ∧ H' = upd H T (.tup [.int (i : Nat), x]) ∧ ∀ xs, SqT K H a xs → xs[i]? = some x, fun i H => ∃ xs : List V, SqT K H a xs ∧ xs.length = i⟩
theorem IsTup.inj {h : Heap} {a : Addr} {xs ys : Array Value} (h1 : IsTup h a xs) (h2 : IsTup h a ys) : xs = ys := by
  obtain ⟨o, ho, _, n, hd⟩ := h1
  obtain ⟨o', ho', _, n', hd'⟩ := h2
  rw [ho] at ho'; cases ho'
  rw [hd] at hd'
  cases hd'
  rfl
theorem turn_enumT {P : Program} {w : World} {K : PySem.W.Frag} {elts : List Expr} {kk : Nat} {tpos : Pos} (a e it : Addr) :
    Turn P w K (.Tuple elts kk tpos) (IteT K a) [e, it] e (fun i h => (∃ old, IsEnum h e it ((i : Nat) : Int) old) ∧ h.IsTupleIter it a i ∧ e ≠ it) where
  mem := by simp
  obj := fun i h st b hb => by
    obtain ⟨⟨old, he⟩, ⟨o, ho, hc, hd⟩, _⟩ := st
    have e' : b = e ∨ b = it := by simpa using hb
    rcases e' with z | z
    · rw [z]; exact ⟨_, he, fun v q => nomatch q⟩
    · rw [z]; exact ⟨o, ho, fun v q => by rw [hd] at q; cases q⟩
  keep := fun i h h' st k => let ⟨⟨old, he⟩, hi, hne⟩ := st; ⟨⟨old, k e (by simp) _ he⟩, hi.at fun o q => k it (by simp) o q, hne⟩
  item := by
    intro X hP hw hK hc i pins s σ H E I hf st hg
    subst hP hw hK
    obtain ⟨⟨old, he⟩, hit, hne⟩ := st
    obtain ⟨xs, x, hq, hx⟩ := hg
    obtain ⟨its, rv, p, hz⟩ := I.tuple hq
    obtain ⟨u, hu, ru⟩ := rv.get hx
    have hel : e < s.heap.objs.size := Heap.lt_size he
    have hil : it < s.heap.objs.size := by obtain ⟨_, q, _⟩ := hit; exact Heap.lt_size q
    have hae : a ≠ e := fun z => by
      obtain ⟨o, ho, hc', n, hd⟩ := p
      rw [z, show s.heap.get? e = some _ from he] at ho
      cases ho
      cases hd
    have hai : a ≠ it := fun z => by
      obtain ⟨o, ho, hc', n, hd⟩ := p
      obtain ⟨o2, ho2, _, hd2⟩ := hit
      rw [z, ho2] at ho
      cases ho
      rw [hd2] at hd
      cases hd
    have hiu : i < its.toArray.size := by
      have := (List.getElem?_eq_some_iff.mp hu).1
      simpa using this
    refine wpAny_pyNext_enum_itemD (Draws.tuple (A := X.A.in1) (I.ok.hd hc) it a hai its.toArray) he ⟨hit, p⟩ hiu hne (by simp only [List.mem_cons, List.mem_nil_iff, not_or]; exact ⟨hne, fun z => hae z.symm, not_false⟩) fun y h' tk hP ho hs' hT hsz hk => ?_
    have hy : y = u := by
      have h1 : its.toArray[i]? = some u := by simpa using hu
      rw [h1] at hP
      exact (Option.some.inj hP).symm
    subst hy
    refine ⟨_, rfl, wpAny_letOwnedTupleGo_enum (s := { s with heap := h', toks := tk + 1 }) ho fun h'' he' sb => ?_⟩
    have hT2 : h''.get? s.heap.objs.size = some { cls := .type "tuple", data := .seq #[.int i tk, y] } := (sb.2 _ (Nat.ne_of_gt hel)).trans hT
    have new : ObjOk X.prog X.w (upd H s.heap.objs.size (.tup [.int (i : Nat), x])) h'' s.heap.objs.size (.tup [.int (i : Nat), x]) :=
      ⟨by show 2 ≤ sizeLine; decide, [.int i tk, y], .cons ⟨_, rfl⟩ (.cons ru .nil), ⟨_, hT2, rfl, _, rfl⟩⟩
    have I1 : Inv X pins σ (upd H s.heap.objs.size (.tup [.int (i : Nat), x])) { s with heap := h'', toks := tk + 1 } :=
      I.turnedNew (ch := [e, it]) (fun b ob hb q => (sb.2 b (fun z => hb (by simp [z]))).trans (hk b ob (fun z => hb (by simp [z])) (fun z => hb (by simp [z])) q)) hf (Nat.le_refl _) new
    refine ⟨.ref s.heap.objs.size, _, I1, rfl, ⟨_, x, rfl, I.hok.fresh (Nat.le_refl _), rfl, fun ys hy => by rw [I.tuple_inj hy hq]; exact hx⟩, ⟨⟨y, ?_⟩, hs'.1.at fun o q => (sb.2 it (Ne.symm hne)).trans q, hne⟩, fun b hb => ?_⟩
    · have e1 : ((i + 1 : Nat) : Int) = (i : Int) + 1 := by omega
      rw [e1]; exact he'
    · have hb' : b < s.heap.objs.size := by
        have e' : b = e ∨ b = it := by simpa using hb
        rcases e' with z | z
        · rw [z]; exact hel
        · rw [z]; exact hil
      rw [upd_ne (Nat.ne_of_lt hb')]
      exact (hf b hb).1
  done := by
    intro X hP hw hK hc i pins s σ H E I hf st hg
    subst hP hw hK
    obtain ⟨⟨old, he⟩, hit, hne⟩ := st
    obtain ⟨xs, hq, hx⟩ := hg
    obtain ⟨its, rv, p, hz⟩ := I.tuple hq
    obtain ⟨f0, f1, f2, f3, f4, f5⟩ := hf it (by simp)
    have hl := rv.length
    have hai : a ≠ it := fun z => by
      obtain ⟨o, ho, hc', n, hd⟩ := p
      obtain ⟨o2, ho2, _, hd2⟩ := hit
      rw [z, ho2] at ho
      cases ho
      rw [hd2] at hd
      cases hd
    have hn : its.toArray.size = i := by rw [List.size_toArray, ← hl]; exact hx
    exact wpAny_pyNext_enum_endD (Draws.tuple (A := X.A.in1) (I.ok.hd hc) it a hai its.toArray) he (by rw [hn]; exact ⟨hit, p⟩) fun h' eb => ⟨rfl, I.turned (t' := s.toks) (fun b o hb q => eb b o hb q) f0 f1 f3 f4 f5⟩
  self := fun A i s Q E st h => let ⟨⟨_, he⟩, _⟩ := st; wpAny_pyIter_enum he h
section
variable {X : Cx} {g : Gd} {W : WX} {tg e : Expr}
theorem wk_enumT {G : Hp} {a : Addr} {xs : List V} {ds : List D} (h : SqN g.K G a xs) (r : RpAll g.K G xs ds) (hz : ds.length ≤ big) : Wk g G true (enD 0 ds) (IteT g.K a) where
  len := by rw [enD_len]; exact hz
  go := fun i d G' H' e e1 e2 => by
    obtain ⟨y, hy, rfl⟩ := enD_get e
    obtain ⟨x, hx, _⟩ := r.get hy
    exact ⟨xs, x, (sqN_mono (e1.trans e2) h).t, hx⟩
  yld := fun i d G' H' x H'' e e1 e2 q => by
    obtain ⟨T, v, rfl, hT, rfl, q⟩ := q
    obtain ⟨y, hy, rfl⟩ := enD_get e
    obtain ⟨x, hx, rx⟩ := r.get hy
    have := q xs (sqN_mono (e1.trans e2) h).t
    rw [hx] at this
    cases this
    rw [Nat.zero_add]
    exact ⟨G', grow_new e2 hT, .inr ⟨T, _, _, rfl, rfl, SqT.of upd_same, .cons (.int _) (.one (rx.mono e1))⟩, fun z => by cases z⟩
  stop := fun G' H' e1 e2 => ⟨xs, (sqN_mono (e1.trans e2) h).t, by rw [enD_len, r.len]⟩
theorem i_enum {f : Ev} {p pos tpos : Pos} {elts : List Expr} {kk : Nat} (hK : g.K = X.K) (hg : Gl X "enumerate") (hm : X.mg "enumerate" = none) (ha : PE X e (tD g W f)) (hs : notStar e = true) :
    PI X (.Tuple elts kk tpos) (.Call (.Name "enumerate" p) [e] [] pos) (tDI g W true (cEnum f)) := by
  refine ⟨fun pins s σ H R I ⟨ρ, G, o, w, eq, po⟩ => ?_⟩
  have hx : ∀ c fs ρ', o = .ex c fs ρ' → Away g W σ ρ G H c fs ρ' := fun c fs ρ' z => by subst z; exact po
  refine Call_ (ld_blt I hg hm boot_enumerate (PyProof.Rows.callWith_type1 (thn ((pa_cons ha pa_nil (star_cons hs)).run pos pins s σ H (fun vs H1 => ∃ v d ρ1 G1, vs = [v] ∧ StE g σ ρ G H ρ1 G1 H1 ∧ Rp g.K G1 v d ∧ (match d with
    | .list ds => if ds.length ≤ big then some (.ok (enD 0 ds) ρ1) else none
    | .tuple ds => if ds.length ≤ big then some (.ok (enD 0 ds) ρ1) else none
    | _ => none) = some o) I (tD_bd w eq hx fun v d ρ1 G1 H1 s1 r1 e1 => ⟨v, d, ρ1, G1, rfl, s1, r1, e1⟩)) fun us s1 ⟨vs, H1, I1, r1, v, d, ρ1, G1, ev, st, rp, e1⟩ => ?_) (star_cons hs) rfl))
  subst ev
  obtain ⟨u, rfl, ru⟩ := Vals.one r1
  have two : ∀ b, b ∈ [s1.heap.objs.size + 1, s1.heap.objs.size] → s1.heap.objs.size ≤ b := fun b hb => by
    have e' : b = s1.heap.objs.size + 1 ∨ b = s1.heap.objs.size := by simpa using hb
    rcases e' with z | z
    · rw [z]; exact Nat.le_add_right _ _
    · rw [z]; exact Nat.le_refl _
  cases rp with
  | lst a1 b1 =>
    dsimp only at e1
    split at e1
    · rename_i hz
      cases e1
      have hq := SqL.of (K := X.K) (st.wo.gh _ _ a1)
      obtain rfl : u = Value.ref _ := ru
      obtain ⟨its, rv, p', hz'⟩ := I1.list hq
      refine call_enumerate_list p'.isList fun h' he hit hsz hk => wpAny_pyIter_enum he ?_
      exact ⟨s1.heap.objs.size + 1, [s1.heap.objs.size + 1, s1.heap.objs.size], _, _, H1, rfl, I1.kept (t' := s1.toks) hk, turn_enum _ (s1.heap.objs.size + 1) s1.heap.objs.size, ⟨⟨.none, he⟩, hit, Nat.succ_ne_self _⟩,
        fun b hb => I1.fpOk (two b hb) (I1.hok.fresh (two b hb)), po _ _ _ st (hK ▸ wk_enum a1 b1 hz)⟩
    · cases e1
  | tup a1 b1 =>
    dsimp only at e1
    split at e1
    · rename_i hz
      cases e1
      have hq : SqT X.K H1 _ _ := hK ▸ (sqN_mono st.wo.gh a1).t
      obtain rfl : u = Value.ref _ := ru
      obtain ⟨its, rv, p', hz'⟩ := I1.tuple hq
      refine call_enum_tup (show s1.heap.IsTuple _ its.toArray from p') fun h' he hit hsz hk => wpAny_pyIter_enum he ?_
      exact ⟨s1.heap.objs.size + 1, [s1.heap.objs.size + 1, s1.heap.objs.size], _, _, H1, rfl, I1.kept (t' := s1.toks) hk, turn_enumT _ (s1.heap.objs.size + 1) s1.heap.objs.size, ⟨⟨.none, he⟩, hit, Nat.succ_ne_self _⟩,
        fun b hb => I1.fpOk (two b hb) (I1.hok.fresh (two b hb)), po _ _ _ st (hK ▸ wk_enumT a1 b1 hz)⟩
    · cases e1
  | _ => cases e1
def zipOf : List D → Option (List D)
  | [.list ds, .list es] => if ds.length ≤ big then some (zipD ds es) else none
  | [.tuple ds, .tuple es] => if ds.length ≤ big then some (zipD ds es) else none
  | [.list ds, .tuple es] => if ds.length ≤ big then some (zipD ds es) else none
  | _ => none
def cZip (fs : EvA) : EvA := fun ρ => bdO (fs ρ) fun xs ρ1 => match zipOf xs with
  | some ds => some (.ok ds ρ1)
  | none => none
theorem wk_zip {G : Hp} {a b : Addr} {xs ys : List V} {ds es : List D} (h : G a = some (.lst xs)) (r : RpAll g.K G xs ds) (h2 : G b = some (.lst ys)) (r2 : RpAll g.K G ys es) (hz : ds.length ≤ big) : Wk g G true (zipD ds es) (Itz g.K a b) where
  len := by rw [zipD_len]; omega
  go := fun i d G' H' e e1 e2 => by
    obtain ⟨x, y, hx, hy, rfl⟩ := zipD_get e
    obtain ⟨v, hv, _⟩ := r.get hx
    obtain ⟨u, hu, _⟩ := r2.get hy
    exact ⟨xs, ys, v, u, SqL.of (e2 _ _ (e1 _ _ h)), SqL.of (e2 _ _ (e1 _ _ h2)), hv, hu⟩
  yld := fun i d G' H' x H'' e e1 e2 q => by
    obtain ⟨T, v, u, rfl, hT, rfl, q1, q2⟩ := q
    obtain ⟨x, y, hx, hy, rfl⟩ := zipD_get e
    obtain ⟨v', hv, rv⟩ := r.get hx
    obtain ⟨u', hu, ru⟩ := r2.get hy
    have a1 := q1 xs (SqL.of (e2 _ _ (e1 _ _ h)))
    have a2 := q2 ys (SqL.of (e2 _ _ (e1 _ _ h2)))
    rw [hv] at a1; cases a1
    rw [hu] at a2; cases a2
    exact ⟨G', grow_new e2 hT, .inr ⟨T, _, _, rfl, rfl, SqT.of upd_same, .cons (rv.mono e1) (.one (ru.mono e1))⟩, fun z => by cases z⟩
  stop := fun G' H' e1 e2 => ⟨xs, ys, SqL.of (e2 _ _ (e1 _ _ h)), SqL.of (e2 _ _ (e1 _ _ h2)), by rw [zipD_len, r.len, r2.len]; omega⟩
theorem wk_zipT {G : Hp} {a b : Addr} {xs ys : List V} {ds es : List D} (h : SqN g.K G a xs) (r : RpAll g.K G xs ds) (h2 : SqN g.K G b ys) (r2 : RpAll g.K G ys es) (hz : ds.length ≤ big) : Wk g G true (zipD ds es) (RZ.ItzT g.K a b) where
  len := by rw [zipD_len]; omega
  go := fun i d G' H' e e1 e2 => by
    obtain ⟨x, y, hx, hy, rfl⟩ := zipD_get e
    obtain ⟨v, hv, _⟩ := r.get hx
    obtain ⟨u, hu, _⟩ := r2.get hy
    exact ⟨xs, ys, v, u, (sqN_mono (e1.trans e2) h).t, (sqN_mono (e1.trans e2) h2).t, hv, hu⟩
  yld := fun i d G' H' x H'' e e1 e2 q => by
    obtain ⟨T, v, u, rfl, hT, rfl, q1, q2⟩ := q
    obtain ⟨x, y, hx, hy, rfl⟩ := zipD_get e
    obtain ⟨v', hv, rv⟩ := r.get hx
    obtain ⟨u', hu, ru⟩ := r2.get hy
    have a1 := q1 xs (sqN_mono (e1.trans e2) h).t
    have a2 := q2 ys (sqN_mono (e1.trans e2) h2).t
    rw [hv] at a1; cases a1
    rw [hu] at a2; cases a2
    exact ⟨G', grow_new e2 hT, .inr ⟨T, _, _, rfl, rfl, SqT.of upd_same, .cons (rv.mono e1) (.one (ru.mono e1))⟩, fun z => by cases z⟩
  stop := fun G' H' e1 e2 => ⟨xs, ys, (sqN_mono (e1.trans e2) h).t, (sqN_mono (e1.trans e2) h2).t, by rw [zipD_len, r.len, r2.len]; omega⟩
end
end Rk
set_option Elab.async false
set_option linter.all false
set_option maxRecDepth 100000
set_option maxHeartbeats 4000000
namespace Rk
open PySem PySem.Spec PyProof.Rows L2
inductive So where
  | nx (ρ : Rho)
  | rt (r : Sl) (ρ : Rho)
  | bk (ρ : Rho)
  | ct (ρ : Rho)
  | ex (c : Str) (fs : List (Str × D)) (ρ : Rho)
abbrev EvS := Rho → Option So
abbrev Pin := Nat → Bool
structure StS (g : Gd) (pn : Pin) (σ : St) (ρ : Rho) (G H : Hp) (σ' : St) (ρ' : Rho) (G' H' : Hp) : Prop where
  gg : Same G G'
  wo : Wo g σ' ρ' G' H'
  fr : ∀ a o, H a = some o → ¬ Ow ρ σ a → a ∉ g.T → H' a = some o
  al : ∀ a, H a ≠ none → H' a ≠ none
  nc : ∀ a, G a = none → H a ≠ none → ¬ Ow ρ σ a → G' a = none
  ow : ∀ a, Ow ρ' σ' a → Ow ρ σ a ∨ H a = none
  kp : ∀ i, pn i = true → σ'[i]? = σ[i]?
  sw : ∀ i, pn i = true → ∀ ds, ρ'[i]? = some (.ow ds) → ∃ es, ρ[i]? = some (.ow es)
  ln : σ'.length = σ.length
section
variable {g : Gd} {pn : Pin} {σ σ1 σ2 : St} {ρ ρ1 ρ2 : Rho} {G H G1 H1 G2 H2 : Hp}
theorem StE.st (a : StE g σ ρ G H ρ1 G1 H1) : StS g pn σ ρ G H σ ρ1 G1 H1 :=
  ⟨a.gg, a.wo, a.fr, a.al, a.nc, fun _ h => .inl (a.owb h), fun _ _ => rfl, fun i _ ds h => a.ow i ds h, rfl⟩
theorem StS.trans (a : StS g pn σ ρ G H σ1 ρ1 G1 H1) (b : StS g pn σ1 ρ1 G1 H1 σ2 ρ2 G2 H2) : StS g pn σ ρ G H σ2 ρ2 G2 H2 where
  gg := a.gg.trans b.gg
  wo := b.wo
  fr := fun x o h n t => b.fr x o (a.fr x o h n t) (fun z => (a.ow x z).elim n fun q => by rw [h] at q; cases q) t
  al := fun x h => b.al x (a.al x h)
  nc := fun x h1 h2 n => b.nc x (a.nc x h1 h2 n) (a.al x h2) fun z => (a.ow x z).elim n h2
  ow := fun x h => (b.ow x h).elim (a.ow x) fun q => .inr (by
    cases e : H x with
    | none => rfl
    | some o => exact absurd q (a.al x (by rw [e]; simp)))
  kp := fun i h => (b.kp i h).trans (a.kp i h)
  sw := fun i h ds e => let ⟨es, q⟩ := b.sw i h ds e; a.sw i h es q
  ln := b.ln.trans a.ln
theorem StS.none_of (a : StS g pn σ ρ G H σ1 ρ1 G1 H1) {x : Addr} (h : H1 x = none) : H x = none := by
  cases q : H x with
  | none => rfl
  | some o => exact absurd h (a.al x (by rw [q]; simp))
end
def AwayS (g : Gd) (W : WX) (pn : Pin) (σ : St) (ρ : Rho) (G H : Hp) (c : Str) (fs : List (Str × D)) (ρ' : Rho) : Prop :=
  ∀ σ' cls d G' H', StS g pn σ ρ G H σ' ρ' G' H' → XdOk g G' H' c fs cls d → W cls d σ' H'
def PostS (g : Gd) (W : WX) (pn : Pin) (D : Ends) (σ : St) (ρ : Rho) (G H : Hp) : So → Prop
  | .nx ρ' => ∀ σ' G' H', StS g pn σ ρ G H σ' ρ' G' H' → D.nx σ' H'
  | .rt r ρ' => ∀ σ' v G' H', StS g pn σ ρ G H σ' ρ' G' H' → ValOk g H G' H' v r → D.rt v H'
  | .bk ρ' => ∀ σ' G' H', StS g pn σ ρ G H σ' ρ' G' H' → D.bk σ' H'
  | .ct ρ' => ∀ σ' G' H', StS g pn σ ρ G H σ' ρ' G' H' → D.ct σ' H'
  | .ex c fs ρ' => AwayS g W pn σ ρ G H c fs ρ'
def tDS (g : Gd) (W : WX) (pn : Pin) (f : EvS) : TS := fun D σ H => ∃ ρ G o, Wo g σ ρ G H ∧ f ρ = some o ∧ PostS g W pn D σ ρ G H o
section
variable {g : Gd} {W : WX} {pn : Pin} {σ σ1 : St} {ρ ρ1 : Rho} {G H G1 H1 : Hp} {D : Ends}
theorem PostS.step {o : So} (a : StS g pn σ ρ G H σ1 ρ1 G1 H1) (p : PostS g W pn D σ ρ G H o) : PostS g W pn D σ1 ρ1 G1 H1 o := by
  cases o with
  | nx ρ' => exact fun σ' G' H' s => p σ' G' H' (a.trans s)
  | rt r ρ' => exact fun σ' v G' H' s x => p σ' v G' H' (a.trans s) (x.ahead fun _ h => a.none_of h)
  | bk ρ' => exact fun σ' G' H' s => p σ' G' H' (a.trans s)
  | ct ρ' => exact fun σ' G' H' s => p σ' G' H' (a.trans s)
  | ex c fs ρ' => exact fun σ' cls d G' H' s x => p σ' cls d G' H' (a.trans s) x
theorem PostS.exn {o : So} (p : PostS g W pn D σ ρ G H o) : ∀ c fs ρ', o = .ex c fs ρ' → Away g W σ ρ G H c fs ρ' := fun c fs ρ' e => by
  subst e
  exact fun cls d G' H' s x => p σ cls d G' H' s.st x
end
def bdS {α : Type} (x : Option (Oc α)) (k : α → Rho → Option So) : Option So := match x with
  | some (.ok a ρ) => k a ρ
  | some (.ex c fs ρ) => some (.ex c fs ρ)
  | none => none
def bdP (x : Option (Oc Sl)) (k : D → Rho → Option So) : Option So := bdS x fun r ρ => match pub r with
  | some d => k d ρ
  | none => none
section
variable {g : Gd} {W : WX} {σ : St} {ρ : Rho} {G H : Hp}
theorem tS_bs {fa : Ev} {k : Sl → Rho → Option So} {o : So} {Q' : VK} (w : Wo g σ ρ G H) (e : bdS (fa ρ) k = some o) (hx : ∀ c fs ρ', o = .ex c fs ρ' → Away g W σ ρ G H c fs ρ')
    (hk : ∀ v r ρ1 G1 H1, StE g σ ρ G H ρ1 G1 H1 → ValOk g H G1 H1 v r → k r ρ1 = some o → Q' v H1) : tD g W fa σ H Q' := by
  unfold bdS at e
  cases q : fa ρ with
  | none => rw [q] at e; cases e
  | some oa =>
    rw [q] at e
    refine ⟨ρ, G, oa, w, q, ?_⟩
    cases oa with
    | ex c fs ρ' => cases e; exact hx c fs ρ' rfl
    | ok r ρ1 => exact fun v G1 H1 s x => hk v r ρ1 G1 H1 s x e
theorem tS_bd {fa : Ev} {k : D → Rho → Option So} {o : So} {Q' : VK} (w : Wo g σ ρ G H) (e : bdP (fa ρ) k = some o) (hx : ∀ c fs ρ', o = .ex c fs ρ' → Away g W σ ρ G H c fs ρ')
    (hk : ∀ v d ρ1 G1 H1, StE g σ ρ G H ρ1 G1 H1 → Rp g.K G1 v d → k d ρ1 = some o → Q' v H1) : tD g W fa σ H Q' :=
  tS_bs w e hx fun v r ρ1 G1 H1 s x e1 => by
    cases p : pub r with
    | none => rw [p] at e1; cases e1
    | some d =>
      rw [p] at e1
      obtain ⟨G2, s2, rp⟩ := pub_ok w s x p
      exact hk v d ρ1 G2 H1 s2 rp e1
theorem tS_bt {ft : EvT} {k : Bool → Rho → Option So} {o : So} {Q' : Bool → Hp → Prop} (w : Wo g σ ρ G H) (e : bdS (ft ρ) k = some o) (hx : ∀ c fs ρ', o = .ex c fs ρ' → Away g W σ ρ G H c fs ρ')
    (hk : ∀ b ρ1 G1 H1, StE g σ ρ G H ρ1 G1 H1 → k b ρ1 = some o → Q' b H1) : tDT g W ft σ H Q' := by
  unfold bdS at e
  cases q : ft ρ with
  | none => rw [q] at e; cases e
  | some oa =>
    rw [q] at e
    refine ⟨ρ, G, oa, w, q, ?_⟩
    cases oa with
    | ex c fs ρ' => cases e; exact hx c fs ρ' rfl
    | ok b ρ1 => exact fun G1 H1 s => hk b ρ1 G1 H1 s e
theorem tS_ba {fa : EvA} {k : List D → Rho → Option So} {o : So} {Q' : List V → Hp → Prop} (w : Wo g σ ρ G H) (e : bdS (fa ρ) k = some o) (hx : ∀ c fs ρ', o = .ex c fs ρ' → Away g W σ ρ G H c fs ρ')
    (hk : ∀ vs ds ρ1 G1 H1, StE g σ ρ G H ρ1 G1 H1 → RpAll g.K G1 vs ds → k ds ρ1 = some o → Q' vs H1) : tDA g W fa σ H Q' := by
  unfold bdS at e
  cases q : fa ρ with
  | none => rw [q] at e; cases e
  | some oa =>
    rw [q] at e
    refine ⟨ρ, G, oa, w, q, ?_⟩
    cases oa with
    | ex c fs ρ' => cases e; exact hx c fs ρ' rfl
    | ok ds ρ1 => exact fun vs G1 H1 s r => hk vs ds ρ1 G1 H1 s r e
end
def storable : Sl → Bool
  | .sh _ => true
  | .ow _ => true
  | .scr _ => true
  | .rg _ _ => true
  | _ => false
theorem getset {α : Type} {l : List α} {i j : Nat} {x : α} : (l.set i x)[j]? = if i = j then (if i < l.length then some x else none) else l[j]? := by
  by_cases h : i = j
  · subst h
    rw [if_pos rfl]
    by_cases hl : i < l.length
    · rw [if_pos hl, List.getElem?_set_self hl]
    · rw [if_neg hl, List.getElem?_eq_none (by rw [List.length_set]; omega)]
  · rw [if_neg h, List.getElem?_set_ne h]
section
variable {g : Gd} {pn : Pin} {σ : St} {ρ ρ1 : Rho} {G H G1 H1 : Hp}
theorem StE.store {i : Nat} {v : V} {r : Sl} (w : Wo g σ ρ G H) (s : StE g σ ρ G H ρ1 G1 H1) (x : ValOk g H G1 H1 v r) (hs : storable r = true) (hp : pn i = false) (hi : i < ρ1.length) :
    StS g pn σ ρ G H (σ.set i (some v)) (ρ1.set i r) G1 H1 := by
  have hiσ : i < σ.length := by rw [s.wo.len]; exact hi
  have slr : SlOk g G1 H1 (some v) r := by
    cases r with
    | sh d => exact ⟨v, rfl, x⟩
    | ow ds => obtain ⟨a, xs, rfl, _, h2, h3, h4⟩ := x; exact ⟨a, xs, rfl, h2, h3, h4⟩
    | scr ns => obtain ⟨a, rfl, h⟩ := x; exact ⟨a, rfl, h⟩
    | rg lo hi => obtain ⟨a, rfl, h⟩ := x; exact ⟨a, rfl, h⟩
    | _ => cases hs
  have new : ∀ a ds, r = .ow ds → v = .ref a → H a = none := fun a ds e1 e2 => by
    subst e1
    obtain ⟨b, xs, e3, h, _⟩ := x
    rw [e2] at e3; cases e3; exact h
  have owi : ∀ (j : Nat) (a : Addr) (ds : List PyData), (ρ1.set i r)[j]? = some (.ow ds) → (σ.set i (some v))[j]? = some (some (.ref a)) → (i = j ∧ H a = none) ∨ (i ≠ j ∧ ρ1[j]? = some (.ow ds) ∧ σ[j]? = some (some (.ref a))) := fun j a ds e1 e2 => by
    rw [getset] at e1 e2
    by_cases h : i = j
    · rw [if_pos h, if_pos hi] at e1
      rw [if_pos h, if_pos hiσ] at e2
      cases e1
      exact .inl ⟨h, new a ds rfl (Option.some.inj (Option.some.inj e2))⟩
    · rw [if_neg h] at e1 e2
      exact .inr ⟨h, e1, e2⟩
  have old : ∀ (j : Nat) (a : Addr) (ds : List PyData), ρ1[j]? = some (.ow ds) → σ[j]? = some (some (.ref a)) → H a ≠ none := fun j a ds e1 e2 z => by
    obtain ⟨_, xs, q⟩ := w.at (s.owb ⟨j, ds, e1, e2⟩)
    rw [z] at q; cases q
  refine ⟨s.gg, ⟨s.wo.gh, by rw [List.length_set, List.length_set]; exact s.wo.len, fun j sl e => ?_, fun j k a d1 d2 e1 e2 e3 e4 => ?_, s.wo.tb⟩, s.fr, s.al, s.nc, fun a ⟨j, ds, e1, e2⟩ => ?_, fun j hj => ?_, fun j hj ds e => ?_, by rw [List.length_set]⟩
  · rw [getset] at e
    rw [getset]
    by_cases h : i = j
    · rw [if_pos h, if_pos hi] at e
      cases e
      rw [if_pos h, if_pos hiσ]
      exact slr
    · rw [if_neg h] at e ⊢
      exact s.wo.sl j sl e
  · rcases owi j a d1 e1 e3 with ⟨h1, h2⟩ | ⟨h1, h2, h3⟩ <;> rcases owi k a d2 e2 e4 with ⟨h4, h5⟩ | ⟨h4, h5, h6⟩
    · exact h1.symm.trans h4
    · exact absurd h2 (old k a d2 h5 h6)
    · exact absurd h5 (old j a d1 h2 h3)
    · exact s.wo.dj j k a d1 d2 h2 h5 h3 h6
  · rcases owi j a ds e1 e2 with ⟨_, h2⟩ | ⟨_, h2, h3⟩
    · exact .inr h2
    · exact .inl (s.owb ⟨j, ds, h2, h3⟩)
  · rw [List.getElem?_set_ne]
    intro z
    subst z
    rw [hp] at hj
    cases hj
  · rw [List.getElem?_set_ne (fun z => by subst z; rw [hp] at hj; cases hj)] at e
    exact s.ow j ds e
end
abbrev EvG := D → Rho → Option Rho
def tDG (g : Gd) (pn : Pin) (pr : Bool) (f : EvG) : TG := fun v σ H Q => ∃ ρ G d ρ', Wo g σ ρ G H ∧ YOk g G H v d ∧ (pr = false → Rp g.K G v d) ∧ f d ρ = some ρ' ∧ ∀ σ', StS g pn σ ρ G H σ' ρ' G H → Q σ' H
def tDGs (g : Gd) (pn : Pin) (f : List D → Rho → Option Rho) : TGs := fun vs σ H Q => ∃ ρ G ds ρ', Wo g σ ρ G H ∧ RpAll g.K G vs ds ∧ f ds ρ = some ρ' ∧ ∀ σ', StS g pn σ ρ G H σ' ρ' G H → Q σ' H
def gName' (i : Nat) : EvG := fun d ρ => if i < ρ.length then some (ρ.set i (.sh d)) else none
def gNil' : List D → Rho → Option Rho := fun ds ρ => match ds with
  | [] => some ρ
  | _ :: _ => none
def gCons' (f : EvG) (h : List D → Rho → Option Rho) : List D → Rho → Option Rho := fun ds ρ => match ds with
  | d :: ds => (match f d ρ with
    | some ρ1 => h ds ρ1
    | none => none)
  | [] => none
def gTup' (n : Nat) (h : List D → Rho → Option Rho) : EvG := fun d ρ => match d with
  | .tuple ds => if ds.length = n then h ds ρ else none
  | _ => none
section
variable {X : Cx} {g : Gd} {pn : Pin} {e : Expr} {es : List Expr}
theorem _root_.L2.PG.imp {t t' : TG} (h : PG X e t) (k : ∀ v σ H Q, t' v σ H Q → t v σ H Q) : PG X e t' := ⟨fun pins s σ H x v Q I r q => h.run pins s σ H x v Q I r (k x σ H Q q)⟩
theorem _root_.L2.PGs.imp {t t' : TGs} (h : PGs X es t) (k : ∀ v σ H Q, t' v σ H Q → t v σ H Q) : PGs X es t' := ⟨fun pins s σ H x v Q I r q => h.run pins s σ H x v Q I r (k x σ H Q q)⟩
theorem g_name {i : Nat} {x : Str} {pos : Pos} (hN : X.N.Nodup) (hi : X.N[i]? = some x) (hx : Loc X.env.scope x) (hf : X.fn x = true ∨ X.env.scope.names.lookup x = some .local) (hp : pn i = false) : PG X (.Name x pos) (tDG g pn false (gName' i)) :=
  (pg_name hN hi hx hf).imp fun v σ H Q ⟨ρ, G, d, ρ', w, _, r, e, k⟩ => by
    unfold gName' at e
    split at e
    · rename_i hl
      cases e
      exact k _ ((StE.refl w).store (r := .sh d) w (r rfl) rfl hp hl)
    · cases e
theorem g_nil : PGs X [] (tDGs g pn gNil') := pgs_nil.imp fun vs σ H Q ⟨ρ, G, ds, ρ', w, r, e, k⟩ => by
  unfold gNil' at e
  cases r with
  | nil => cases e; exact ⟨rfl, k _ (StE.refl w).st⟩
  | cons => cases e
theorem assignEach_cons (hs : notStar e = true) : assignEach (e :: es) X.env = (false, assign e X.env) :: assignEach es X.env := by
  cases e <;> first | rfl | cases hs
theorem assignEach_len : ∀ {es : List Expr}, es.all notStar = true → (assignEach es X.env).length = es.length ∧ (assignEach es X.env).findIdx? (·.1) = none
  | [], _ => ⟨rfl, rfl⟩
  | e :: es, h => by
    rw [List.all_cons, Bool.and_eq_true] at h
    obtain ⟨h1, h2⟩ := assignEach_len (es := es) h.2
    rw [assignEach_cons h.1]
    exact ⟨congrArg (· + 1) h1, by rw [List.findIdx?_cons, h2]; rfl⟩
theorem g_cons {f : EvG} {h : List PyData → Rho → Option Rho} (hs : notStar e = true) (h1 : PG X e (tDG g pn false f)) (h2 : PGs X es (tDGs g pn h)) : PGs X (e :: es) (tDGs g pn (gCons' f h)) :=
  (pgs_cons h1 h2 (by rw [assignEach_cons hs]; rfl)).imp fun vs σ H Q ⟨ρ, G, ds, ρ', w, r, eq, k⟩ => by
    unfold gCons' at eq
    cases r with
    | nil => cases eq
    | cons r rr =>
      dsimp only at eq
      split at eq
      · rename_i ρ1 q
        exact ⟨_, _, rfl, ρ, G, _, ρ1, w, .inl r, fun _ => r, q, fun σ1 s1 => ⟨ρ1, G, _, ρ', s1.wo, rr, eq, fun σ2 s2 => k σ2 (s1.trans s2)⟩⟩
      · cases eq
theorem g_tup {h : List PyData → Rho → Option Rho} {pos : Pos} {k : Nat} {pr : Bool} (hK : g.K = X.K) (hc : X.calm = true) (hs : es.all notStar = true) (h1 : PGs X es (tDGs g pn h)) : PG X (.Tuple es k pos) (tDG g pn pr (gTup' es.length h)) :=
  (pg_tup hc h1 (assignEach_len hs).1 (assignEach_len hs).2).imp fun v σ H Q ⟨ρ, G, d, ρ', w, y, _, eq, k⟩ => by
    unfold gTup' at eq
    split at eq
    · rename_i ds
      split at eq
      · rename_i hl
        rcases y with r | ⟨T, vs, ds', rfl, e, hq, r⟩
        · cases r with | tup a1 b1 =>
          exact ⟨_, _, rfl, hK ▸ (sqN_mono w.gh a1).t, by rw [b1.len]; exact hl, ρ, G, _, ρ', w, b1, eq, k⟩
        · cases e
          exact ⟨T, vs, rfl, hK ▸ hq, by rw [r.len]; exact hl, ρ, G, _, ρ', w, r, eq, k⟩
      · cases eq
    · cases eq
end
def sNil : EvS := fun ρ => some (.nx ρ)
def sSeq (f h : EvS) : EvS := fun ρ => match f ρ with
  | some (.nx ρ1) => h ρ1
  | o => o
def sDrop (f : Ev) : EvS := fun ρ => bdS (f ρ) fun _ ρ1 => some (.nx ρ1)
def sRet (f : Ev) : EvS := fun ρ => bdS (f ρ) fun r ρ1 => some (.rt r ρ1)
def sRetN : EvS := fun ρ => some (.rt (.sh .none) ρ)
def sBrk : EvS := fun ρ => some (.bk ρ)
def sCnt : EvS := fun ρ => some (.ct ρ)
def sIf (t : EvT) (f h : EvS) : EvS := fun ρ => bdS (t ρ) fun b ρ1 => match b with
  | true => f ρ1
  | false => h ρ1
def sSet (i : Nat) (f : Ev) : EvS := fun ρ => bdS (f ρ) fun r ρ1 => if storable r && decide (i < ρ1.length) then some (.nx (ρ1.set i r)) else none
def sAsg (h : EvG) (f : Ev) : EvS := fun ρ => bdP (f ρ) fun d ρ1 => match h d ρ1 with
  | some ρ2 => some (.nx ρ2)
  | none => none
def sPar2 (i j : Nat) (fs : EvA) : EvS := fun ρ => bdS (fs ρ) fun xs ρ1 => match xs with
  | [x, y] => if i < ρ1.length ∧ j < ρ1.length then some (.nx ((ρ1.set i (.sh x)).set j (.sh y))) else none
  | _ => none
def sPut (i : Nat) (fe fi : Ev) : EvS := fun ρ => bdP (fe ρ) fun d ρ1 => match slO ρ1 i with
  | none => none
  | some _ => bdP (fi ρ1) fun k ρ2 => match slO ρ2 i, k with
    | some ds, .int n => (match ixN ds.length n with
      | some j => some (.nx (ρ2.set i (.ow (ds.set j d))))
      | none => none)
    | _, _ => none
section
variable {X : Cx} {g : Gd} {W : WX} {pn : Pin} {st : Stmt} {rest : List Stmt} {e : Expr} {pos : Pos} {f h : EvS} {fe : Ev}
theorem s_nil : PSs X [] (tDS g W pn sNil) := pss_nil.imp fun D σ H ⟨ρ, G, o, w, e, p⟩ => by
  cases e
  exact p _ _ _ (StE.refl w).st
theorem s_cons (h1 : PS X st (tDS g W pn f)) (h2 : PSs X rest (tDS g W pn h)) : PSs X (st :: rest) (tDS g W pn (sSeq f h)) := (pss_cons h1 h2).imp fun D σ H ⟨ρ, G, o, w, e, p⟩ => by
  unfold sSeq at e
  cases q : f ρ with
  | none => rw [q] at e; cases e
  | some oa =>
    rw [q] at e
    refine ⟨ρ, G, oa, w, q, ?_⟩
    cases oa with
    | nx ρ1 => exact fun σ1 G1 H1 s1 => ⟨ρ1, G1, o, s1.wo, e, p.step s1⟩
    | rt r ρ1 => cases e; exact p
    | bk ρ1 => cases e; exact p
    | ct ρ1 => cases e; exact p
    | ex c fs ρ1 => cases e; exact p
theorem s_pass : PS X (.Pass pos) (tDS g W pn sNil) := ps_pass.imp fun D σ H ⟨ρ, G, o, w, e, p⟩ => by
  cases e
  exact p _ _ _ (StE.refl w).st
theorem s_doc {x : Str} {j p2} : PS X (.Expr (.Constant (.str x) j p2) pos) (tDS g W pn sNil) := ps_doc.imp fun D σ H ⟨ρ, G, o, w, e, p⟩ => by
  cases e
  exact p _ _ _ (StE.refl w).st
theorem s_break : PS X (.Break pos) (tDS g W pn sBrk) := ps_break.imp fun D σ H ⟨ρ, G, o, w, e, p⟩ => by
  cases e
  exact p _ _ _ (StE.refl w).st
theorem s_continue : PS X (.Continue pos) (tDS g W pn sCnt) := ps_continue.imp fun D σ H ⟨ρ, G, o, w, e, p⟩ => by
  cases e
  exact p _ _ _ (StE.refl w).st
def notComp : Expr → Bool
  | .ListComp .. => false
  | .SetComp .. => false
  | .DictComp .. => false
  | _ => true
def notTup : Expr → Bool
  | .Tuple .. => false
  | _ => true
theorem no_swap {tg : Option Expr} {l : Nat} {env : Env} (h : notComp e = true) : swapsWith e tg l env = pure false := by
  cases e <;> first | rfl | cases h
theorem no_swap1 {tg : Expr} {l : Nat} {env : Env} (h : notComp e = true) : swapsWithSole [tg] e l env = pure false := by
  have := no_swap (e := e) (tg := some tg) (l := l) (env := env) h
  exact this
theorem s_expr (he : PE X e (tD g W fe)) (hc : notComp e = true) : PS X (.Expr e pos) (tDS g W pn (sDrop fe)) := (ps_expr he (no_swap hc)).imp fun D σ H ⟨ρ, G, o, w, eq, p⟩ =>
  tS_bs w eq p.exn fun v r ρ1 G1 H1 s x e1 => by
    cases e1
    exact p _ _ _ s.st
theorem s_ret (he : PE X e (tD g W fe)) : PS X (.Return (some e) pos) (tDS g W pn (sRet fe)) := (ps_ret he).imp fun D σ H ⟨ρ, G, o, w, eq, p⟩ =>
  tS_bs w eq p.exn fun v r ρ1 G1 H1 s x e1 => by
    cases e1
    exact p _ _ _ _ s.st x
theorem s_retN : PS X (.Return none pos) (tDS g W pn sRetN) := ps_retN.imp fun D σ H ⟨ρ, G, o, w, e, p⟩ => by
  cases e
  exact p _ _ _ _ (StE.refl w).st .non
theorem s_if {c : Expr} {a b : List Stmt} {tc : EvT} (hc : PT X c (tDT g W tc)) (ha : PSs X a (tDS g W pn f)) (hb : PSs X b (tDS g W pn h)) : PS X (.If c a b pos) (tDS g W pn (sIf tc f h)) := (ps_if hc ha hb).imp fun D σ H ⟨ρ, G, o, w, eq, p⟩ =>
  tS_bt w eq p.exn fun k ρ1 G1 H1 s1 e1 => by
    cases k with
    | true => exact iteT ⟨ρ1, G1, o, s1.wo, e1, p.step s1.st⟩
    | false => exact iteF ⟨ρ1, G1, o, s1.wo, e1, p.step s1.st⟩
theorem s_set {i : Nat} {x : Str} {p2 : Pos} (hN : X.N.Nodup) (hi : X.N[i]? = some x) (hx : Loc X.env.scope x) (hf : X.fn x = true ∨ X.env.scope.names.lookup x = some .local) (hp : pn i = false) (he : PE X e (tD g W fe)) (hc : notComp e = true) :
    PS X (.Assign [.Name x p2] e pos) (tDS g W pn (sSet i fe)) := (ps_set hN hi hx he (no_swap hc) hf).imp fun D σ H ⟨ρ, G, o, w, eq, p⟩ =>
  tS_bs w eq p.exn fun v r ρ1 G1 H1 s x e1 => by
    split at e1
    · rename_i hc
      cases e1
      rw [Bool.and_eq_true, decide_eq_true_eq] at hc
      exact p _ _ _ (s.store w x hc.1 hp hc.2)
    · cases e1
theorem s_asg {es : List Expr} {k : Nat} {p2 : Pos} {tg : EvG} (hc : notComp e = true) (ht : notTup e = true) (he : PE X e (tD g W fe)) (hg : PG X (.Tuple es k p2) (tDG g pn false tg)) : PS X (.Assign [.Tuple es k p2] e pos) (tDS g W pn (sAsg tg fe)) :=
  (ps_asg he hg (no_swap1 hc) (by cases e <;> first | rfl | cases ht) rfl).imp fun D σ H ⟨ρ, G, o, w, eq, p⟩ =>
  tS_bd w eq p.exn fun v d ρ1 G1 H1 s r e1 => by
    split at e1
    · rename_i ρ2 q
      cases e1
      exact ⟨ρ1, G1, d, ρ2, s.wo, .inl r, fun _ => r, q, fun σ' s2 => p _ _ _ (s.st.trans s2)⟩
    · cases e1
theorem s_asgP {es : List Expr} {k : Nat} {p2 : Pos} {tg : EvG} (hc : notComp e = true) (he : PE X e (tD g W fe)) (hg : PG X (.Tuple es k p2) (tDG g pn false tg)) (hw : swappedStores [.Tuple es k p2] e X.env = pure none) : PS X (.Assign [.Tuple es k p2] e pos) (tDS g W pn (sAsg tg fe)) :=
  (ps_asg he hg (no_swap1 hc) hw rfl).imp fun D σ H ⟨ρ, G, o, w, eq, p⟩ =>
  tS_bd w eq p.exn fun v d ρ1 G1 H1 s r e1 => by
    split at e1
    · rename_i ρ2 q
      cases e1
      exact ⟨ρ1, G1, d, ρ2, s.wo, .inl r, fun _ => r, q, fun σ' s2 => p _ _ _ (s.st.trans s2)⟩
    · cases e1
theorem s_par2 {i j : Nat} {x y : Str} {a b : Expr} {fs : EvA} {px py pt : Pos} {kt k2 : Nat} {pt2 : Pos} (hc : X.calm = true) (hN : X.N.Nodup) (hi : X.N[i]? = some x) (hj : X.N[j]? = some y) (hij : i ≠ j)
    (hx : X.env.scope.names.lookup x = some .local) (hy : X.env.scope.names.lookup y = some .local) (hpi : pn i = false) (hpj : pn j = false) (ha : PA X [a, b] (tDA g W fs))
    (hw : swappedStores [.Tuple [.Name x px, .Name y py] kt pt] (.Tuple [a, b] k2 pt2) X.env = pure (some [x, y])) :
    PS X (.Assign [.Tuple [.Name x px, .Name y py] kt pt] (.Tuple [a, b] k2 pt2) pos) (tDS g W pn (sPar2 i j fs)) := (ps_par hc hN hi hj hij hx hy ha hw).imp fun D σ H ⟨ρ, G, o, w, eq, p⟩ =>
  tS_ba w eq p.exn fun vs ds ρ1 G1 H1 s r e1 => by
    split at e1
    · split at e1
      · rename_i hl
        cases e1
        cases r with | cons r1 r2 =>
        cases r2 with | cons r2 r3 =>
        cases r3
        have s1 := s.store w (r := .sh _) r1 rfl hpi hl.1
        have s2 := (StE.refl s1.wo).store (pn := pn) (i := j) (r := .sh _) s1.wo r2 rfl hpj (by rw [List.length_set]; exact hl.2)
        exact ⟨_, _, rfl, p _ _ _ (s1.trans s2)⟩
      · cases e1
    · cases e1
theorem s_put {i : Nat} {x : Str} {px tp : Pos} {ix : Expr} {fi : Ev} (hN : X.N[i]? = some x) (hv : Vis X.env.scope x) (hd : (x == ("__debug__" : Str)) = false) (hcd : (x == ("__classdict__" : Str)) = false) (hc : notComp e = true)
    (he : PE X e (tD g W fe)) (hi : PE X ix (tD g W fi))
    (has : ∀ v, assign (.Subscript (.Name x px) ix tp) X.env v = (do
      let ov ← holding [v] (eval (.Name x px) X.env)
      let iv ← holding [v, ov] (eval ix X.env)
      standAt tp
      holding [v, ov, iv] (setItem ov iv v)
      release [v, ov, iv] [])) :
    PS X (.Assign [.Subscript (.Name x px) ix tp] e pos) (tDS g W pn (sPut i fe fi)) := (ps_asg he (pg_sub (pe_var hN hv hd hcd) hi set_list has) (no_swap1 hc) rfl rfl).imp fun D σ H ⟨ρ, G, o, w, eq, p⟩ =>
  tS_bd w eq p.exn fun v d ρ1 G1 H1 s1 r1 e1 => by
    split at e1
    · cases e1
    · rename_i ds q
      obtain ⟨a, xs, ea, _, hh, _⟩ := s1.wo.own q
      refine ⟨.ref a, ea, tS_bd s1.wo e1 (p.step s1.st).exn fun u k ρ2 G2 H2 s2 r2 e2 => ?_⟩
      split at e2
      · rename_i ds2 n q2
        split at e2
        · rename_i j hj
          cases e2
          obtain ⟨b, ys, eb, _, hh2, ra⟩ := s2.wo.own q2
          rw [ea] at eb
          cases eb
          cases r2
          rw [← ra.len] at hj
          have st := s2.wo.mutAt (slO_at q2) ea (RpAll.set (r1.mono s2.gg) j ra)
          exact ⟨a, ys, _, j, rfl, rfl, hh2, hj, (p.step ((s1.trans s2).st)) _ _ _ st.st⟩
        · cases e2
      · cases e2
end
end Rk
set_option Elab.async false
set_option linter.all false
set_option maxRecDepth 100000
set_option maxHeartbeats 4000000
namespace Rk
open PySem PySem.Spec PyProof.Rows L2
def sWhile : Nat → EvT → EvS → EvS
  | 0, _, _ => fun _ => none
  | n + 1, t, body => fun ρ => bdS (t ρ) fun b ρ1 => match b with
    | false => some (.nx ρ1)
    | true => match body ρ1 with
      | some (.nx ρ2) => sWhile n t body ρ2
      | some (.ct ρ2) => sWhile n t body ρ2
      | some (.bk ρ2) => some (.nx ρ2)
      | o => o
def sFor : List D → EvG → EvS → EvS
  | [], _, _ => fun ρ => some (.nx ρ)
  | d :: ds, tg, body => fun ρ => match tg d ρ with
    | none => none
    | some ρ1 => match body ρ1 with
      | some (.nx ρ2) => sFor ds tg body ρ2
      | some (.ct ρ2) => sFor ds tg body ρ2
      | some (.bk ρ2) => some (.nx ρ2)
      | o => o
def sForL (src : EvA) (tg : EvG) (body : EvS) : EvS := fun ρ => bdS (src ρ) fun ds ρ1 => sFor ds tg body ρ1
section
variable {X : Cx} {g : Gd} {W : WX} {pn : Pin} {c : Expr} {body : List Stmt} {pos : Pos} {fb : EvS}
theorem s_while {t : EvT} (n : Nat) (hp : PassesOwn (model X.prog X.w) X.A X.env X.xe) (hc : PT X c (tDT g W t)) (hb : PSs X body (tDS g W pn fb)) : PS X (.While c body [] pos) (tDS g W pn (sWhile n t fb)) :=
  (ps_while hp hc hb).imp fun D σ H ⟨ρ, G, o, w, e, p⟩ => by
    refine ⟨fun m σ' H' => ∃ ρ' G', StS g pn σ ρ G H σ' ρ' G' H' ∧ sWhile m t fb ρ' = some o, ⟨n, ρ, G, (StE.refl w).st, e⟩, fun m σ1 H1 ⟨ρ1, G1, s1, e1⟩ => ?_⟩
    cases m with
    | zero => cases e1
    | succ m =>
      have p1 := p.step s1
      refine tS_bt s1.wo e1 p1.exn fun b ρ2 G2 H2 s2 e2 => ?_
      have p2 := p1.step (s2.st (pn := pn))
      cases b with
      | false =>
        cases e2
        exact iteF (p2 _ _ _ (StE.refl s2.wo).st)
      | true =>
        refine iteT ⟨fun σ' H' => ∃ ρ' G', StS g pn σ ρ G H σ' ρ' G' H' ∧ sWhile m t fb ρ' = some o, fun σ' H' q => ⟨m, Nat.lt_succ_self _, q⟩, ?_⟩
        dsimp only at e2
        cases q : fb ρ2 with
        | none => rw [q] at e2; cases e2
        | some ob =>
          rw [q] at e2
          refine ⟨ρ2, G2, ob, s2.wo, q, ?_⟩
          have s12 := s1.trans (s2.st (pn := pn))
          cases ob with
          | nx ρ3 => exact fun σ' G' H' s3 => ⟨ρ3, G', s12.trans s3, e2⟩
          | ct ρ3 => exact fun σ' G' H' s3 => ⟨ρ3, G', s12.trans s3, e2⟩
          | bk ρ3 => cases e2; exact p2
          | rt r ρ3 => cases e2; exact p2
          | ex c fs ρ3 => cases e2; exact p2
theorem tS_bi {src : EvA} {k : List D → Rho → Option So} {o : So} {pr : Bool} {R : It → Hp → Prop} {σ : St} {ρ : Rho} {G H : Hp} (w : Wo g σ ρ G H) (e : bdS (src ρ) k = some o) (hx : ∀ c fs ρ', o = .ex c fs ρ' → Away g W σ ρ G H c fs ρ')
    (hk : ∀ J ds ρ1 G1 H1, StE g σ ρ G H ρ1 G1 H1 → Wk g G1 pr ds J → k ds ρ1 = some o → R J H1) : tDI g W pr src σ H R := by
  unfold bdS at e
  cases q : src ρ with
  | none => rw [q] at e; cases e
  | some oa =>
    rw [q] at e
    refine ⟨ρ, G, oa, w, q, ?_⟩
    cases oa with
    | ex c fs ρ' => cases e; exact hx c fs ρ' rfl
    | ok ds ρ1 => exact fun J G1 H1 s r => hk J ds ρ1 G1 H1 s r e
theorem s_for {tg iter : Expr} {src : EvA} {tgt : EvG} {pr : Bool} (hp : PassesOwn (model X.prog X.w) X.A X.env X.xe) (hc : X.calm = true) (hi : PI X tg iter (tDI g W pr src)) (hg : PG X tg (tDG g pn pr tgt)) (hb : PSs X body (tDS g W pn fb))
    (hs : ∀ x, foldedSetIterable iter X.env x = pure x) : PS X (.For tg iter body [] pos) (tDS g W pn (sForL src tgt fb)) :=
  (ps_for hp hc hi hg hb hs).imp fun D σ H ⟨ρ, G, o, w, e, p⟩ => tS_bi w e p.exn fun J ds ρ1 G1 H1 s1 wk e1 => by
    have p1 := p.step (s1.st (pn := pn))
    refine ⟨fun i m σ' H' => m = ds.length - i ∧ i ≤ ds.length ∧ ∃ ρ' G', StS g pn σ ρ1 G1 H1 σ' ρ' G' H' ∧ sFor (ds.drop i) tgt fb ρ' = some o, ⟨ds.length, rfl, Nat.zero_le _, ρ1, G1, (StE.refl s1.wo).st, e1⟩, ?_⟩
    rintro i m σ2 H2 ⟨rfl, hi, ρ2, G2, s2, e2⟩
    have p2 := p1.step s2
    by_cases hl : i < ds.length
    · have hd : ds[i]? = some ds[i] := by simp [hl]
      refine .inr ⟨wk.go i _ G2 H2 hd s2.gg s2.wo.gh, fun σ' H' => ∃ ρ' G', StS g pn σ ρ1 G1 H1 σ' ρ' G' H' ∧ sFor (ds.drop (i + 1)) tgt fb ρ' = some o, fun σ' H' q => ⟨ds.length - (i + 1), by omega, rfl, hl, q⟩, fun x H3 y => ?_⟩
      obtain ⟨G3, gr, yo, rp⟩ := wk.yld i _ G2 H2 x H3 hd s2.gg s2.wo.gh y
      have s3 := s2.wo.step gr
      rw [List.drop_eq_getElem_cons hl] at e2
      unfold sFor at e2
      cases q : tgt ds[i] ρ2 with
      | none => rw [q] at e2; cases e2
      | some ρ4 =>
        rw [q] at e2
        dsimp only at e2
        refine ⟨ρ2, G3, ds[i], ρ4, s3.wo, yo, rp, q, fun σ4 s4 => ?_⟩
        cases q5 : fb ρ4 with
        | none => rw [q5] at e2; cases e2
        | some ob =>
          rw [q5] at e2
          refine ⟨ρ4, G3, ob, s4.wo, q5, ?_⟩
          have s24 := (s3.st (pn := pn)).trans s4
          have s14 := s2.trans s24
          have p4 := p2.step s24
          cases ob with
          | nx ρ5 => exact fun σ' G' H' s5 => ⟨ρ5, G', s14.trans s5, e2⟩
          | ct ρ5 => exact fun σ' G' H' s5 => ⟨ρ5, G', s14.trans s5, e2⟩
          | bk ρ5 => cases e2; exact p4
          | rt r ρ5 => cases e2; exact p4
          | ex c fs ρ5 => cases e2; exact p4
    · have hi' : i = ds.length := by omega
      subst hi'
      rw [List.drop_length] at e2
      cases e2
      exact .inl ⟨wk.stop G2 H2 s2.gg s2.wo.gh, p2 _ _ _ (StE.refl s2.wo).st⟩
end
end Rk
set_option Elab.async false
set_option linter.all false
set_option maxRecDepth 100000
set_option maxHeartbeats 4000000
namespace Rk
open PySem PySem.Spec PyProof.Rows L2
def wipeR (ρ : Rho) : List Nat → Rho
  | [] => ρ
  | v :: vs => (wipeR ρ vs).set v .un
/-- the own slots as they were, the others as they are -/
def backR (ρ1 ρe : Rho) : List Nat → Rho
  | [] => ρe
  | v :: vs => match ρ1[v]? with
    | some s => (backR ρ1 ρe vs).set v s
    | none => backR ρ1 ρe vs
def calmO (ρ : Rho) (own : List Nat) : Bool := own.all fun v => match ρ[v]? with
  | some (.ow _) => false
  | _ => true
def pnO (own : List Nat) : Pin := fun i => !own.contains i
theorem pnO_of {own : List Nat} {i : Nat} : pnO own i = true ↔ i ∉ own := by
  unfold pnO
  simp
section
variable {ρ ρ1 ρe : Rho} {σ : St}
theorem wipeR_len : ∀ vs : List Nat, (wipeR ρ vs).length = ρ.length
  | [] => rfl
  | v :: vs => by unfold wipeR; rw [List.length_set, wipeR_len vs]
theorem wipeR_out {i : Nat} : ∀ {vs : List Nat}, i ∉ vs → (wipeR ρ vs)[i]? = ρ[i]?
  | [], _ => rfl
  | v :: vs, h => by
    unfold wipeR
    rw [List.getElem?_set_ne (fun e => h (by rw [e]; exact List.mem_cons_self)), wipeR_out fun m => h (List.mem_cons_of_mem _ m)]
theorem wipeR_in {i : Nat} : ∀ {vs : List Nat}, i ∈ vs → (wipeR ρ vs)[i]? = some .un ∨ (wipeR ρ vs)[i]? = none
  | v :: vs, h => by
    unfold wipeR
    rw [getset]
    by_cases e : v = i
    · rw [if_pos e]
      split
      · exact .inl rfl
      · exact .inr rfl
    · rw [if_neg e]
      exact wipeR_in ((List.mem_cons.mp h).resolve_left fun z => e z.symm)
theorem backR_len : ∀ vs : List Nat, (backR ρ1 ρe vs).length = ρe.length
  | [] => rfl
  | v :: vs => by
    unfold backR
    split
    · rw [List.length_set, backR_len vs]
    · exact backR_len vs
theorem backR_out {i : Nat} : ∀ {vs : List Nat}, i ∉ vs → (backR ρ1 ρe vs)[i]? = ρe[i]?
  | [], _ => rfl
  | v :: vs, h => by
    unfold backR
    split
    · rw [List.getElem?_set_ne (fun e => h (by rw [e]; exact List.mem_cons_self)), backR_out fun m => h (List.mem_cons_of_mem _ m)]
    · exact backR_out fun m => h (List.mem_cons_of_mem _ m)
theorem backR_in (hl : ρe.length = ρ1.length) {i : Nat} : ∀ {vs : List Nat}, i ∈ vs → (backR ρ1 ρe vs)[i]? = ρ1[i]?
  | v :: vs, h => by
    unfold backR
    by_cases e : v = i
    · subst e
      cases q : ρ1[v]? with
      | none =>
        dsimp only
        rw [List.getElem?_eq_none_iff] at q ⊢
        rw [backR_len]
        omega
      | some s =>
        dsimp only
        rw [getset, if_pos rfl, if_pos (by rw [backR_len, hl]; exact (List.getElem?_eq_some_iff.mp q).1)]
    · have m := (List.mem_cons.mp h).resolve_left fun z => e z.symm
      split
      · rw [List.getElem?_set_ne e, backR_in hl m]
      · exact backR_in hl m
theorem calmO_at {own : List Nat} {i : Nat} {ds : List D} (h : calmO ρ own = true) (e : ρ[i]? = some (.ow ds)) : i ∉ own := fun m => by
  unfold calmO at h
  rw [List.all_eq_true] at h
  have := h i m
  rw [e] at this
  cases this
end
section
variable {g : Gd} {σ σ2 : St} {ρ ρ1 ρe : Rho} {G H G1 H1 G' H' Ge He : Hp} {own : List Nat}
theorem ow_wipe {a : Addr} (h : Ow (wipeR ρ own) (wipe σ own) a) : ∃ i ds, i ∉ own ∧ ρ[i]? = some (.ow ds) ∧ σ[i]? = some (some (.ref a)) := by
  obtain ⟨i, ds, e1, e2⟩ := h
  by_cases m : i ∈ own
  · rcases wipeR_in (ρ := ρ) m with q | q <;> rw [q] at e1 <;> cases e1
  · rw [wipeR_out m] at e1
    rw [wipe_out m] at e2
    exact ⟨i, ds, m, e1, e2⟩
theorem wo_wipe (w : Wo g σ ρ G H) : Wo g (wipe σ own) (wipeR ρ own) G H where
  gh := w.gh
  len := by rw [wipe_length, wipeR_len]; exact w.len
  sl := fun i s e => by
    by_cases m : i ∈ own
    · rcases wipeR_in (ρ := ρ) m with q | q <;> rw [q] at e <;> cases e
      trivial
    · rw [wipeR_out m] at e
      rw [wipe_out m]
      exact w.sl i s e
  dj := fun i j a d1 d2 e1 e2 e3 e4 => by
    obtain ⟨i', m1, h1, h2⟩ : i ∉ own ∧ ρ[i]? = some (.ow d1) ∧ σ[i]? = some (some (.ref a)) ∧ True := by
      by_cases m : i ∈ own
      · rcases wipeR_in (ρ := ρ) m with q | q <;> rw [q] at e1 <;> cases e1
      · rw [wipeR_out m] at e1; rw [wipe_out m] at e3; exact ⟨m, e1, e3, trivial⟩
    obtain ⟨j', m2, h3, h4⟩ : j ∉ own ∧ ρ[j]? = some (.ow d2) ∧ σ[j]? = some (some (.ref a)) ∧ True := by
      by_cases m : j ∈ own
      · rcases wipeR_in (ρ := ρ) m with q | q <;> rw [q] at e2 <;> cases e2
      · rw [wipeR_out m] at e2; rw [wipe_out m] at e4; exact ⟨m, e2, e4, trivial⟩
    exact w.dj i j a d1 d2 m1 m2 h1 h3
  tb := w.tb
/-- a turn's end: its own slots forgotten -/
theorem StS.unblk (s : StS g (pnO own) (wipe σ own) ρ1 G1 H1 σ2 ρe Ge He) : StE g (wipe σ own) ρ1 G1 H1 (wipeR ρe own) Ge He := by
  have sm : ∀ i, i ∉ own → σ2[i]? = (wipe σ own)[i]? := fun i m => s.kp i (pnO_of.mpr m)
  have up : ∀ (i : Nat) (ds : List D), (wipeR ρe own)[i]? = some (.ow ds) → i ∉ own ∧ ρe[i]? = some (.ow ds) := fun i ds e => by
    by_cases m : i ∈ own
    · rcases wipeR_in (ρ := ρe) m with q | q <;> rw [q] at e <;> cases e
    · rw [wipeR_out m] at e
      exact ⟨m, e⟩
  refine ⟨s.gg, ⟨s.wo.gh, ?_, fun i sl e => ?_, fun i j a d1 d2 e1 e2 e3 e4 => ?_, s.wo.tb⟩, s.fr, s.al, s.nc, fun i ds e => ?_⟩
  · rw [wipeR_len, ← s.wo.len, s.ln]
  · by_cases m : i ∈ own
    · rcases wipeR_in (ρ := ρe) m with q | q <;> rw [q] at e <;> cases e
      trivial
    · rw [wipeR_out m] at e
      rw [← sm i m]
      exact s.wo.sl i sl e
  · obtain ⟨m1, h1⟩ := up i d1 e1
    obtain ⟨m2, h2⟩ := up j d2 e2
    rw [← sm i m1] at e3
    rw [← sm j m2] at e4
    exact s.wo.dj i j a d1 d2 h1 h2 e3 e4
  · obtain ⟨m1, h1⟩ := up i ds e
    exact s.sw i (pnO_of.mpr m1) ds h1
/-- behind the block: the def's slots as they were -/
theorem StE.unwipe (w : Wo g σ ρ1 G1 H1) (hc : calmO ρ1 own = true) (s : StE g (wipe σ own) (wipeR ρ1 own) G1 H1 ρe Ge He) : StE g σ ρ1 G1 H1 (backR ρ1 ρe own) Ge He := by
  have hl : ρe.length = ρ1.length := by rw [← s.wo.len, wipe_length, w.len]
  have up : ∀ (i : Nat) (ds : List D), (backR ρ1 ρe own)[i]? = some (.ow ds) → i ∉ own ∧ ρe[i]? = some (.ow ds) := fun i ds e => by
    by_cases m : i ∈ own
    · rw [backR_in hl m] at e
      exact absurd m (calmO_at hc e)
    · rw [backR_out m] at e
      exact ⟨m, e⟩
  have no : ∀ a, ¬ Ow ρ1 σ a → ¬ Ow (wipeR ρ1 own) (wipe σ own) a := fun a n z => by
    obtain ⟨i, ds, _, h1, h2⟩ := ow_wipe z
    exact n ⟨i, ds, h1, h2⟩
  refine ⟨s.gg, ⟨s.wo.gh, by rw [backR_len, hl]; exact w.len, fun i sl e => ?_, fun i j a d1 d2 e1 e2 e3 e4 => ?_, s.wo.tb⟩, fun a o h n t => s.fr a o h (no a n) t, s.al, fun a h1 h2 n => s.nc a h1 h2 (no a n), fun i ds e => ?_⟩
  · by_cases m : i ∈ own
    · rw [backR_in hl m] at e
      refine (w.sl i sl e).mono s.gg fun a xs _ _ _ ⟨ds, q⟩ => ?_
      subst q
      exact absurd m (calmO_at hc e)
    · rw [backR_out m] at e
      have := s.wo.sl i sl e
      rw [wipe_out m] at this
      exact this
  · obtain ⟨m1, h1⟩ := up i d1 e1
    obtain ⟨m2, h2⟩ := up j d2 e2
    exact s.wo.dj i j a d1 d2 h1 h2 (by rw [wipe_out m1]; exact e3) (by rw [wipe_out m2]; exact e4)
  · obtain ⟨m1, h1⟩ := up i ds e
    obtain ⟨es, q⟩ := s.ow i ds h1
    rw [wipeR_out m1] at q
    exact ⟨es, q⟩
/-- the new list D grows -/
theorem StE.addD {D : Addr} {xs : List V} (n : H1 D = none) (nG : Ge D = none) (hD : ∃ ys, He D = some (.lst ys)) (no : ¬ Ow ρe σ D) (s : StE g σ ρ1 G1 H1 ρe Ge He) : StE g σ ρ1 G1 H1 ρe Ge (upd He D (.lst xs)) := by
  obtain ⟨ys, hD⟩ := hD
  have neG : ∀ b o, Ge b = some o → b ≠ D := fun b o q z => by subst z; rw [nG] at q; cases q
  refine ⟨s.gg, ⟨fun b o q => by rw [upd_ne (neG b o q)]; exact s.wo.gh b o q, s.wo.len, fun i sl e => ?_, s.wo.dj, fun P hP => ?_⟩, fun a o h nn t => ?_, fun a h => ?_, s.nc, s.ow⟩
  · refine (s.wo.sl i sl e).mono (Same.refl _) fun a zs ea h1 h2 ⟨ds, q⟩ => ⟨h1, ?_⟩
    subst q
    have : a ≠ D := fun z => by subst z; exact no ⟨i, ds, e, get_join ea⟩
    rw [upd_ne this]; exact h2
  · obtain ⟨h1, ps, h2, h3⟩ := s.wo.tb P hP
    have : P ≠ D := fun z => by subst z; rw [hD] at h2; cases h2
    exact ⟨h1, ps, by rw [upd_ne this]; exact h2, h3.1, h3.2.upd (lst_ne hD)⟩
  · have : a ≠ D := fun z => by subst z; rw [n] at h; cases h
    rw [upd_ne this]
    exact s.fr a o h nn t
  · by_cases z : a = D
    · subst z; rw [upd_same]; simp
    · rw [upd_ne z]; exact s.al a h
end
def yes : EvT := fun ρ => some (.ok true ρ)
def lcGo (own : List Nat) (tg : EvG) (t : EvT) (fe : Ev) : List D → Rho → Option (Oc (List D))
  | [], ρ => some (.ok [] ρ)
  | d :: ds, ρ => match tg d ρ with
    | none => none
    | some ρ2 => match t ρ2 with
      | some (.ok true ρ3) => (match fe ρ3 with
        | some (.ok r ρ4) => (match pub r with
          | some y => (match lcGo own tg t fe ds (wipeR ρ4 own) with
            | some (.ok ys ρ5) => some (.ok (y :: ys) ρ5)
            | _ => none)
          | none => none)
        | _ => none)
      | some (.ok false ρ3) => lcGo own tg t fe ds (wipeR ρ3 own)
      | _ => none
def cLc (own : List Nat) (src : EvA) (tg : EvG) (t : EvT) (fe : Ev) : Ev := fun ρ => bdO (src ρ) fun ds ρ1 => if calmO ρ1 own then (match lcGo own tg t fe ds (wipeR ρ1 own) with
  | some (.ok ys ρe) => some (.ok (.ow ys) (backR ρ1 ρe own))
  | _ => none) else none
abbrev W0 : WX := fun _ _ _ _ => False
theorem tD_bi {g : Gd} {W : WX} {β : Type} {src : EvA} {k : List D → Rho → Option (Oc β)} {o : Oc β} {pr : Bool} {R : It → Hp → Prop} {σ : St} {ρ : Rho} {G H : Hp} (w : Wo g σ ρ G H) (e : bdO (src ρ) k = some o) (hx : ∀ c fs ρ', o = .ex c fs ρ' → Away g W σ ρ G H c fs ρ')
    (hk : ∀ J ds ρ1 G1 H1, StE g σ ρ G H ρ1 G1 H1 → Wk g G1 pr ds J → k ds ρ1 = some o → R J H1) : tDI g W pr src σ H R := by
  unfold bdO at e
  cases q : src ρ with
  | none => rw [q] at e; cases e
  | some oa =>
    rw [q] at e
    refine ⟨ρ, G, oa, w, q, ?_⟩
    cases oa with
    | ex c fs ρ' => cases e; exact hx c fs ρ' rfl
    | ok ds ρ1 => exact fun J G1 H1 s r => hk J ds ρ1 G1 H1 s r e
section
variable {g : Gd} {W : WX} {pr : Bool} {tg : EvG} {t : EvT} {fe : Ev} {own : List Nat} {σ : St} {H : Hp} {Q : VK} {src : EvA}
theorem lc_read (h : tD g W (cLc own src tg t fe) σ H Q) : tLc (tDI g W pr src) (tDG g (pnO own) pr tg) (tDT g W0 t) (tD g W0 fe) own σ H Q := by
  obtain ⟨ρ, G, o, w, e, p⟩ := h
  refine tD_bi w e p.exn fun J ds ρ1 G1 H1 s1 wk e1 => ?_
  split at e1
  case isFalse => cases e1
  rename_i hcalm
  intro D hD
  cases q0 : lcGo own tg t fe ds (wipeR ρ1 own) with
  | none => rw [q0] at e1; cases e1
  | some oy =>
  rw [q0] at e1
  cases oy with
  | ex c fs ρ' => cases e1
  | ok ys ρe =>
  cases e1
  have ww := wo_wipe (own := own) s1.wo
  refine ⟨fun i m Hi => m = ds.length - i ∧ i ≤ ds.length ∧ ∃ ρi Gi acc as, StE g (wipe σ own) (wipeR ρ1 own) G1 H1 ρi Gi Hi ∧ Hi D = some (.lst acc) ∧ Gi D = none ∧ RpAll g.K Gi acc as ∧ as.length ≤ i ∧
    ∃ rs, lcGo own tg t fe (ds.drop i) ρi = some (.ok rs ρe) ∧ as ++ rs = ys, ⟨ds.length, rfl, Nat.zero_le _, wipeR ρ1 own, G1, [], [], ww.step (grow_new ww.gh hD), upd_same, none_of_same ww.gh hD, .nil, Nat.le_refl _, ys, q0, rfl⟩, ?_⟩
  rintro i m Hi ⟨rfl, hi, ρi, Gi, acc, as, si, hDi, hGi, ra, hal, rs, er, eys⟩
  have noD : ∀ {ρ' G' H'}, StE g (wipe σ own) (wipeR ρ1 own) G1 H1 ρ' G' H' → ¬ Ow ρ' (wipe σ own) D := fun {ρ' G' H'} s z => by
    obtain ⟨_, xs, q⟩ := ww.at (s.owb z)
    rw [hD] at q; cases q
  by_cases hl : i < ds.length
  · have hd : ds[i]? = some ds[i] := by simp [hl]
    rw [List.drop_eq_getElem_cons hl] at er
    unfold lcGo at er
    refine .inr ⟨wk.go i _ Gi Hi hd si.gg si.wo.gh, fun H' => i + 1 ≤ ds.length ∧ ∃ ρi Gi acc as, StE g (wipe σ own) (wipeR ρ1 own) G1 H1 ρi Gi H' ∧ H' D = some (.lst acc) ∧ Gi D = none ∧ RpAll g.K Gi acc as ∧ as.length ≤ i + 1 ∧
      ∃ rs, lcGo own tg t fe (ds.drop (i + 1)) ρi = some (.ok rs ρe) ∧ as ++ rs = ys, fun H' q => ⟨ds.length - (i + 1), by omega, rfl, q⟩, fun x H3 y => ?_⟩
    obtain ⟨G3, gr, yo, rp⟩ := wk.yld i _ Gi Hi x H3 hd si.gg si.wo.gh y
    have s3 := si.wo.step gr
    have si3 := si.trans s3
    have hD3 : H3 D = some (.lst acc) := gr.hh _ _ hDi
    have hG3 : G3 D = none := gr.nc D hGi (by rw [hDi]; simp)
    cases q1 : tg ds[i] ρi with
    | none => rw [q1] at er; cases er
    | some ρ4 =>
    rw [q1] at er
    dsimp only at er
    refine ⟨ρi, G3, ds[i], ρ4, s3.wo, yo, rp, q1, fun σ4 s4 => ?_⟩
    have s14 := (si3.st (pn := pnO own)).trans s4
    have no4 : ∀ {ρ' G' H'}, StE g σ4 ρ4 G3 H3 ρ' G' H' → ¬ Ow ρ' σ4 D := fun {ρ' G' H'} s z => (s4.ow D (s.owb z)).elim (noD si3) fun q => by rw [hD3] at q; cases q
    have hwipe : wipe σ4 own = wipe σ own := by
      apply List.ext_getElem?
      intro j
      by_cases m : j ∈ own
      · have a1 : j < (wipe σ4 own).length ↔ j < (wipe σ own).length := by rw [wipe_length, s4.ln]
        have b1 : ∀ (τ : St), (wipe τ own)[j]? = if j < (wipe τ own).length then some none else none := fun τ => by
          cases q : (wipe τ own)[j]? with
          | none => rw [if_neg (by have := List.getElem?_eq_none_iff.mp q; omega)]
          | some v =>
            rw [if_pos (List.getElem?_eq_some_iff.mp q).1]
            cases v with
            | none => rfl
            | some u => exact absurd m (wipe_some q).2
        rw [b1, b1]
        by_cases h : j < (wipe σ own).length
        · rw [if_pos h, if_pos (a1.mpr h)]
        · rw [if_neg h, if_neg (fun z => h (a1.mp z))]
      · rw [wipe_out m, s4.kp j (pnO_of.mpr m)]
    refine ⟨hwipe, ?_⟩
    cases q2 : t ρ4 with
    | none => rw [q2] at er; cases er
    | some ob =>
    rw [q2] at er
    refine ⟨ρ4, G3, ob, s4.wo, q2, ?_⟩
    cases ob with
    | ex c fs ρ' => cases er
    | ok b ρ5 =>
    intro G5 H5 s5
    have hD5 : H5 D = some (.lst acc) := s5.fr D _ hD3 (no4 (StE.refl s4.wo)) (s4.wo.noT hD3)
    have hG5 : G5 D = none := s5.nc D hG3 (by rw [hD3]; simp) (no4 (StE.refl s4.wo))
    cases b with
    | false =>
      refine iteF ⟨hl, wipeR ρ5 own, G5, acc, as, (s14.trans s5.st).unblk, hD5, hG5, RpAll.mono (gr.gg.trans s5.gg) _ _ ra, by omega, rs, er, eys⟩
    | true =>
      dsimp only at er
      refine iteT ?_
      cases q6 : fe ρ5 with
      | none => rw [q6] at er; cases er
      | some oe =>
      rw [q6] at er
      refine ⟨ρ5, G5, oe, s5.wo, q6, ?_⟩
      cases oe with
      | ex c fs ρ' => cases er
      | ok r ρ6 =>
      intro yv G6' H6 s6' x6
      dsimp only at er
      cases q7 : pub r with
      | none => rw [q7] at er; cases er
      | some y7 =>
      rw [q7] at er
      dsimp only at er
      obtain ⟨G6, s6, ry⟩ := pub_ok s5.wo s6' x6 q7
      cases q8 : lcGo own tg t fe (ds.drop (i + 1)) (wipeR ρ6 own) with
      | none => rw [q8] at er; cases er
      | some o8 =>
      rw [q8] at er
      cases o8 with
      | ex c fs ρ' => cases er
      | ok rs8 ρ8 =>
      cases er
      have n5 := no4 s5
      have hD6 : H6 D = some (.lst acc) := s6.fr D _ hD5 n5 (s5.wo.noT hD5)
      have hG6 : G6 D = none := s6.nc D hG5 (by rw [hD5]; simp) n5
      have s16 := (s14.trans ((s5.trans s6).st)).unblk
      have len : acc.length = as.length := ra.len
      have hb := wk.len
      rw [big_eq] at hb
      refine ⟨acc, hD6, by omega, hl, wipeR ρ6 own, G6, acc ++ [yv], as ++ [y7], s16.addD hD hG6 ⟨acc, hD6⟩ (noD s16), upd_same, hG6, (RpAll.mono ((gr.gg.trans s5.gg).trans s6.gg) _ _ ra).app (.one ry), by rw [List.length_append]; show as.length + 1 ≤ i + 1; omega, rs8, q8, by rw [List.append_assoc]; exact eys⟩
  · have hi' : i = ds.length := by omega
    subst hi'
    rw [List.drop_length] at er
    cases er
    rw [List.append_nil] at eys
    subst eys
    refine .inl ⟨wk.stop Gi Hi si.gg si.wo.gh, p _ _ _ (s1.trans (si.unwipe s1.wo hcalm)) ⟨D, acc, rfl, s1.none_of hD, hGi, hDi, ra⟩⟩
end
end Rk
set_option Elab.async false
set_option linter.all false
set_option maxRecDepth 100000
set_option maxHeartbeats 4000000
namespace Rk
open PySem PySem.Spec PyProof.Rows L2
section
variable {g : Gd} {pn pn' : Pin} {σ σ1 : St} {ρ ρ1 : Rho} {G H G1 H1 : Hp}
theorem StS.weak (s : StS g pn σ ρ G H σ1 ρ1 G1 H1) (h : ∀ i, pn' i = true → pn i = true) : StS g pn' σ ρ G H σ1 ρ1 G1 H1 :=
  ⟨s.gg, s.wo, s.fr, s.al, s.nc, s.ow, fun i q => s.kp i (h i q), fun i q => s.sw i (h i q), s.ln⟩
theorem StS.addD {D : Addr} {xs : List V} (n : H D = none) (nG : G1 D = none) (hD : ∃ ys, H1 D = some (.lst ys)) (no : ¬ Ow ρ1 σ1 D) (s : StS g pn σ ρ G H σ1 ρ1 G1 H1) : StS g pn σ ρ G H σ1 ρ1 G1 (upd H1 D (.lst xs)) := by
  obtain ⟨ys, hD⟩ := hD
  have neG : ∀ b o, G1 b = some o → b ≠ D := fun b o q z => by subst z; rw [nG] at q; cases q
  refine ⟨s.gg, ⟨fun b o q => by rw [upd_ne (neG b o q)]; exact s.wo.gh b o q, s.wo.len, fun i sl e => ?_, s.wo.dj, fun P hP => ?_⟩, fun a o h nn t => ?_, fun a h => ?_, s.nc, s.ow, s.kp, s.sw, s.ln⟩
  · refine (s.wo.sl i sl e).mono (Same.refl _) fun a zs ea h1 h2 ⟨ds, q⟩ => ⟨h1, ?_⟩
    subst q
    have : a ≠ D := fun z => by subst z; exact no ⟨i, ds, e, get_join ea⟩
    rw [upd_ne this]; exact h2
  · obtain ⟨h1, ps, h2, h3⟩ := s.wo.tb P hP
    have : P ≠ D := fun z => by subst z; rw [hD] at h2; cases h2
    exact ⟨h1, ps, by rw [upd_ne this]; exact h2, h3.1, h3.2.upd (lst_ne hD)⟩
  · have : a ≠ D := fun z => by subst z; rw [n] at h; cases h
    rw [upd_ne this]
    exact s.fr a o h nn t
  · by_cases z : a = D
    · subst z; rw [upd_same]; simp
    · rw [upd_ne z]; exact s.al a h
/-- the slots forgotten, as a step -/
theorem st_wipe {own : List Nat} (w : Wo g σ ρ G H) (hp : ∀ i, pn i = true → i ∉ own) : StS g pn σ ρ G H (wipe σ own) (wipeR ρ own) G H :=
  ⟨Same.refl _, wo_wipe w, fun _ _ h _ _ => h, fun _ h => h, fun _ h _ _ => h, fun a h => .inl (let ⟨i, ds, _, h1, h2⟩ := ow_wipe h; ⟨i, ds, h1, h2⟩), fun i h => wipe_out (hp i h), fun i h ds e => by rw [wipeR_out (hp i h)] at e; exact ⟨ds, e⟩, wipe_length _ _⟩
theorem wipe_eq {own : List Nat} {σ σ4 : St} (hl : σ4.length = (wipe σ own).length) (h : ∀ j, j ∉ own → σ4[j]? = (wipe σ own)[j]?) : wipe σ4 own = wipe σ own := by
  apply List.ext_getElem?
  intro j
  by_cases m : j ∈ own
  · have a1 : j < (wipe σ4 own).length ↔ j < (wipe σ own).length := by rw [wipe_length, hl]
    have b1 : ∀ (τ : St), (wipe τ own)[j]? = if j < (wipe τ own).length then some none else none := fun τ => by
      cases q : (wipe τ own)[j]? with
      | none => rw [if_neg (by have := List.getElem?_eq_none_iff.mp q; omega)]
      | some v =>
        rw [if_pos (List.getElem?_eq_some_iff.mp q).1]
        cases v with
        | none => rfl
        | some u => exact absurd m (wipe_some q).2
    rw [b1, b1]
    by_cases h : j < (wipe σ own).length
    · rw [if_pos h, if_pos (a1.mpr h)]
    · rw [if_neg h, if_neg (fun z => h (a1.mp z))]
  · rw [wipe_out m, h j m]
end
section
variable {g : Gd} {pr : Bool} {tg : EvG} {t : EvT} {fe : Ev} {own : List Nat} {pn : Pin} {σ τ : St} {ρ0 ρ2 ρe : Rho} {G0 H0 G2 H2 : Hp} {D : Addr} {acc0 : List V} {as0 rs : List PyData} {J : It} {ds : List PyData} {Nx : Hp → Prop}
/-- an inner clause -/
theorem lc_in (hn0 : H0 D = none) (hp : ∀ i, pn i = true → i ∉ own) (s2 : StS g pn τ ρ0 G0 H0 (wipe σ own) ρ2 G2 H2) (hD2 : H2 D = some (.lst acc0)) (hG2 : G2 D = none) (no2 : ¬ Ow ρ2 (wipe σ own) D) (ra2 : RpAll g.K G2 acc0 as0)
    (wk : Wk g G2 pr ds J) (er2 : lcGo own tg t fe ds ρ2 = some (.ok rs ρe)) (hbig : (as0 ++ rs).length ≤ big)
    (hend : ∀ Ge He acc, StS g pn τ ρ0 G0 H0 (wipe σ own) ρe Ge He → He D = some (.lst acc) → Ge D = none → ¬ Ow ρe (wipe σ own) D → RpAll g.K Ge acc (as0 ++ rs) → Nx He) :
    ∃ W1 : Nat → Nat → Hp → Prop, (∃ m, W1 0 m H2) ∧ ∀ j k H, W1 j k H →
      (J.stop j H ∧ Nx H) ∨ (J.go j H ∧ ∃ Nx1 : Hp → Prop, (∀ H', Nx1 H' → ∃ k', k' < k ∧ W1 (j + 1) k' H') ∧ ∀ x H', J.yld j H x H' → tDG g (pnO own) pr tg x (wipe σ own) H' fun σ3 H5 => wipe σ3 own = wipe σ own ∧ tDT g W0 t σ3 H5 fun b H6 =>
        if b = true then tD g W0 fe σ3 H6 fun y H7 => ∃ acc, H7 D = some (.lst acc) ∧ acc.length < sizeLine ∧ Nx1 (upd H7 D (.lst (acc ++ [y]))) else Nx1 H6) := by
  refine ⟨fun i m Hi => m = ds.length - i ∧ i ≤ ds.length ∧ ∃ ρi Gi acc as, (StS g pn τ ρ0 G0 H0 (wipe σ own) ρi Gi Hi ∧ Same G2 Gi) ∧ Hi D = some (.lst acc) ∧ Gi D = none ∧ ¬ Ow ρi (wipe σ own) D ∧ RpAll g.K Gi acc as ∧
    ∃ rs', lcGo own tg t fe (ds.drop i) ρi = some (.ok rs' ρe) ∧ as ++ rs' = as0 ++ rs, ⟨ds.length, rfl, Nat.zero_le _, ρ2, G2, acc0, as0, ⟨s2, Same.refl _⟩, hD2, hG2, no2, ra2, rs, er2, rfl⟩, ?_⟩
  rintro i m Hi ⟨rfl, hi, ρi, Gi, acc, as, ⟨si, gg2⟩, hDi, hGi, noi, ra, rs', er, eys⟩
  by_cases hl : i < ds.length
  · have hd : ds[i]? = some ds[i] := by simp [hl]
    rw [List.drop_eq_getElem_cons hl] at er
    unfold lcGo at er
    refine .inr ⟨wk.go i _ Gi Hi hd gg2 si.wo.gh, fun H' => i + 1 ≤ ds.length ∧ ∃ ρi Gi acc as, (StS g pn τ ρ0 G0 H0 (wipe σ own) ρi Gi H' ∧ Same G2 Gi) ∧ H' D = some (.lst acc) ∧ Gi D = none ∧ ¬ Ow ρi (wipe σ own) D ∧ RpAll g.K Gi acc as ∧
      ∃ rs', lcGo own tg t fe (ds.drop (i + 1)) ρi = some (.ok rs' ρe) ∧ as ++ rs' = as0 ++ rs, fun H' q => ⟨ds.length - (i + 1), by omega, rfl, q⟩, fun x H3 y => ?_⟩
    obtain ⟨G3, gr, yo, rp⟩ := wk.yld i _ Gi Hi x H3 hd gg2 si.wo.gh y
    have s3 := si.wo.step gr
    have hD3 : H3 D = some (.lst acc) := gr.hh _ _ hDi
    have hG3 : G3 D = none := gr.nc D hGi (by rw [hDi]; simp)
    cases q1 : tg ds[i] ρi with
    | none => rw [q1] at er; cases er
    | some ρ4 =>
    rw [q1] at er
    dsimp only at er
    refine ⟨ρi, G3, ds[i], ρ4, s3.wo, yo, rp, q1, fun σ4 s4 => ?_⟩
    have no4 : ∀ {ρ' G' H'}, StE g σ4 ρ4 G3 H3 ρ' G' H' → ¬ Ow ρ' σ4 D := fun {ρ' G' H'} s z => (s4.ow D (s.owb z)).elim noi fun q => by rw [hD3] at q; cases q
    have hwipe : wipe σ4 own = wipe σ own := wipe_eq s4.ln fun j m => s4.kp j (pnO_of.mpr m)
    -- a turn's end
    have turn : ∀ {ρ5 : Rho} {G5 H5 : Hp}, StE g σ4 ρ4 G3 H3 ρ5 G5 H5 → StS g pn τ ρ0 G0 H0 (wipe σ own) (wipeR ρ5 own) G5 H5 ∧ ¬ Ow (wipeR ρ5 own) (wipe σ own) D := fun {ρ5 G5 H5} s5 => by
      have s14 := (s3.st (pn := pnO own)).trans (s4.trans s5.st)
      have u := s14.unblk
      refine ⟨si.trans (u.st (pn := pn)), fun z => ?_⟩
      exact noi (u.owb z)
    refine ⟨hwipe, ?_⟩
    cases q2 : t ρ4 with
    | none => rw [q2] at er; cases er
    | some ob =>
    rw [q2] at er
    refine ⟨ρ4, G3, ob, s4.wo, q2, ?_⟩
    cases ob with
    | ex c fs ρ' => cases er
    | ok b ρ5 =>
    intro G5 H5 s5
    have hD5 : H5 D = some (.lst acc) := s5.fr D _ hD3 (no4 (StE.refl s4.wo)) (s4.wo.noT hD3)
    have hG5 : G5 D = none := s5.nc D hG3 (by rw [hD3]; simp) (no4 (StE.refl s4.wo))
    have gg5 : Same Gi G5 := gr.gg.trans (s4.gg.trans s5.gg)
    cases b with
    | false =>
      obtain ⟨t1, t2⟩ := turn s5
      exact iteF ⟨hl, wipeR ρ5 own, G5, acc, as, ⟨t1, gg2.trans gg5⟩, hD5, hG5, t2, RpAll.mono gg5 _ _ ra, rs', er, eys⟩
    | true =>
      dsimp only at er
      refine iteT ?_
      cases q6 : fe ρ5 with
      | none => rw [q6] at er; cases er
      | some oe =>
      rw [q6] at er
      refine ⟨ρ5, G5, oe, s5.wo, q6, ?_⟩
      cases oe with
      | ex c fs ρ' => cases er
      | ok r ρ6 =>
      intro yv G6' H6 s6' x6
      dsimp only at er
      cases q7 : pub r with
      | none => rw [q7] at er; cases er
      | some y7 =>
      rw [q7] at er
      dsimp only at er
      obtain ⟨G6, s6, ry⟩ := pub_ok s5.wo s6' x6 q7
      cases q8 : lcGo own tg t fe (ds.drop (i + 1)) (wipeR ρ6 own) with
      | none => rw [q8] at er; cases er
      | some o8 =>
      rw [q8] at er
      cases o8 with
      | ex c fs ρ' => cases er
      | ok rs8 ρ8 =>
      cases er
      have n5 := no4 s5
      have hD6 : H6 D = some (.lst acc) := s6.fr D _ hD5 n5 (s5.wo.noT hD5)
      have hG6 : G6 D = none := s6.nc D hG5 (by rw [hD5]; simp) n5
      obtain ⟨t1, t2⟩ := turn (s5.trans s6)
      have len : acc.length = as.length := ra.len
      have gg6 := gg5.trans s6.gg
      have hlen : as.length + (rs8.length + 1) ≤ big := by
        rw [← eys, List.length_append] at hbig
        exact hbig
      rw [big_eq] at hlen
      exact ⟨acc, hD6, by omega, hl, wipeR ρ6 own, G6, acc ++ [yv], as ++ [y7], ⟨t1.addD hn0 hG6 ⟨acc, hD6⟩ t2, gg2.trans gg6⟩, upd_same, hG6, t2, (RpAll.mono gg6 _ _ ra).app (.one ry), rs8, q8, by rw [List.append_assoc]; exact eys⟩
  · have hi' : i = ds.length := by omega
    subst hi'
    rw [List.drop_length] at er
    cases er
    rw [List.append_nil] at eys
    rw [eys] at ra
    exact .inl ⟨wk.stop Gi Hi gg2 si.wo.gh, hend Gi Hi acc si hDi hGi noi ra⟩
end
def lcGo2 (own own1 : List Nat) (tg : EvG) (t : EvT) (src1 : EvA) (tg1 : EvG) (t1 : EvT) (fe : Ev) : List D → Rho → Option (Oc (List D))
  | [], ρ => some (.ok [] ρ)
  | d :: ds, ρ => match tg d ρ with
    | none => none
    | some ρ2 => match t ρ2 with
      | some (.ok true ρ3) => (match src1 ρ3 with
        | some (.ok es ρ4) => (match lcGo own1 tg1 t1 fe es (wipeR ρ4 own1) with
          | some (.ok xs ρ5) => (match lcGo2 own own1 tg t src1 tg1 t1 fe ds (wipeR ρ5 own) with
            | some (.ok ys ρ6) => some (.ok (xs ++ ys) ρ6)
            | _ => none)
          | _ => none)
        | _ => none)
      | some (.ok false ρ3) => lcGo2 own own1 tg t src1 tg1 t1 fe ds (wipeR ρ3 own)
      | _ => none
def cLc2 (own own1 : List Nat) (src : EvA) (tg : EvG) (t : EvT) (src1 : EvA) (tg1 : EvG) (t1 : EvT) (fe : Ev) : Ev := fun ρ => bdO (src ρ) fun ds ρ1 => if calmO ρ1 own then (match lcGo2 own own1 tg t src1 tg1 t1 fe ds (wipeR ρ1 own) with
  | some (.ok ys ρe) => if ys.length ≤ big then some (.ok (.ow ys) (backR ρ1 ρe own)) else none
  | _ => none) else none
theorem wipe_wipe {own own1 : List Nat} (h : ∀ i ∈ own1, i ∈ own) (σ : St) : wipe (wipe σ own1) own = wipe σ own := by
  apply List.ext_getElem?
  intro j
  by_cases m : j ∈ own
  · have b1 : ∀ (τ : St), (wipe τ own)[j]? = if j < τ.length then some none else none := fun τ => by
      cases q : (wipe τ own)[j]? with
      | none => rw [if_neg (by have := List.getElem?_eq_none_iff.mp q; rw [wipe_length] at this; omega)]
      | some v =>
        rw [if_pos (by have := (List.getElem?_eq_some_iff.mp q).1; rw [wipe_length] at this; exact this)]
        cases v with
        | none => rfl
        | some u => exact absurd m (wipe_some q).2
    rw [b1, b1, wipe_length]
  · rw [wipe_out m, wipe_out m, wipe_out (fun z => m (h j z))]
section
variable {g : Gd} {W : WX} {pr pr1 : Bool} {tg tg1 : EvG} {t t1 : EvT} {fe : Ev} {own own1 : List Nat} {σ : St} {H : Hp} {Q : VK} {src src1 : EvA}
theorem lc2_read (hsub : ∀ i ∈ own1, i ∈ own) (h : tD g W (cLc2 own own1 src tg t src1 tg1 t1 fe) σ H Q) : tLc2 (tDI g W pr src) (tDG g (pnO own) pr tg) (tDT g W0 t) (tDI g W0 pr1 src1) (tDG g (pnO own1) pr1 tg1) (tDT g W0 t1) (tD g W0 fe) own own1 σ H Q := by
  obtain ⟨ρ, G, o, w, e, p⟩ := h
  refine tD_bi w e p.exn fun J ds ρ1 G1 H1 s1 wk e1 => ?_
  split at e1
  case isFalse => cases e1
  rename_i hcalm
  intro D hD
  cases q0 : lcGo2 own own1 tg t src1 tg1 t1 fe ds (wipeR ρ1 own) with
  | none => rw [q0] at e1; cases e1
  | some oy =>
  rw [q0] at e1
  cases oy with
  | ex c fs ρ' => cases e1
  | ok ys ρe =>
  dsimp only at e1
  split at e1
  case isFalse => cases e1
  rename_i hbig
  cases e1
  have ww := wo_wipe (own := own) s1.wo
  refine ⟨fun i m Hi => m = ds.length - i ∧ i ≤ ds.length ∧ ∃ ρi Gi acc as, StE g (wipe σ own) (wipeR ρ1 own) G1 H1 ρi Gi Hi ∧ Hi D = some (.lst acc) ∧ Gi D = none ∧ RpAll g.K Gi acc as ∧
    ∃ rs, lcGo2 own own1 tg t src1 tg1 t1 fe (ds.drop i) ρi = some (.ok rs ρe) ∧ as ++ rs = ys, ⟨ds.length, rfl, Nat.zero_le _, wipeR ρ1 own, G1, [], [], ww.step (grow_new ww.gh hD), upd_same, none_of_same ww.gh hD, .nil, ys, q0, rfl⟩, ?_⟩
  rintro i m Hi ⟨rfl, hi, ρi, Gi, acc, as, si, hDi, hGi, ra, rs, er, eys⟩
  have noD : ∀ {ρ' G' H'}, StE g (wipe σ own) (wipeR ρ1 own) G1 H1 ρ' G' H' → ¬ Ow ρ' (wipe σ own) D := fun {ρ' G' H'} s z => by
    obtain ⟨_, xs, q⟩ := ww.at (s.owb z)
    rw [hD] at q; cases q
  by_cases hl : i < ds.length
  · have hd : ds[i]? = some ds[i] := by simp [hl]
    rw [List.drop_eq_getElem_cons hl] at er
    unfold lcGo2 at er
    refine .inr ⟨wk.go i _ Gi Hi hd si.gg si.wo.gh, fun H' => i + 1 ≤ ds.length ∧ ∃ ρi Gi acc as, StE g (wipe σ own) (wipeR ρ1 own) G1 H1 ρi Gi H' ∧ H' D = some (.lst acc) ∧ Gi D = none ∧ RpAll g.K Gi acc as ∧
      ∃ rs, lcGo2 own own1 tg t src1 tg1 t1 fe (ds.drop (i + 1)) ρi = some (.ok rs ρe) ∧ as ++ rs = ys, fun H' q => ⟨ds.length - (i + 1), by omega, rfl, q⟩, fun x H3 y => ?_⟩
    obtain ⟨G3, gr, yo, rp⟩ := wk.yld i _ Gi Hi x H3 hd si.gg si.wo.gh y
    have s3 := si.wo.step gr
    have si3 := si.trans s3
    have hD3 : H3 D = some (.lst acc) := gr.hh _ _ hDi
    have hG3 : G3 D = none := gr.nc D hGi (by rw [hDi]; simp)
    cases q1 : tg ds[i] ρi with
    | none => rw [q1] at er; cases er
    | some ρ4 =>
    rw [q1] at er
    dsimp only at er
    refine ⟨ρi, G3, ds[i], ρ4, s3.wo, yo, rp, q1, fun σ4 s4 => ?_⟩
    have s14 := (si3.st (pn := pnO own)).trans s4
    have no4 : ∀ {ρ' G' H'}, StE g σ4 ρ4 G3 H3 ρ' G' H' → ¬ Ow ρ' σ4 D := fun {ρ' G' H'} s z => (s4.ow D (s.owb z)).elim (noD si3) fun q => by rw [hD3] at q; cases q
    have hwipe : wipe σ4 own = wipe σ own := wipe_eq s4.ln fun j m => s4.kp j (pnO_of.mpr m)
    refine ⟨hwipe, ?_⟩
    cases q2 : t ρ4 with
    | none => rw [q2] at er; cases er
    | some ob =>
    rw [q2] at er
    refine ⟨ρ4, G3, ob, s4.wo, q2, ?_⟩
    cases ob with
    | ex c fs ρ' => cases er
    | ok b ρ5 =>
    intro G5 H5 s5
    have hD5 : H5 D = some (.lst acc) := s5.fr D _ hD3 (no4 (StE.refl s4.wo)) (s4.wo.noT hD3)
    have hG5 : G5 D = none := s5.nc D hG3 (by rw [hD3]; simp) (no4 (StE.refl s4.wo))
    cases b with
    | false =>
      exact iteF ⟨hl, wipeR ρ5 own, G5, acc, as, (s14.trans s5.st).unblk, hD5, hG5, RpAll.mono (gr.gg.trans (s4.gg.trans s5.gg)) _ _ ra, rs, er, eys⟩
    | true =>
      dsimp only at er
      refine iteT ?_
      cases q6 : src1 ρ5 with
      | none => rw [q6] at er; cases er
      | some oe =>
      rw [q6] at er
      refine ⟨ρ5, G5, oe, s5.wo, q6, ?_⟩
      cases oe with
      | ex c fs ρ' => cases er
      | ok es ρ6 =>
      intro J1 G6 H6 s6 wk1
      dsimp only at er
      cases q7 : lcGo own1 tg1 t1 fe es (wipeR ρ6 own1) with
      | none => rw [q7] at er; cases er
      | some o7 =>
      rw [q7] at er
      cases o7 with
      | ex c fs ρ' => cases er
      | ok xs7 ρ7 =>
      dsimp only at er
      cases q8 : lcGo2 own own1 tg t src1 tg1 t1 fe (ds.drop (i + 1)) (wipeR ρ7 own) with
      | none => rw [q8] at er; cases er
      | some o8 =>
      rw [q8] at er
      cases o8 with
      | ex c fs ρ' => cases er
      | ok rs8 ρ8 =>
      cases er
      have n5 := no4 s5
      have n6 := no4 (s5.trans s6)
      have hD6 : H6 D = some (.lst acc) := s6.fr D _ hD5 n5 (s5.wo.noT hD5)
      have hG6 : G6 D = none := s6.nc D hG5 (by rw [hD5]; simp) n5
      have s16 := s14.trans ((s5.trans s6).st (pn := pnO own))
      have hp : ∀ j, pnO own j = true → j ∉ own1 := fun j q m => pnO_of.mp q (hsub j m)
      have s17 := s16.trans (st_wipe s6.wo hp)
      have n17 : ¬ Ow (wipeR ρ6 own1) (wipe σ4 own1) D := fun z => by
        obtain ⟨j, es', _, h1, h2⟩ := ow_wipe z
        exact n6 ⟨j, es', h1, h2⟩
      have hb2 : (as ++ xs7).length ≤ big := by
        rw [← eys, List.length_append, List.length_append] at hbig
        rw [List.length_append]
        omega
      refine lc_in (σ := σ4) (own := own1) (Nx := fun H' => i + 1 ≤ ds.length ∧ _) hD hp s17 hD6 hG6 n17 (RpAll.mono (gr.gg.trans (s4.gg.trans (s5.gg.trans s6.gg))) _ _ ra) wk1 q7 hb2 fun Ge He acc' se hDe hGe noe rae => ?_
      have u := (se.trans (st_wipe (own := own) (pn := pnO own) se.wo fun j q => pnO_of.mp q))
      rw [wipe_wipe hsub, hwipe] at u
      refine ⟨hl, wipeR ρ7 own, Ge, acc', as ++ xs7, ?_, hDe, hGe, rae, rs8, q8, by rw [List.append_assoc]; exact eys⟩
      have := (se.unblk (own := own) (ρe := ρ7))
      exact this
  · have hi' : i = ds.length := by omega
    subst hi'
    rw [List.drop_length] at er
    cases er
    rw [List.append_nil] at eys
    subst eys
    refine .inl ⟨wk.stop Gi Hi si.gg si.wo.gh, p _ _ _ (s1.trans (si.unwipe s1.wo hcalm)) ⟨D, acc, rfl, s1.none_of hD, hGi, hDi, ra⟩⟩
end
end Rk
set_option Elab.async false
set_option linter.all false
set_option maxRecDepth 100000
set_option maxHeartbeats 4000000
namespace Rk
open PySem PySem.Spec PyProof.Rows L2
/-- a rule holds in each block of the comprehension -/
def Blk (X : Cx) (scope : Scope) (φ : Cx → Prop) : Prop := ∀ (s : Shared) (H : Hp) (C : Addr) (cl : List (Str × Addr)) (fp : List Addr), φ (X.blk s H scope (compEnvC scope cl C X.env) fp)
section
variable {X : Cx} {g : Gd} {W : WX} {pr pr1 : Bool} {tg tg1 : EvG} {t t1 : EvT} {fe : Ev} {own : List (Str × Nat)} {own1 : List Nat} {src src1 : EvA} {elt te iter te1 iter1 : Expr} {ifs ifs1 : List Expr} {scope : Scope} {pos : Pos}
theorem b_nil : PTs X [] (tDT g W yes) := ⟨fun pins s σ H Q I ⟨ρ, G, o, w, e, p⟩ => pts_nil.run pins s σ H Q I (by cases e; exact p _ _ (StE.refl w))⟩
theorem b_one {c : Expr} (h : PT X c (tDT g W t)) : PTs X [c] (tDT g W t) := pts_one h
theorem e_lc (hc : X.calm = true) (hN : X.N.Nodup) (hi : PI X te iter (tDI g W pr src)) (ok : BlkOk X.N X.env.scope scope own) (hg : Blk X scope fun Y => PG Y te (tDG g (pnO (own.map (·.2))) pr tg)) (ht : Blk X scope fun Y => PTs Y ifs (tDT g W0 t))
    (he : Blk X scope fun Y => PE Y elt (tD g W0 fe)) (hs : ∀ x, foldedSetIterable iter X.env x = pure x) : PE X (.ListComp elt [⟨te, iter, ifs, 0⟩] scope pos) (tD g W (cLc (own.map (·.2)) src tg t fe)) :=
  (pe_lc hc hN hi ok hg ht he hs).imp fun σ H Q h => lc_read h
theorem e_lc2 (hc : X.calm = true) (hN : X.N.Nodup) (hi : PI X te iter (tDI g W pr src)) (ok : BlkOk X.N X.env.scope scope own) (hv : ∀ i ∈ own1, i ∈ own.map (·.2)) (hg : Blk X scope fun Y => PG Y te (tDG g (pnO (own.map (·.2))) pr tg)) (ht : Blk X scope fun Y => PTs Y ifs (tDT g W0 t))
    (hi1 : Blk X scope fun Y => PI Y te1 iter1 (tDI g W0 pr1 src1)) (hg1 : Blk X scope fun Y => PG Y te1 (tDG g (pnO own1) pr1 tg1)) (ht1 : Blk X scope fun Y => PTs Y ifs1 (tDT g W0 t1))
    (he : Blk X scope fun Y => PE Y elt (tD g W0 fe)) (hs : ∀ x, foldedSetIterable iter X.env x = pure x) (hs1 : ∀ env x, foldedSetIterable iter1 env x = pure x) :
    PE X (.ListComp elt [⟨te, iter, ifs, 0⟩, ⟨te1, iter1, ifs1, 0⟩] scope pos) (tD g W (cLc2 (own.map (·.2)) own1 src tg t src1 tg1 t1 fe)) :=
  (pe_lc2 hc hN hi ok hv hg ht hi1 hg1 ht1 he hs hs1).imp fun σ H Q h => lc2_read hv h
variable {pn : Pin}
theorem set_read {i : Nat} {f : Ev} {D : Ends} {σ : St} {H : Hp} (hp : pn i = false) (h : tDS g W pn (sSet i f) D σ H) : tD g W f σ H (fun x H1 => gName i x σ H1 D.nx) := by
  obtain ⟨ρ, G, o, w, eq, p⟩ := h
  refine tS_bs w eq p.exn fun v r ρ1 G1 H1 s x e1 => ?_
  split at e1
  · rename_i hc
    cases e1
    rw [Bool.and_eq_true, decide_eq_true_eq] at hc
    exact p _ _ _ (s.store w x hc.1 hp hc.2)
  · cases e1
theorem s_setLc {i : Nat} {y : Str} {py spos : Pos} (hp : pn i = false) (hc : X.calm = true) (hN : X.N.Nodup) (hy : X.N[i]? = some y) (hyl : X.env.scope.names.lookup y = some .local)
    (hsw : swapsWith (.ListComp elt [⟨te, iter, ifs, 0⟩] scope pos) (some (.Name y py)) spos.line X.env = pure true) (hi : PI X te iter (tDI g W pr src)) (ok : BlkOk X.N X.env.scope scope own) (hg : Blk X scope fun Y => PG Y te (tDG g (pnO (own.map (·.2))) pr tg)) (ht : Blk X scope fun Y => PTs Y ifs (tDT g W0 t))
    (he : Blk X scope fun Y => PE Y elt (tD g W0 fe)) (hs : ∀ x, foldedSetIterable iter X.env x = pure x) : PS X (.Assign [.Name y py] (.ListComp elt [⟨te, iter, ifs, 0⟩] scope pos) spos) (tDS g W pn (sSet i (cLc (own.map (·.2)) src tg t fe))) :=
  (ps_setLc hc hN hy hyl hsw hi ok hg ht he hs).imp fun D σ H h => lc_read (set_read hp h)
theorem s_setLc2 {i : Nat} {y : Str} {py spos : Pos} (hp : pn i = false) (hc : X.calm = true) (hN : X.N.Nodup) (hy : X.N[i]? = some y) (hyl : X.env.scope.names.lookup y = some .local)
    (hsw : swapsWith (.ListComp elt [⟨te, iter, ifs, 0⟩, ⟨te1, iter1, ifs1, 0⟩] scope pos) (some (.Name y py)) spos.line X.env = pure true) (hi : PI X te iter (tDI g W pr src)) (ok : BlkOk X.N X.env.scope scope own) (hv : ∀ i ∈ own1, i ∈ own.map (·.2))
    (hg : Blk X scope fun Y => PG Y te (tDG g (pnO (own.map (·.2))) pr tg)) (ht : Blk X scope fun Y => PTs Y ifs (tDT g W0 t))
    (hi1 : Blk X scope fun Y => PI Y te1 iter1 (tDI g W0 pr1 src1)) (hg1 : Blk X scope fun Y => PG Y te1 (tDG g (pnO own1) pr1 tg1)) (ht1 : Blk X scope fun Y => PTs Y ifs1 (tDT g W0 t1))
    (he : Blk X scope fun Y => PE Y elt (tD g W0 fe)) (hs : ∀ x, foldedSetIterable iter X.env x = pure x) (hs1 : ∀ env x, foldedSetIterable iter1 env x = pure x) :
    PS X (.Assign [.Name y py] (.ListComp elt [⟨te, iter, ifs, 0⟩, ⟨te1, iter1, ifs1, 0⟩] scope pos) spos) (tDS g W pn (sSet i (cLc2 (own.map (·.2)) own1 src tg t src1 tg1 t1 fe))) :=
  (ps_setLc2 hc hN hy hyl hsw hi ok hv hg ht hi1 hg1 ht1 he hs hs1).imp fun D σ H h => lc2_read hv (set_read hp h)
/-- .. where the name is captured: stored behind -/
theorem s_setC {i : Nat} {x : Str} {p2 : Pos} {e : Expr} (hN : X.N.Nodup) (hi : X.N[i]? = some x) (hx : Loc X.env.scope x) (hf : X.fn x = true ∨ X.env.scope.names.lookup x = some .local) (hp : pn i = false) (he : PE X e (tD g W fe)) (hsw : swapsWith e (some (.Name x p2)) pos.line X.env = pure false) :
    PS X (.Assign [.Name x p2] e pos) (tDS g W pn (sSet i fe)) := (ps_set hN hi hx he hsw hf).imp fun D σ H h => set_read hp h
end
end Rk
set_option Elab.async false
set_option linter.all false
set_option maxRecDepth 100000
set_option maxHeartbeats 4000000
namespace Rk
open PySem PySem.Spec PyProof.Rows L2
def isOw : Sl → Bool
  | .ow _ => true
  | _ => false
def noOw (as : Rho) : Bool := as.all fun s => !isOw s
/-- slot 0 stays, where the def works on its first argument's list -/
def pinF (own : Bool) : Pin := fun i => own && decide (i = 0)
def argBack (as ρ' : Rho) : Rho := match as with
  | .ow ds :: rest => (match ρ'[0]? with
    | some s => s :: rest
    | none => .ow ds :: rest)
  | as => as
def okArgs (own : Bool) : Rho → Bool
  | .ow _ :: rest => own && noOw rest
  | as => noOw as
def endF (as : Rho) : So → Option (Oc Sl)
  | .nx ρ' => some (.ok (.sh .none) (argBack as ρ'))
  | .rt r ρ' => some (.ok r (argBack as ρ'))
  | .ex c fs ρ' => some (.ex c fs (argBack as ρ'))
  | _ => none
def defSem (own : Bool) (ar n : Nat) (f : EvS) : Ev := fun as => if okArgs own as && decide (as.length = ar) then (match f (as ++ List.replicate (n - ar) .un) with
  | some o => endF as o
  | none => none) else none
theorem noOw_at {as : Rho} {i : Nat} {ds : List D} (h : noOw as = true) : as[i]? ≠ some (.ow ds) := fun e => by
  unfold noOw at h
  rw [List.all_eq_true] at h
  have := h _ (List.mem_of_getElem? e)
  cases this
section
variable {g : Gd} {N : List Str} {vs : List V} {as ρ' : Rho} {G H G' H' : Hp} {own : Bool} {σ' : St}
theorem start_lt {i : Nat} (h : i < vs.length) : (L2.start N vs)[i]? = (vs.map some)[i]? := by
  unfold L2.start
  rw [List.getElem?_append_left (by simpa using h)]
theorem wo_start (w : Wo g (vs.map some) as G H) (hn : vs.length ≤ N.length) : Wo g (L2.start N vs) (as ++ List.replicate (N.length - vs.length) .un) G H := by
  have hl : vs.length = as.length := by have := w.len; simpa using this
  have cut : ∀ (i : Nat) (s : Sl), (as ++ List.replicate (N.length - vs.length) .un)[i]? = some s → (i < as.length ∧ as[i]? = some s) ∨ s = .un := fun i s e => by
    by_cases h : i < as.length
    · rw [List.getElem?_append_left h] at e
      exact .inl ⟨h, e⟩
    · rw [List.getElem?_append_right (by omega)] at e
      have := List.mem_of_getElem? e
      exact .inr (List.eq_of_mem_replicate this)
  refine ⟨w.gh, by simp [L2.start, hl], fun i s e => ?_, fun i j a d1 d2 e1 e2 e3 e4 => ?_, w.tb⟩
  · rcases cut i s e with ⟨h, q⟩ | q
    · rw [start_lt (by omega)]
      exact w.sl i s q
    · subst q; trivial
  · rcases cut i _ e1 with ⟨h1, q1⟩ | q
    · rcases cut j _ e2 with ⟨h2, q2⟩ | q
      · rw [start_lt (by omega)] at e3
        rw [start_lt (by omega)] at e4
        exact w.dj i j a d1 d2 q1 q2 e3 e4
      · cases q
    · cases q
theorem ow_start {a : Addr} (w : Wo g (vs.map some) as G H) (h : Ow (as ++ List.replicate (N.length - vs.length) .un) (L2.start N vs) a) : Ow as (vs.map some) a := by
  have hl : vs.length = as.length := by have := w.len; simpa using this
  obtain ⟨i, ds, e1, e2⟩ := h
  by_cases h : i < as.length
  · rw [List.getElem?_append_left h] at e1
    rw [start_lt (by omega)] at e2
    exact ⟨i, ds, e1, e2⟩
  · rw [List.getElem?_append_right (by omega)] at e1
    have := List.mem_of_getElem? e1
    cases List.eq_of_mem_replicate this
/-- at the end of the body: the arguments -/
theorem StS.args (w : Wo g (vs.map some) as G H) (ho : okArgs own as = true) (hn : vs.length ≤ N.length) (s : StS g (pinF own) (L2.start N vs) (as ++ List.replicate (N.length - vs.length) .un) G H σ' ρ' G' H') :
    StE g (vs.map some) as G H (argBack as ρ') G' H' := by
  have hl : vs.length = as.length := by have := w.len; simpa using this
  have up : ∀ a, ¬ Ow as (vs.map some) a → ¬ Ow (as ++ List.replicate (N.length - vs.length) .un) (L2.start N vs) a := fun a n z => n (ow_start w z)
  have ks : ∀ (i : Nat) (s1 : Sl), as[i]? = some s1 → (∀ ds, s1 ≠ .ow ds) → SlOk g G' H' (((vs.map some)[i]?).join) s1 := fun i s1 e ne =>
    (w.sl i s1 e).mono s.gg fun a xs _ _ _ ⟨ds, q⟩ => absurd q (ne ds)
  cases as with
  | nil =>
    refine ⟨s.gg, ⟨s.wo.gh, w.len, fun i s1 e => ?_, fun i j a d1 d2 e => ?_, s.wo.tb⟩, fun a o h n t => s.fr a o h (up a n) t, s.al, fun a h1 h2 n => s.nc a h1 h2 (up a n), fun i ds e => ⟨ds, e⟩⟩
    · cases e
    · cases e
  | cons s0 rest =>
    by_cases hs : ∃ ds, s0 = .ow ds
    · obtain ⟨ds0, rfl⟩ := hs
      have ho : (own && noOw rest) = true := ho
      rw [Bool.and_eq_true] at ho
      obtain ⟨ho1, ho2⟩ := ho
      have h0 : 0 < vs.length := by rw [hl]; exact Nat.succ_pos _
      have k0 : σ'[0]? = (vs.map some)[0]? := by rw [s.kp 0 (by show (own && decide (0 = 0)) = true; rw [ho1]; rfl), start_lt h0]
      have hρ : ∃ s1, ρ'[0]? = some s1 := by
        have l1 : 0 < ρ'.length := by rw [← s.wo.len, s.ln]; unfold L2.start; simp; omega
        exact ⟨ρ'[0], by simp [l1]⟩
      obtain ⟨s1, hs1⟩ := hρ
      have hb : argBack (.ow ds0 :: rest) ρ' = s1 :: rest := by
        unfold argBack
        rw [hs1]
      rw [hb]
      have back : ∀ (i : Nat) (d : List D), (s1 :: rest)[i]? = some (.ow d) → i = 0 ∧ s1 = .ow d := fun i d e => by
        cases i with
        | zero => exact ⟨rfl, by simpa using e⟩
        | succ n => exact absurd (by simpa using e) (noOw_at (i := n) (ds := d) ho2)
      refine ⟨s.gg, ⟨s.wo.gh, by have := w.len; simpa using this, fun i sl e => ?_, fun i j a d1 d2 e1 e2 _ _ => ?_, s.wo.tb⟩, fun a o h n t => s.fr a o h (up a n) t, s.al, fun a h1 h2 n => s.nc a h1 h2 (up a n), fun i d e => ?_⟩
      · cases i with
        | zero =>
          have q := s.wo.sl 0 s1 hs1
          rw [k0] at q
          have : sl = s1 := by simpa using e.symm
          rw [this]
          exact q
        | succ n =>
          have e' : (Sl.ow ds0 :: rest)[n + 1]? = some sl := by simpa using e
          exact ks (n + 1) sl e' fun d z => noOw_at (i := n) (ds := d) ho2 (by rw [z] at e; simpa using e)
      · rw [(back i d1 e1).1, (back j d2 e2).1]
      · rw [(back i d e).1]
        exact ⟨ds0, rfl⟩
    · have hb : argBack (s0 :: rest) ρ' = s0 :: rest := by
        cases s0 with
        | ow ds => exact absurd ⟨ds, rfl⟩ hs
        | _ => rfl
      have ho : noOw (s0 :: rest) = true := by
        cases s0 with
        | ow ds => exact absurd ⟨ds, rfl⟩ hs
        | _ => exact ho
      rw [hb]
      refine ⟨s.gg, ⟨s.wo.gh, w.len, fun i s1 e => ks i s1 e fun d z => by subst z; exact noOw_at ho e, fun i j a d1 d2 e => absurd e (noOw_at ho), s.wo.tb⟩, fun a o h n t => s.fr a o h (up a n) t, s.al, fun a h1 h2 n => s.nc a h1 h2 (up a n), fun i ds e => ⟨ds, e⟩⟩
end
section
variable {P : Program} {w : World} {K : PySem.W.Frag} {mg : Str → Option Value} {base : Heap} {x qual : Str} {params : Arguments} {body : List Stmt} {scope : Scope} {kws : List (Str × V)} {f : Addr} {fd : FuncData} {g : Gd} {N ps : List Str} {k : Nat} {own : Bool} {fb : EvS}
/-- a context of the body of a def -/
structure BodyCx (X : Cx) (P : Program) (w : World) (K : PySem.W.Frag) (mg : Str → Option Value) (base : Heap) (N : List Str) (scope : Scope) (k : Nat) (cdv : Value) (qual : Str) (W : WX) : Prop where
  prog : X.prog = P
  w : X.w = w
  K : X.K = K
  mg : X.mg = mg
  base : X.base = base
  N : X.N = N
  sc : X.env.scope = scope
  fn : ∀ y, X.fn y = true
  calm : X.calm = true
  room : Room k X.A
  code : X.env.code = cdv
  ql : X.env.qual = qual ++ ".<locals>."
  tk : Takes X W
  ps : PassesOwn (model X.prog X.w) X.A X.env X.xe
  stk : X.stack = X.env :: X.outer
  frm : X.env.frame = some X.env.locals
theorem def_ok (F : FunD K x qual params body scope [] kws f fd) (S : FnScope N ps scope)
    (hb : ∀ X W, BodyCx X P w K mg base N scope k fd.code qual W → PSs X body (tDS g W (pinF own) fb)) : FnOk P w K mg base (L2.CX P w) (k + 1) f fd ps (spF g ps.length (defSem own ps.length N.length fb)) := by
  have hpl : ps.length ≤ N.length := by have := congrArg List.length S.pre; rw [List.length_take] at this; omega
  obtain ⟨oc, od, dV, kV, doc, pm, an, cdv, ct, osl, rfl, lk, hcd, _, _⟩ := F.ex
  refine fn_of lk hcd S (fun vs H Q E h => h.1) fun A outer s H vs Q E hr ⟨hl, as, G, o, w', e, p⟩ => ⟨_, hb _ (fun cls d _ H => E cls d H) ⟨rfl, rfl, rfl, rfl, rfl, rfl, rfl, fun _ => rfl, rfl, hr, rfl, rfl, takes_of rfl rfl rfl rfl, passes_of rfl, rfl, rfl⟩, ?_⟩
  unfold defSem at e
  split at e
  case isFalse => cases e
  rename_i hc
  rw [Bool.and_eq_true, decide_eq_true_eq] at hc
  obtain ⟨ho, hal⟩ := hc
  cases q : fb (as ++ List.replicate (N.length - ps.length) .un) with
  | none => rw [q] at e; cases e
  | some oo =>
    rw [q] at e
    rw [← hl] at q hpl
    refine ⟨_, G, oo, wo_start w' hpl, q, ?_⟩
    cases oo with
    | nx ρ' =>
      cases e
      exact fun σ' G' H' st => p .non G' H' (st.args w' ho hpl) .non
    | rt r ρ' =>
      cases e
      exact fun σ' v G' H' st x => p v G' H' (st.args w' ho hpl) x
    | ex c fs ρ' =>
      cases e
      exact fun σ' cls d G' H' st x => p cls d G' H' (st.args w' ho hpl) x
    | bk ρ' => cases e
    | ct ρ' => cases e
end
end Rk
set_option Elab.async false
set_option linter.all false
set_option maxRecDepth 100000
set_option maxHeartbeats 4000000
namespace Rk
open PySem PySem.Spec PyProof.Rows L2
/-- the code of a generator expression, woken with A' around it -/
abbrev _root_.L2.Cx.gen (X : Cx) (A' : Around) (s : Shared) (H : Hp) (cenv : Env) (fp : List Addr) (pn : List (Addr × Obj)) : Cx :=
  { X with A := A', s_0 := s, H_0 := H, env := cenv, outer := X.stack, stack := cenv :: X.stack, ex := fp, fn := fun _ => false, pn := pn, xe := fun _ _ => False }
/-- its scope: own names are locals, others are captured -/
structure GScp (N : List Str) (sc scope : Scope) (own : List (Str × Nat)) : Prop where
  kind : scope.kind = .function
  co : scope.isCoroutine = false
  uniq : ∀ y ∈ scope.names, scope.names.lookup y.1 = some y.2
  cell : ∀ y ∈ scope.names, y.2 ≠ .cell
  dot : scope.names.lookup (".0" : Str) = some NameKind.local
  ix : ∀ p ∈ own, N[p.2]? = some p.1
  free : ∀ y ∈ scope.names, y.2 = .free → sc.names.lookup y.1 = some .cell ∨ sc.names.lookup y.1 = some .free
  own : ∀ y ∈ scope.names, y.2 = .local → y.1 ∈ own.map (·.1) ∨ y.1 ∉ N
section
variable {X : Cx} {pins : List (Addr × Obj)} {σ : St} {H : Hp} {s : Shared}
theorem gen_start {scope : Scope} {own : List (Str × Nat)} {fp : List Addr} {A' : Around} {code : Value} {h' : Heap} {m : Str → Option Value} {go : Obj} {t' : Nat} {g' : Array GenState} (I : Inv X pins σ H s) (ok : GScp X.N X.env.scope scope own) (hN : X.N.Nodup)
    (hfp : ∀ b ∈ fp, FpOk X pins H b ∧ b < s.heap.objs.size) (hd : X.calm = true → A'.handled = none)
    (hfr : A'.frames = some (genEnv scope (cloFrom X.env.cells scope.names []) s.heap.objs.size code builtinsNs X.env :: X.stack)) (hn : h'.Ns s.heap.objs.size m) (hs' : Heap.SameBut s.heap.objs.size (s.heap.push { cls := .type "frame", data := .dict #[] }) h')
    (hgo : (h'.push go).get? h'.objs.size = some go) (hgd : ∀ v, go.data ≠ .cell v) (hg' : AllBare g') :
    Inv (X.gen A' s H (genEnv scope (cloFrom X.env.cells scope.names []) s.heap.objs.size code builtinsNs X.env) fp [(h'.objs.size, go)]) [] (wipe σ (own.map (·.2))) H { s with heap := h'.push go, toks := t', gens := g' } := by
  have hfree : ∀ y ∈ scope.names, y.2 = .free → ∃ c, X.env.cells.lookup y.1 = some c := fun y hy e => by
    rcases ok.free y hy e with k | k
    · exact I.ok.has _ (.inl k)
    · exact I.ok.has _ (.inr k)
  have hsz : h'.objs.size = s.heap.objs.size + 1 := by rw [hs'.1, Heap.size_push]
  have kp0 : ∀ b o, s.heap.get? b = some o → h'.get? b = some o := fun b o e => (hs'.2 b (Nat.ne_of_lt (Heap.lt_size e))).trans (Heap.get?_push_of_some _ e)
  have kp : ∀ b o, s.heap.get? b = some o → (h'.push go).get? b = some o := fun b o e => Heap.get?_push_of_some _ (kp0 b o e)
  have cm : ∀ {y c}, (y, c) ∈ cloFrom X.env.cells scope.names [] → (y, NameKind.free) ∈ scope.names ∧ X.env.cells.lookup y = some c ∧ c < s.heap.objs.size := fun {y c} hm => by
    rcases cloFrom_mem hm with hm | ⟨h1, rfl⟩
    · cases hm
    · obtain ⟨c, hc⟩ := hfree _ h1 rfl
      rw [hc]
      obtain ⟨w, z⟩ := I.cell _ _ hc
      exact ⟨h1, rfl, z.lt⟩
  have look : ∀ {y}, scope.names.lookup y = some .free → ∃ c, (cloFrom X.env.cells scope.names []).lookup y = some c ∧ X.env.cells.lookup y = some c := fun {y} hl => by
    have hy : (y, NameKind.free) ∈ scope.names := PySem.mem_of_lookup hl
    obtain ⟨c', e'⟩ := mem_lookup (cloFrom_has (cells := X.env.cells) (acc := []) hy)
    exact ⟨c', e', (cm (PySem.mem_of_lookup e')).2.1⟩
  generalize hcenv : genEnv scope (cloFrom X.env.cells scope.names []) s.heap.objs.size code builtinsNs X.env = cenv at hfr ⊢
  have hL : cenv.locals = s.heap.objs.size := by rw [← hcenv]; rfl
  have hcl : cenv.cells = cloFrom X.env.cells scope.names [] := by rw [← hcenv]; rfl
  have hsc : cenv.scope = scope := by rw [← hcenv]; rfl
  have okB : (X.gen A' s H cenv fp [(h'.objs.size, go)]).Ok := by
    refine ⟨I.ok.mod, by show cenv.scope.kind = _; rw [hsc]; exact ok.kind, by show cenv.globals = _; rw [← hcenv]; exact I.ok.glob, by show cenv.builtins = _; rw [← hcenv]; rfl, by show s.heap.objs.size ≤ cenv.locals; rw [hL]; exact Nat.le_refl _,
      fun y z c e1 e2 => ?_, fun y hy => ?_, fun y c z e => (by cases z), hd, hfr, .inr ⟨rfl, by show cenv.frame = _; rw [← hcenv]; rfl⟩, fun b hb => ⟨?_, fun y c e z => ?_⟩, I.bs, Nat.le_trans I.ok.bsz I.sz, fun b o e hb => ?_, fun b hb z => ?_, I.stack, I.stkFree⟩
    · have e1 : cenv.cells.lookup y = some c := e1
      have e2 : cenv.cells.lookup z = some c := e2
      rw [hcl] at e1 e2
      exact I.ok.inj y z c (cm (PySem.mem_of_lookup e1)).2.1 (cm (PySem.mem_of_lookup e2)).2.1
    · show ∃ c, cenv.cells.lookup y = some c
      have hy : cenv.scope.names.lookup y = some .cell ∨ cenv.scope.names.lookup y = some .free := hy
      rw [hsc] at hy
      rcases hy with hy | hy
      · exact absurd rfl (ok.cell _ (PySem.mem_of_lookup hy))
      · obtain ⟨c, h1, _⟩ := look hy
        exact ⟨c, by rw [hcl]; exact h1⟩
    · show b ≠ cenv.locals
      rw [hL]; exact Nat.ne_of_lt (hfp b hb).2
    · have e : cenv.cells.lookup y = some c := e
      rw [hcl] at e
      exact (hfp b hb).1.2.2.2.2.1 y c (cm (PySem.mem_of_lookup e)).2.1 z
    · rcases (hfp b hb).1.2.2.2.1 with z | z
      · exact I.ok.noex b o e z
      · exact absurd (Nat.lt_of_lt_of_le (Heap.lt_size e) (Nat.le_trans I.ok.bsz z)) (Nat.lt_irrefl _)
    · rcases List.mem_cons.mp (I.stkSub b z) with z | z
      · exact (hfp b hb).1.2.1 z
      · exact (hfp b hb).1.2.2.1 z
  refine ⟨okB, rfl, hg', Un.kept kp, ⟨m, ?_, fun i y av e1 e2 e3 => ?_⟩, fun y c e => ?_, ?_, fun y c e => ?_, fun p hp => ?_, I.hok.kept kp, by rw [wipe_length]; exact I.len⟩
  · show Heap.Ns _ cenv.locals _
    rw [hL]
    exact hn.keeps fun b o e => Heap.get?_push_of_some _ e
  · obtain ⟨e2, hne⟩ := wipe_some e2
    have e3 : Vis cenv.scope y := e3
    rw [show cenv.scope = scope from hsc] at e3
    have hfr : scope.names.lookup y = some .free := by
      rcases e3 with e3 | e3 | e3
      · rcases ok.own _ (PySem.mem_of_lookup e3) rfl with e' | e'
        · obtain ⟨p, hp, hpy⟩ := List.mem_map.mp e'
          have e3 := ok.ix p hp
          have : p.1 = y := hpy
          rw [this] at e3
          exact absurd (List.mem_map.mpr ⟨p, hp, nodup_ix hN e3 e1⟩) hne
        · exact absurd (List.mem_of_getElem? e1) e'
      · exact absurd rfl (ok.cell _ (PySem.mem_of_lookup e3))
      · exact e3
    obtain ⟨m', hn', hl⟩ := I.loc
    have hvis : Vis X.env.scope y := (ok.free _ (PySem.mem_of_lookup hfr) rfl).elim (fun k => .inr (.inl k)) (fun k => .inr (.inr k))
    obtain ⟨w, r, q⟩ := hl i y av e1 e2 hvis
    obtain ⟨c, h1, h2⟩ := look hfr
    refine ⟨w, r, .inr ⟨.inr (by show cenv.scope.names.lookup y = _; rw [hsc]; exact hfr), c, by rw [hcl]; exact h1, ?_⟩⟩
    rcases q with ⟨k, _⟩ | ⟨_, c', e', z⟩
    · have k : X.env.scope.names.lookup y = some .local := k
      rcases ok.free _ (PySem.mem_of_lookup hfr) rfl with k' | k' <;> rw [show X.env.scope.names.lookup y = _ from k'] at k <;> cases k
    · rw [h2] at e'; cases e'
      exact z.keeps kp
  · have e : cenv.cells.lookup y = some c := e
    rw [hcl] at e
    obtain ⟨w, z⟩ := I.cell y c (cm (PySem.mem_of_lookup e)).2.1
    exact ⟨w, z.keeps kp⟩
  · show H cenv.locals = none
    rw [hL]; exact I.hok.fresh (Nat.le_refl _)
  · have e : cenv.cells.lookup y = some c := e
    rw [hcl] at e
    exact I.freeC y c (cm (PySem.mem_of_lookup e)).2.1
  · have : p = (h'.objs.size, go) := by simpa using hp
    subst this
    have hge : s.heap.objs.size ≤ h'.objs.size := by rw [hsz]; exact Nat.le_succ _
    refine ⟨hgo, I.hok.fresh hge, ?_, fun z => ?_, hgd⟩
    · show h'.objs.size ≠ cenv.locals
      rw [hL, hsz]; exact Nat.succ_ne_self _
    · have z : h'.objs.size ∈ frs X.stack := z
      rcases List.mem_cons.mp (I.stkSub _ z) with q | q
      · have := I.lt
        rw [← q] at this
        exact absurd (Nat.lt_of_lt_of_le this hge) (Nat.lt_irrefl _)
      · exact I.nofs hge q
end
end Rk
set_option Elab.async false
set_option linter.all false
set_option maxRecDepth 100000
set_option maxHeartbeats 4000000
namespace Rk
open PySem PySem.Spec PyProof.Rows L2
/-- what is handed out, in order, up to the first item at which its consumer stops; behind it: the slots at the end, where the end is reached -/
def gtr (own : List Nat) (tg : EvG) (t : EvT) (fe : Ev) (stop : D → Bool) : List D → Rho → Option (List (D × Rho) × Option Rho)
  | [], ρ => some ([], some ρ)
  | d :: ds, ρ => match tg d ρ with
    | none => none
    | some ρ2 => match t ρ2 with
      | some (.ok true ρ3) => (match fe ρ3 with
        | some (.ok r ρ4) => (match pub r with
          | some y => if stop y then some ([(y, wipeR ρ4 own)], none) else (match gtr own tg t fe stop ds (wipeR ρ4 own) with
            | some (l, e) => some ((y, wipeR ρ4 own) :: l, e)
            | none => none)
          | none => none)
        | _ => none)
      | some (.ok false ρ3) => gtr own tg t fe stop ds (wipeR ρ3 own)
      | _ => none
section
variable (Y : Cx) (g : Gd) (τ : St) (ρ0 : Rho) (G0 H0 : Hp) (fp exS : List Addr) (tn : Nat → Heap → Prop) (L : List (D × Rho)) (e : Option Rho)
/-- the generator rests -/
structure GP (i : Nat) (ρ : Rho) (s : Shared) (G H : Hp) : Prop where
  inv : Inv Y [] τ H s
  st : StE g τ ρ0 G0 H0 ρ G H
  tn : tn i s.heap
  fp : ∀ b ∈ fp, H b = none
  ex : ∀ b ∈ exS, H b = none
/-- what the consumer may do meanwhile -/
structure Res (s s' : Shared) : Prop where
  os : s'.os = s.os
  bare : AllBare s'.gens
  keep : ∀ b o, b ∉ exS → s.heap.get? b = some o → s'.heap.get? b = some o
  own : ∀ b ∈ exS, ∃ o, s'.heap.get? b = some o ∧ ∀ v, o.data ≠ .cell v
/-- what the consumer holds: its store is known by cs -/
structure Got (cs : List Value → Heap → Prop) (s : Shared) (G : Hp) (ds : List D) (vs : List V) (its : List Value) : Prop where
  rp : RpAll g.K G vs ds
  vl : Vals vs its
  cs : cs its s.heap
def GYp (cs : List Value → Heap → Prop) : Protocol := fun n s₀ v s kap => ∃ y ρ' i G H x vs its, L[L.length - 1 - n]? = some (y, ρ') ∧ GP Y g τ ρ0 G0 H0 fp exS tn i ρ' s G H ∧ Got g cs s G ((L.take (L.length - 1 - n)).map (·.1)) vs its ∧ Rp g.K G x y ∧ RelV x v ∧
  ((e.isSome = true ∨ 0 < n) → ∀ s', Res exS s s' → cs (its ++ [v]) s'.heap → kap (.send .none) s')
def GRp (cs : List Value → Heap → Prop) : Nat → Shared → Shared → Prop := fun n s₀ s => n = 0 ∧ ∃ ρe G H vs its, e = some ρe ∧ Inv Y [] τ H s ∧ StE g τ ρ0 G0 H0 ρe G H ∧ (∀ b ∈ exS, H b = none) ∧ Got g cs s G (L.map (·.1)) vs its
abbrev GRe (cs : List Value → Heap → Prop) : GenEnd := fun n s₀ r s => r = .ok .next ∧ GRp Y g τ ρ0 G0 H0 exS L e cs n s₀ s
end
/-- the consumer's own objects stand apart -/
def ApS (Y : Cx) (fp : List Addr) (S : Addr) : Prop := Y.s_0.heap.objs.size ≤ S ∧ S ≠ Y.env.locals ∧ (∀ x c, Y.env.cells.lookup x = some c → c ≠ S) ∧ S ∉ fp ∧ ∀ p ∈ Y.pn, p.1 ≠ S
section
variable {Y : Cx} {g : Gd} {τ : St} {ρ0 ρ : Rho} {G0 H0 G H : Hp} {fp exS : List Addr} {tn : Nat → Heap → Prop} {i : Nat} {s s' s₀ : Shared} {it : Addr} {tg : Expr} {J : It}
theorem GP.woken (T : Turn Y.prog Y.w Y.K tg J fp it tn) (hA : ∀ S ∈ exS, ApS Y fp S) (h : GP Y g τ ρ0 G0 H0 fp exS tn i ρ s G H) (r : Res exS s s') : GP Y g τ ρ0 G0 H0 fp exS tn i ρ s' G H := by
  obtain ⟨hp, gg, dd, tt, oo⟩ := s'
  obtain ⟨r1, r2, r3, r4⟩ := r
  obtain rfl : oo = s.os := r1
  refine ⟨?_, h.st, T.keep _ _ _ h.tn fun b hb o q => r3 b o (fun z => (hA b z).2.2.2.1 hb) q, h.fp, h.ex⟩
  have nt : ∀ b u, H b = some u → b ∉ exS := fun b u q z => by rw [h.ex b z] at q; cases q
  refine h.inv.step (g' := gg) (t' := tt) (d' := dd) (ch := exS) (fun b hb => ?_) (fun b o _ _ hc q _ => r3 b o hc q) (fun b o _ _ hc q _ => ⟨o.slots, r3 b o hc q⟩) (fun _ _ _ _ n => n) (fun b o hc q => ⟨o, r3 b o hc q⟩)
    (fun _ _ q => q) (fun _ _ _ q => q) (fun b ps q => ⟨#[], by rw [q]; simp⟩) (fun m hm => ?_) (fun b u q => ?_) r2
  · obtain ⟨a1, a2, a3, a4, a5⟩ := hA b hb
    exact ⟨.inr a1, a2, a3, fun p hp => a5 p (by simpa using hp)⟩
  · obtain ⟨ob, es, ep, ho, rr⟩ := hm
    exact ⟨ob, es, ep, r3 _ ob (fun z => (hA _ z).2.1 rfl) ho, rr⟩
  · refine (h.inv.hok b u q).stay (fun c v hc y => r3 c v ?_ y) (fun _ y => y) fun _ _ y => y
    rcases hc with y | y
    · rw [y]; exact nt b u q
    · exact nt c _ y
theorem GP.pins (hA : ∀ S ∈ exS, ApS Y fp S) (h : GP Y g τ ρ0 G0 H0 fp exS tn i ρ s G H) (hx : ∀ b ∈ exS, ∃ o, s.heap.get? b = some o ∧ ∀ v, o.data ≠ .cell v) : Inv Y (pinsAt exS s.heap) τ H s :=
  h.inv.pins_of fun p hp => by
    obtain ⟨hb, e⟩ := of_pinsAt hp
    obtain ⟨a1, a2, a3, a4, a5⟩ := hA p.1 hb
    obtain ⟨o, e', d⟩ := hx p.1 hb
    rw [e] at e'; cases e'
    refine ⟨e, h.ex p.1 hb, a2, fun q => ?_, d⟩
    obtain ⟨_, o', ho', _⟩ := h.inv.ok.funs.mem q
    exact absurd (Nat.lt_of_lt_of_le (Heap.lt_size ho') a1) (Nat.lt_irrefl _)
end
section
variable {Y : Cx} {g : Gd} {σ : St} {ρ0 : Rho} {G0 H0 : Hp} {fp exS : List Addr} {tn : Nat → Heap → Prop} {L : List (D × Rho)} {e : Option Rho} {it : Addr} {te iter elt : Expr} {ifs : List Expr} {J : It} {ds : List D} {pr : Bool}
  {own : List Nat} {tg : EvG} {t : EvT} {fe : Ev} {stop : D → Bool} {scope : Scope} {pos : Pos} {Aw : Around} {cs : List Value → Heap → Prop}
theorem gen_loop (hc : Y.calm = true) (hco : Y.env.scope.isCoroutine = false) (T : Turn Y.prog Y.w Y.K te J fp it tn) (wk : Wk g G0 pr ds J) (hxe : Y.xe = fun _ _ => False) (hex : Y.ex = fp) (hA : ∀ S ∈ exS, ApS Y fp S) (hcs : ∀ its h h', cs its h → (∀ b ∈ exS, ∀ o, h.get? b = some o → h'.get? b = some o) → cs its h') (hpf : ∀ p ∈ Y.pn, ∀ b ∈ fp, p.1 ≠ b)
    (hg : PG Y te (tDG g (pnO own) pr tg)) (ht : PTs Y ifs (tDT g W0 t)) (he : PE Y elt (tD g W0 fe)) (hov : Aw.over (.compLoop (.GeneratorExp elt [⟨te, iter, ifs, 0⟩] scope pos) 0 (.ref it) .none Y.env) [] = Y.A) :
    ∀ (k i : Nat) (ρ : Rho) (l : List (D × Rho)) (s₀ s : Shared) (G H : Hp) (vs : List V) (its : List Value), ds.length - i = k → i ≤ ds.length → gtr own tg t fe stop (ds.drop i) ρ = some (l, e) → l.length ≤ L.length → L.drop (L.length - l.length) = l →
      GP Y g (wipe σ own) ρ0 G0 H0 fp exS tn i ρ s G H → Got g cs s G ((L.take (L.length - l.length)).map (·.1)) vs its → (∀ b ∈ exS, ∃ o, s.heap.get? b = some o ∧ ∀ v, o.data ≠ .cell v) →
      Seg (model Y.prog Y.w) Aw (GRe Y g (wipe σ own) ρ0 G0 H0 exS L e cs) (GYp Y g (wipe σ own) ρ0 G0 H0 fp exS tn L e cs) l.length s₀ (.compLoop (.GeneratorExp elt [⟨te, iter, ifs, 0⟩] scope pos) 0 (.ref it) .none Y.env)
        ((model Y.prog Y.w).den (.compLoop (.GeneratorExp elt [⟨te, iter, ifs, 0⟩] scope pos) 0 (.ref it) .none Y.env)) [] s := by
  have fpo : ∀ {pins : List (Addr × Obj)} {τ' : St} {H' : Hp} {s' : Shared}, Inv Y pins τ' H' s' → (∀ b ∈ fp, H' b = none) → (∀ p ∈ pins, ∀ b ∈ fp, p.1 ≠ b) → ∀ b ∈ fp, FpOk Y pins H' b := fun {pins τ' H' s'} I' hn hp b hb =>
    ⟨hn b hb, (I'.ok.exf b (hex ▸ hb)).1, I'.ok.exfs b (hex ▸ hb), .inl (hex ▸ hb), fun x c q => (I'.ok.exf b (hex ▸ hb)).2 x c q, fun p hpm => by
      rcases List.mem_append.mp hpm with z | z
      · exact hpf p z b hb
      · exact hp p z b hb⟩
  have fpx : ∀ (hp : Heap), ∀ p ∈ pinsAt exS hp, ∀ b ∈ fp, p.1 ≠ b := fun hp p hpm b hb z => (hA p.1 (of_pinsAt hpm).1).2.2.2.1 (z ▸ hb)
  intro k
  induction k with
  | zero =>
    intro i ρ l s₀ s G H vs its hk hi htr hl hL hP hK hX
    have hin : i = ds.length := by omega
    subst hin
    rw [List.drop_length] at htr
    cases htr
    show Seg _ Aw _ _ _ s₀ _ ((compTurn (.GeneratorExp elt [⟨te, iter, ifs, 0⟩] scope pos) 0 (.ref it) .none Y.env).onRaise (leaving Y.env)) [] s
    rw [compTurn_gen, Sem.onRaise_eq_wrap]
    refine seg_bind_wrap (wpAny_standAt ?_)
    refine seg_bind_wrap ?_
    rw [hov]
    have I := hP.pins hA hX
    refine thn (T.done Y rfl rfl rfl hc ds.length (pinsAt exS s.heap) s (wipe σ own) H _ I (fpo I hP.fp (fpx _)) hP.tn (wk.stop G H hP.st.gg hP.st.wo.gh)) fun r s1 ⟨hr, I1⟩ => ?_
    subst hr
    have kx : ∀ b ∈ exS, ∀ o, s.heap.get? b = some o → s1.heap.get? b = some o := fun b hb o q => (I1.pin (b, o) (List.mem_append_right _ (mem_pinsAt hb q))).1
    refine seg_end (.ok .next) ⟨rfl, rfl, ρ, G, H, vs, its, rfl, I1.pins_of fun p hp => (by cases hp), hP.st, hP.ex, ⟨?_, hK.vl, hcs _ _ _ hK.cs kx⟩⟩
    have := hK.rp
    rw [show L.length - ([] : List (PyData × Rho)).length = L.length from rfl, List.take_length] at this
    exact this
  | succ k ih =>
    intro i ρ l s₀ s G H vs its hk hi htr hl hL hP hK hX
    have hlt : i < ds.length := by omega
    have hd : ds[i]? = some ds[i] := by simp [hlt]
    rw [List.drop_eq_getElem_cons hlt] at htr
    unfold gtr at htr
    show Seg _ Aw _ _ _ s₀ _ ((compTurn (.GeneratorExp elt [⟨te, iter, ifs, 0⟩] scope pos) 0 (.ref it) .none Y.env).onRaise (leaving Y.env)) [] s
    rw [compTurn_gen, Sem.onRaise_eq_wrap]
    refine seg_bind_wrap (wpAny_standAt ?_)
    refine seg_bind_wrap ?_
    rw [hov]
    have I := hP.pins hA hX
    have no : ∀ {α : Type} {t : Sem α} {Q Q' : α → Shared → Prop} {E : Value → Shared → Prop} {s : Shared}, wpAny (model Y.prog Y.w) Y.A t Q Y.xe s → (∀ a s, Q a s → Q' a s) → wpAny (model Y.prog Y.w) Y.A t Q' E s := fun h hQ => thnF (by rw [hxe] at h; exact h) hQ
    refine thn (T.item Y rfl rfl rfl hc i (pinsAt exS s.heap) s (wipe σ own) H _ I (fpo I hP.fp (fpx _)) hP.tn (wk.go i _ G H hd hP.st.gg hP.st.wo.gh)) fun r s1 ⟨u, hr, h1⟩ => ?_
    subst hr
    refine seg_bind_wrap ?_
    rw [hov]
    refine thn h1 fun _ s2 ⟨x, H2, I2, ru, y2, st2, n2⟩ => ?_
    obtain ⟨G2, gr, yo, rp⟩ := wk.yld i _ G H x H2 hd hP.st.gg hP.st.wo.gh y2
    have s2' := hP.st.wo.step gr
    have I2' := I2.pinned (fpo I2 n2 (fpx _)) (T.obj _ _ st2)
    cases q1 : tg ds[i] ρ with
    | none => rw [q1] at htr; cases htr
    | some ρ4 =>
    rw [q1] at htr
    dsimp only at htr
    refine seg_bind_wrap ?_
    rw [hov]
    refine no (hg.run _ s2 (wipe σ own) H2 x u (fun σ4 H4 => H4 = H2 ∧ StS g (pnO own) (wipe σ own) ρ G2 H2 σ4 ρ4 G2 H2) I2' ru ⟨ρ, G2, ds[i], ρ4, s2'.wo, yo, rp, q1, fun σ4 s4 => ⟨rfl, s4⟩⟩) fun _ s3 ⟨σ4, H4, I4, eH, s4⟩ => ?_
    subst eH
    cases q2 : t ρ4 with
    | none => rw [q2] at htr; cases htr
    | some ob =>
    rw [q2] at htr
    cases ob with
    | ex c fs ρ' => cases htr
    | ok b ρ5 =>
    refine seg_bind_wrap ?_
    rw [hov]
    refine no (ht.run _ s3 σ4 H4 (fun b' H5 => b' = b ∧ ∃ G5, StE g σ4 ρ4 G2 H4 ρ5 G5 H5) I4 ⟨ρ4, G2, _, s4.wo, q2, fun G5 H5 s5 => ⟨rfl, G5, s5⟩⟩) fun b' s5 ⟨H5, I5, eb, G5, s5'⟩ => ?_
    subst eb
    -- the state behind the turn
    have back : ∀ {ρ6 : Rho} {G6 H6 : Hp} {s6 : Shared}, StE g σ4 ρ4 G2 H4 ρ6 G6 H6 → Inv Y (pinsAt exS s.heap ++ pinsAt fp s2.heap) σ4 H6 s6 → (GP Y g (wipe σ own) ρ0 G0 H0 fp exS tn (i + 1) (wipeR ρ6 own) s6 G6 H6 ∧ Same G G6) ∧ (∀ b ∈ exS, ∀ o, s.heap.get? b = some o → s6.heap.get? b = some o) := fun {ρ6 G6 H6 s6} s6' I6 => by
      have un := (s4.trans s6'.st).unblk
      have hwipe : wipe σ4 own = wipe σ own := wipe_eq s4.ln fun j m => s4.kp j (pnO_of.mpr m)
      have pinF : ∀ b ∈ fp, ∀ o, s2.heap.get? b = some o → s6.heap.get? b = some o ∧ H6 b = none := fun b hb o q =>
        let z := I6.pin (b, o) (List.mem_append_right _ (List.mem_append_right _ (mem_pinsAt hb q)))
        ⟨z.1, z.2.1⟩
      have pinX : ∀ b ∈ exS, ∀ o, s.heap.get? b = some o → s6.heap.get? b = some o ∧ H6 b = none := fun b hb o q =>
        let z := I6.pin (b, o) (List.mem_append_right _ (List.mem_append_left _ (mem_pinsAt hb q)))
        ⟨z.1, z.2.1⟩
      refine ⟨⟨⟨(I6.pins_of (pins' := []) fun p hp => (by cases hp)).weak (by rw [s4.ln]) (fun j v q => ?_), hP.st.trans (s2'.trans un), T.keep _ _ _ st2 fun b hb o q => (pinF b hb o q).1, fun b hb => ?_, fun b hb => ?_⟩, s2'.gg.trans un.gg⟩, fun b hb o q => (pinX b hb o q).1⟩
      · rw [← hwipe] at q
        exact (wipe_some q).1
      · obtain ⟨o, q, _⟩ := T.obj _ _ st2 b hb
        exact (pinF b hb o q).2
      · obtain ⟨o, q, _⟩ := hX b hb
        exact (pinX b hb o q).2
    cases b' with
    | false =>
      obtain ⟨⟨p1, gg⟩, p2⟩ := back s5' I5
      simp only [Bool.false_eq_true, if_false]
      exact seg_again rfl (ih (i + 1) _ l s₀ s5 G5 H5 vs its (by omega) hlt htr hl hL p1 ⟨RpAll.mono gg _ _ hK.rp, hK.vl, hcs _ _ _ hK.cs p2⟩ fun b hb => by
        obtain ⟨o, q, d⟩ := hX b hb
        exact ⟨o, p2 b hb o q, d⟩)
    | true =>
      dsimp only at htr
      cases q6 : fe ρ5 with
      | none => rw [q6] at htr; cases htr
      | some oe =>
      rw [q6] at htr
      cases oe with
      | ex c fs ρ' => cases htr
      | ok r ρ6 =>
      dsimp only at htr
      cases q7 : pub r with
      | none => rw [q7] at htr; cases htr
      | some y7 =>
      rw [q7] at htr
      dsimp only at htr
      simp only [if_true]
      have hy : ∀ v, yieldOut Y.env v = yieldValue v := fun v => by simp only [yieldOut, hco, Bool.false_eq_true, if_false]
      simp only [hy]
      rw [Sem.bind_eq_wrap', Sem.bind_eq_wrap', Sem.wrap_wrap, Sem.wrap_wrap]
      refine seg_wrap ?_
      rw [hov]
      refine no (he.run _ s5 σ4 H5 (fun v H6 => ∃ G6, StE g σ4 ρ5 G5 H5 ρ6 G6 H6 ∧ Rp g.K G6 v y7) I5 ⟨ρ5, G5, _, s5'.wo, q6, fun v G6' H6 s6' x6 => ?_⟩) fun z s6 ⟨v, H6, I6, rv, G6, s6', ry⟩ => ?_
      · obtain ⟨G6, s6, ry⟩ := pub_ok s5'.wo s6' x6 q7
        exact ⟨G6, s6, ry⟩
      obtain ⟨⟨p1, gg⟩, p2⟩ := back (s5'.trans s6') I6
      have kx := hcs _ _ _ hK.cs p2
      split at htr
      · cases htr
        refine seg_at (seg_yield rfl rfl rfl ⟨y7, wipeR ρ6 own, i + 1, G6, H6, v, vs, its, ?_, p1, ⟨RpAll.mono gg _ _ hK.rp, hK.vl, kx⟩, ry, rv, fun z => ?_⟩)
        · have h9 : L.drop (L.length - 1) = [(y7, wipeR ρ6 own)] := hL
          have : (L.drop (L.length - 1))[0]? = some (y7, wipeR ρ6 own) := by rw [h9]; rfl
          rw [List.getElem?_drop] at this
          exact this
        · rcases z with z | z
          · cases z
          · exact absurd z (Nat.lt_irrefl _)
      · cases q8 : gtr own tg t fe stop (ds.drop (i + 1)) (wipeR ρ6 own) with
        | none => rw [q8] at htr; cases htr
        | some le =>
        obtain ⟨l8, e8⟩ := le
        rw [q8] at htr
        cases htr
        have hl8 : l8.length + 1 ≤ L.length := hl
        have hL8 : L.drop (L.length - (l8.length + 1)) = (y7, wipeR ρ6 own) :: l8 := hL
        have tk : L.length - 1 - l8.length = L.length - (l8.length + 1) := by omega
        have nx : L[L.length - (l8.length + 1)]? = some (y7, wipeR ρ6 own) := by
          have : (L.drop (L.length - (l8.length + 1)))[0]? = some (y7, wipeR ρ6 own) := by rw [hL8]; rfl
          rw [List.getElem?_drop] at this
          exact this
        refine seg_at (seg_yield rfl rfl rfl ⟨y7, wipeR ρ6 own, i + 1, G6, H6, v, vs, its, ?_, p1, ⟨?_, hK.vl, kx⟩, ry, rv, fun _ s' hr hcc => ?_⟩)
        · rw [tk]
          exact nx
        · rw [tk]
          exact RpAll.mono gg _ _ hK.rp
        · refine seg_again rfl (ih (i + 1) _ l8 s' s' G6 H6 (vs ++ [v]) (its ++ [z]) (by omega) hlt q8 (by omega) ?_ (p1.woken T hA hr) ⟨?_, hK.vl.append (.cons rv .nil), hcc⟩ hr.own)
          rotate_left
          · rw [show L.length - l8.length = L.length - (l8.length + 1) + 1 by omega, List.take_succ, nx]
            rw [List.map_append]
            exact (RpAll.mono gg _ _ hK.rp).app (.one ry)
          have : (L.drop (L.length - (l8.length + 1))).drop 1 = l8 := by rw [hL8]; rfl
          rw [List.drop_drop] at this
          rw [show L.length - l8.length = L.length - (l8.length + 1) + 1 by omega]
          exact this
end
end Rk
set_option Elab.async false
set_option linter.all false
set_option maxRecDepth 100000
set_option maxHeartbeats 4000000
namespace Rk
open PySem PySem.Spec PyProof.Rows L2
section
variable {Y : Cx} {g : Gd} {σ : St} {ρ0 : Rho} {G0 H0 : Hp} {fp exS : List Addr} {tn : Nat → Heap → Prop} {L : List (D × Rho)} {e : Option Rho} {it : Addr} {te iter elt : Expr} {ifs : List Expr} {J : It} {ds : List D} {pr : Bool}
  {own : List Nat} {tg : EvG} {t : EvT} {fe : Ev} {stop : D → Bool} {scope : Scope} {pos : Pos} {Aw : Around} {cs : List Value → Heap → Prop}
theorem gen_begin (hc : Y.calm = true) (hco : Y.env.scope.isCoroutine = false) (T : Turn Y.prog Y.w Y.K te J fp it tn) (wk : Wk g G0 pr ds J) (hxe : Y.xe = fun _ _ => False) (hex : Y.ex = fp) (hA : ∀ S ∈ exS, ApS Y fp S) (hcs : ∀ its h h', cs its h → (∀ b ∈ exS, ∀ o, h.get? b = some o → h'.get? b = some o) → cs its h') (hpf : ∀ p ∈ Y.pn, ∀ b ∈ fp, p.1 ≠ b)
    (hg : PG Y te (tDG g (pnO own) pr tg)) (ht : PTs Y ifs (tDT g W0 t)) (he : PE Y elt (tD g W0 fe)) (hov : Aw.over (.compLoop (.GeneratorExp elt [⟨te, iter, ifs, 0⟩] scope pos) 0 (.ref it) .none Y.env) [] = Y.A)
    (htr : gtr own tg t fe stop ds ρ0 = some (L, e)) (s : Shared) (hP : GP Y g (wipe σ own) ρ0 G0 H0 fp exS tn 0 ρ0 s G0 H0) (hX : ∀ b ∈ exS, ∃ o, s.heap.get? b = some o ∧ ∀ v, o.data ≠ .cell v) (h0 : cs [] s.heap) :
      Seg (model Y.prog Y.w) Aw (GRe Y g (wipe σ own) ρ0 G0 H0 exS L e cs) (GYp Y g (wipe σ own) ρ0 G0 H0 fp exS tn L e cs) L.length s (.compStart (.GeneratorExp elt [⟨te, iter, ifs, 0⟩] scope pos) 0 (.ref it) .none Y.env)
        ((model Y.prog Y.w).den (.compStart (.GeneratorExp elt [⟨te, iter, ifs, 0⟩] scope pos) 0 (.ref it) .none Y.env)) [] s := by
  have loop := gen_loop (e := e) (L := L) (stop := stop) hc hco T wk hxe hex hA hcs hpf hg ht he hov ds.length 0 ρ0 L s s G0 H0 [] [] (Nat.sub_zero _) (Nat.zero_le _) htr (Nat.le_refl _) (by rw [Nat.sub_self]; rfl) hP ⟨by rw [Nat.sub_self]; exact .nil, .nil, h0⟩ hX
  show Seg _ Aw _ _ _ s _ ((compStart (.GeneratorExp elt [⟨te, iter, ifs, 0⟩] scope pos) 0 (.ref it) .none Y.env).onRaise (leaving Y.env)) [] s
  unfold compStart
  rw [Sem.onRaise_eq_wrap]
  show Seg _ Aw _ _ _ s _ ((ask >>= _).wrap _ _ _ _) [] s
  refine seg_bind_wrap (wpAny_askSetting ?_)
  split
  · exact seg_again rfl loop
  · first
      | exact seg_bind_wrap (wpAny_rule (seg_bind_wrap (wpAny_standAt (seg_bind_wrap (T.self _ 0 s _ _ hP.tn (seg_again rfl loop))))))
      | (refine seg_bind_wrap (wpAny_rule ?_); show Seg _ Aw _ _ _ s _ ((standAt iter.pos >>= _).wrap _ _ _ _) [] s; exact seg_bind_wrap (wpAny_standAt (seg_bind_wrap (T.self _ 0 s _ _ hP.tn (seg_again rfl loop)))))
end
/-- a rule holds in the code of the generator expression, whenever it is woken with room enough -/
def Gnx (X : Cx) (k : Nat) (scope : Scope) (φ : Cx → Prop) : Prop := ∀ (A' : Around) (s : Shared) (H : Hp) (C : Addr) (code : Value) (cl : List (Str × Addr)) (fp : List Addr) (pn : List (Addr × Obj)), Room k A' → φ (X.gen A' s H (genEnv scope cl C code builtinsNs X.env) fp pn)
/-- a generator that has not begun -/
def Rdy (X : Cx) (pins : List (Addr × Obj)) (σ : St) (g : Gd) (own : List Nat) (ρ1 : Rho) (G1 H1 : Hp) (L : List (D × Rho)) (e : Option Rho) (a : Addr) (s5 : Shared) : Prop :=
  ∃ (gi : Nat) (go : Obj) (fp : List Addr) (tn : Nat → Heap → Prop) (c : Code) (YO : Around → Cx), s5.heap.get? a = some go ∧ (∀ h : Heap, h.get? a = some go → h.IsGen a gi) ∧ s5.gens[gi]? = some (.fresh c) ∧ Inv X pins σ H1 s5 ∧
    (∀ (Aw : Around) (exS : List Addr) (cs : List Value → Heap → Prop) (s6 : Shared), Aw.handled = none → Aw.frames = some X.stack → Aw.depth ≤ X.A.depth → Aw.units ≤ X.A.units + 8 → Res exS s5 s6 → (∀ S ∈ exS, s5.heap.objs.size ≤ S) →
      (∀ its h h', cs its h → (∀ b ∈ exS, ∀ o, h.get? b = some o → h'.get? b = some o) → cs its h') → cs [] s6.heap →
      Seg (model X.prog X.w) Aw (GRe (YO Aw) g (wipe σ own) (wipeR ρ1 own) G1 H1 exS L e cs) (GYp (YO Aw) g (wipe σ own) (wipeR ρ1 own) G1 H1 fp exS tn L e cs) L.length s6 c ((model X.prog X.w).den c) [] s6) ∧
    (∀ (Aw : Around) (σ' : St) (H' : Hp) (s' : Shared), Inv (YO Aw) [] σ' H' s' → Inv X pins σ H' s' ∧ s'.heap.get? a = some go) ∧
    (∀ (Aw : Around) (exS : List Addr) (i : Nat) (ρ : Rho) (s' s'' : Shared) (G' H' : Hp), (∀ S ∈ exS, s5.heap.objs.size ≤ S) → GP (YO Aw) g (wipe σ own) (wipeR ρ1 own) G1 H1 fp exS tn i ρ s' G' H' → Res exS s' s'' → GP (YO Aw) g (wipe σ own) (wipeR ρ1 own) G1 H1 fp exS tn i ρ s'' G' H')
theorem wo_tab {g : Gd} {σ : St} {ρ : Rho} {G H : Hp} {P : Addr} {ps ps' : Array Value} (w : Wo g σ ρ G H) (hP : P ∈ g.T) (hPL : ∀ q, (P, q) ∉ g.L) (h : H P = some (.tbl ps)) (ht : TriplesOk ps'.toList) : StE g σ ρ G H ρ G (upd H P (.tbl ps')) := by
  have hG := (w.tb P hP).1
  have neG : ∀ b o, G b = some o → b ≠ P := fun b o q z => by subst z; rw [hG] at q; cases q
  refine ⟨Same.refl _, ⟨fun b o q => by rw [upd_ne (neG b o q)]; exact w.gh b o q, w.len, fun i sl q => ?_, w.dj, fun P' hP' => ?_⟩, fun a o q _ t => ?_, fun a q => ?_, fun _ q _ _ => q, fun _ ds q => ⟨ds, q⟩⟩
  · refine (w.sl i sl q).mono (Same.refl _) fun a xs _ h1 h2 _ => ⟨h1, ?_⟩
    have : a ≠ P := fun z => by subst z; rw [h] at h2; cases h2
    rw [upd_ne this]; exact h2
  · by_cases z : P' = P
    · subst z; exact ⟨hG, ps', upd_same, ht, fun q m => absurd m (hPL q)⟩
    · obtain ⟨h1, qs, h2, h3⟩ := w.tb P' hP'
      exact ⟨h1, qs, by rw [upd_ne z]; exact h2, h3.1, h3.2.upd (tbl_ne h)⟩
  · have : a ≠ P := fun z => t (z ▸ hP)
    rw [upd_ne this]; exact q
  · by_cases z : a = P
    · subst z; rw [upd_same]; simp
    · rw [upd_ne z]; exact q
section
variable {X : Cx} {g : Gd} {W : WX} {te iter elt : Expr} {ifs : List Expr} {pr : Bool} {own : List (Str × Nat)} {src : EvA} {tg : EvG} {t : EvT} {fe : Ev} {scope : Scope} {pos : Pos} {k : Nat} {c P : Addr}
abbrev genY (X : Cx) (s3 : Shared) (H3 : Hp) (te iter elt : Expr) (ifs : List Expr) (scope : Scope) (pos : Pos) (it : Addr) (code : Value) (go : Obj) (a : Addr) (fp : List Addr) (Aw : Around) : Cx :=
  X.gen (Aw.over (.compLoop (.GeneratorExp elt [⟨te, iter, ifs, 0⟩] scope pos) 0 (.ref it) .none (genEnv scope (cloFrom X.env.cells scope.names []) s3.heap.objs.size code builtinsNs X.env)) []) s3 H3
    (genEnv scope (cloFrom X.env.cells scope.names []) s3.heap.objs.size code builtinsNs X.env) fp [(a, go)]
/-- what a consumer reads: the source, then the items up to the first that stops it -/
def gGo (own : List Nat) (src : EvA) (tg : EvG) (t : EvT) (fe : Ev) (stop : D → Bool) (fin : List (D × Rho) → Option Rho → Rho → Option (Oc Sl)) : Ev := fun ρ => bdO (src ρ) fun ds ρ1 => if calmO ρ1 own then (match gtr own tg t fe stop ds (wipeR ρ1 own) with
  | some (L, e) => fin L e ρ1
  | none => none) else none
theorem gen_make {pins : List (Addr × Obj)} {σ : St} {H : Hp} {s : Shared} {stop : D → Bool} {fin : List (D × Rho) → Option Rho → Rho → Option (Oc Sl)} {Q : VK} {Q' : Value → Shared → Prop} (hc : X.calm = true) (hN : X.N.Nodup) (hr : Room (k + 1) X.A)
    (TB : GxR.TabB X.base X.mg c P) (hcode : X.env.code = .ref c) (hPT : P ∈ g.T) (hPL : ∀ q, (P, q) ∉ g.L) (ok : GScp X.N X.env.scope scope own) (hi : PI X te iter (tDI g W pr src)) (hg : Gnx X k scope fun Y => PG Y te (tDG g (pnO (own.map (·.2))) pr tg)) (ht : Gnx X k scope fun Y => PTs Y ifs (tDT g W0 t)) (he : Gnx X k scope fun Y => PE Y elt (tD g W0 fe))
    (hs : ∀ v, genFold iter X.env v = pure v) (I : Inv X pins σ H s) (h : tD g W (gGo (own.map (·.2)) src tg t fe stop fin) σ H Q)
    (hQ : ∀ ρ G o ρ1 G1 H1 L e a s5, Wo g σ ρ G H → Post g W σ ρ G H Q o → StE g σ ρ G H ρ1 G1 H1 → calmO ρ1 (own.map (·.2)) = true → fin L e ρ1 = some o → (∃ ds ρ', gtr (own.map (·.2)) tg t fe stop ds ρ' = some (L, e)) → Rdy X pins σ g (own.map (·.2)) ρ1 G1 H1 L e a s5 → Q' (.ref a) s5) :
    wpAny (model X.prog X.w) X.A (eval (.GeneratorExp elt [⟨te, iter, ifs, 0⟩] scope pos) X.env) Q' X.xe s := by
  obtain ⟨ρ, G, o, w, eq, po⟩ := h
  have hfree : ∀ y ∈ scope.names, y.2 = .free → ∃ c, X.env.cells.lookup y.1 = some c := fun y hy e => by
    rcases ok.free y hy e with k | k
    · exact I.ok.has _ (.inl k)
    · exact I.ok.has _ (.inr k)
  refine wpAny_GeneratorExp_make ok.co (closure_ok hfree) ok.cell ok.dot ok.kind (by have := hr.dp; omega) ?_ hs
  refine thn (hi.run pins s σ H (fun J H1 => ∃ ds ρ1 G1 L e, StE g σ ρ G H ρ1 G1 H1 ∧ Wk g G1 pr ds J ∧ calmO ρ1 (own.map (·.2)) = true ∧ gtr (own.map (·.2)) tg t fe stop ds (wipeR ρ1 (own.map (·.2))) = some (L, e) ∧ fin L e ρ1 = some o) I
    (tD_bi w eq po.exn fun J ds ρ1 G1 H1 s1 wk e1 => ?_)) fun xv s1 h1 => thn h1 fun itv s2 h2 => ?_
  · split at e1
    case isFalse => cases e1
    rename_i hcalm
    cases q0 : gtr (own.map (·.2)) tg t fe stop ds (wipeR ρ1 (own.map (·.2))) with
    | none => rw [q0] at e1; cases e1
    | some le =>
      obtain ⟨L, e⟩ := le
      rw [q0] at e1
      exact ⟨ds, ρ1, G1, L, e, s1, wk, hcalm, q0, e1⟩
  obtain ⟨it, fp, tn, J, H1, eit, I1, T, st1, f1, ds, ρ1, G1, L, e, se, wk, hcalm, htr, hfin⟩ := h2
  subst eit
  obtain ⟨hG, ps, hP, htp, _⟩ := se.wo.tb P hPT
  have hPs : s2.heap.get? P = some { cls := .none, data := .fields ps } := I1.hok P _ hP
  have hPlt : P < s2.heap.objs.size := Heap.lt_size hPs
  have cd : PySem.W.CodeHd s2.heap c P := TB.code.keeps I1.bk
  have szfp : ∀ b ∈ fp, b < s2.heap.objs.size := fun b hb => by
    obtain ⟨o, e, _⟩ := T.obj _ _ st1 b hb
    exact Heap.lt_size e
  have nPfp : ∀ b ∈ fp, b ≠ P := fun b hb z => by
    have := (f1 b hb).1
    rw [z, hP] at this
    cases this
  -- behind the code object
  have cont : ∀ (code : Value) (h3 : Heap) (tk : Nat) (ps' : Array Value), Heap.ExtBut P s2.heap h3 → s2.heap.objs.size ≤ h3.objs.size → h3.get? P = some { cls := .none, data := .fields ps' } → (∃ more, ps' = ps ++ more) → TriplesOk ps'.toList →
      wpAny (model X.prog X.w) X.A (builtinsFor X.env.globals X.env.builtins) (fun bi s₄ =>
        ∀ h', h'.Ns s₄.heap.objs.size (fun y => if y = ".0" then some (.ref it) else none) → Heap.SameBut s₄.heap.objs.size (s₄.heap.push { cls := .type "frame", data := .dict #[] }) h' →
          Q' (.ref h'.objs.size) { s₄ with
            gens := s₄.gens.push (.fresh (.compStart (.GeneratorExp elt [⟨te, iter, ifs, 0⟩] scope pos) 0 (.ref it) .none (genEnv scope (cloFrom X.env.cells scope.names []) s₄.heap.objs.size code bi X.env))),
            toks := s₄.toks + 1 + 1 + 1,
            heap := h'.push { cls := .type "generator", data := .fields #[.int s₄.gens.size 0, .str "<genexpr>" (s₄.toks + 1), .str (X.env.qual ++ "<genexpr>") (s₄.toks + 1 + 1)] } }) X.xe { s2 with heap := h3, toks := tk } := by
    intro code h3 tk ps' hx hsz hP3 hmore ht3
    obtain ⟨more, rfl⟩ := hmore
    obtain ⟨bm, ob, e1, e2, e3, e4, e5, e6, e7, e8⟩ := TB.bm
    have keep3 : ∀ b u, b ≠ P → s2.heap.get? b = some u → h3.get? b = some u := fun b u hb e => hx b u hb e
    have I3 : Inv X pins σ (upd H1 P (.tbl (ps ++ more))) { s2 with heap := h3, toks := tk } := GxR.inv_tab (h' := h3) (g' := s2.gens) (d' := s2.drawn) (t' := tk) I1 hP keep3 hP3 I1.bare
    have st3 := wo_tab se.wo hPT hPL hP ht3
    refine wpAny_builtinsFor (m := X.mg) (by rw [I1.ok.glob]; exact (I1.mod.glob.keeps I1.bk).extBut hx TB.gP) e1 e2 (keep3 _ _ e4 (I1.bk _ _ e5)) e6 e7 e8 ?_
    intro h' hn' hs'
    generalize hs3 : ({ s2 with heap := h3, toks := tk } : Shared) = s3 at I3 hn' hs' ⊢
    have h3e : s3.heap = h3 := by rw [← hs3]
    generalize hH3 : upd H1 P (.tbl (ps ++ more)) = H3 at I3 st3
    have sz' : h'.objs.size = s3.heap.objs.size + 1 := by rw [hs'.1, Heap.size_push]
    generalize hgo : ({ cls := .type "generator", data := .fields #[.int s3.gens.size 0, .str "<genexpr>" (s3.toks + 1), .str (X.env.qual ++ "<genexpr>") (s3.toks + 1 + 1)] } : Obj) = go
    have hgen : ∀ h : Heap, h.get? h'.objs.size = some go → h.IsGen h'.objs.size s3.gens.size := fun h e => ⟨go, _, _, e, by rw [← hgo], by rw [← hgo], by rw [← hgo]⟩
    have hpush : (h'.push go).get? h'.objs.size = some go := by
      rw [← hgo]
      exact Heap.get?_push_size _ rfl
    have hgd : ∀ v, go.data ≠ .cell v := fun v q => by rw [← hgo] at q; cases q
    have f3 : ∀ b ∈ fp, FpOk X pins H3 b ∧ b < s3.heap.objs.size := fun b hb => by
      refine ⟨⟨?_, (f1 b hb).2⟩, by rw [h3e]; exact Nat.lt_of_lt_of_le (szfp b hb) hsz⟩
      rw [← hH3, upd_ne (nPfp b hb)]
      exact (f1 b hb).1
    have st3' : tn 0 s3.heap := T.keep _ _ _ st1 fun b hb o e => by rw [h3e]; exact keep3 b o (nPfp b hb) e
    have kp5 : ∀ b o, s3.heap.get? b = some o → (h'.push go).get? b = some o := fun b o e => Heap.get?_push_of_some _ ((hs'.2 b (Nat.ne_of_lt (Heap.lt_size e))).trans (Heap.get?_push_of_some _ e))
    have hge : s3.heap.objs.size ≤ (h'.push go).objs.size := by rw [Heap.size_push, sz']; omega
    have apart : ∀ (Aw : Around) (exS : List Addr), (∀ S ∈ exS, (h'.push go).objs.size ≤ S) → ∀ S ∈ exS, ApS (genY X s3 H3 te iter elt ifs scope pos it code go h'.objs.size fp Aw) fp S := fun Aw exS hS S hSm => by
      have h5 : (h'.push go).objs.size ≤ S := hS S hSm
      have h6 : (h'.push go).objs.size = s3.heap.objs.size + 1 + 1 := by rw [Heap.size_push, sz']
      have t : s3.heap.objs.size ≤ S := Nat.le_trans hge h5
      refine ⟨t, Nat.ne_of_gt (by show s3.heap.objs.size < S; omega), fun x cc q z => ?_, fun z => ?_, fun p hp => ?_⟩
      · rcases cloFrom_mem (PySem.mem_of_lookup (show (cloFrom X.env.cells scope.names []).lookup x = some cc from q)) with hm | ⟨hm, hcc⟩
        · cases hm
        · obtain ⟨c0, hc0⟩ := hfree _ hm rfl
          rw [hc0] at hcc
          have hcc : cc = c0 := hcc
          obtain ⟨v, zz⟩ := I3.cell _ _ hc0
          have := zz.lt
          rw [← hcc, z] at this
          exact absurd (Nat.lt_of_lt_of_le this t) (Nat.lt_irrefl _)
      · exact absurd (Nat.lt_of_lt_of_le (f3 S z).2 t) (Nat.lt_irrefl _)
      · have : p = (h'.objs.size, go) := by simpa using hp
        subst this
        exact Nat.ne_of_lt (by show h'.objs.size < S; omega)
    have bare5 : AllBare (s3.gens.push (.fresh (.compStart (.GeneratorExp elt [⟨te, iter, ifs, 0⟩] scope pos) 0 (.ref it) .none (genEnv scope (cloFrom X.env.cells scope.names []) s3.heap.objs.size code builtinsNs X.env)))) := I3.bare.push rfl
    refine hQ ρ G o ρ1 G1 H3 L e _ _ w po (se.trans st3) hcalm hfin ⟨_, _, htr⟩ ⟨s3.gens.size, go, fp, tn, _, fun Aw => genY X s3 H3 te iter elt ifs scope pos it code go h'.objs.size fp Aw, hpush, hgen, Array.getElem?_push_size .., ?_, fun Aw exS cs s6 a1 a2 a3 a4 rs hS hcs h0 => ?_, fun Aw σ' H' s' I' => ?_, fun Aw exS i ρ' s' s'' G' H' hS hp rs => ?_⟩
    · exact I3.call' (ch := []) rfl (Un.kept kp5) (I3.hok.kept kp5) bare5 fun b z => by simp at z
    · have hfr : (Aw.over (.compLoop (.GeneratorExp elt [⟨te, iter, ifs, 0⟩] scope pos) 0 (.ref it) .none (genEnv scope (cloFrom X.env.cells scope.names []) s3.heap.objs.size code builtinsNs X.env)) []).frames = some (genEnv scope (cloFrom X.env.cells scope.names []) s3.heap.objs.size code builtinsNs X.env :: X.stack) := by
        show pushEnvs [_] (pushEnvs [] Aw.frames) = _
        rw [a2]
        rfl
      have room : Room k (Aw.over (.compLoop (.GeneratorExp elt [⟨te, iter, ifs, 0⟩] scope pos) 0 (.ref it) .none (genEnv scope (cloFrom X.env.cells scope.names []) s3.heap.objs.size code builtinsNs X.env)) []) := by
        refine ⟨a1, ?_, ?_⟩
        · have := hr.dp
          show Aw.depth + 0 + 1 + 3 * k + 5 < _
          omega
        · have := hr.un
          show Aw.units + 0 + 3 + 16 * k + 200 < _
          omega
      have Ig := gen_start (A' := Aw.over (.compLoop (.GeneratorExp elt [⟨te, iter, ifs, 0⟩] scope pos) 0 (.ref it) .none (genEnv scope (cloFrom X.env.cells scope.names []) s3.heap.objs.size code builtinsNs X.env)) []) (t' := s3.toks + 1 + 1 + 1) I3 ok hN f3 (fun _ => a1) hfr hn' hs' hpush hgd bare5
      have GP0 : GP (genY X s3 H3 te iter elt ifs scope pos it code go h'.objs.size fp Aw) g (wipe σ (own.map (·.2))) (wipeR ρ1 (own.map (·.2))) G1 H3 fp exS tn 0 (wipeR ρ1 (own.map (·.2))) _ G1 H3 := ⟨Ig, StE.refl (wo_wipe st3.wo), T.keep _ _ _ st3' fun b _ o q => kp5 b o q, fun b hb => (f3 b hb).1.1, fun S hSm => I3.hok.fresh (Nat.le_trans hge (hS S hSm))⟩
      have GP1 := GP.woken (Y := genY X s3 H3 te iter elt ifs scope pos it code go h'.objs.size fp Aw) T (apart Aw exS hS) GP0 rs
      refine gen_begin (Y := genY X s3 H3 te iter elt ifs scope pos it code go h'.objs.size fp Aw) (stop := stop) hc (by show scope.isCoroutine = false; exact ok.co) T wk rfl rfl (apart Aw exS hS) hcs (fun p hp b hb z => ?_) (hg _ _ _ _ _ _ _ _ room) (ht _ _ _ _ _ _ _ _ room) (he _ _ _ _ _ _ _ _ room) rfl htr s6 GP1 rs.own h0
      have : p = (h'.objs.size, go) := by simpa using hp
      subst this
      have z : h'.objs.size = b := z
      exact absurd (f3 b hb).2 (by rw [← z, sz']; exact Nat.not_lt.mpr (Nat.le_succ _))
    · refine ⟨I3.call' (ch := fp) I'.os I'.base I'.hok I'.bare fun b hb => ⟨(f3 b hb).1.2.2.2.1, (f3 b hb).1.2.1, (f3 b hb).1.2.2.2.2.1, (f3 b hb).1.2.2.2.2.2⟩, ?_⟩
      exact (I'.pin (h'.objs.size, go) (List.mem_append_left _ (List.mem_singleton.mpr rfl))).1
    · exact GP.woken (Y := genY X s3 H3 te iter elt ifs scope pos it code go h'.objs.size fp Aw) T (apart Aw exS hS) hp rs
  refine ⟨I1.nolimit, ?_⟩
  cases hf : codeAmong pos ps.toList with
  | none =>
    refine wpAny_genexprCodeX hcode (cd.code hPs htp) (cd.tab hPs) hf fun c' h' tk hx hge hlt hco' _ htab' _ => ?_
    obtain ⟨o1, vs, f1, tf, fl, tg, inF, tx, tt, op, _, _, _, _, _, _, _, _, _, htr, _⟩ := hco'
    exact cont _ h' tk _ hx (Nat.le_trans hge (Nat.le_of_lt hlt)) htab'.2 ⟨_, rfl⟩ htr
  | some cv =>
    refine wpAny_genexprCode_hit hcode (cd.code hPs htp) hf ?_
    exact cont cv s2.heap s2.toks ps (Heap.ExtBut.refl _ _) (Nat.le_refl _) hPs ⟨#[], by simp⟩ htp
end
end Rk
set_option Elab.async false
set_option linter.all false
set_option maxRecDepth 100000
set_option maxHeartbeats 4000000
namespace Rk
open PySem PySem.Spec PyProof.Rows L2 GenW
def stopF : D → Bool
  | .bool false => true
  | _ => false
def isB : D → Bool
  | .bool _ => true
  | _ => false
theorem gtr_end {own : List Nat} {tg : EvG} {t : EvT} {fe : Ev} {stop : D → Bool} : ∀ {ds : List D} {ρ : Rho} {L : List (D × Rho)} {e : Option Rho}, gtr own tg t fe stop ds ρ = some (L, e) →
    (e = none → ∃ p, L.getLast? = some p ∧ stop p.1 = true) ∧ ∀ i p, L[i]? = some p → stop p.1 = true → e = none ∧ i + 1 = L.length
  | [], ρ, L, e, h => by
    cases h
    exact ⟨fun z => (by cases z), fun i p q => (by simp at q)⟩
  | d :: ds, ρ, L, e, h => by
    unfold gtr at h
    split at h
    · cases h
    · split at h
      · split at h
        · split at h
          · split at h
            · rename_i hs
              cases h
              refine ⟨fun _ => ⟨_, rfl, hs⟩, fun i p q _ => ?_⟩
              cases i with
              | zero => exact ⟨rfl, rfl⟩
              | succ n => simp at q
            · rename_i hs
              split at h
              · rename_i l e' q
                cases h
                obtain ⟨h1, h2⟩ := gtr_end q
                refine ⟨fun z => ?_, fun i p q hp => ?_⟩
                · obtain ⟨p, hp, hs⟩ := h1 z
                  refine ⟨p, ?_, hs⟩
                  rw [List.getLast?_cons, hp]
                  rfl
                · cases i with
                  | zero =>
                    simp at q
                    subst q
                    exact absurd hp hs
                  | succ n =>
                    obtain ⟨a, b⟩ := h2 n p (by simpa using q) hp
                    exact ⟨a, by simp [b]⟩
              · cases h
          · cases h
        · cases h
      · exact gtr_end h
      · cases h
def finAll (own : List Nat) (L : List (D × Rho)) (e : Option Rho) (ρ1 : Rho) : Option (Oc Sl) := if L.all (fun p => isB p.1) then (match e with
  | some ρe => some (.ok (bl true) (backR ρ1 ρe own))
  | none => (match L.getLast? with
    | some p => some (.ok (bl false) (backR ρ1 p.2 own))
    | none => none)) else none
section
variable {X : Cx} {pins : List (Addr × Obj)} {σ : St} {g : Gd} {own : List Nat} {ρ1 : Rho} {G1 H1 : Hp} {L : List (D × Rho)} {e : Option Rho} {a : Addr} {R : Result → Shared → Prop} {gi : Nat} {go : Obj} {fp : List Addr} {tn : Nat → Heap → Prop} {YO : Around → Cx}
theorem all_loop (hd : X.A.handled = none) (hroom : X.A.depth < recursionLimit) (hgen : ∀ h : Heap, h.get? a = some go → h.IsGen a gi) (hL : L.all (fun p => isB p.1) = true) (hend : (e = none → ∃ p, L.getLast? = some p ∧ stopF p.1 = true) ∧ ∀ i p, L[i]? = some p → stopF p.1 = true → e = none ∧ i + 1 = L.length)
    (back : ∀ (Aw : Around) (σ' : St) (H' : Hp) (s' : Shared), Inv (YO Aw) [] σ' H' s' → Inv X pins σ H' s' ∧ s'.heap.get? a = some go)
    (hT : ∀ ρe G H s', e = some ρe → Inv X pins σ H s' → StE g (wipe σ own) (wipeR ρ1 own) G1 H1 ρe G H → R (.ok (.ret (.bool true))) s') (hF : ∀ p G H s', e = none → L.getLast? = some p → Inv X pins σ H s' → StE g (wipe σ own) (wipeR ρ1 own) G1 H1 p.2 G H → R (.ok (.ret (.bool false))) s') :
    ∀ (m : Nat) (s : Shared), m ≤ L.length → (m = 0 → e.isSome = true) → s.heap.get? a = some go → s.heap.NoLimit →
      (∃ gs, s.gens[gi]? = some gs ∧ gs.Goes (model X.prog X.w) X.A.in1.in1 (GRe (YO X.A.in1.in1) g (wipe σ own) (wipeR ρ1 own) G1 H1 [] L e fun _ _ => True) (GYp (YO X.A.in1.in1) g (wipe σ own) (wipeR ρ1 own) G1 H1 fp [] tn L e fun _ _ => True) m (.send .none) (s.setGen gi .running)) →
      codeAny (model X.prog X.w) X.A (.builtin "all.loop" ⟨[.ref a], []⟩) R s := by
  intro m
  induction m with
  | zero =>
    intro s hm h0 ha hl ⟨gs, hgs, hgo⟩
    refine codeAny_builtin F.entry_all_loop ?_
    rw [Around.under_plainId F.plain_all_loop _]
    show wpAny _ X.A.in1 (pyNext (.ref a) >>= _) _ _ s
    refine wpAny_bind (wpAny_pyNext_genexpQ (A := X.A.in1) hd hl hroom (hgen _ ha) hgs hgo (fun v s1 gs' hb hv => ?_) (fun s1 hp h' hk => ?_))
    · obtain ⟨y, ρ', i, G, H, x, vs, its, hy, hP, hgt, rx, rv, hr⟩ := hv
      exact (hr (.inl (h0 rfl)) s1 ⟨rfl, hP.inv.bare, fun _ _ _ q => q, fun b z => by cases z⟩ trivial).elim
    · obtain ⟨_, ρe, G, H, vs, its, he, I, st, _, _⟩ := hp
      obtain ⟨I1, _⟩ := back _ _ _ _ I
      refine wpAny_bind (wpAny_rule (wpAny_pure ?_))
      refine hT ρe G H _ he ?_ st
      exact I1.call' (ch := []) rfl (Un.kept hk) (I1.hok.kept hk) (allBare_setGen I1.bare rfl) fun b z => by simp at z
  | succ m ih =>
    intro s hm h0 ha hl ⟨gs, hgs, hgo⟩
    refine codeAny_builtin F.entry_all_loop ?_
    rw [Around.under_plainId F.plain_all_loop _]
    show wpAny _ X.A.in1 (pyNext (.ref a) >>= _) _ _ s
    have hgl : gi < s.gens.size := (Array.getElem?_eq_some_iff.mp hgs).1
    refine wpAny_bind (wpAny_gsz (n := gi + 1) hgl (wpAny_pyNext_genexpQ (A := X.A.in1) hd hl hroom (hgen _ ha) hgs hgo (fun v s1 gs' hb hv => ?_) (fun s1 hp h' hk => ?_)))
    · intro hsz
      obtain ⟨y, ρ', i, G, H, x, vs, its, hy, hP, hgt, rx, rv, hr⟩ := hv
      have hmm : m + 1 - 1 = m := rfl
      rw [hmm] at hy hr
      obtain ⟨I1, ha1⟩ := back _ _ _ _ hP.inv
      have hB : isB y = true := List.all_eq_true.mp hL _ (List.mem_of_getElem? hy)
      cases y with
      | bool b =>
        cases rx
        obtain rfl : v = Value.bool b := rv
        refine wpAny_bind (wpAny_holding (wpAny_truthy_bool ?_))
        refine wpAny_bind (wpAny_letGo ?_)
        have I2 : Inv X pins σ H (s1.setGen gi gs') := I1.call' (ch := []) rfl (Un.kept fun _ _ q => q) I1.hok (allBare_setGen I1.bare hb) fun b z => by simp at z
        cases b with
        | true =>
          simp only [if_true]
          have more : e.isSome = true ∨ 0 < m := by
            cases he : e with
            | some _ => exact .inl rfl
            | none =>
              refine .inr (Nat.pos_of_ne_zero fun z => ?_)
              obtain ⟨p, hp, hs⟩ := hend.1 he
              subst z
              rw [List.getLast?_eq_getElem?] at hp
              rw [Nat.sub_zero, hp] at hy
              cases hy
              cases hs
          have hgl1 : gi < s1.gens.size := by
            have q : (s1.setGen gi gs').gens.size = s1.gens.size := setGen_size _ _ _
            have hsz' : gi + 1 ≤ (s1.setGen gi gs').gens.size := hsz
            omega
          refine wpAny_pure ⟨plainId_quiet F.plain_all_loop _, ih _ (by omega) (fun z => more.resolve_right (by omega)) ha1 I1.nolimit ⟨gs', setGen_at hgl1, ?_⟩⟩
          exact hr more _ ⟨rfl, allBare_setGen I2.bare rfl, fun _ _ _ q => q, fun b z => by cases z⟩ trivial
        | false =>
          simp only [Bool.false_eq_true, if_false]
          refine wpAny_bind (wpAny_rule (wpAny_pure ?_))
          obtain ⟨h1, h2⟩ := hend.2 _ _ hy rfl
          have m0 : m = 0 := by omega
          subst m0
          refine hF (.bool false, ρ') G H _ h1 ?_ I2 hP.st
          rw [List.getLast?_eq_getElem?]
          rw [Nat.sub_zero] at hy
          exact hy
      | _ => cases hB
    · intro hsz
      obtain ⟨z, _⟩ := hp
      cases z
theorem e_allG {W : WX} {te iter elt : Expr} {ifs : List Expr} {pr : Bool} {own : List (Str × Nat)} {src : EvA} {tg : EvG} {t : EvT} {fe : Ev} {scope : Scope} {p pos gpos : Pos} {k : Nat} {c P : Addr} (hc : X.calm = true) (hN : X.N.Nodup) (hr : Room (k + 1) X.A)
    (TB : GxR.TabB X.base X.mg c P) (hcode : X.env.code = .ref c) (hPT : P ∈ g.T) (hPL : ∀ q, (P, q) ∉ g.L) (ok : GScp X.N X.env.scope scope own) (hi : PI X te iter (tDI g W pr src)) (hg : Gnx X k scope fun Y => PG Y te (tDG g (pnO (own.map (·.2))) pr tg)) (ht : Gnx X k scope fun Y => PTs Y ifs (tDT g W0 t)) (he : Gnx X k scope fun Y => PE Y elt (tD g W0 fe))
    (hs : ∀ v, genFold iter X.env v = pure v) (hgl : Gl X "all") (hm : X.mg "all" = none) :
    PE X (.Call (.Name "all" p) [.GeneratorExp elt [⟨te, iter, ifs, 0⟩] scope gpos] [] pos) (tD g W (gGo (own.map (·.2)) src tg t fe stopF (finAll (own.map (·.2))))) := by
  have hst : starEach [Expr.GeneratorExp elt [⟨te, iter, ifs, 0⟩] scope gpos] X.env = (false, eval (.GeneratorExp elt [⟨te, iter, ifs, 0⟩] scope gpos) X.env) :: starEach [] X.env := star_cons rfl
  refine ⟨fun pins s σ H Q I h => ?_⟩
  refine wpAny_Call_Name_kw (ld_blt I hgl hm (show bootBuiltins "all" = some (.builtin "all") by decide +kernel) ?_)
  refine PyProof.Rows.callWith_builtin1 ?_ hst (by rfl)
  rw [hst]
  show wpAny _ _ (spliced ((false, eval (.GeneratorExp elt [⟨te, iter, ifs, 0⟩] scope gpos) X.env) :: backTo pos (starEach [] X.env))) _ _ s
  refine Calls.spliced_cons (gen_make hc hN hr TB hcode hPT hPL ok hi hg ht he hs I h fun ρ G o ρ1 G1 H1 L e a s5 w po se hcalm hfin ⟨ds0, ρ0, hgtr⟩ hR => ?_)
  refine Calls.spliced_nil ?_
  obtain ⟨gi, go, fp, tn, cc, YO, ha, hgen, hgs, I5, wake, back, _⟩ := hR
  refine call_function_tree F.kind_all F.plain_all F.entry_all (F.args_all1 _) ?_
  unfold Builtin.«all»
  refine wpAny_bind (m := oneArg "all" _) (wpAny_pure ?_)
  refine wpAny_bind (wpAny_pyIter_gen (hgen _ ha) ?_)
  unfold finAll at hfin
  split at hfin
  case isFalse => cases hfin
  rename_i hL
  have fin : ∀ (b : Bool) (ρe : Rho) (G' H' : Hp) (s' : Shared), o = .ok (bl b) (backR ρ1 ρe (own.map (·.2))) → Inv X pins σ H' s' → StE g (wipe σ (own.map (·.2))) (wipeR ρ1 (own.map (·.2))) G1 H1 ρe G' H' → EP X pins σ Q (.bool b) s' := fun b ρe G' H' s' eo I' st => by
    subst eo
    exact ⟨.bl b, H', I', rfl, (po.step se) _ _ _ (st.unwipe se.wo hcalm) (.bl b)⟩
  refine wpAny_pure ⟨plainId_quiet F.plain_all_loop _, all_loop (g := g) (own := own.map (·.2)) (ρ1 := ρ1) (G1 := G1) (H1 := H1) (L := L) (e := e) (fp := fp) (tn := tn) (YO := YO) hr.hd hr.depth hgen hL (gtr_end hgtr) back (fun ρe G' H' s' e1 I' st => ?_) (fun p' G' H' s' e1 e2 I' st => ?_) L.length s5 (Nat.le_refl _) (fun z => ?_) ha I5.nolimit ⟨_, hgs, rfl, ?_⟩⟩
  · rw [e1] at hfin
    exact fin true ρe G' H' s' (Option.some.inj hfin).symm I' st
  · rw [e1] at hfin
    dsimp only at hfin
    rw [e2] at hfin
    exact fin false p'.2 G' H' s' (Option.some.inj hfin).symm I' st
  · cases q : e with
    | some _ => rfl
    | none =>
      obtain ⟨p', hp', _⟩ := (gtr_end hgtr).1 q
      rw [List.length_eq_zero_iff.mp z] at hp'
      cases hp'
  · exact wake X.A.in1.in1 [] (fun _ _ => True) _ hr.hd I5.ok.frames (Nat.le_refl _) (by show X.A.units + 1 + 1 ≤ _; omega) ⟨rfl, allBare_setGen I5.bare rfl, fun _ _ _ q => q, fun b z => by cases z⟩ (fun S z => by cases z) (fun _ _ _ _ _ => trivial) trivial
end
end Rk
set_option Elab.async false
set_option linter.all false
set_option maxRecDepth 100000
set_option maxHeartbeats 4000000
namespace Rk
open PySem PySem.Spec PyProof.Rows L2 GenW
def never : D → Bool := fun _ => false
def finTup (own : List Nat) (L : List (D × Rho)) (e : Option Rho) (ρ1 : Rho) : Option (Oc Sl) := match e with
  | some ρe => if L.length ≤ big then some (.ok (.sh (.tuple (L.map (·.1)))) (backR ρ1 ρe own)) else none
  | none => none
/-- the consumer's list -/
def csL (S : Addr) : List Value → Heap → Prop := fun its h => ∃ c, h.get? S = some (lstObj its.toArray c)
section
variable {X : Cx} {pins : List (Addr × Obj)} {σ : St} {g : Gd} {own : List Nat} {ρ1 : Rho} {e : Option Rho} {G1 H1 : Hp} {L : List (D × Rho)} {a : Addr} {gi : Nat} {go : Obj} {fp : List Addr} {tn : Nat → Heap → Prop} {YO : Around → Cx}
/-- list.extend's loop over the generator: the list at S is the consumer's own -/
theorem ext_loop {A : Around} {R : Result → Shared → Prop} {S : Addr} {res : Value} (hd : A.handled = none) (hroom : A.depth < recursionLimit) (hgen : ∀ h : Heap, h.get? a = some go → h.IsGen a gi) (hbig : L.length ≤ big) (hSa : S ≠ a) (he : e.isSome = true)
    (back : ∀ (Aw : Around) (σ' : St) (H' : Hp) (s' : Shared), Inv (YO Aw) [] σ' H' s' → Inv X pins σ H' s' ∧ s'.heap.get? a = some go)
    (hT : ∀ ρe G H s' vs its c, e = some ρe → Inv X pins σ H s' → StE g (wipe σ own) (wipeR ρ1 own) G1 H1 ρe G H → RpAll g.K G vs (L.map (·.1)) → Vals vs its → s'.heap.get? S = some (lstObj its.toArray c) → H S = none → R (.ok (.ret res)) s') :
    ∀ (m : Nat) (s : Shared), m ≤ L.length → s.heap.get? a = some go → s.heap.NoLimit →
      (∃ gs, s.gens[gi]? = some gs ∧ gs.Goes (model X.prog X.w) A.in1.in1 (GRe (YO A.in1.in1) g (wipe σ own) (wipeR ρ1 own) G1 H1 [S] L e (csL S)) (GYp (YO A.in1.in1) g (wipe σ own) (wipeR ρ1 own) G1 H1 fp [S] tn L e (csL S)) m (.send .none) (s.setGen gi .running)) →
      codeAny (model X.prog X.w) A (.builtin "list.extend.loop" ⟨[.ref S, .ref a, res], []⟩) R s := by
  intro m
  induction m with
  | zero =>
    intro s hm ha hl ⟨gs, hgs, hgo⟩
    refine codeAny_builtin F.entry_extend_loop ?_
    rw [Around.under_plainId F.plain_extend_loop _]
    show wpAny _ A.in1 (pyNext (.ref a) >>= _) _ _ s
    refine wpAny_bind (wpAny_pyNext_genexpQ (A := A.in1) hd hl hroom (hgen _ ha) hgs hgo (fun v s1 gs' hb hv => ?_) (fun s1 hp h' hk => ?_))
    · obtain ⟨y, ρ', i, G, H, x, vs, its, hy, hP, hgt, rx, rv, hr⟩ := hv
      obtain ⟨c, hS1⟩ := hgt.cs
      exact (hr (.inl he) { s1 with heap := s1.heap.update S (Obj.mapSeq (·.push v)) } ⟨rfl, hP.inv.bare, fun b o hb q => (Heap.get?_update_other _ _ (fun z => hb (by rw [z]; exact List.mem_singleton.mpr rfl))).trans q, fun b hb => by
        rw [List.mem_singleton.mp hb]
        exact ⟨_, Heap.get?_update_self _ hS1 rfl, fun v q => by cases q⟩⟩ ⟨_, by
        rw [show (its ++ [v]).toArray = its.toArray.push v by simp]
        exact Heap.get?_update_self _ hS1 rfl⟩).elim
    · obtain ⟨_, ρe, G, H, vs, its, he', I, st, hS, hgt⟩ := hp
      obtain ⟨I1, _⟩ := back _ _ _ _ I
      obtain ⟨c, hS1⟩ := hgt.cs
      have I2 : Inv X pins σ H { s1.setGen gi .finished with heap := h' } := I1.call' (ch := []) rfl (Un.kept hk) (I1.hok.kept hk) (allBare_setGen I1.bare rfl) fun b z => by simp at z
      exact wpAny_pure (hT ρe G H _ vs its c he' I2 st hgt.rp hgt.vl (hk _ _ hS1) (hS S (List.mem_singleton.mpr rfl)))
  | succ m ih =>
    intro s hm ha hl ⟨gs, hgs, hgo⟩
    refine codeAny_builtin F.entry_extend_loop ?_
    rw [Around.under_plainId F.plain_extend_loop _]
    show wpAny _ A.in1 (pyNext (.ref a) >>= _) _ _ s
    have hgl : gi < s.gens.size := (Array.getElem?_eq_some_iff.mp hgs).1
    refine wpAny_bind (wpAny_gsz (n := gi + 1) hgl (wpAny_pyNext_genexpQ (A := A.in1) hd hl hroom (hgen _ ha) hgs hgo (fun v s1 gs' hb hv => ?_) (fun s1 hp h' hk => ?_)))
    · intro hsz
      obtain ⟨y, ρ', i, G, H, x, vs, its, hy, hP, hgt, rx, rv, hr⟩ := hv
      obtain ⟨I1, ha1⟩ := back _ _ _ _ hP.inv
      obtain ⟨c, hS1⟩ := hgt.cs
      have hlen : its.toArray.size < sizeLine := by
        have e1 := hgt.vl.length
        have e2 := hgt.rp.len
        have hb := big_eq
        rw [List.size_toArray, ← e1, e2, List.length_map, List.length_take]
        have hmm : m + 1 - 1 = m := rfl
        omega
      have hgl1 : gi < s1.gens.size := by
        have q : (s1.setGen gi gs').gens.size = s1.gens.size := setGen_size _ _ _
        have hsz' : gi + 1 ≤ (s1.setGen gi gs').gens.size := hsz
        omega
      show wpAny _ A.in1 (updateSeq S (·.push v) >>= _) _ _ _
      refine wpAny_bind ?_
      refine wpAny_updateSeq hS1 rfl (wpAny_pure ⟨plainId_quiet F.plain_extend_loop _, ?_⟩) (Nat.le_of_lt hlen) (by show (its.toArray.push v).size ≤ sizeLine + 1; rw [Array.size_push]; omega)
      have keep3 : ∀ b o, b ∉ [S] → s1.heap.get? b = some o → (s1.heap.update S (Obj.mapSeq (·.push v))).get? b = some o := fun b o hb q => (Heap.get?_update_other _ _ (fun z => hb (by rw [z]; exact List.mem_singleton.mpr rfl))).trans q
      refine ih { s1.setGen gi gs' with heap := s1.heap.update S (Obj.mapSeq (·.push v)) } (by omega) (keep3 a go (fun z => hSa (List.mem_singleton.mp z).symm) ha1) ?_ ⟨gs', setGen_at hgl1, ?_⟩
      · obtain ⟨mc, hns, hnn⟩ := I1.nolimit
        refine ⟨mc, hns.at' fun o q => keep3 _ o (fun z => ?_) q, hnn⟩
        obtain ⟨o, es, ep, ho, hdd, _⟩ := hns
        rw [List.mem_singleton.mp z, hS1] at ho
        cases ho
        cases hdd
      · refine hr (.inl he) _ ⟨rfl, allBare_setGen (s := { s1.setGen gi gs' with heap := s1.heap.update S (Obj.mapSeq (·.push v)) }) (allBare_setGen I1.bare hb) rfl, keep3, fun b hb => ?_⟩ ⟨_, by
          rw [show (its ++ [v]).toArray = its.toArray.push v by simp]
          exact Heap.get?_update_self _ hS1 rfl⟩
        · rw [List.mem_singleton.mp hb]
          exact ⟨_, Heap.get?_update_self _ hS1 rfl, fun v q => by cases q⟩
    · intro hsz
      obtain ⟨z, _⟩ := hp
      cases z
/-- what collects the items of an iterable -/
theorem collect_gen {A : Around} {E : Value → Shared → Prop} {Qc : List Value → Shared → Prop} {s : Shared} {c : Code} (hd : A.handled = none) (hdp : A.depth ≤ X.A.depth) (hun : A.units + 4 ≤ X.A.units + 8) (hfrm : A.frames = some X.stack) (hroom : X.A.depth < recursionLimit) (hgen : ∀ h : Heap, h.get? a = some go → h.IsGen a gi) (hbig : L.length ≤ big) (he : e.isSome = true)
    (ha : s.heap.get? a = some go) (hgs : s.gens[gi]? = some (.fresh c)) (I5 : Inv X pins σ H1 s)
    (wake : ∀ (Aw : Around) (exS : List Addr) (cs : List Value → Heap → Prop) (s6 : Shared), Aw.handled = none → Aw.frames = some X.stack → Aw.depth ≤ X.A.depth → Aw.units ≤ X.A.units + 8 → Res exS s s6 → (∀ S ∈ exS, s.heap.objs.size ≤ S) →
      (∀ its h h', cs its h → (∀ b ∈ exS, ∀ o, h.get? b = some o → h'.get? b = some o) → cs its h') → cs [] s6.heap →
      Seg (model X.prog X.w) Aw (GRe (YO Aw) g (wipe σ own) (wipeR ρ1 own) G1 H1 exS L e cs) (GYp (YO Aw) g (wipe σ own) (wipeR ρ1 own) G1 H1 fp exS tn L e cs) L.length s6 c ((model X.prog X.w).den c) [] s6)
    (back : ∀ (Aw : Around) (σ' : St) (H' : Hp) (s' : Shared), Inv (YO Aw) [] σ' H' s' → Inv X pins σ H' s' ∧ s'.heap.get? a = some go)
    (hT : ∀ ρe G H s' vs its, e = some ρe → Inv X pins σ H s' → StE g (wipe σ own) (wipeR ρ1 own) G1 H1 ρe G H → RpAll g.K G vs (L.map (·.1)) → Vals vs its → Qc its s') :
    wpAny (model X.prog X.w) A (collect (.ref a)) Qc E s := by
  have hlt : a < s.heap.objs.size := Heap.lt_size ha
  have hSa : s.heap.objs.size ≠ a := Nat.ne_of_gt hlt
  have hgn := hgen _ ha
  unfold collect
  refine wpAny_bind (wpAny_runValue (codeAny_builtin F.entry_proto_collect ?_))
  rw [Around.under_plainId F.plain_proto_collect _]
  show wpAny _ A.in1 (newList [] >>= fun l => again (.builtin "list.__iadd__" ⟨[l, .ref a], []⟩)) _ _ s
  refine wpAny_bind (wpAny_newObj_type ?_)
  refine wpAny_pure ⟨plainId_quiet F.plain_list_iadd _, codeAny_builtin F.entry_list_iadd ?_⟩
  rw [Around.under_plainId F.plain_list_iadd _]
  have k1 : ∀ b o, s.heap.get? b = some o → (s.heap.push { cls := .type "list", data := .seq ([] : List Value).toArray }).get? b = some o := fun b o q => Heap.get?_push_of_some _ q
  have g1 := hgn.keeps k1
  show wpAny _ A.in1 (Builtin.List.listExtendWith (.ref s.heap.objs.size) (.ref a) (.ref s.heap.objs.size)) _ _ _
  unfold Builtin.List.listExtendWith
  refine wpAny_bind (wpAny_typeOf (Heap.IsGen.typeIs (s := { s with heap := _ }) g1) ?_)
  have h1 : Builtin.List.listSameRef (.ref s.heap.objs.size) (.ref a) = false := by simp [Builtin.List.listSameRef, hSa]
  have h2 : (Value.type "generator" == Value.type "list") = false := by decide
  have h3 : (Value.type "generator" == Value.type "tuple") = false := by decide
  simp only [h1, h2, h3, Bool.or_false, Bool.false_eq_true, if_false]
  refine wpAny_bind (wpAny_pyIter_gen (s := { s with heap := _ }) g1 ?_)
  refine wpAny_bind (wpAny_holding ?_)
  unfold Builtin.List.listLengthHint
  refine wpAny_bind (wpAny_specialOf (Heap.IsGen.typeIs (s := { s with heap := _ }) g1) F.gen_no_len ?_)
  show wpAny _ A.in1 (specialOf (Value.ref a) (Str.ofString "__length_hint__") >>= _) _ _ _
  refine wpAny_bind (wpAny_specialOf (Heap.IsGen.typeIs (s := { s with heap := _ }) g1) F.gen_no_hint ?_)
  refine wpAny_pure ?_
  show wpAny _ A.in1 (rule "list.extend.makes-room" >>= fun _ => Builtin.List.listTouch (.ref s.heap.objs.size) >>= fun _ =>
    again (.builtin "list.extend.loop" ⟨[.ref s.heap.objs.size, .ref a, .ref s.heap.objs.size], []⟩)) _ _ _
  refine wpAny_bind (wpAny_rule ?_)
  have hS₁ : (s.heap.push { cls := .type "list", data := .seq ([] : List Value).toArray }).get? s.heap.objs.size = some { cls := .type "list", data := .seq ([] : List Value).toArray } := Heap.get?_push_size _ rfl
  refine wpAny_bind ?_
  show wpAny _ A.in1 (updateSeq s.heap.objs.size (·.push .none) >>= fun _ => updateSeq s.heap.objs.size (·.pop)) _ _ _
  refine wpAny_bind (wpAny_updateSeq hS₁ rfl ?_)
  have hS₂ := Heap.get?_update_self (Obj.mapSeq (·.push Value.none)) hS₁ rfl
  refine wpAny_updateSeq hS₂ rfl ?_
  have hS₃ := Heap.get?_update_self (Obj.mapSeq (·.pop)) hS₂ rfl
  have oth : ∀ b o, s.heap.get? b = some o →
      (((s.heap.push { cls := .type "list", data := .seq ([] : List Value).toArray }).update s.heap.objs.size (Obj.mapSeq (·.push Value.none))).update s.heap.objs.size (Obj.mapSeq (·.pop))).get? b = some o :=
    fun b o q => have nb : b ≠ s.heap.objs.size := Nat.ne_of_lt (Heap.lt_size q)
      (Heap.get?_update_other _ _ (Ne.symm nb)).trans ((Heap.get?_update_other _ _ (Ne.symm nb)).trans (k1 b o q))
  refine wpAny_pure ⟨plainId_quiet F.plain_extend_loop _, ext_loop (A := A) (X := X) (pins := pins) (σ := σ) (g := g) (own := own) (ρ1 := ρ1) (e := e) (G1 := G1) (H1 := H1) (L := L) (fp := fp) (tn := tn) (YO := YO) hd (Nat.lt_of_le_of_lt hdp hroom) hgen hbig hSa he back
    (fun ρe G H s' vs its cc e1 I' st rr rv hS hn => ?_) L.length _ (Nat.le_refl _) (oth _ _ ha) (I5.nolimit.keeps oth) ⟨_, hgs, rfl, ?_⟩⟩
  · show wpAny _ A (load s.heap.objs.size >>= _) _ _ s'
    refine wpAny_bind (wpAny_load hS ?_)
    exact wpAny_pure (hT ρe G H s' vs its e1 I' st rr rv)
  · refine wake A.in1.in1 [s.heap.objs.size] (csL s.heap.objs.size) _ hd hfrm hdp (by show A.units + 1 + 1 ≤ _; omega) ⟨rfl, allBare_setGen (s := { s with heap := _ }) I5.bare rfl, fun b o _ q => oth b o q, fun b hb => ?_⟩ (fun S hS => ?_) (fun its h h' ⟨c', q⟩ k => ⟨c', k _ (List.mem_singleton.mpr rfl) _ q⟩) ⟨_, hS₃⟩
    · rw [List.mem_singleton.mp hb]
      exact ⟨_, hS₃, fun v q => by cases q⟩
    · rw [List.mem_singleton.mp hS]
      exact Nat.le_refl _
end
end Rk
set_option Elab.async false
set_option linter.all false
set_option maxRecDepth 100000
set_option maxHeartbeats 4000000
namespace Rk
open PySem PySem.Spec PyProof.Rows L2 GenW
section
variable {prog : Program} {w : World} {A : Around} {E : Value → Shared → Prop} {s : Shared} {a : Addr}
theorem tup_newG {Q₁ : Value → Shared → Prop} {Φ : List Value → Shared → Prop} (hTI : s.TypeIs (.ref a) "generator")
    (hcoll : ∀ {Qc : List Value → Shared → Prop} {E' : Value → Shared → Prop}, (∀ s' its, Φ its s' → Qc its s') → wpAny (model prog w) A.in1 (collect (.ref a)) Qc E' s)
    (h : ∀ s' its, Φ its s' → its.length ≤ sizeLine ∧ Q₁ (.ref s'.heap.objs.size) { s' with heap := s'.heap.push { cls := .type "tuple", data := .seq its.toArray } }) :
    codeAny (model prog w) A (.call (.builtin "tuple.__new__") ⟨[.type "tuple", .ref a], []⟩) (wants Q₁ E) s := by
  refine codeAny_of_tree ?_
  show wpAny _ A.in1 (do checkBuiltinCall "tuple.__new__" ⟨[.type "tuple", .ref a], []⟩; again (.builtin "tuple.__new__" ⟨[.type "tuple", .ref a], []⟩)) _ _ s
  refine wpAny_bind (wpAny_of_eq (F.newCall_tuple_1 _) (wpAny_pure ⟨plainId_quiet F.plain_tuple_new _, codeAny_builtin F.entry_tuple_new ?_⟩))
  rw [Around.under_plainId F.plain_tuple_new _]
  have hsub := sub_tuple_self
  have hinit := init_tuple_lookup
  have hmh := madeHere_tuple
  wp_walk using wpAny_typeOf hTI, hcoll
  intro s' its hP
  obtain ⟨hz, hq⟩ := h s' its hP
  show wpAny _ _ (Builtin.Tuple.tupleExact its.toArray >>= fun v => ret v) _ _ _
  unfold Builtin.Tuple.tupleExact
  refine wpAny_bind (wpAny_newObj_type ?_ (by show its.toArray.size ≤ sizeLine; rw [List.size_toArray]; exact hz))
  exact wpAny_pure hq
theorem call_tupG {Q : Value → Shared → Prop} {Φ : List Value → Shared → Prop} (hTI : s.TypeIs (.ref a) "generator")
    (hcoll : ∀ {Qc : List Value → Shared → Prop} {E' : Value → Shared → Prop}, (∀ s' its, Φ its s' → Qc its s') → wpAny (model prog w) A.in1.in1 (collect (.ref a)) Qc E' s)
    (h : ∀ s' its, Φ its s' → its.length ≤ sizeLine ∧ Q (.ref s'.heap.objs.size) { s' with heap := s'.heap.push { cls := .type "tuple", data := .seq its.toArray } }) :
    wpAny (model prog w) A (call (.type "tuple") [.ref a]) Q E s := by
  refine callType_codes (Q₁ := fun obj s₁ => s₁.TypeIs obj "tuple" ∧ Q obj s₁) F.called_tuple (F.typeCall_tuple_1 _) F.entry_object_init
    (tup_newG hTI hcoll fun s' its hP => ⟨(h s' its hP).1, ⟨_, Heap.get?_push_size _ rfl, rfl⟩, (h s' its hP).2⟩) fun obj s₁ h₁ => ?_
  exact ⟨h₁.1, F.args_object_init_2 obj _, object_init_meets F.called_tuple.init.lookup F.called_tuple.made (by decide) prog w A.in1 _ s₁ ⟨h₁.1, rfl, h₁.2⟩⟩
end
theorem e_tupG {X : Cx} {g : Gd} {W : WX} {te iter elt : Expr} {ifs : List Expr} {pr : Bool} {own : List (Str × Nat)} {src : EvA} {tg : EvG} {t : EvT} {fe : Ev} {scope : Scope} {p pos gpos : Pos} {k : Nat} {c P : Addr} (hc : X.calm = true) (hN : X.N.Nodup) (hr : Room (k + 1) X.A)
    (TB : GxR.TabB X.base X.mg c P) (hcode : X.env.code = .ref c) (hPT : P ∈ g.T) (hPL : ∀ q, (P, q) ∉ g.L) (ok : GScp X.N X.env.scope scope own) (hi : PI X te iter (tDI g W pr src)) (hg : Gnx X k scope fun Y => PG Y te (tDG g (pnO (own.map (·.2))) pr tg)) (ht : Gnx X k scope fun Y => PTs Y ifs (tDT g W0 t)) (he : Gnx X k scope fun Y => PE Y elt (tD g W0 fe))
    (hs : ∀ v, genFold iter X.env v = pure v) (hgl : Gl X "tuple") (hm : X.mg "tuple" = none) :
    PE X (.Call (.Name "tuple" p) [.GeneratorExp elt [⟨te, iter, ifs, 0⟩] scope gpos] [] pos) (tD g W (gGo (own.map (·.2)) src tg t fe never (finTup (own.map (·.2))))) := by
  have hst : starEach [Expr.GeneratorExp elt [⟨te, iter, ifs, 0⟩] scope gpos] X.env = (false, eval (.GeneratorExp elt [⟨te, iter, ifs, 0⟩] scope gpos) X.env) :: starEach [] X.env := star_cons rfl
  refine ⟨fun pins s σ H Q I h => ?_⟩
  refine wpAny_Call_Name_kw (ld_blt I hgl hm (show bootBuiltins "tuple" = some (.type "tuple") by decide +kernel) ?_)
  refine PyProof.Rows.callWith_type1 ?_ hst rfl
  rw [hst]
  show wpAny _ _ (spliced ((false, eval (.GeneratorExp elt [⟨te, iter, ifs, 0⟩] scope gpos) X.env) :: backTo pos (starEach [] X.env))) _ _ s
  refine Calls.spliced_cons (gen_make hc hN hr TB hcode hPT hPL ok hi hg ht he hs I h fun ρ G o ρ1 G1 H1 L e a s5 w po se hcalm hfin hgtr hR => ?_)
  refine Calls.spliced_nil ?_
  obtain ⟨gi, go, fp, tn, cc, YO, ha, hgen, hgs, I5, wake, back, _⟩ := hR
  clear hgtr
  obtain ⟨ρe, rfl⟩ : ∃ ρe, e = some ρe := by
    cases e with
    | none => cases hfin
    | some ρe => exact ⟨ρe, rfl⟩
  unfold finTup at hfin
  dsimp only at hfin
  split at hfin
  case isFalse => cases hfin
  rename_i hbig
  cases hfin
  refine call_tupG (Φ := fun its s' => ∃ G' H' vs, Inv X pins σ H' s' ∧ StE g (wipe σ (own.map (·.2))) (wipeR ρ1 (own.map (·.2))) G1 H1 ρe G' H' ∧ RpAll g.K G' vs (L.map (·.1)) ∧ Vals vs its) (Heap.IsGen.typeIs (hgen _ ha)) (fun {Qc E'} hq => collect_gen (A := X.A.in1.in1) (X := X) (pins := pins) (σ := σ) (g := g) (own := own.map (·.2)) (ρ1 := ρ1) (e := some ρe) (G1 := G1) (H1 := H1) (L := L) (fp := fp) (tn := tn) (YO := YO) hr.hd (Nat.le_refl _) (by show X.A.units + 1 + 1 + 4 ≤ _; omega) I5.ok.frames hr.depth hgen hbig rfl ha hgs I5 wake back
    fun ρe' G' H' s' vs its e1 I' st rr rv => hq s' its ?_) fun s' its ⟨G', H', vs, I', st, rr, rv⟩ => ?_
  · cases e1
    exact ⟨G', H', vs, I', st, rr, rv⟩
  · have hlen : its.length ≤ sizeLine := by
      rw [← rv.length, rr.len, List.length_map, ← big_eq]
      exact hbig
    refine ⟨hlen, ?_⟩
    have hn := I'.hok.fresh (Nat.le_refl _)
    refine ⟨.ref s'.heap.objs.size, _, laidF (t' := s'.toks) I' rv (by rw [rv.length]; exact hlen), rfl, ?_⟩
    have st2 := se.trans (st.unwipe se.wo hcalm)
    exact ((po.step st2).kq st2.wo).tup st2.wo.gh hn rfl rr
end Rk
set_option Elab.async false
set_option linter.all false
set_option maxRecDepth 100000
set_option maxHeartbeats 4000000
namespace Rk
open PySem PySem.Spec PyProof.Rows L2
def ddI : List Int → List Int
  | [] => []
  | x :: xs => if x ∈ xs then ddI xs else x :: ddI xs
theorem ddI_mem {k : Int} : ∀ {ns : List Int}, k ∈ ddI ns ↔ k ∈ ns
  | [] => Iff.rfl
  | x :: xs => by
    unfold ddI
    split
    · rename_i h
      rw [ddI_mem (ns := xs), List.mem_cons]
      exact ⟨.inr, fun q => q.elim (fun e => e ▸ h) id⟩
    · rw [List.mem_cons, List.mem_cons, ddI_mem (ns := xs)]
theorem ddI_nodup : ∀ ns : List Int, (ddI ns).Nodup
  | [] => List.nodup_nil
  | x :: xs => by
    unfold ddI
    split
    · exact ddI_nodup xs
    · rename_i h
      exact List.nodup_cons.mpr ⟨fun q => h (ddI_mem.mp q), ddI_nodup xs⟩
theorem len_le_of_sub : ∀ {as bs : List Int}, as.Nodup → (∀ k ∈ as, k ∈ bs) → as.length ≤ bs.length
  | [], _, _, _ => Nat.zero_le _
  | a :: as, bs, hn, h => by
    obtain ⟨h1, h2⟩ := List.nodup_cons.mp hn
    have hm := h a List.mem_cons_self
    have := len_le_of_sub (as := as) (bs := bs.erase a) h2 fun k hk => (List.mem_erase_of_ne (fun (e : k = a) => h1 (e ▸ hk))).mpr (h k (List.mem_cons_of_mem _ hk))
    rw [List.length_erase_of_mem hm] at this
    have hp := List.length_pos_of_mem hm
    show as.length + 1 ≤ bs.length
    omega
theorem ddI_card {ns l : List Int} (hl : l.Nodup) (h : ∀ k, k ∈ l ↔ k ∈ ns) : l.length = (ddI ns).length :=
  Nat.le_antisymm (len_le_of_sub hl fun k hk => ddI_mem.mpr ((h k).mp hk)) (len_le_of_sub (ddI_nodup ns) fun k hk => (h k).mpr (ddI_mem.mp hk))
def cLenSet (fa : Ev) : Ev := fun ρ => bdD (fa ρ) fun d ρ1 => match d with
  | .tuple ds => (match intsOf ds with
    | some ns => if ns.length ≤ 4000 then some (.ok (.sh (.int ((ddI ns).length : Nat))) ρ1) else none
    | none => none)
  | _ => none
section
variable {X : Cx} {g : Gd} {W : WX} {a : Expr} {fa : Ev}
theorem intsAre_of : ∀ {ns : List Int} {us : List Value}, Vals (ns.map V.int) us → PyProof.Rows.IntsAre us ns
  | [], _, .nil => .nil
  | n :: ns, _, .cons r t => by
    obtain ⟨k, rfl⟩ := r
    exact .cons n k (intsAre_of t)
def tLenSetN (K : PySem.W.Frag) (ta : TE) : TE := fun σ H Q => ta σ H fun x H1 => ∃ (l : Addr) (ns : List Int), x = .ref l ∧ SqT K H1 l (ns.map V.int) ∧ ns.length ≤ 4000 ∧ Q (.int ((ddI ns).length : Nat)) H1
theorem pe_lenSetN {ta : TE} {p p2 q pos : Pos} (hg : Gl X "len") (hm : X.mg "len" = none) (hg2 : Gl X "set") (hm2 : X.mg "set" = none) (ha : PE X a ta) (hc : X.calm = true)
    (na : starEach [a] X.env = (false, eval a X.env) :: starEach [] X.env) : PE X (.Call (.Name "len" p) [.Call (.Name "set" p2) [a] [] q] [] pos) (tLenSetN X.K ta) := by
  refine ⟨fun pins s σ H Q I h => ?_⟩
  refine Call_ (ld_blt I hg hm boot_len ?_)
  refine PyProof.Rows.callWith_builtin1 (PyProof.Rows.args_cons ?_ rfl) rfl rfl
  refine Call_ (ld_blt I hg2 hm2 boot_set ?_)
  refine PyProof.Rows.callWith_type1 (PyProof.Rows.args_cons (thn (ha.run pins s σ H _ I h) fun v s1 ⟨x, H1, I1, r1, q1⟩ => PyProof.Rows.args_nil ?_) na) na rfl
  obtain ⟨l, ns, rfl, hq, hl, q1⟩ := q1
  cases r1
  obtain ⟨its, r, pl, hz⟩ := I1.tuple hq
  refine L2.call_set_tupI ns (I1.ok.hd hc) pl (by simpa using intsAre_of r) (by unfold scanBound; omega) fun h' tk c hS hcn hk => ?_
  refine PyProof.Rows.args_nil ?_
  obtain ⟨o, es, ep, t, ho, hex, hd, hge, hnd, hmem, hsb, hf, hn, _, _⟩ := hS
  have I2 : Inv X pins σ H1 { s1 with heap := h', toks := tk } := I1.kept fun b o e => hk b o e
  have hcard : es.size = (ddI ns).length := by
    have := ddI_card (ns := ns) hnd fun k => ((hmem k).symm.trans decide_eq_true_iff)
    rw [List.length_map, Array.length_toList] at this
    exact this
  exact call_len_set ho hex hd hf (by omega) ⟨.int ((ddI ns).length : Nat), H1, I2.tok _, ⟨_, by rw [hcard]⟩, q1⟩
theorem e_lenSet {p p2 q pos : Pos} (hK : g.K = X.K) (hc : X.calm = true) (hg : Gl X "len") (hm : X.mg "len" = none) (hg2 : Gl X "set") (hm2 : X.mg "set" = none) (ha : PE X a (tD g W fa)) (hs : notStar a = true) :
    PE X (.Call (.Name "len" p) [.Call (.Name "set" p2) [a] [] q] [] pos) (tD g W (cLenSet fa)) :=
  (pe_lenSetN hg hm hg2 hm2 ha hc (star_cons hs)).imp fun σ H Q ⟨ρ, G, o, w, e, p⟩ =>
  tD_bd w e p.exn fun v d ρ1 G1 H1 s1 r1 e1 => by
    split at e1
    · split at e1
      · rename_i ns qi
        split at e1
        · rename_i hz
          cases e1
          cases r1 with | tup a1 b1 =>
          rw [ints_eq qi] at b1
          rw [rp_ints b1] at a1
          exact ⟨_, ns, rfl, hK ▸ (sqN_mono s1.wo.gh a1).t, hz, (p.step s1).now s1.wo (.int _)⟩
        · cases e1
      · cases e1
    · cases e1
def cLstRg (fa : Ev) : Ev := fun ρ => bdD (fa ρ) fun d ρ1 => match d with
  | .int j => if rngOk j then some (.ok (.ow (rngD 0 j.toNat)) ρ1) else none
  | _ => none
theorem rp_rng {K : PySem.W.Frag} {G : Hp} (j : Int) : RpAll K G (rgV 0 j) (rngD 0 j.toNat) := by
  unfold rgV rngD
  rw [Int.sub_zero]
  generalize j.toNat = n
  have : ∀ l : List Nat, RpAll K G (l.map fun i => V.int (0 + (i : Nat))) (l.map fun (i : Nat) => (PyData.int (0 + (i : Int)) : D)) := fun l => by
    induction l with
    | nil => exact .nil
    | cons a l ih => exact .cons (.int _) ih
  exact this _
theorem e_lstRg {p p2 q pos : Pos} (hc : X.calm = true) (hg : Gl X "list") (hm : X.mg "list" = none) (hg2 : Gl X "range") (hm2 : X.mg "range" = none) (ha : PE X a (tD g W fa)) (hs : notStar a = true) :
    PE X (.Call (.Name "list" p) [.Call (.Name "range" p2) [a] [] q] [] pos) (tD g W (cLstRg fa)) :=
  (pe_listRg hc hg hm (prg_1 hg2 hm2 ha (star_cons hs)) rfl).imp fun σ H Q ⟨ρ, G, o, w, e, p⟩ =>
  tD_bd w e p.exn fun v d ρ1 G1 H1 s1 r1 e1 => by
    split at e1
    · split at e1
      · rename_i hb
        cases e1
        cases r1
        obtain ⟨h1, h2⟩ := rngOk_of hb
        exact ⟨_, rfl, ⟨by omega, by omega, by omega, by omega, by omega⟩, fun q hq => ((p.step s1).kq s1.wo).ow s1.wo.gh hq (rp_rng _)⟩
      · cases e1
    · cases e1
def cLstN (i : Nat) : Ev := fun ρ => match ρ[i]? with
  | some (.scr ns) => some (.ok (.ow (ns.map .int)) ρ)
  | some (.ow ds) => some (.ok (.ow ds) ρ)
  | some (.sh (.list ds)) => some (.ok (.ow ds) ρ)
  | some (.sh (.tuple ds)) => some (.ok (.ow ds) ρ)
  | _ => none
theorem e_lstN (hK : g.K = X.K) {i : Nat} {x : Str} {p p2 pos : Pos} (hN : X.N[i]? = some x) (hv : Vis X.env.scope x) (hd : (x == ("__debug__" : Str)) = false) (hcd : (x == ("__classdict__" : Str)) = false) (hg : Gl X "list") (hm : X.mg "list" = none) :
    PE X (.Call (.Name "list" p2) [.Name x p] [] pos) (tD g W (cLstN i)) := (pe_callTy call_list_of hg hm (by decide +kernel) (pa_cons (pe_var hN hv hd hcd) pa_nil)).imp fun σ H Q ⟨ρ, G, o, w, e, p⟩ => by
  unfold cLstN at e
  split at e
  · rename_i ns q
    cases e
    obtain ⟨a, e1, r⟩ := w.sl i _ q
    exact ⟨_, get_join e1, a, _, rfl, .inl (hK ▸ w.gh.seq r), fun l hl => (p.kq w).ow w.gh hl (rp_of_ints ns)⟩
  · rename_i ds q
    cases e
    obtain ⟨a, xs, e1, h1, h2, r⟩ := w.sl i _ q
    exact ⟨_, get_join e1, a, _, rfl, .inl (SqL.of h2), fun l hl => (p.kq w).ow w.gh hl r⟩
  · rename_i ds q
    cases e
    obtain ⟨v, e1, r⟩ := w.sl i _ q
    cases r with | lst a1 b1 =>
    exact ⟨_, get_join e1, _, _, rfl, .inl (SqL.of (w.gh _ _ a1)), fun l hl => (p.kq w).ow w.gh hl b1⟩
  · rename_i ds q
    cases e
    obtain ⟨v, e1, r⟩ := w.sl i _ q
    cases r with | tup a1 b1 =>
    exact ⟨_, get_join e1, _, _, rfl, .inr (hK ▸ (sqN_mono w.gh a1).t), fun l hl => (p.kq w).ow w.gh hl b1⟩
  · cases e
end
end Rk
set_option Elab.async false
set_option linter.all false
set_option maxRecDepth 100000
set_option maxHeartbeats 4000000
namespace Rk
open PySem PySem.Spec PyProof.Rows L2
/-- the names of a lambda with the one parameter a -/
structure LamP (sc scope : Scope) (a l : Str) : Prop where
  kind : scope.kind = .function
  co : scope.isCoroutine = false
  gen : scope.isGenerator = false
  cell : ∀ y ∈ scope.names, y.2 ≠ .cell
  par : scope.names.lookup a = some .local
  cap : scope.names.lookup l = some .free
  free : ∀ y ∈ scope.names, y.2 = .free → sc.names.lookup y.1 = some .cell ∨ sc.names.lookup y.1 = some .free
def lamPB (sc scope : Scope) (a l : Str) : Bool := decide (scope.kind = .function) && !scope.isCoroutine && !scope.isGenerator && (scope.names.all fun y => !decide (y.2 = .cell)) && decide (scope.names.lookup a = some .local) && decide (scope.names.lookup l = some .free) &&
  scope.names.all fun y => !decide (y.2 = .free) || (decide (sc.names.lookup y.1 = some .cell) || decide (sc.names.lookup y.1 = some .free))
theorem lamP_by {sc scope : Scope} {a l : Str} (h : lamPB sc scope a l = true) : LamP sc scope a l := by
  unfold lamPB at h
  simp only [Bool.and_eq_true, Bool.not_eq_true', decide_eq_true_eq, List.all_eq_true, decide_eq_false_iff_not] at h
  obtain ⟨⟨⟨⟨⟨⟨h1, h2⟩, h3⟩, h4⟩, h5⟩, h6⟩, h7⟩ := h
  refine ⟨h1, h2, h3, h4, h5, h6, fun y hy e => ?_⟩
  have := h7 y hy
  rw [e] at this
  simpa using this
/-- one more code object in the table P -/
theorem wo_lam {g : Gd} {σ : St} {ρ : Rho} {G H : Hp} {P c : Addr} {ps ps' : Array Value} {q : Str} (w : Wo g σ ρ G H) (hP : P ∈ g.T) (h : H P = some (.tbl ps)) (hc : H c = none) (ht : TriplesOk ps'.toList)
    (hl : TabL g (upd (upd H P (.tbl ps')) c (LamX.CodeO c q)) P ps') : StE g σ ρ G H ρ G (upd (upd H P (.tbl ps')) c (LamX.CodeO c q)) := by
  have hG := (w.tb P hP).1
  have nPc : P ≠ c := fun z => by rw [z, hc] at h; cases h
  have hGc : G c = none := by
    cases k : G c with
    | none => rfl
    | some o => rw [w.gh c o k] at hc; cases hc
  have keep : ∀ b o, b ≠ P → H b = some o → upd (upd H P (.tbl ps')) c (LamX.CodeO c q) b = some o := fun b o n k => by
    have nc : b ≠ c := fun z => by rw [z, hc] at k; cases k
    rw [upd_ne nc, upd_ne n]
    exact k
  have atP : upd (upd H P (.tbl ps')) c (LamX.CodeO c q) P = some (.tbl ps') := by rw [upd_ne nPc, upd_same]
  refine ⟨Same.refl _, ⟨fun b o k => keep b o (fun z => by rw [z, hG] at k; cases k) (w.gh b o k), w.len, fun i sl k => ?_, w.dj, fun P' hP' => ?_⟩, fun b o k _ t => keep b o (fun z => t (z ▸ hP)) k, fun b k => ?_, fun _ k _ _ => k, fun _ ds k => ⟨ds, k⟩⟩
  · refine (w.sl i sl k).mono (Same.refl _) fun b xs _ h1 h2 _ => ⟨h1, keep b _ (fun z => ?_) h2⟩
    rw [z, h] at h2
    cases h2
  · by_cases z : P' = P
    · subst z; exact ⟨hG, ps', atP, ht, hl⟩
    · obtain ⟨h1, qs, h2, h3, h4⟩ := w.tb P' hP'
      refine ⟨h1, qs, keep P' _ z h2, h3, h4.mono fun d r e => ?_⟩
      exact keep d _ (fun y => tbl_ne h r (y ▸ e)) e
  · by_cases z : b = P
    · rw [z, atP]; simp
    · cases k' : H b with
      | none => exact absurd k' k
      | some o => rw [keep b o z k']; simp
section
variable {X : Cx} {pins : List (Addr × Obj)} {σ : L2.St} {H : Hp} {s : Shared}
/-- what becomes of the table -/
def LamT (H : Hp) (P : Addr) (q : Str) (H1 : Hp) : Prop := H1 = H ∨ ∃ (c1 : Addr) (ps' : Array Value), H c1 = none ∧ TriplesOk ps'.toList ∧ (∀ (pos : Pos) (cv : Value), codeAmong pos ps'.toList = some cv → ∃ c, cv = .ref c ∧ H1 c = some (LamX.CodeO c q)) ∧ H1 = upd (upd H P (.tbl ps')) c1 (LamX.CodeO c1 q)
theorem lam_mk {c P : Addr} {q : Str} {ps : Array Value} {params : Arguments} {body : Expr} {scope : Scope} {pos : Pos} {E : Value → Shared → Prop} {Q : Value → Shared → Prop} (I : Inv X pins σ H s) (TB : LamX.TabB X.base X.mg c P) (hcode : X.env.code = .ref c) (hq : q = X.env.qual ++ "<lambda>")
    (hP : H P = some (.tbl ps)) (ht : TriplesOk ps.toList) (ha : ∀ (pos : Pos) (cv : Value), codeAmong pos ps.toList = some cv → ∃ c, cv = .ref c ∧ H c = some (LamX.CodeO c q)) (hdef : defaultsOf params X.env = ([], [])) (hfree : ∀ y ∈ scope.names, y.2 = .free → ∃ c, X.env.cells.lookup y.1 = some c)
    (h : ∀ (f c' : Addr) (pm ctv : Value) (H1 : Hp) (s' : Shared), Inv X pins σ H1 s' → LamT H P q H1 → H1 c' = some (LamX.CodeO c' q) →
      s'.heap.get? f = some (PySem.W.kla_obj "<lambda>" q params body scope (cloFrom X.env.cells scope.names []) pm c' ctv) → Q (.ref f) s') :
    wpAny (model X.prog X.w) X.A (eval (.Lambda params body scope pos) X.env) Q E s := by
  subst hq
  refine PySem.W.kla_eval hdef ?_
  have glob := I.mod.glob.keeps I.bk
  have clo := closure_ok hfree
  have hPs : s.heap.get? P = some { cls := .none, data := .fields ps } := I.hok P _ hP
  rcases hc : codeAmong pos ps.toList with _ | cv
  · refine PySem.W.kla_makeFunction clo I.ok.glob glob hcode (TB.code.keeps I.bk) hPs ht hc TB.gP (TB.bm.keeps I.bk) fun c' ctv h' tk hx hge hlt hrec htb => ?_
    obtain ⟨c2, oc, vs, t, e2, hoc, hd, hv⟩ := hrec
    cases e2
    have nC : H c' = none := I.hok.fresh hge
    have nPc : P ≠ c' := ne_of_none hP nC
    generalize hfo : PySem.W.kla_obj "<lambda>" (X.env.qual ++ "<lambda>") params body scope (cloFrom X.env.cells scope.names []) ((X.mg "__name__").getD .none) c' ctv = fo
    have J := LamX.inv_table (t' := tk) (q := X.env.qual ++ "<lambda>") (more := #[rawInt pos.line, rawInt pos.col, .ref c']) (h' := h'.push fo) I hP (fun b o hb e => Heap.get?_push_of_some _ (hx b o hb e)) (Heap.get?_push_of_some _ htb) hge ⟨oc, vs, t, Heap.get?_push_of_some _ hoc, hd, hv⟩
    have eL : (ps ++ #[rawInt pos.line, rawInt pos.col, .ref c']).toList = ps.toList ++ [rawInt pos.line, rawInt pos.col, .ref c'] := by simp
    refine h h'.objs.size c' _ ctv _ _ J (.inr ⟨c', _, nC, by rw [eL]; exact PySem.TriplesOk_snoc _ _ _ _ ht, fun p' cv hcv => ?_, rfl⟩) upd_same (by rw [← hfo]; exact Heap.get?_push_size _ rfl)
    rw [eL] at hcv
    rcases LamX.among_app _ ht hcv with z | z
    · obtain ⟨c0, e1, e3⟩ := ha p' cv z
      refine ⟨c0, e1, ?_⟩
      rw [upd_ne (ne_of_none e3 nC), upd_ne fun y => tbl_ne hP _ (y ▸ e3)]
      exact e3
    · exact ⟨c', z, upd_same⟩
  · obtain ⟨c', e, hco⟩ := ha pos cv hc
    subst e
    refine PySem.W.kla_makeFunctionHit clo I.ok.glob glob hcode (TB.code.keeps I.bk) hPs ht hc (TB.bm.keeps I.bk) fun ctv h' tk hx hsz => ?_
    generalize hfo : ({ cls := .type "function", data := .func (PySem.W.kla_fn "<lambda>" (X.env.qual ++ "<lambda>") params body scope (cloFrom X.env.cells scope.names []) ((X.mg "__name__").getD .none) (.ref c') ctv) } : Obj) = fo
    exact h h'.objs.size c' ((X.mg "__name__").getD .none) ctv H _ (I.kept fun b o e => Heap.get?_push_of_some _ (hx b o e)) (.inl rfl) hco (by rw [← hfo]; exact Heap.get?_push_size _ rfl)
end
/-- the first one with the least key -/
def leastK (ks : List Int) (x : Int) (r : List Int) : Int := r.foldl (fun a y => if ks.getD y.toNat 0 < ks.getD a.toNat 0 then y else a) x
def cMinKey (i j : Nat) : Ev := fun ρ => match slD ρ i, slD ρ j with
  | some (.list ds), some (.list es) => (match intsOf ds, intsOf es with
    | some ns, some ks => if ns.all fun n => decide (0 ≤ n) && decide (n < ks.length) then some (.ok (.sh (match ns with
      | [] => .none
      | n :: r => .int (leastK ks n r))) ρ) else none
    | _, _ => none)
  | _, _ => none
theorem Held.lst {g : Gd} {G H : Hp} {v : V} {ds : List D} (e : Same G H) (h : Held g G H v (.list ds)) : ∃ a xs, v = .ref a ∧ H a = some (.lst xs) ∧ RpAll g.K G xs ds := by
  rcases h with h | ⟨a, xs, ds', rfl, q, _, hh, r⟩
  · cases h with | lst a1 b1 => exact ⟨_, _, rfl, e _ _ a1, b1⟩
  · cases q
    exact ⟨a, xs, rfl, hh, r⟩
section
variable {X : Cx} {g : Gd} {W : WX}
theorem e_minKey {k i j : Nat} {c P : Addr} {y l a : Str} {params : Arguments} {scope : Scope} {p yp lp ap sp lpos kp kp2 cp pos : Pos} {cj : Nat} (hK : g.K = X.K) (hc : X.calm = true) (hr : Room (k + 1) X.A) (TB : LamX.TabB X.base X.mg c P) (hcode : X.env.code = .ref c) (hPT : P ∈ g.T)
    (hL : (P, X.env.qual ++ "<lambda>") ∈ g.L) (hLu : ∀ q, (P, q) ∈ g.L → q = X.env.qual ++ "<lambda>") (hg : Gl X "min") (hm : X.mg "min" = none) (hNi : X.N[i]? = some y) (hvi : Vis X.env.scope y) (hdy : (y == ("__debug__" : Str)) = false) (hdy2 : (y == ("__classdict__" : Str)) = false)
    (hNj : X.N[j]? = some l) (hvj : Vis X.env.scope l) (hdl : (l == ("__debug__" : Str)) = false) (hdl2 : (l == ("__classdict__" : Str)) = false) (hda : (a == ("__debug__" : Str)) = false) (L : LamP X.env.scope scope a l) (hdef : defaultsOf params X.env = ([], []))
    (hbind : ∀ (q : Str) (cl : List (Str × Addr)) (pm cv ctv v : Value), bindArgs (PySem.W.kla_fn "<lambda>" q params (.Subscript (.Name l lp) (.Name a ap) sp) scope cl pm cv ctv) ⟨[v], []⟩ = pure [(a, v)]) :
    PE X (.Call (.Name "min" p) [.Name y yp] [⟨some "key", .Lambda params (.Subscript (.Name l lp) (.Name a ap) sp) scope lpos, kp⟩, ⟨some "default", .Constant .none cj cp, kp2⟩] pos) (tD g W (cMinKey i j)) := by
  refine ⟨fun pins s σ H Q I h => ?_⟩
  obtain ⟨ρ, G, o, w, e, po⟩ := h
  unfold cMinKey at e
  split at e
  rotate_left
  · cases e
  rename_i ds es qi qj
  split at e
  rotate_left
  · cases e
  rename_i ns ks ei ej
  split at e
  rotate_left
  · cases e
  rename_i hall
  cases e
  obtain ⟨vi, si, hi⟩ := w.held qi
  obtain ⟨vj, sj, hj⟩ := w.held qj
  obtain ⟨ai, xs, rfl, hHi, ri⟩ := hi.lst w.gh
  obtain ⟨aj, zs, rfl, hHj, rj⟩ := hj.lst w.gh
  rw [ints_eq ei] at ri
  rw [ints_eq ej] at rj
  obtain rfl := rp_ints ri
  obtain rfl := rp_ints rj
  obtain ⟨hGP, ps, hP, hps, hpl⟩ := w.tb P hPT
  refine wpAny_Call_Name_kw (ld_blt I hg hm (show bootBuiltins "min" = some (.builtin "min") by decide +kernel) ?_)
  refine PyProof.Rows.callWith_kw (e := .Name y yp) (rest := []) ?_
  refine thn ((pa_cons (pe_var (pos := yp) hNi hvi hdy hdy2) pa_nil (star_cons rfl)).run pos pins s σ H (fun vs H1 => vs = [V.ref ai] ∧ H1 = H) I ⟨.ref ai, si, rfl, rfl⟩) fun us s1 ⟨vs, H1, I1, r1, q1⟩ => ?_
  obtain ⟨rfl, rfl⟩ := q1
  obtain rfl := Vals.ref1 r1
  have hfree : ∀ y ∈ scope.names, y.2 = .free → ∃ c, X.env.cells.lookup y.1 = some c := fun y hy e => by
    rcases L.free y hy e with k | k
    · exact I.ok.has _ (.inl k)
    · exact I.ok.has _ (.inr k)
  show wpAny _ _ (evalAll ((do let v ← eval (.Lambda params (.Subscript (.Name l lp) (.Name a ap) sp) scope lpos) X.env; standAt pos; pure v) :: (backToKw pos (keywordEach [⟨some "default", .Constant .none cj cp, kp2⟩] X.env)).map (·.2))) _ _ s1
  refine wpAny_evalAll_cons (wpAny_bind (lam_mk I1 TB hcode rfl hP hps (fun p' cv z => hpl _ hL p' cv z) hdef hfree fun f c' pm ctv H2 s2 I2 hT hco hf => wpAny_bind (wpAny_standAt (wpAny_pure ?_))))
  show wpAny _ _ (evalAll ((do let v ← eval (.Constant .none cj cp) X.env; standAt pos; pure v) :: [])) _ _ s2
  refine wpAny_evalAll_cons (wpAny_bind (Constant_none (wpAny_bind (wpAny_standAt (wpAny_pure ?_)))))
  refine wpAny_evalAll_nil ?_
  show wpAny _ _ (call (.builtin "min") [.ref ai] [(Str.ofString "key", .ref f), (Str.ofString "default", .none)]) _ _ s2
  -- the state ahead of the call
  have st : StE g σ ρ G H1 ρ G H2 := by
    rcases hT with rfl | ⟨c1, ps', n1, t1, a1, rfl⟩
    · exact StE.refl w
    · refine wo_lam w hPT hP n1 t1 fun q m p' cv z => ?_
      obtain rfl := hLu q m
      exact a1 p' cv z
  have hHi2 : H2 ai = some (.lst (ns.map V.int)) := by
    rcases hT with rfl | ⟨c1, ps', n1, t1, a1, rfl⟩
    · exact hHi
    · rw [upd_ne (ne_of_none hHi n1), upd_ne fun z => by rw [z, hP] at hHi; cases hHi]; exact hHi
  have hHj2 : H2 aj = some (.lst (ks.map V.int)) := by
    rcases hT with rfl | ⟨c1, ps', n1, t1, a1, rfl⟩
    · exact hHj
    · rw [upd_ne (ne_of_none hHj n1), upd_ne fun z => by rw [z, hP] at hHj; cases hHj]; exact hHj
  obtain ⟨its, rv, hl, hz⟩ := I2.list (hK ▸ SqL.of hHi2 : SqL X.K H2 ai (ns.map V.int))
  have hi := rv.ints
  have hlen : its.length = ns.length := IntsAre.length hi
  obtain ⟨kts, kv, kl, kz⟩ := I2.list (hK ▸ SqL.of hHj2 : SqL X.K H2 aj (ks.map V.int))
  have hki := kv.ints
  have hklen : kts.length = ks.length := IntsAre.length hki
  have hd := I.ok.hd hc
  refine PySem.call_min_walkKD (PySem.W.iter_listW (A := X.A.in1) hd hl.isList fun s₃ e3 Wk st0 hfp hw hk => ?_)
  let key : Nat → Int := fun m => ks.getD (ns.getD m 0).toNat 0
  let J : Shared → Prop := fun s' => ∃ h' tk, s' = { s2 with heap := h', toks := tk } ∧ ∀ b o, s2.heap.get? b = some o → h'.get? b = some o
  have old : ∀ b o, s2.heap.get? b = some o → b ≠ s₃.heap.objs.size ∧ b ∉ [s2.heap.objs.size] := fun b o q => by
    refine ⟨fun z => ?_, hw b o q⟩
    have h1 := Heap.lt_size q
    have h2 : s₃.heap.objs.size = s2.heap.objs.size + 1 := by rw [e3]; exact Heap.size_push ..
    rw [z, h2] at h1
    exact Nat.lt_irrefl _ (Nat.lt_of_succ_lt h1)
  refine ⟨_, _, _, _, _, _, _, J, fun m kx _ => ∃ t, kx = .int (key m) t, fun m n => decide (key m < key n), rfl, Wk, st0, hfp, ⟨fun s4 s5 hJ mv => ?_, fun _ _ _ _ q _ => q, ?turn, ?cmp⟩, ⟨s₃.heap, s₃.toks, by rw [e3], fun b o q => by rw [e3]; exact Heap.get?_push_of_some _ q⟩, fun hz s' hJ => ?_, fun hp v s' hP' hJ => ?_⟩
  case cmp =>
    intro m n km kn s4 Q' E' hJ ⟨t, em⟩ ⟨u, en⟩ hq
    subst em; subst en
    exact wpAny_lt_int hq
  case turn =>
    intro m v s4 ob Q' E' hm4 hv hJ hst hS hq
    obtain ⟨h4, tk4, rfl, kp4⟩ := hJ
    have I4 : Inv X pins σ H2 { s2 with heap := h4, toks := tk4 } := I2.kept kp4
    have hm5 : m < ns.length := by rw [← hlen]; simpa using hm4
    obtain ⟨t, hv'⟩ : ∃ t, v = .int (ns.getD m 0) t := by
      have e1 : its[m]? = some v := by simpa using hv
      have e2 : (ns.map V.int)[m]? = some (V.int (ns.getD m 0)) := by simp [List.getD_eq_getElem?_getD, hm5]
      obtain ⟨u, e3', e4⟩ := rv.get e2
      rw [e1] at e3'
      cases e3'
      obtain ⟨t, rfl⟩ := e4
      exact ⟨t, rfl⟩
    subst hv'
    have of4 := kp4 f _ hf
    obtain ⟨⟨oc, vs, t2, hoc, hdc, hvc⟩, _, _⟩ := I4.hok c' _ hco
    have rng := List.all_eq_true.mp hall (ns.getD m 0) (by rw [List.getD_eq_getElem?_getD, List.getElem?_eq_getElem hm5]; exact List.getElem_mem _)
    rw [Bool.and_eq_true, decide_eq_true_eq, decide_eq_true_eq] at rng
    refine wpAny_call ?_
    have hdp := hr.dp
    refine PySem.W.kla_callFunE (by show X.A.depth < _; omega) of4 rfl L.co L.gen rfl ⟨c', oc, vs, t2, rfl, hoc, hdc, hvc⟩ ?_
    rw [hbind]
    refine wpAny_pure (wpAny_newFunctionEnv L.cell (fun y hy => by rw [List.mem_singleton.mp hy]; exact L.par) (fun h5 hns hsb => ⟨I4.nolimit.fresh _ hsb, ?_⟩) L.kind)
    have kp5 : ∀ b o, h4.get? b = some o → h5.get? b = some o := fun b o q => hsb.extBut b o (Nat.ne_of_lt (Heap.lt_size q)) (Heap.get?_push_of_some _ q)
    refine PySem.W.kla_codeExpr (Subscript_Name ?_ (fun _ _ => rfl))
    have hll : (l : Str) ∈ scope.names.map (·.1) := List.mem_map.mpr ⟨_, PySem.mem_of_lookup L.cap, rfl⟩
    -- the captured list
    obtain ⟨ml, hml, hloc⟩ := I4.loc
    obtain ⟨u, ru, lu⟩ := hloc j l (.ref aj) hNj sj hvj
    cases ru
    obtain ⟨cl0, hcl0⟩ := hfree _ (PySem.mem_of_lookup L.cap) rfl
    obtain ⟨cl1, hcl1⟩ := mem_lookup (cloFrom_has (cells := X.env.cells) (acc := []) (PySem.mem_of_lookup L.cap))
    have ecl : cl1 = cl0 := by
      rcases cloFrom_mem (PySem.mem_of_lookup hcl1) with z | ⟨_, z⟩
      · cases z
      · rw [hcl0] at z; exact z
    have cellv : h5.IsCell cl1 (some (.ref aj)) := by
      rcases lu with ⟨k1, _⟩ | ⟨k1, c3, e5, z5⟩
      · exfalso
        have k1 : X.env.scope.names.lookup l = some .local := k1
        rcases L.free _ (PySem.mem_of_lookup L.cap) rfl with k2 | k2 <;> rw [show X.env.scope.names.lookup l = _ from k2] at k1 <;> cases k1
      · rw [hcl0] at e5
        cases e5
        rw [ecl]
        obtain ⟨o5, ho5, hd5⟩ := z5
        exact ⟨o5, kp5 _ _ ho5, hd5⟩
    refine wpAny_Name (wpAny_loadName_free L.kind L.cap hcl1 cellv ?_ hdl2) hdl
    refine wpAny_Name (wpAny_loadName_local L.kind L.par hns (v := .int (ns.getD m 0) t) (by show List.lookup a [(a, Value.int (ns.getD m 0) t)] = _; simp [List.lookup]) ?_) hda
    have hlt : (ns.getD m 0).toNat < ks.length := by omega
    have hget : (ks.map V.int)[(ns.getD m 0).toNat]? = some (V.int (key m)) := by
      show _ = some (V.int (ks.getD (ns.getD m 0).toNat 0))
      rw [List.getElem?_map, List.getElem?_eq_getElem hlt, List.getD_eq_getElem?_getD (l := ks), List.getElem?_eq_getElem hlt]
      rfl
    obtain ⟨wv, ew, rw'⟩ := kv.get hget
    obtain ⟨tw, rfl⟩ := rw'
    have isl : (⟨h5, s2.gens, s2.drawn, tk4 + 1, s2.os⟩ : Shared).heap.IsList aj kts.toArray := by
      have := kl.isList
      obtain ⟨o6, ho6, r6⟩ := this
      exact ⟨o6, kp5 _ _ (kp4 _ _ ho6), r6⟩
    have hbig : (ns.getD m 0) < 2 ^ 63 := by
      have h1 := kz
      have h2 := line63
      rw [List.length_map] at h1
      omega
    refine ⟨"list", _, slot_list_getitem.lookup, isl.typeIs, wpAny_getItem_list isl rng.1 hbig (by simpa using ew) ?_⟩
    refine hq (.int (key m) tw) _ ⟨h5, tk4 + 1, rfl, fun b o q => kp5 b o (kp4 b o q)⟩ (Wk.frame _ _ h5 _ hst (Nat.le_succ _) fun b _ o q => kp5 b o q) (kp5 _ _ hS) ⟨tw, rfl⟩ fun j' k' q => q
  · obtain ⟨h4, tk4, rfl, kp4⟩ := hJ
    obtain ⟨hp5, g5, d5, t5, o5⟩ := s5
    obtain ⟨m1, m2, m3, m4, m5⟩ := mv
    obtain rfl : g5 = s2.gens := m2
    obtain rfl : d5 = s2.drawn := m3
    obtain rfl : o5 = s2.os := m4
    refine ⟨hp5, t5, rfl, fun b o q => m1 b o (fun z => ?_) (kp4 b o q)⟩
    rcases List.mem_cons.mp z with z | z
    · exact (old b o q).1 z
    · exact (old b o q).2 z
  · obtain ⟨h4, tk4, rfl, kp4⟩ := hJ
    have : ns = [] := List.eq_nil_of_length_eq_zero (by rw [← hlen]; simpa using hz)
    subst this
    exact ⟨.non, H2, I2.kept kp4, rfl, po _ _ _ st .non⟩
  · obtain ⟨h4, tk4, rfl, kp4⟩ := hJ
    cases ns with
    | nil => rw [List.size_toArray, hlen] at hp; exact absurd hp (Nat.lt_irrefl 0)
    | cons n r =>
      have es : its.toArray.size - 1 = r.length := by rw [List.size_toArray, hlen]; rfl
      have fold := (PySem.W.argBest_fold (fun a b : Int => decide (ks.getD a.toNat 0 < ks.getD b.toNat 0)) 0 n r r.length (Nat.le_refl _))
      rw [List.take_length] at fold
      rw [es] at hP'
      have e1 : its[PySem.argBest (fun m n_1 => decide (key m < key n_1)) r.length]? = some v := by simpa using hP'
      have e2 : ((n :: r).map V.int)[PySem.argBest (fun m n_1 => decide (key m < key n_1)) r.length]? = some (V.int (leastK ks n r)) := by
        have h1 := fold.1
        have h2 := fold.2
        have e3 : PySem.argBest (fun m n_1 => decide (key m < key n_1)) r.length = PySem.argBest (fun i j => decide (ks.getD ((n :: r).getD i 0).toNat 0 < ks.getD ((n :: r).getD j 0).toNat 0)) r.length := rfl
        rw [e3, List.getElem?_map]
        have h3 : PySem.argBest (fun i j => decide (ks.getD ((n :: r).getD i 0).toNat 0 < ks.getD ((n :: r).getD j 0).toNat 0)) r.length < (n :: r).length := by rw [List.length_cons]; omega
        rw [List.getD_eq_getElem?_getD, List.getElem?_eq_getElem h3] at h2
        rw [List.getElem?_eq_getElem h3]
        simp only [Option.getD_some] at h2
        simp only [Option.map_some]
        rw [h2]
        congr 2
        unfold leastK
        congr 1
        funext a y
        by_cases c : ks.getD y.toNat 0 < ks.getD a.toNat 0 <;> simp [c]
      obtain ⟨u, e4, e5⟩ := rv.get e2
      rw [e1] at e4
      cases e4
      exact ⟨.int (leastK ks n r), H2, I2.kept kp4, e5, po _ _ _ st (.int _)⟩
end
end Rk
set_option Elab.async false
set_option linter.all false
set_option maxRecDepth 100000
set_option maxHeartbeats 4000000
namespace Rk
open PySem PySem.Spec PyProof.Rows L2
def sDef (mx : Bool) : List D → List D → Option Sl
  | [.list ds], [e] => (match intsOf ds with
    | some [] => some (.sh e)
    | some (n :: r) => some (.sh (.int (if mx then maxL n r else minL n r)))
    | none => none)
  | _, _ => none
def cKw (sem : List D → List D → Option Sl) (fs fk : EvA) : Ev := fun ρ => bdO (fs ρ) fun xs ρ1 => bdO (fk ρ1) fun zs ρ2 => lift (sem xs zs) ρ2
def rSK (g : Gd) (sem : List D → List D → Option Sl) : List V → List V → Hp → VK → Prop := fun vs ws H Q => ∃ G ds es z, Same G H ∧ RpAll g.K G vs ds ∧ RpAll g.K G ws es ∧ sem ds es = some z ∧ Kq g G H Q z
theorem depth_ints : ∀ ns : List Int, PyData.depthAll (ns.map .int) ≤ 1
  | [] => by decide
  | n :: ns => by
    show max (PyData.depth (.int n)) (PyData.depthAll (ns.map .int)) ≤ 1
    have := depth_ints ns
    have e : PyData.depth (.int n) ≤ 1 := by simp [PyData.depth]
    omega
theorem alike_ints (ns : List Int) : PySem.W.AlikeAll (ns.map .int) := by
  refine ⟨fun x hx y hy => ?_, fun x hx => ?_⟩
  · obtain ⟨a, _, rfl⟩ := List.mem_map.mp hx
    obtain ⟨b, _, rfl⟩ := List.mem_map.mp hy
    rfl
  · obtain ⟨a, _, rfl⟩ := List.mem_map.mp hx
    simp
theorem maxL_fold : ∀ (n : Int) (r : List Int), r.foldl max n = maxL n r
  | n, [] => rfl
  | n, x :: r => by
    show (r.foldl max (max n x)) = maxL (if x > n then x else n) r
    rw [maxL_fold]
    congr 1
    split <;> omega
theorem minL_fold : ∀ (n : Int) (r : List Int), r.foldl min n = minL n r
  | n, [] => rfl
  | n, x :: r => by
    show (r.foldl min (min n x)) = minL (if x < n then x else n) r
    rw [minL_fold]
    congr 1
    split <;> omega
section
variable {X : Cx} {g : Gd} {W : WX}
theorem c_def (hK : g.K = X.K) (hc : X.calm = true) (hu : X.A.units + 64 < cLine) (mx : Bool) : CallRK X (.builtin (if mx then "max" else "min")) [Str.ofString "default"] (rSK g (sDef mx)) := by
  intro pins s σ H xs zs us ws Q I rv rw ⟨G, ds, es, z, e, r, rz, hs, k⟩
  unfold sDef at hs
  split at hs
  rotate_left
  · cases hs
  rename_i ds d
  cases r with | cons r1 r2 =>
  cases r2
  cases r1 with | lst a1 b1 =>
  rename_i a xs
  cases rz with | cons z1 z2 =>
  cases z2
  rename_i dv
  obtain rfl := Vals.ref1 rv
  obtain ⟨w1, rfl, e1⟩ := vals1 rw
  obtain ⟨ns, qn⟩ : ∃ ns, intsOf ds = some ns := by
    cases q : intsOf ds with
    | none => rw [q] at hs; cases hs
    | some ns => exact ⟨ns, rfl⟩
  rw [qn] at hs
  rw [ints_eq qn] at b1
  obtain rfl := rp_ints b1
  obtain ⟨its, iv, il, iz⟩ := I.list (hK ▸ SqL.of (e _ _ a1) : SqL X.K H a (ns.map V.int))
  have hr := iv.ints.reads s.heap
  have hdp := depth_ints ns
  have hu2 : X.A.units + 1 + PyData.depthAll (ns.map .int) < cLine := by omega
  show wpAny _ _ (call _ [.ref a] [(Str.ofString "default", w1)]) _ _ s
  have none_ : ns = [] → ∀ h' tk, (∀ b o, s.heap.get? b = some o → h'.get? b = some o) → EP X pins σ Q w1 { s with heap := h', toks := tk } := fun q h' tk hk => by
    subst q
    cases hs
    exact ⟨dv, H, I.kept hk, e1, k.sh e z1⟩
  cases mx with
  | false =>
    refine PySem.W.min_list_default (A := X.A) (I.ok.hd hc) il.isList (by simpa using hr) (alike_ints ns) hu2 (fun q => none_ (by simpa using q)) fun y ys i v h' tk bs q hv hrd hk => ?_
    cases ns with
    | nil => cases q
    | cons n r =>
      cases q
      cases hs
      rw [PySem.W.minD_ints, minL_fold] at hrd
      cases hrd
      exact ⟨.int _, H, I.kept hk, ⟨_, rfl⟩, k.sh e (.int _)⟩
  | true =>
    refine PySem.W.max_list_default (A := X.A) (I.ok.hd hc) il.isList (by simpa using hr) (alike_ints ns) hu2 (fun q => none_ (by simpa using q)) fun y ys i v h' tk bs q hv hrd hk => ?_
    cases ns with
    | nil => cases q
    | cons n r =>
      cases q
      cases hs
      rw [PySem.W.maxD_ints, maxL_fold] at hrd
      cases hrd
      exact ⟨.int _, H, I.kept hk, ⟨_, rfl⟩, k.sh e (.int _)⟩
theorem e_kw {id : String} {x : Str} {e d : Expr} {nm : Str} {p pos kp : Pos} {sem : List D → List D → Option Sl} {fa fd : Ev} (hc : CallRK X (.builtin id) [nm] (rSK g sem)) (hg : Gl X x) (hm : X.mg x = none) (hv : bootBuiltins x = some (.builtin id)) (ha : PE X e (tD g W fa)) (hd : PE X d (tD g W fd)) (hn : x ≠ "__name__") (hdb : (x == ("__debug__" : Str)) = false) (hs : notStar e = true) :
    PE X (.Call (.Name x p) [e] [⟨some nm, d, kp⟩] pos) (tD g W (cKw sem (cA1 fa cA0) (cA1 fd cA0))) := by
  have h1 : PA X [e] (tDA g W (cA1 fa cA0)) := e_a1 ha e_a0 hs
  have h2 : PK X [⟨some nm, d, kp⟩] (tDA g W (cA1 fd cA0)) := ⟨fun ps pins s σ H Q I q => (pk_cons (nm := some nm) (kpos := kp) hd pk_nil).run ps pins s σ H Q I (by
    obtain ⟨ρ, G, o, w, e, po⟩ := q
    exact tD_bd w e po.exn fun v d ρ1 G1 H1 s1 r1 e1 => by
      cases e1
      exact (po.step s1) _ _ _ (.refl s1.wo) (.cons r1 .nil))⟩
  refine (pe_callBK hc hg hm hv h1 h2 hn hdb (by rw [star_cons hs]; rfl) (by rw [star_cons hs]; rfl)).imp fun σ H Q ⟨ρ, G, o, w, e, po⟩ => ?_
  exact tD_ba w e po.exn fun vs ds ρ1 G1 H1 s1 r1 e1 => tD_ba s1.wo e1 (po.step s1).exn fun ws es ρ2 G2 H2 s2 r2 e2 => by
    obtain ⟨z, hz, rfl⟩ := lift_ok e2
    exact ⟨G2, ds, es, z, s2.wo.gh, RpAll.mono s2.gg _ _ r1, r2, hz, (po.step (s1.trans s2)).kq s2.wo⟩
end
def tupsOf : List D → Option (List (List Int))
  | [] => some []
  | .tuple d :: ds => (match intsOf d, tupsOf ds with
    | some k, some ks => some (k :: ks)
    | _, _ => none)
  | _ => none
def ddL : List (List Int) → List (List Int)
  | [] => []
  | x :: xs => if x ∈ xs then ddL xs else x :: ddL xs
theorem ddL_mem {k : List Int} : ∀ {ns : List (List Int)}, k ∈ ddL ns ↔ k ∈ ns
  | [] => Iff.rfl
  | x :: xs => by
    unfold ddL
    split
    · rename_i h
      rw [ddL_mem (ns := xs), List.mem_cons]
      exact ⟨.inr, fun q => q.elim (fun e => e ▸ h) id⟩
    · rw [List.mem_cons, List.mem_cons, ddL_mem (ns := xs)]
theorem ddL_nodup : ∀ ns : List (List Int), (ddL ns).Nodup
  | [] => List.nodup_nil
  | x :: xs => by
    unfold ddL
    split
    · exact ddL_nodup xs
    · rename_i h
      exact List.nodup_cons.mpr ⟨fun q => h (ddL_mem.mp q), ddL_nodup xs⟩
def cleB (a b : List Int) : Bool := decide (TS.code 64 a ≤ TS.code 64 b)
/-- the different ones, in order -/
def ssT (kss : List (List Int)) : List (List Int) := (ddL kss).mergeSort cleB
def okT (kss : List (List Int)) : Bool := decide (kss.length < 64) && (match kss with
  | [] => true
  | k :: _ => decide (1 ≤ k.length) && kss.all fun q => decide (q.length = k.length) && q.all fun m => decide (0 ≤ m) && decide (m < 64))
theorem code_inj : ∀ {a b : List Int}, a.length = b.length → TS.Bd 64 a → TS.Bd 64 b → TS.code 64 a = TS.code 64 b → a = b
  | [], [], _, _, _, _ => rfl
  | x :: a, y :: b, hl, ha, hb, e => by
    have hl' : a.length = b.length := by simpa using hl
    rcases Int.lt_trichotomy x y with h | h | h
    · have := TS.code_lt hl' ha.tail hb.tail h
      omega
    · subst h
      have e2 : TS.code 64 a = TS.code 64 b := by
        have e : x * 64 ^ a.length + TS.code 64 a = x * 64 ^ b.length + TS.code 64 b := e
        rw [hl'] at e
        omega
      rw [code_inj hl' ha.tail hb.tail e2]
    · have := TS.code_lt hl'.symm hb.tail ha.tail h
      omega
theorem ssT_uniq {kss L : List (List Int)} {d : Nat} (hk : ∀ k ∈ kss, k.length = d ∧ TS.Bd 64 k) (hn : L.Nodup) (hm : ∀ k, k ∈ L ↔ k ∈ kss) (hs : L.Pairwise fun a b => TS.code 64 a ≤ TS.code 64 b) : L = ssT kss := by
  have hp : L.Perm (ssT kss) := by
    refine List.Perm.trans ((List.perm_ext_iff_of_nodup hn (ddL_nodup kss)).mpr fun k => (hm k).trans ddL_mem.symm) (List.mergeSort_perm _ _).symm
  have h2 : (ssT kss).Pairwise fun a b => TS.code 64 a ≤ TS.code 64 b := by
    have := List.pairwise_mergeSort (le := cleB) (fun a b c h1 h2 => by unfold cleB at *; rw [decide_eq_true_eq] at *; omega) (fun a b => by unfold cleB; rw [Bool.or_eq_true, decide_eq_true_eq, decide_eq_true_eq]; omega) (ddL kss)
    exact this.imp fun h => by unfold cleB at h; rwa [decide_eq_true_eq] at h
  refine List.Perm.eq_of_pairwise (fun a b ha hb h1 h3 => ?_) hs h2 hp
  obtain ⟨a1, a2⟩ := hk a ((hm a).mp ha)
  obtain ⟨b1, b2⟩ := hk b ((hm b).mp (hp.mem_iff.mpr hb))
  exact code_inj (a1.trans b1.symm) a2 b2 (by omega)
theorem rp_tups {K : PySem.W.Frag} {G : Hp} : ∀ {ds : List D} {xs : List V} {kss : List (List Int)}, RpAll K G xs ds → tupsOf ds = some kss → ∃ ks : List (Addr × List Int), xs = (ks.map fun p => V.ref p.1) ∧ ks.map (·.2) = kss ∧ ∀ p ∈ ks, SqN K G p.1 (p.2.map V.int)
  | [], _, _, h, e => by
    cases h
    cases e
    exact ⟨[], rfl, rfl, fun p hp => by cases hp⟩
  | d :: ds, _, kss, h, e => by
    cases h with | cons h1 h2 =>
    cases d with
    | tuple q =>
      unfold tupsOf at e
      split at e
      · rename_i k ks e1 e2
        cases e
        cases h1 with | tup a1 b1 =>
        rw [ints_eq e1] at b1
        obtain rfl := rp_ints b1
        obtain ⟨r, rfl, r2, r3⟩ := rp_tups h2 e2
        refine ⟨(_, k) :: r, rfl, by rw [List.map_cons, r2], fun p hp => ?_⟩
        rcases List.mem_cons.mp hp with rfl | hp
        · exact a1
        · exact r3 p hp
      · cases e
    | _ => cases e
theorem rp_ofTups {K : PySem.W.Frag} {G : Hp} : ∀ {L : List (Addr × List Int)}, (∀ p ∈ L, SqN K G p.1 (p.2.map V.int)) → RpAll K G (L.map fun p => V.ref p.1) ((L.map (·.2)).map fun k => .tuple (k.map .int))
  | [], _ => .nil
  | p :: L, h => .cons (.tup (h p List.mem_cons_self) (rp_of_ints _)) (rp_ofTups fun q hq => h q (List.mem_cons_of_mem _ hq))
def sShl : D → D → Option Sl
  | .int i, .int j => if 0 ≤ j ∧ j ≤ 1000000 ∧ i.natAbs < 2 ^ 64 then some (.sh (.int (i * 2 ^ j.toNat))) else none
  | _, _ => none
def sShr : D → D → Option Sl
  | .int i, .int j => if 0 ≤ j then some (.sh (.int (i / 2 ^ j.toNat))) else none
  | _, _ => none
def sBand : D → D → Option Sl
  | .int i, .int j => some (.sh (.int (Builtin.bitAnd i j)))
  | _, _ => none
def sBor : D → D → Option Sl
  | .int i, .int j => some (.sh (.int (Builtin.bitOr i j)))
  | _, _ => none
section
variable {X : Cx} {g : Gd}
theorem o_shl : OpR X (binaryOp .LShift) (rS2 g sShl) := by
  intro pins s σ H x y v u Q I rx ry ⟨G, dx, dy, z, e, r1, r2, hs, k⟩
  unfold sShl at hs
  split at hs
  · split at hs
    · rename_i hz; cases hs; cases r1; cases r2
      exact op_shl pins s σ H _ _ v u Q I rx ry ⟨_, _, rfl, rfl, hz, k.sh e (.int _)⟩
    · cases hs
  · cases hs
theorem o_shr : OpR X (binaryOp .RShift) (rS2 g sShr) := by
  intro pins s σ H x y v u Q I rx ry ⟨G, dx, dy, z, e, r1, r2, hs, k⟩
  unfold sShr at hs
  split at hs
  · split at hs
    · rename_i hz; cases hs; cases r1; cases r2
      exact op_shr pins s σ H _ _ v u Q I rx ry ⟨_, _, rfl, rfl, hz, k.sh e (.int _)⟩
    · cases hs
  · cases hs
theorem o_band : OpR X (binaryOp .BitAnd) (rS2 g sBand) := by
  intro pins s σ H x y v u Q I rx ry ⟨G, dx, dy, z, e, r1, r2, hs, k⟩
  unfold sBand at hs
  split at hs
  · cases hs; cases r1; cases r2
    exact op_and pins s σ H _ _ v u Q I rx ry ⟨_, _, rfl, rfl, k.sh e (.int _)⟩
  · cases hs
theorem o_bor : OpR X (binaryOp .BitOr) (rS2 g sBor) := by
  intro pins s σ H x y v u Q I rx ry ⟨G, dx, dy, z, e, r1, r2, hs, k⟩
  unfold sBor at hs
  split at hs
  · cases hs; cases r1; cases r2
    exact op_or pins s σ H _ _ v u Q I rx ry ⟨_, _, rfl, rfl, k.sh e (.int _)⟩
  · cases hs
end
end Rk
set_option Elab.async false
set_option linter.all false
set_option maxRecDepth 100000
set_option maxHeartbeats 4000000
namespace Rk
open PySem PySem.Spec PyProof.Rows L2
def strOf : Expr → Option Str
  | .Constant (.str s) _ _ => some s
  | _ => none
/-- the pairs of a display of texts -/
def pairsOf : List (Option Expr) → List Expr → Option (List (Str × Str))
  | [], [] => some []
  | some k :: ks, v :: vs => (match strOf k, strOf v, pairsOf ks vs with
    | some a, some b, some r => some ((a, b) :: r)
    | _, _, _ => none)
  | _, _ => none
def kvsOf (ps : List (Str × Str)) : List (Key × V) := ps.map fun p => (.inr p.1, V.str p.2)
def sDct (ps : List (Str × Str)) (k : Str) : Option Str := match valV (mergeK [] (kvsOf ps)) (.inr k) with
  | some (.str z) => some z
  | _ => none
def cDct (ps : List (Str × Str)) (fb : Ev) : Ev := fun ρ => bdD (fb ρ) fun d ρ1 => match d with
  | .str k => (match sDct ps k with
    | some z => some (.ok (.sh (.str z)) ρ1)
    | none => none)
  | _ => none
section
variable {X : Cx} {g : Gd} {W : WX}
def trsOf (ps : List (Str × Str)) : List (TE × TE) := ps.map fun p => (tC (.str p.1), tC (.str p.2))
theorem pps_of {pos : Pos} : ∀ {ks : List (Option Expr)} {vs : List Expr} {ps : List (Str × Str)}, pairsOf ks vs = some ps → PPs X pos ks vs (trsOf ps) ∧ ks.all (·.isSome) = true ∧ ks.length = ps.length ∧ vs.length = ps.length
  | [], [], _, e => by cases e; exact ⟨pps_nil, rfl, rfl, rfl⟩
  | some k :: ks, v :: vs, _, e => by
    unfold pairsOf at e
    split at e
    · rename_i a b r e1 e2 e3
      cases e
      obtain ⟨h1, h2, h3, h4⟩ := pps_of (pos := pos) e3
      have hk : PE X k (tC (.str a)) := by
        unfold strOf at e1
        split at e1
        · cases e1; exact pe_str
        · cases e1
      have hv : PE X v (tC (.str b)) := by
        unfold strOf at e2
        split at e2
        · cases e2; exact pe_str
        · cases e2
      exact ⟨pps_cons hk hv h1, by simpa using h2, by simp [h3], by simp [h4]⟩
    · cases e
  | none :: _, _ :: _, _, e => by cases e
  | [], _ :: _, _, e => by cases e
  | some _ :: _, [], _, e => by cases e
  | none :: _, [], _, e => by cases e
theorem tPairs_consts {σ : St} {H : Hp} : ∀ {ps : List (Str × Str)} {Q : List (V × V) → Hp → Prop}, Q (ps.map fun p => (V.str p.1, V.str p.2)) H → tPairs (trsOf ps) σ H Q
  | [], _, h => h
  | p :: ps, _, h => tPairs_consts (ps := ps) h
theorem e_dct {ks : List (Option Expr)} {vs : List Expr} {ps : List (Str × Str)} {b : Expr} {pos p2 : Pos} {fb : Ev} (hu : X.A.units + 64 < cLine) (hp : pairsOf ks vs = some ps) (h0 : ps.length ≠ 0) (h15 : ps.length ≤ 15) (hb : PE X b (tD g W fb)) (hs : NoSl b) :
    PE X (.Subscript (.Dict ks vs p2) b pos) (tD g W (cDct ps fb)) := by
  obtain ⟨h1, h2, h3, h4⟩ := pps_of (X := X) (pos := p2) hp
  have hd := pe_disp h1 h2 (h3.trans h4.symm) (fun z => by rw [z] at h3; exact h0 h3.symm) (by omega)
  refine (pe_dget (pos := pos) (by omega) hd hb hs).imp fun σ H Q ⟨ρ, G, o, w, e, po⟩ => ?_
  intro p hpn
  have hG : G p = none := by
    cases q : G p with
    | none => rfl
    | some u => rw [w.gh p u q] at hpn; cases hpn
  refine tPairs_consts ⟨upd_same, kvsOf ps, by simp [kvsOf, kV], by simpa [kvsOf] using h15, ?_⟩
  rw [upd_upd]
  have gr := grow_new (u := HO.dK (mergeK [] (kvsOf ps))) w.gh hpn
  refine tD_bd (w.grow gr) e (fun c fs ρ' z => ?_) fun v d ρ1 G1 H1 s1 r1 e1 => ?_
  · have := po.exn c fs ρ' z
    intro cls dd G' H' st xd
    exact this cls dd G' H' ((w.step gr).trans st) xd
  · split at e1
    · split at e1
      · rename_i k _ z hz
        cases e1
        cases r1
        have hl : H1 p = some (.dK (mergeK [] (kvsOf ps))) := s1.fr p _ upd_same (fun ow => by
          obtain ⟨_, xs, q⟩ := (w.grow gr).at ow
          rw [upd_same] at q; cases q) (fun ht => by
          obtain ⟨_, ps', q, _⟩ := (w.grow gr).tb p ht
          rw [upd_same] at q; cases q)
        unfold sDct at hz
        split at hz
        · rename_i z' hv
          cases hz
          refine ⟨p, .str z, rfl, ?_, ?_⟩
          · have := DGet.k (k := .inr k) hl
            rw [hv] at this
            exact this
          · exact po _ G1 _ ((w.step gr).trans s1) (.str _)
        · cases hz
      · cases e1
    · cases e1
end
end Rk
set_option Elab.async false
set_option linter.all false
set_option maxRecDepth 100000
set_option maxHeartbeats 4000000
namespace Rk
open PySem PySem.Spec PyProof.Rows L2
open Sem (wp)
abbrev zObj (acc : Array Value) (c : Nat) : Obj := { cls := .type "list", dict := none, data := .seq acc c, slots := #[] }
abbrev pObj (x y : Value) : Obj := { cls := .type "tuple", data := .seq #[x, y] }
theorem zip_no_len : typeLookup (.type "zip") "__len__" = pure none := by rw [typeLookup_type, builtinLookup_eq_fast]; kernel_rfl
theorem zip_no_hint : typeLookup (.type "zip") "__length_hint__" = pure none := by rw [typeLookup_type, builtinLookup_eq_fast]; kernel_rfl
/-- a zip object that is being drawn from, its tuples kept -/
structure ZSt (h : Heap) (z TI TO i1 i2 l1 l2 S : Addr) (i : Nat) : Prop where
  ti : IsPair h TI (.ref i1) (.ref i2)
  it1 : h.IsListIter i1 l1 i
  it2 : h.IsListIter i2 l2 i
  zz : (IsZip h z TI TO .none ∧ ∃ a b, IsPair h TO a b) ∨ ∃ T f oT, IsZipHeld h z TI TO T f ∧ h.get? T = some oT ∧ T ≠ z ∧ T ≠ i1 ∧ T ≠ i2 ∧ T ≠ S
structure ZAp (z TI TO i1 i2 l1 l2 S : Addr) : Prop where
  D : ZipApart z TI TO i1 i2 l1 l2
  z : z ≠ S
  TI : TI ≠ S
  TO : TO ≠ S
  i1 : i1 ≠ S
  i2 : i2 ≠ S
  l1 : l1 ≠ S
  l2 : l2 ≠ S
section
variable {prog : Program} {w : World} {A : Around} {E : Value → Shared → Prop} {s : Shared} {z TI TO i1 i2 l1 l2 S : Addr} {xs ys : Array Value}
theorem ZSt.keep {h h' : Heap} {i : Nat} (a : ZAp z TI TO i1 i2 l1 l2 S) (t : ZSt h z TI TO i1 i2 l1 l2 S i) (k : ∀ b o, b ≠ S → h.get? b = some o → h'.get? b = some o) : ZSt h' z TI TO i1 i2 l1 l2 S i where
  ti := k _ _ a.TI t.ti
  it1 := t.it1.at fun o e => k _ o a.i1 e
  it2 := t.it2.at fun o e => k _ o a.i2 e
  zz := by
    rcases t.zz with ⟨h1, x, y, h2⟩ | ⟨T, f, oT, h1, h2, r1, r2, r3, r4⟩
    · exact .inl ⟨k _ _ a.z h1, x, y, k _ _ a.TO h2⟩
    · exact .inr ⟨T, f, oT, k _ _ a.z h1, k _ _ r4 h2, r1, r2, r3, r4⟩
theorem zs_item {i : Nat} {x y : Value} {Q : Option Value → Shared → Prop} (a : ZAp z TI TO i1 i2 l1 l2 S) (t : ZSt s.heap z TI TO i1 i2 l1 l2 S i) (hS : S < s.heap.objs.size) (hl1 : s.heap.IsList l1 xs) (hl2 : s.heap.IsList l2 ys) (hx : xs[i]? = some x) (hy : ys[i]? = some y)
    (hQ : ∀ h', ZSt h' z TI TO i1 i2 l1 l2 S (i + 1) → h'.get? s.heap.objs.size = some (pObj x y) → h'.objs.size = s.heap.objs.size + 1 →
      (∀ c o, c ≠ z → c ≠ TO → c ≠ i1 → c ≠ i2 → s.heap.get? c = some o → h'.get? c = some o) → Q (some (.ref s.heap.objs.size)) { s with heap := h' }) :
    wpAny (model prog w) A (pyNext (.ref z)) Q E s := by
  have D := a.D
  have lt : ∀ {c o}, s.heap.get? c = some o → s.heap.objs.size ≠ c := fun e => Nat.ne_of_gt (Heap.lt_size e)
  have n1 : s.heap.objs.size ≠ i1 := let ⟨_, e, _⟩ := t.it1; lt e
  have n2 : s.heap.objs.size ≠ i2 := let ⟨_, e, _⟩ := t.it2; lt e
  rcases t.zz with ⟨hz, x0, y0, hTO⟩ | ⟨T, f, oT, hz, hT, r1, r2, r3, r4⟩
  · refine wpAny_pyNext_zip_item D hz t.ti hTO t.it1 t.it2 hl1 hl2 hx hy fun h' a1 a2 a3 a4 a5 a6 hk => ?_
    exact hQ h' ⟨hk _ _ D.TIz D.TITO D.TIi1 D.TIi2 t.ti, a3, a4, .inr ⟨s.heap.objs.size, false, _, a1, a5, lt hz, n1, n2, Nat.ne_of_gt hS⟩⟩ a5 a6 hk
  · refine wpAny_pyNext_zip_item_held D hz hT t.ti t.it1 t.it2 hl1 hl2 hx hy fun h' a1 a3 a4 a5 a6 hk => ?_
    exact hQ h' ⟨hk _ _ D.TIz D.TIi1 D.TIi2 t.ti, a3, a4, .inr ⟨T, true, oT, a1, hk _ _ r1 r2 r3 hT, r1, r2, r3, r4⟩⟩ a5 a6 fun c o c1 _ c3 c4 e => hk c o c1 c3 c4 e
theorem zs_done {i : Nat} {Q : Option Value → Shared → Prop} (hh : A.handled = none) (a : ZAp z TI TO i1 i2 l1 l2 S) (t : ZSt s.heap z TI TO i1 i2 l1 l2 S i) (hl1 : s.heap.IsList l1 xs) (hl2 : s.heap.IsList l2 ys) (hend : xs[i]? = none ∨ ys[i]? = none)
    (hQ : ∀ h', (∀ c o, c ≠ z → c ≠ TO → c ≠ i1 → c ≠ i2 → s.heap.get? c = some o → h'.get? c = some o) → Q none { s with heap := h' }) :
    wpAny (model prog w) A (pyNext (.ref z)) Q E s := by
  rcases t.zz with ⟨hz, x0, y0, hTO⟩ | ⟨T, f, oT, hz, hT, r1, r2, r3, r4⟩
  · exact wpAny_pyNext_zip_end hh a.D hz t.ti hTO t.it1 t.it2 hl1 hl2 hend hQ
  · exact wpAny_pyNext_zip_end_held hh a.D hz hT t.ti t.it1 t.it2 hl1 hl2 hend fun h' hk => hQ h' fun c o c1 _ c3 c4 e => hk c o c1 c3 c4 e
/-- the tuples drawn so far -/
structure ZG (xs ys : Array Value) (lo : Addr) (h : Heap) (as : List Addr) : Prop where
  rise : as.Pairwise (· < ·)
  above : ∀ a ∈ as, lo < a
  pairs : ∀ (j : Nat) (a : Addr), as[j]? = some a → ∃ x y, xs[j]? = some x ∧ ys[j]? = some y ∧ h.get? a = some (pObj x y)
theorem ZG.there {lo : Addr} {h : Heap} {as : List Addr} (g : ZG xs ys lo h as) {a : Addr} (ha : a ∈ as) : a < h.objs.size := by
  obtain ⟨j, hj⟩ := List.mem_iff_getElem?.mp ha
  obtain ⟨_, _, _, _, e⟩ := g.pairs j a hj
  exact Heap.lt_size e
theorem ZG.next {lo : Addr} {h h' : Heap} {as : List Addr} {x y : Value} (g : ZG xs ys lo h as) (hlo : lo < h.objs.size) (k : ∀ b o, lo < b → h.get? b = some o → h'.get? b = some o) (hx : xs[as.length]? = some x) (hy : ys[as.length]? = some y) (ht : h'.get? h.objs.size = some (pObj x y)) : ZG xs ys lo h' (as ++ [h.objs.size]) where
  rise := List.pairwise_append.mpr ⟨g.rise, List.pairwise_singleton _ _, fun a ha b hb => by rw [List.mem_singleton.mp hb]; exact g.there ha⟩
  above := fun a ha => by
    rcases List.mem_append.mp ha with ha | ha
    · exact g.above a ha
    · rw [List.mem_singleton.mp ha]; exact hlo
  pairs := fun j b hj => by
    rcases Nat.lt_trichotomy j as.length with h1 | h1 | h1
    · rw [List.getElem?_append_left h1] at hj
      obtain ⟨x', y', e1, e2, e3⟩ := g.pairs j b hj
      exact ⟨x', y', e1, e2, k b _ (g.above b (List.mem_of_getElem? hj)) e3⟩
    · subst h1
      have hb : h.objs.size = b := by simpa using hj
      subst hb
      exact ⟨x, y, hx, hy, ht⟩
    · have hnone : (as ++ [h.objs.size])[j]? = none := List.getElem?_eq_none (by rw [List.length_append, List.length_singleton]; omega)
      rw [hnone] at hj; cases hj
theorem ZG.stay {lo lo' : Addr} {h h' : Heap} {as : List Addr} (g : ZG xs ys lo h as) (hl : lo' ≤ lo) (k : ∀ b o, lo < b → h.get? b = some o → h'.get? b = some o) : ZG xs ys lo' h' as where
  rise := g.rise
  above := fun a ha => Nat.lt_of_le_of_lt hl (g.above a ha)
  pairs := fun j b hj => by
    obtain ⟨x', y', e1, e2, e3⟩ := g.pairs j b hj
    exact ⟨x', y', e1, e2, k b _ (g.above b (List.mem_of_getElem? hj)) e3⟩
end
section
variable {prog : Program} {w : World} {A : Around} {s : Shared} {R : Result → Shared → Prop} {z TI TO i1 i2 l1 l2 S : Addr} {xs ys : Array Value}
theorem zl_loop (hh : A.handled = none) (a : ZAp z TI TO i1 i2 l1 l2 S) (lz : z < S) (lT : TO < S) (l1' : i1 < S) (l2' : i2 < S) (hn : min xs.size ys.size ≤ sizeLine) (res : Value) {h₁ : Heap}
    (hR : ∀ h' acc c as, (∀ b o, b ≠ S → b ≠ z → b ≠ TO → b ≠ i1 → b ≠ i2 → h₁.get? b = some o → h'.get? b = some o) → h'.get? S = some (zObj acc c) → as.length = min xs.size ys.size → ZG xs ys S h' as →
      acc.toList = as.map Value.ref → R (.ok (.ret res)) { s with heap := h' }) :
    ∀ (k i : Nat) (h : Heap) (c : Nat) (acc : Array Value) (as : List Addr), min xs.size ys.size - i = k → i ≤ min xs.size ys.size → ZSt h z TI TO i1 i2 l1 l2 S i → h.IsList l1 xs → h.IsList l2 ys → (∀ b o, b ≠ S → b ≠ z → b ≠ TO → b ≠ i1 → b ≠ i2 → h₁.get? b = some o → h.get? b = some o) →
      h.get? S = some (zObj acc c) → acc.toList = as.map Value.ref → as.length = i → ZG xs ys S h as →
      codeAny (model prog w) A (.builtin "list.extend.loop" ⟨[.ref S, .ref z, res], []⟩) R { s with heap := h } := by
  have D := a.D
  intro k
  induction k with
  | zero =>
    intro i h c acc as hk hi hst hl1 hl2 hkeep hS hacc hal hG
    have hin : i = min xs.size ys.size := by omega
    refine codeAny_builtin PySem.F.entry_extend_loop ?_
    rw [Around.under_plainId PySem.F.plain_extend_loop _]
    show wpAny _ A.in1 (pyNext (.ref z) >>= _) _ _ _
    have hend : xs[i]? = none ∨ ys[i]? = none := by
      rcases Nat.le_total xs.size ys.size with h | h
      · exact .inl (Array.getElem?_eq_none (by omega))
      · exact .inr (Array.getElem?_eq_none (by omega))
    refine wpAny_bind (zs_done (s := { s with heap := h }) (A := A.in1) hh a hst hl1 hl2 hend fun h' he => ?_)
    exact wpAny_pure (hR h' acc c as (fun b o h1 h2 h3 h4 h5 e => he b o h2 h3 h4 h5 (hkeep b o h1 h2 h3 h4 h5 e)) (he S _ (Ne.symm a.z) (Ne.symm a.TO) (Ne.symm a.i1) (Ne.symm a.i2) hS) (by omega)
      (hG.stay (Nat.le_refl _) fun b o hb e => he b o (Nat.ne_of_gt (Nat.lt_trans lz hb)) (Nat.ne_of_gt (Nat.lt_trans lT hb)) (Nat.ne_of_gt (Nat.lt_trans l1' hb)) (Nat.ne_of_gt (Nat.lt_trans l2' hb)) e) hacc)
  | succ k ih =>
    intro i h c acc as hk hi hst hl1 hl2 hkeep hS hacc hal hG
    have hlt : i < min xs.size ys.size := by omega
    have ex := Array.getElem?_eq_getElem (Nat.lt_of_lt_of_le hlt (Nat.min_le_left ..))
    have ey := Array.getElem?_eq_getElem (Nat.lt_of_lt_of_le hlt (Nat.min_le_right ..))
    have hsz : acc.size = i := by rw [← Array.length_toList, hacc, List.length_map, hal]
    have hSl : S < h.objs.size := Heap.lt_size hS
    refine codeAny_builtin PySem.F.entry_extend_loop ?_
    rw [Around.under_plainId PySem.F.plain_extend_loop _]
    show wpAny _ A.in1 (pyNext (.ref z) >>= _) _ _ _
    refine wpAny_bind (zs_item (s := { s with heap := h }) (S := S) a hst hSl hl1 hl2 ex ey fun h' hst' ht hz hkp => ?_)
    dsimp only at ht hz hkp ⊢
    have hS' := hkp S _ (Ne.symm a.z) (Ne.symm a.TO) (Ne.symm a.i1) (Ne.symm a.i2) hS
    have up : ∀ b o, b ≠ S → h'.get? b = some o → (h'.update S (Obj.mapSeq (·.push (Value.ref h.objs.size)))).get? b = some o := fun b o hb e => (Heap.get?_update_other _ _ (Ne.symm hb)).trans e
    show wpAny _ A.in1 (updateSeq S (·.push (Value.ref h.objs.size)) >>= _) _ _ _
    refine wpAny_bind ?_
    refine wpAny_updateSeq hS' rfl (wpAny_pure ⟨plainId_quiet PySem.F.plain_extend_loop _, ih (i + 1) _ _ (acc.push (Value.ref h.objs.size)) (as ++ [h.objs.size]) (by omega) hlt (hst'.keep a up)
      (hl1.at fun o e => up _ o a.l1 (hkp _ o D.l1z D.l1TO D.l1i1 D.l1i2 e)) (hl2.at fun o e => up _ o a.l2 (hkp _ o D.l2z D.l2TO D.l2i1 D.l2i2 e))
      (fun b o h1 h2 h3 h4 h5 e => up b o h1 (hkp b o h2 h3 h4 h5 (hkeep b o h1 h2 h3 h4 h5 e))) (Heap.get?_update_self _ hS' rfl) (by rw [Array.toList_push, hacc, List.map_append]; rfl) (by rw [List.length_append, hal]; rfl) ?_⟩) (by rw [hsz]; omega) (by show (acc.push (Value.ref h.objs.size)).size ≤ sizeLine + 1; rw [Array.size_push, hsz]; omega)
    refine hG.next hSl (fun b o hb e => up b o (Nat.ne_of_gt hb) (hkp b o (Nat.ne_of_gt (Nat.lt_trans lz hb)) (Nat.ne_of_gt (Nat.lt_trans lT hb)) (Nat.ne_of_gt (Nat.lt_trans l1' hb)) (Nat.ne_of_gt (Nat.lt_trans l2' hb)) e)) (by rw [hal]; exact ex) (by rw [hal]; exact ey) (up _ _ (Nat.ne_of_gt hSl) ht)
end
section
variable {prog : Program} {w : World} {A : Around} {E : Value → Shared → Prop} {s : Shared} {z TI TO i1 i2 l1 l2 : Addr} {xs ys : Array Value}
theorem zl_extend {R : Result → Shared → Prop} {S : Addr} (hh : A.handled = none) (a : ZAp z TI TO i1 i2 l1 l2 S) (lz : z < S) (lT : TO < S) (l1' : i1 < S) (l2' : i2 < S) (hz : IsZip s.heap z TI TO .none) (t : ZSt s.heap z TI TO i1 i2 l1 l2 S 0) (hl1 : s.heap.IsList l1 xs) (hl2 : s.heap.IsList l2 ys) (res : Value) (c₀ : Nat) (hS : s.heap.get? S = some { cls := .type "list", data := .seq #[] c₀ })
    (hR : ∀ h' acc c as, (∀ b o, b ≠ S → b ≠ z → b ≠ TO → b ≠ i1 → b ≠ i2 → s.heap.get? b = some o → h'.get? b = some o) → h'.get? S = some (zObj acc c) → as.length = min xs.size ys.size → ZG xs ys S h' as →
      acc.toList = as.map Value.ref → R (.ok (.ret res)) { s with heap := h' }) (hn : min xs.size ys.size ≤ sizeLine) :
    wpAny (model prog w) A.in1 (Builtin.List.listExtendWith (.ref S) (.ref z) res)
      (fun fin s' => match fin with | .done f => R (.ok f) s' | .again c' => c'.quiet = true ∧ codeAny (model prog w) A c' R s') (fun e s' => R (.error e) s') s := by
  have hT : s.TypeIs (.ref z) "zip" := ⟨_, hz, rfl⟩
  unfold Builtin.List.listExtendWith
  refine wpAny_bind (wpAny_typeOf hT ?_)
  have h1 : Builtin.List.listSameRef (.ref S) (.ref z) = false := by simp [Builtin.List.listSameRef, Ne.symm a.z]
  have h2 : (Value.type "zip" == Value.type "list") = false := by decide
  have h3 : (Value.type "zip" == Value.type "tuple") = false := by decide
  simp only [h1, h2, h3, Bool.or_false, Bool.false_eq_true, if_false]
  refine wpAny_bind (wpAny_pyIter_zip hz ?_)
  refine wpAny_bind (wpAny_holding ?_)
  unfold Builtin.List.listLengthHint
  refine wpAny_bind (wpAny_specialOf hT zip_no_len ?_)
  show wpAny _ A.in1 (specialOf (Value.ref z) (Str.ofString "__length_hint__") >>= _) _ _ _
  refine wpAny_bind (wpAny_specialOf hT zip_no_hint ?_)
  refine wpAny_pure ?_
  show wpAny _ A.in1 (rule "list.extend.makes-room" >>= fun _ => Builtin.List.listTouch (.ref S) >>= fun _ =>
    again (.builtin "list.extend.loop" ⟨[.ref S, .ref z, res], []⟩)) _ _ _
  refine wpAny_bind (wpAny_rule ?_)
  refine wpAny_bind ?_
  show wpAny _ A.in1 (updateSeq S (·.push .none) >>= fun _ => updateSeq S (·.pop)) _ _ _
  refine wpAny_bind (wpAny_updateSeq hS rfl ?_)
  have hS₂ := Heap.get?_update_self (Obj.mapSeq (·.push Value.none)) hS rfl
  refine wpAny_updateSeq (hz := by seq_fits) hS₂ rfl ?_
  have hS₃ := Heap.get?_update_self (Obj.mapSeq (·.pop)) hS₂ rfl
  have oth : ∀ b o, b ≠ S → s.heap.get? b = some o → ((s.heap.update S (Obj.mapSeq (·.push Value.none))).update S (Obj.mapSeq (·.pop))).get? b = some o :=
    fun b o hb e => (Heap.get?_update_other _ _ (Ne.symm hb)).trans ((Heap.get?_update_other _ _ (Ne.symm hb)).trans e)
  refine wpAny_pure ⟨plainId_quiet PySem.F.plain_extend_loop _, zl_loop (h₁ := s.heap) hh a lz lT l1' l2' hn res hR _ 0 _ _ #[] [] rfl (Nat.zero_le _) (t.keep a oth) (hl1.at fun o e => oth _ o a.l1 e) (hl2.at fun o e => oth _ o a.l2 e) (fun b o hb _ _ _ _ e => oth b o hb e) hS₃ rfl rfl
    ⟨List.Pairwise.nil, (fun _ ha => nomatch ha), (fun j a hj => by simp at hj)⟩⟩
theorem zl_init {R : Result → Shared → Prop} {S : Addr} (hh : A.handled = none) (a : ZAp z TI TO i1 i2 l1 l2 S) (lz : z < S) (lT : TO < S) (l1' : i1 < S) (l2' : i2 < S) (hz : IsZip s.heap z TI TO .none) (t : ZSt s.heap z TI TO i1 i2 l1 l2 S 0) (hl1 : s.heap.IsList l1 xs) (hl2 : s.heap.IsList l2 ys) (hS : s.heap.get? S = some { cls := .type "list", data := .seq #[] })
    (hR : ∀ h' acc c as, (∀ b o, b ≠ S → b ≠ z → b ≠ TO → b ≠ i1 → b ≠ i2 → s.heap.get? b = some o → h'.get? b = some o) → h'.get? S = some (zObj acc c) → as.length = min xs.size ys.size → ZG xs ys S h' as →
      acc.toList = as.map Value.ref → R (.ok (.ret .none)) { s with heap := h' }) (hn : min xs.size ys.size ≤ sizeLine) :
    wpAny (model prog w) A.in1 (Builtin.«list.__init__» ⟨[.ref S, .ref z], []⟩)
      (fun fin s' => match fin with | .done f => R (.ok f) s' | .again c' => c'.quiet = true ∧ codeAny (model prog w) A c' R s') (fun e s' => R (.error e) s') s := by
  show wpAny _ _ (do let old ← Builtin.List.listItems (.ref S); Builtin.List.listUpdate (.ref S) (fun _ => #[]); letGo old.toList.reverse; Builtin.List.listExtendWith (.ref S) (.ref z) .none) _ _ s
  refine wpAny_bind ?_
  unfold Builtin.List.listItems
  refine wpAny_bind (wpAny_seqItems hS rfl (wpAny_pure ?_))
  show wpAny _ _ (updateSeq S (fun _ => #[]) >>= fun _ => letGo (#[] : Array Value).toList.reverse >>= fun _ => Builtin.List.listExtendWith (.ref S) (.ref z) .none) _ _ s
  refine wpAny_bind (wpAny_updateSeq hS rfl ?_)
  have hS₂ := Heap.get?_update_self (Obj.mapSeq (fun _ => (#[] : Array Value))) hS rfl
  have oth : ∀ b o, b ≠ S → s.heap.get? b = some o → (s.heap.update S (Obj.mapSeq (fun _ => (#[] : Array Value)))).get? b = some o :=
    fun b o hb e => (Heap.get?_update_other _ _ (Ne.symm hb)).trans e
  refine wpAny_bind (wpAny_letGo ?_)
  exact zl_extend (s := { s with heap := _ }) hh a lz lT l1' l2' (oth _ _ a.z hz) (t.keep a oth) (hl1.at fun o e => oth _ o a.l1 e) (hl2.at fun o e => oth _ o a.l2 e) .none _ hS₂ (fun h' acc c as hk hS' hl hG hacc => hR h' acc c as (fun b o h1 h2 h3 h4 h5 e => hk b o h1 h2 h3 h4 h5 (oth b o h1 e)) hS' hl hG hacc) hn
theorem zl_call {Q : Value → Shared → Prop} (hh : A.handled = none) (D : ZipApart z TI TO i1 i2 l1 l2) (hz : IsZip s.heap z TI TO .none) (hTI : IsPair s.heap TI (.ref i1) (.ref i2)) (hTO : ∃ x y, IsPair s.heap TO x y) (h1 : s.heap.IsListIter i1 l1 0) (h2 : s.heap.IsListIter i2 l2 0) (hl1 : s.heap.IsList l1 xs) (hl2 : s.heap.IsList l2 ys) (hn : min xs.size ys.size ≤ sizeLine)
    (hQ : ∀ h' acc c as, (∀ b o, b ≠ z → b ≠ TO → b ≠ i1 → b ≠ i2 → s.heap.get? b = some o → h'.get? b = some o) → h'.get? s.heap.objs.size = some (zObj acc c) → as.length = min xs.size ys.size → ZG xs ys s.heap.objs.size h' as →
      acc.toList = as.map Value.ref → Q (.ref s.heap.objs.size) { s with heap := h' }) :
    wpAny (model prog w) A (call (.type "list") [.ref z]) Q E s := by
  refine callType_codes (Q₁ := fun obj s₁ => obj = .ref s.heap.objs.size ∧ s₁ = { s with heap := s.heap.push { cls := .type "list", data := .seq #[] } }) PySem.F.called_list (PySem.F.typeCall_list_1 _) PySem.F.entry_list_init
    (code_list_new _ ⟨rfl, rfl⟩) fun obj s₁ h₁ => ?_
  obtain ⟨rfl, rfl⟩ := h₁
  have hS : (s.heap.push { cls := .type "list", data := .seq #[] }).get? s.heap.objs.size = some { cls := .type "list", data := .seq #[] } := Heap.get?_push_size _ rfl
  have lz := Heap.lt_size hz
  have lTI := Heap.lt_size hTI
  obtain ⟨x0, y0, hTO⟩ := hTO
  have lTO := Heap.lt_size hTO
  have li1 : i1 < s.heap.objs.size := let ⟨_, e, _⟩ := h1; Heap.lt_size e
  have li2 : i2 < s.heap.objs.size := let ⟨_, e, _⟩ := h2; Heap.lt_size e
  have ll1 : l1 < s.heap.objs.size := let ⟨_, e, _⟩ := hl1; Heap.lt_size e
  have ll2 : l2 < s.heap.objs.size := let ⟨_, e, _⟩ := hl2; Heap.lt_size e
  have a : ZAp z TI TO i1 i2 l1 l2 s.heap.objs.size := ⟨D, Nat.ne_of_lt lz, Nat.ne_of_lt lTI, Nat.ne_of_lt lTO, Nat.ne_of_lt li1, Nat.ne_of_lt li2, Nat.ne_of_lt ll1, Nat.ne_of_lt ll2⟩
  have kp : ∀ b o, s.heap.get? b = some o → (s.heap.push { cls := .type "list", data := .seq #[] }).get? b = some o := fun b o e => Heap.get?_push_of_some _ e
  refine ⟨⟨_, hS, rfl⟩, PySem.F.args_list_init_2 _ _, zl_init (s := { s with heap := _ }) (A := A.in1) hh a lz lTO li1 li2 (kp _ _ hz) ⟨kp _ _ hTI, h1.at fun o e => kp _ o e, h2.at fun o e => kp _ o e, .inl ⟨kp _ _ hz, x0, y0, kp _ _ hTO⟩⟩ (hl1.at fun o e => kp _ o e) (hl2.at fun o e => kp _ o e) hS (fun h' acc c as hk hS' hl hG hacc => ?_) hn⟩
  exact ⟨rfl, hQ h' acc c as (fun b o h2 h3 h4 h5 e => hk b o (Nat.ne_of_lt (Heap.lt_size e)) h2 h3 h4 h5 (kp b o e)) hS' hl hG hacc⟩
end
/-- the pair at j, as it is known -/
def zFr (us ws : List Value) (xs ys : List V) (j : Nat) : HO := .frz (pObj (us.getD j .none) (ws.getD j .none)) (.tup [xs.getD j .non, ys.getD j .non])
open Classical in
noncomputable def putZ (H : Hp) (as : List Addr) (us ws : List Value) (xs ys : List V) : Hp := fun b => if b ∈ as then some (zFr us ws xs ys (as.idxOf b)) else H b
theorem putZ_off {H : Hp} {as : List Addr} {us ws : List Value} {xs ys : List V} {b : Addr} (h : b ∉ as) : putZ H as us ws xs ys b = H b := by unfold putZ; rw [if_neg h]
theorem putZ_at {H : Hp} {as : List Addr} {us ws : List Value} {xs ys : List V} {j : Nat} {b : Addr} (hn : as.Nodup) (h : as[j]? = some b) : putZ H as us ws xs ys b = some (zFr us ws xs ys j) := by
  unfold putZ
  rw [if_pos (List.mem_of_getElem? h)]
  obtain ⟨hj, rfl⟩ := List.getElem?_eq_some_iff.mp h
  rw [List.Nodup.idxOf_getElem hn]
theorem vals_at {xs : List V} {us : List Value} (r : Vals xs us) (j : Nat) : RelV (xs.getD j .non) (us.getD j .none) := by
  induction r generalizing j with
  | nil => rfl
  | cons h _ ih => cases j with
    | zero => exact h
    | succ j => simpa using ih j
section
variable {X : Cx} {pins : List (Addr × Obj)} {σ : L2.St} {H : Hp} {s : Shared} {h' : Heap} {tk : Nat}
theorem zl_laid {us ws : List Value} {xs ys : List V} {acc : Array Value} {c : Nat} {as : List Addr} {S : Addr} (I : Inv X pins σ H s) (rx : Vals xs us) (ry : Vals ys ws) (hS0 : s.heap.objs.size ≤ S) (hlen : as.length ≤ sizeLine)
    (hk : ∀ b o, s.heap.get? b = some o → h'.get? b = some o) (hS : h'.get? S = some (zObj acc c)) (hG : ZG us.toArray ws.toArray S h' as) (hacc : acc.toList = as.map Value.ref) :
    Inv X pins σ (putZ (upd H S (.lst (as.map V.ref))) as us ws xs ys) { s with heap := h', toks := tk } := by
  have hSn : S ∉ as := fun z => Nat.lt_irrefl _ (hG.above _ z)
  have nd : as.Nodup := List.Pairwise.imp (fun {a b} (h : a < b) => Nat.ne_of_lt h) hG.rise
  have new : ∀ t ∈ as, H t = none := fun t ht => I.hok.fresh (Nat.le_trans hS0 (Nat.le_of_lt (hG.above t ht)))
  have newS : H S = none := I.hok.fresh hS0
  have off : ∀ b, b ∉ as → b ≠ S → putZ (upd H S (.lst (as.map V.ref))) as us ws xs ys b = H b := fun b h1 h2 => by rw [putZ_off h1, upd_ne h2]
  have low : ∀ b o, s.heap.get? b = some o → b ∉ as ∧ b ≠ S := fun b o e => ⟨fun z => absurd (Heap.lt_size e) (Nat.not_lt.mpr (Nat.le_trans hS0 (Nat.le_of_lt (hG.above b z)))), fun z => absurd (Heap.lt_size e) (Nat.not_lt.mpr (z ▸ hS0))⟩
  have kp : ∀ b u, H b = some u → putZ (upd H S (.lst (as.map V.ref))) as us ws xs ys b = some u := fun b u e => by
    rw [off b (fun z => by rw [new b z] at e; cases e) (fun z => by rw [z, newS] at e; cases e)]
    exact e
  have eS : putZ (upd H S (.lst (as.map V.ref))) as us ws xs ys S = some (.lst (as.map V.ref)) := by rw [putZ_off hSn, upd_same]
  refine I.call' (ch := []) rfl ⟨fun b o q _ _ _ => hk b o q, fun b o q _ _ _ => ⟨o.slots, hk b o q⟩, fun b o q n _ => ?_, fun b o q _ => ⟨o, hk b o q⟩, fun b xs q => kp b _ q, fun b o u q => kp b _ q, fun b ps q => ⟨#[], by rw [kp b _ q]; simp⟩⟩ (fun b u q => ?_) I.bare fun b z => by simp at z
  · obtain ⟨z1, z2⟩ := low b o q
    rw [off b z1 z2]
    exact n
  · by_cases hb : b ∈ as
    · obtain ⟨j, hj⟩ := List.mem_iff_getElem?.mp hb
      rw [putZ_at nd hj] at q
      cases q
      obtain ⟨x, y, f1, f2, f3⟩ := hG.pairs j b hj
      have e1 : us.getD j .none = x := by
        rw [List.getElem?_toArray] at f1
        simp [List.getD, f1]
      have e2 : ws.getD j .none = y := by
        rw [List.getElem?_toArray] at f2
        simp [List.getD, f2]
      have r1 := vals_at rx j
      have r2 := vals_at ry j
      unfold zFr
      rw [e1] at r1 ⊢
      rw [e2] at r2 ⊢
      exact ⟨f3, by show 2 ≤ sizeLine; decide, [x, y], .cons r1 (.cons r2 .nil), ⟨_, f3, rfl, _, rfl⟩⟩
    · by_cases hb2 : b = S
      · rw [hb2] at q ⊢
        rw [eS] at q
        cases q
        refine ⟨by rw [List.length_map]; exact hlen, acc.toList, c, by rw [hacc]; exact LiI.vals_refs as, ?_⟩
        rw [Array.toArray_toList]
        exact hS
      · rw [off b hb hb2] at q
        exact (I.hok b u q).stay (fun d v _ y => hk d v y) (fun d y => kp d _ y) fun d xs y => kp d _ y
end
def tLstZip (K : PySem.W.Frag) (ta : TA) : TE := fun σ H Q => ta σ H fun vs H1 => ∃ a b xs ys, vs = [.ref a, .ref b] ∧ SqL K H1 a xs ∧ SqL K H1 b ys ∧ min xs.length ys.length ≤ sizeLine ∧
  ∀ S as us ws, H1 S = none → (∀ t ∈ as, H1 t = none) → S ∉ as → as.Nodup → as.length = min xs.length ys.length → Q (.ref S) (putZ (upd H1 S (.lst (as.map V.ref))) as us ws xs ys)
theorem pe_lstZip {X : Cx} {e e2 : Expr} {ta : TA} {p p2 q pos : Pos} (hc : X.calm = true) (hg : Gl X "list") (hm : X.mg "list" = none) (hg2 : Gl X "zip") (hm2 : X.mg "zip" = none) (ha : PA X [e, e2] ta)
    (hs : starEach [e, e2] X.env = (false, eval e X.env) :: starEach [e2] X.env) (hpl : (backTo q (starEach [e2] X.env)).any (·.1) = false) :
    PE X (.Call (.Name "list" p) [.Call (.Name "zip" p2) [e, e2] [] q] [] pos) (tLstZip X.K ta) := by
  refine ⟨fun pins s σ H Q I h => ?_⟩
  have hs1 : starEach [.Call (.Name "zip" p2) [e, e2] [] q] X.env = (false, eval (.Call (.Name "zip" p2) [e, e2] [] q) X.env) :: starEach [] X.env := by rfl
  refine Call_ (ld_blt I hg hm (show bootBuiltins "list" = some (.type "list") by decide +kernel) ?_)
  refine PyProof.Rows.callWith_type1 ?_ hs1 rfl
  rw [hs1]
  show wpAny _ _ (spliced ((false, eval (.Call (.Name "zip" p2) [e, e2] [] q) X.env) :: backTo pos (starEach [] X.env))) _ _ s
  refine Calls.spliced_cons ?_
  refine Call_ (ld_blt I hg2 hm2 PyProof.Rows.boot_zip (PyProof.Rows.callWith_type1 (thn (ha.run q pins s σ H _ I h) fun us s1 ⟨vs, H1, I1, r1, q1⟩ => ?_) hs hpl))
  obtain ⟨a, b, xs, ys, ex, hqx, hqy, hz, q1⟩ := q1
  subst ex
  cases r1 with
  | cons r rr =>
    cases rr with
    | cons r' rr =>
      cases rr
      cases r
      cases r'
      obtain ⟨its, rv, p1, _⟩ := I1.list hqx
      obtain ⟨its2, rv2, p2', _⟩ := I1.list hqy
      have el1 := rv.length
      have el2 := rv2.length
      refine call_zip_2 p1.isList p2'.isList fun h' hz' hTI hTO h1 h2 hsz hk => Calls.spliced_nil ?_
      refine zl_call (s := { s1 with heap := h' }) (I1.ok.hd hc) (PySem.W.ktu_apart s1.heap.objs.size a b p1.lt p2'.lt) hz' hTI ⟨_, _, hTO⟩ h1 h2 (p1.isList.at fun o q => hk _ o q) (p2'.isList.at fun o q => hk _ o q) (by simp; omega) fun h2' acc c as hk2 hS hl hG hacc => ?_
      have hS0 : s1.heap.objs.size ≤ h'.objs.size := by omega
      have hk3 : ∀ b o, s1.heap.get? b = some o → h2'.get? b = some o := fun b o q => by
        have := Heap.lt_size q
        have lt : ∀ k, b ≠ s1.heap.objs.size + k := fun k => Nat.ne_of_lt (Nat.lt_of_lt_of_le this (Nat.le_add_right _ _))
        exact hk2 b o (lt 4) (lt 3) (lt 0) (lt 1) (hk b o q)
      have J := zl_laid (tk := s1.toks) I1 rv rv2 hS0 (by simp at hl; omega) hk3 hS hG hacc
      refine ⟨.ref _, _, J, rfl, q1 _ as its its2 (I1.hok.fresh hS0) (fun t ht => I1.hok.fresh (Nat.le_trans hS0 (Nat.le_of_lt (hG.above t ht)))) (fun z => Nat.lt_irrefl _ (hG.above _ z)) (List.Pairwise.imp (fun {a b} (h : a < b) => Nat.ne_of_lt h) hG.rise) (by simp at hl; omega)⟩
def cLstZip (fs : EvA) : Ev := fun ρ => bdO (fs ρ) fun xs ρ1 => match xs with
  | [.list ds, .list es] => if ds.length ≤ big then some (.ok (.ow (zipD ds es)) ρ1) else none
  | _ => none
theorem rpAll_of {K : PySem.W.Frag} {G : Hp} : ∀ {vs : List V} {ds : List D}, vs.length = ds.length → (∀ (j : Nat) v d, vs[j]? = some v → ds[j]? = some d → Rp K G v d) → RpAll K G vs ds
  | [], [], _, _ => .nil
  | [], _ :: _, h, _ => by cases h
  | _ :: _, [], h, _ => by cases h
  | v :: vs, d :: ds, h, k => .cons (k 0 v d rfl rfl) (rpAll_of (Nat.succ.inj h) fun j v' d' e1 e2 => k (j + 1) v' d' e1 e2)
section
variable {X : Cx} {g : Gd} {W : WX}
theorem e_lstZip {e e2 : Expr} {fs : EvA} {p p2 q pos : Pos} (hK : g.K = X.K) (hc : X.calm = true) (hg : Gl X "list") (hm : X.mg "list" = none) (hg2 : Gl X "zip") (hm2 : X.mg "zip" = none) (ha : PA X [e, e2] (tDA g W fs)) (hs : notStar e = true) (hs2 : notStar e2 = true) :
    PE X (.Call (.Name "list" p) [.Call (.Name "zip" p2) [e, e2] [] q] [] pos) (tD g W (cLstZip fs)) :=
  (pe_lstZip hc hg hm hg2 hm2 ha (star_cons hs) (by rw [star_cons hs2]; rfl)).imp fun σ H Q ⟨ρ, G, o, w, eq, po⟩ => tD_ba w eq po.exn fun vs ds ρ1 G1 H1 s1 r1 e1 => by
    split at e1
    rotate_left
    · cases e1
    rename_i ds es
    split at e1
    rotate_left
    · cases e1
    rename_i hz
    cases e1
    cases r1 with | cons r1 r2 =>
    cases r2 with | cons r2 r3 =>
    cases r3
    cases r1 with | lst a1 b1 =>
    rename_i a xs
    cases r2 with | lst a2 b2 =>
    rename_i b ys
    have l1 := b1.len
    have l2 := b2.len
    have hbg := big_eq
    refine ⟨_, _, _, _, rfl, SqL.of (s1.wo.gh _ _ a1), SqL.of (s1.wo.gh _ _ a2), by omega, fun S as us ws hS hA hSA nd hl => ?_⟩
    have nG : ∀ b, H1 b = none → G1 b = none := fun b h => none_of_same s1.wo.gh h
    have sG : Same G1 (putZ G1 as us ws xs ys) := fun b u h => by
      have nb : b ∉ as := fun z => by rw [nG b (hA b z)] at h; cases h
      rw [putZ_off nb]; exact h
    have sH : Same H1 (putZ (upd H1 S (.lst (as.map V.ref))) as us ws xs ys) := fun b u h => by
      have nb : b ∉ as := fun z => by rw [hA b z] at h; cases h
      have nS : b ≠ S := fun z => by rw [z, hS] at h; cases h
      rw [putZ_off nb, upd_ne nS]; exact h
    refine (po.step s1).kq s1.wo (.ref S) (putZ G1 as us ws xs ys) _ ⟨sG, fun b u h => ?_, sH, fun b h h2 => ?_⟩ ⟨S, as.map V.ref, rfl, hS, ?_, ?_, ?_⟩
    · by_cases nb : b ∈ as
      · obtain ⟨j, hj⟩ := List.mem_iff_getElem?.mp nb
        rw [putZ_at nd hj] at h ⊢
        exact h
      · rw [putZ_off nb] at h
        exact sH _ _ (s1.wo.gh _ _ h)
    · have nb : b ∉ as := fun z => h2 (hA b z)
      rw [putZ_off nb]; exact h
    · rw [putZ_off hSA]; exact nG S hS
    · rw [putZ_off hSA, upd_same]
    · refine rpAll_of (by rw [List.length_map, hl, zipD_len]; omega) fun j v d e1 e2 => ?_
      rw [List.getElem?_map] at e1
      obtain ⟨t, ht, rfl⟩ := Option.map_eq_some_iff.mp e1
      obtain ⟨x, y, hx, hy, rfl⟩ := zipD_get e2
      obtain ⟨v', hv, rv⟩ := b1.get hx
      obtain ⟨u', hu, ru⟩ := b2.get hy
      have ev : xs.getD j .non = v' := by simp [List.getD, hv]
      have eu : ys.getD j .non = u' := by simp [List.getD, hu]
      have := putZ_at (H := G1) (us := us) (ws := ws) (xs := xs) (ys := ys) nd ht
      unfold zFr at this
      rw [ev, eu] at this
      exact .tup (.inl ⟨_, rfl, this⟩) (.cons (rv.mono sG) (.one (ru.mono sG)))
end
end Rk
set_option Elab.async false
set_option linter.all false
set_option maxRecDepth 100000
set_option maxHeartbeats 4000000
namespace Rk
open PySem PySem.Spec PyProof.Rows L2
section
variable {prog : Program} {w : World} {A : Around} {E : Value → Shared → Prop} {s : Shared}
theorem adj_rev (n : Nat) : Builtin.Slice.sliceAdjust none none (-1) (n : Int) = ((n : Int) - 1, -1) := by
  unfold Builtin.Slice.sliceAdjust
  simp
theorem plc_rev (n : Nat) : Builtin.Slice.slicePlaces ((n : Int) - 1) (-1) (-1) = n := by
  unfold Builtin.Slice.slicePlaces
  simp
  try omega
theorem applied_rev {sl : Addr} {vs : Value} {n : Nat} {Q : Int × Int × Nat → Shared → Prop} (hs : s.heap.IsSliceOf sl .none .none vs) (ps : IsPart vs (some (-1)))
    (h : Q ((n : Int) - 1, -1, n) s) : wpAny (model prog w) A (Builtin.Slice.sliceApplied (.ref sl) (pure (n : Int))) Q E s := by
  obtain ⟨os, hos, hcs, hds⟩ := id hs
  unfold Builtin.Slice.sliceApplied Builtin.Slice.sliceFields
  refine wpAny_bind (wpAny_bind (wpAny_field hos hds (x := .none) rfl (wpAny_bind (wpAny_field hos hds (x := .none) rfl (wpAny_bind (wpAny_field hos hds (x := vs) rfl (wpAny_pure ?_)))))))
  refine wpAny_bind (HT.slicePart_ ps ?_)
  show wpAny _ _ (if ((-1 : Int) == 0) = true then _ else _) _ _ s
  rw [if_neg (by decide)]
  refine wpAny_bind (HT.slicePart_ .none (wpAny_bind (HT.slicePart_ .none (wpAny_bind (wpAny_pure ?_)))))
  show wpAny _ _ (match Builtin.Slice.sliceAdjust none none (-1) (n : Int) with | (lo, hi) => pure (lo, (-1 : Int), Builtin.Slice.slicePlaces lo hi (-1))) _ _ s
  rw [adj_rev n]
  show wpAny _ _ (pure ((n : Int) - 1, (-1 : Int), Builtin.Slice.slicePlaces ((n : Int) - 1) (-1) (-1))) _ _ s
  rw [plc_rev]
  exact wpAny_pure h
theorem pick_rev (xs : Array Value) : ((List.range xs.size).filterMap fun (m : Nat) => xs[(((xs.size : Int) - 1) + (m : Int) * (-1)).toNat]?).toArray = xs.toList.reverse.toArray := by
  have e : ((List.range xs.size).filterMap fun (m : Nat) => xs[(((xs.size : Int) - 1) + (m : Int) * (-1)).toNat]?) = ((List.range xs.size).map fun k => xs.size - 1 - k).filterMap (xs[·]?) := by
    rw [List.filterMap_map]
    refine congrArg (fun f => List.filterMap f (List.range xs.size)) (funext fun m => ?_)
    have : (((xs.size : Int) - 1) + (m : Int) * (-1)).toNat = xs.size - 1 - m := by omega
    show xs[_]? = xs[xs.size - 1 - m]?
    rw [this]
  rw [e, PySem.W.krv_range, List.filterMap_reverse, PySem.W.krv_all]
theorem getItem_tuple_rev {t sl : Addr} {items : Array Value} {vs : Value} {Q : Value → Shared → Prop} (ht : IsTup s.heap t items) (hs : s.heap.IsSliceOf sl .none .none vs) (ps : IsPart vs (some (-1)))
    (h : Q (.ref s.heap.objs.size) { s with heap := s.heap.push { cls := .type "tuple", data := .seq items.toList.reverse.toArray } }) (hsz : items.size ≤ sizeLine) : wpAny (model prog w) A (getItem (.ref t) (.ref sl)) Q E s := by
  have htake : sizeOk (.seq items.toList.reverse.toArray) := by
    show items.toList.reverse.toArray.size ≤ sizeLine
    rw [List.size_toArray, List.length_reverse, Array.length_toList]
    exact hsz
  obtain ⟨os, hos, hcs, hds⟩ := id hs
  have hTs : s.TypeIs (.ref sl) "slice" := ⟨os, hos, hcs⟩
  unfold getItem
  try with_reducible refine wpAny_holding ?_
  first | refine wpAny_bind (wpAny_pure ?_) | skip
  refine wpAny_bind (wpAny_sequenceKey ht.typeIs (by decide) ?_)
  refine wpAny_bind (wpAny_callSpecial?_slot (name := Str.ofString "__getitem__") ht.typeIs PyProof.Rows.slot_tuple_getitem
    (wpAny_call_entry PyProof.Rows.slot_tuple_getitem ht.typeIs entry_tuple_getitem ?_ (args_tuple_getitem _ _)))
  show wpAny _ _ (Builtin.Tuple.tupleItemsOf (.ref t) >>= _) _ _ s
  refine wpAny_bind (tupleItemsOf_ ht ?_)
  refine wpAny_bind (wpAny_typeOf hTs ?_)
  rw [if_pos (by decide)]
  refine wpAny_bind (applied_rev hs ps ?_)
  have hno : ¬ ((((items.size : Int) - 1) == 0 && (-1 : Int) == 1 && items.size == items.size) = true) := by
    rw [show ((-1 : Int) == 1) = false from rfl, Bool.and_false, Bool.false_and]
    exact Bool.false_ne_true
  show wpAny _ _ (if ((((items.size : Int) - 1) == 0 && (-1 : Int) == 1 && items.size == items.size)) = true then _ else _) _ _ s
  rw [if_neg hno, pick_rev]
  first
    | exact wpAny_bind (m := Builtin.Tuple.tupleExact _) (wpAny_newObj_type (wpAny_pure ⟨_, rfl, wpAny_pure h⟩) htake)
    | exact wpAny_bind (m := Builtin.Tuple.tupleExact _) (wpAny_newObj_type (wpAny_bind (wpAny_pure (wpAny_pure ⟨_, rfl, wpAny_pure h⟩))) htake)
    | exact wpAny_bind (wpAny_bind (m := Builtin.Tuple.tupleExact _) (wpAny_newObj_type (wpAny_pure (wpAny_pure ⟨_, rfl, wpAny_pure h⟩)) htake))
    | exact wpAny_bind (wpAny_bind (m := Builtin.Tuple.tupleExact _) (wpAny_newObj_type (wpAny_pure ⟨_, rfl, wpAny_pure h⟩) htake))
end
def tRev (K : PySem.W.Frag) (te : TE) : TE := fun σ H Q => te σ H fun x H1 => (∃ a xs, x = .ref a ∧ SqL K H1 a xs ∧ ∀ p, H1 p = none → Q (.ref p) (upd H1 p (.lst xs.reverse))) ∨ ∃ a xs, x = .ref a ∧ SqT K H1 a xs ∧ TQ H1 Q xs.reverse
theorem pe_rev {X : Cx} {e : Expr} {te : TE} {k : Nat} {p1 p2 p3 pos : Pos} (he : PE X e te) : PE X (.Subscript e (.Slice none none (some (.UnaryOp .USub (.Constant (.int 1) k p1) p2)) p3) pos) (tRev X.K te) := by
  refine ⟨fun pins s σ H Q I h => ?_⟩
  refine Subscript_ (thn (he.run pins s σ H _ I h) fun v s1 ⟨x, H1, I1, r1, q1⟩ => ?_)
  have hst : PO X (some (.UnaryOp .USub (.Constant (.int 1) k p1) p2)) (tPart (tUn (rU fun i => .int (-i)) (tC (.int 1)))) := po_some (pe_un un_neg pe_int)
  refine wpAny_Slice (thn (po_none.run pins s1 σ H1 (fun o H2 => o = none ∧ H2 = H1) I1 ⟨rfl, rfl⟩) fun vl s2 ⟨l, H2, I2, pl, el, e2⟩ => ?_)
  subst el e2
  refine thn (po_none.run pins s2 σ H2 (fun o H3 => o = none ∧ H3 = H2) I2 ⟨rfl, rfl⟩) fun vu s3 ⟨u, H3, I3, pu, eu, e3⟩ => ?_
  subst eu e3
  refine thn (hst.run pins s3 σ H3 (fun o H4 => o = some (-1) ∧ H4 = H3) I3 ⟨1, rfl, -1, rfl, rfl, rfl⟩) fun vs s4 ⟨o, H4, I4, ps, eo, e4⟩ => ?_
  subst eo e4
  have I5 : Inv X pins σ H4 { s4 with heap := s4.heap.push { cls := .type "slice", data := .fields #[vl, vu, vs] } } := I4.kept (t' := s4.toks) fun b ob q => Heap.get?_push_of_some _ q
  rcases q1 with ⟨a, xs, ex, hx, q⟩ | ⟨a, xs, ex, hx, q⟩
  · subst ex
    cases r1
    obtain ⟨its, r, ht, hz⟩ := I5.list hx
    have hlen := r.length
    show wpAny (model X.prog X.w) X.A (subscriptTail e (.Slice none none (some (.UnaryOp .USub (.Constant (.int 1) k p1) p2)) p3) (.ref a) (.ref s4.heap.objs.size)) (EP X pins σ Q) X.xe { s4 with heap := s4.heap.push { cls := .type "slice", data := .fields #[vl, vu, vs] } }
    refine tail_any (ops := [.ref a, .ref s4.heap.objs.size]) ht.isList.typeIs (PySem.slot_list_getitem.lookup) ?_ (by with_unfolding_all rfl)
    refine wpAny_getItem_list_slice ht.isList (Heap.IsSliceOf.new _ vl vu vs) pl pu ps (by decide) ?_ (by rw [List.size_toArray]; omega)
    rw [PySem.W.krv_pick]
    refine ⟨.ref _, _, I5.laid (t' := s4.toks) (o := .lst xs.reverse) (fun b ob q => Heap.get?_push_of_some _ q) (Nat.le_refl _) ?_, rfl, q _ (I5.hok.fresh (Nat.le_refl _))⟩
    exact ⟨by rw [List.length_reverse]; exact hz, _, 0, r.reverse, Heap.get?_push_size _ rfl⟩
  · subst ex
    cases r1
    obtain ⟨its, r, ht, hz⟩ := I5.tuple hx
    have hlen := r.length
    cases pl
    cases pu
    show wpAny (model X.prog X.w) X.A (subscriptTail e (.Slice none none (some (.UnaryOp .USub (.Constant (.int 1) k p1) p2)) p3) (.ref a) (.ref s4.heap.objs.size)) (EP X pins σ Q) X.xe { s4 with heap := s4.heap.push { cls := .type "slice", data := .fields #[.none, .none, vs] } }
    refine tail_any (ops := [.ref a, .ref s4.heap.objs.size]) ht.typeIs (PyProof.Rows.slot_tuple_getitem.lookup) ?_ (by with_unfolding_all rfl)
    refine getItem_tuple_rev ht (Heap.IsSliceOf.new _ .none .none vs) ps ?_ (by rw [List.size_toArray]; omega)
    have hrl : xs.reverse.length ≤ sizeLine := by rw [List.length_reverse]; exact hz
    exact ⟨.ref _, _, laidF (t' := s4.toks) I5 r.reverse hrl, rfl, q _ _ (I5.hok.fresh (Nat.le_refl _)) rfl⟩
def sRev : D → Option Sl
  | .list ds => some (.ow ds.reverse)
  | .tuple ds => some (.sh (.tuple ds.reverse))
  | _ => none
def cRev (fa : Ev) : Ev := fun ρ => bdD (fa ρ) fun d ρ1 => lift (sRev d) ρ1
theorem rp_rev {K : PySem.W.Frag} {G : Hp} {xs : List V} {ds : List D} (r : RpAll K G xs ds) : RpAll K G xs.reverse ds.reverse := by
  induction xs generalizing ds with
  | nil => cases r; exact .nil
  | cons x xs ih => cases r with | cons h t =>
    rw [List.reverse_cons, List.reverse_cons]
    exact (ih t).app (.cons h .nil)
theorem e_rev {X : Cx} {g : Gd} {W : WX} {e : Expr} {fa : Ev} {k : Nat} {p1 p2 p3 pos : Pos} (hK : g.K = X.K) (ha : PE X e (tD g W fa)) : PE X (.Subscript e (.Slice none none (some (.UnaryOp .USub (.Constant (.int 1) k p1) p2)) p3) pos) (tD g W (cRev fa)) :=
  (pe_rev ha).imp fun σ H Q ⟨ρ, G, o, w, eq, po⟩ => tD_bd w eq po.exn fun v d ρ1 G1 H1 s1 r1 e1 => by
    obtain ⟨z, hz, rfl⟩ := lift_ok e1
    have kq := (po.step s1).kq s1.wo
    unfold sRev at hz
    split at hz
    · cases hz
      cases r1 with | lst a1 b1 =>
      exact .inl ⟨_, _, rfl, SqL.of (s1.wo.gh _ _ a1), fun p hp => kq.ow s1.wo.gh hp (rp_rev b1)⟩
    · cases hz
      cases r1 with | tup a1 b1 =>
      have a1' := (sqN_mono s1.wo.gh a1).t
      rw [hK] at a1'
      exact .inr ⟨_, _, rfl, a1', fun p o hp hd => kq.tup s1.wo.gh hp hd (rp_rev b1)⟩
    · cases hz
end Rk
set_option Elab.async false
set_option linter.all false
set_option maxRecDepth 100000
set_option maxHeartbeats 4000000
namespace Rk
open PySem PySem.Spec PyProof.Rows L2
def alkB (ds : List D) : Bool := ds.all fun x => ds.all fun y => PySem.W.alike x y
def nonB : D → Bool
  | .none => false
  | _ => true
def srtB (ds : List D) : Bool := (ds.all fun d => match d with | .tuple (_ :: _) => true | _ => false) || (ds.all fun d => match d with | .none => false | .tuple _ => false | _ => true)
theorem alk_of {ds : List D} (h : alkB ds = true) : ∀ x ∈ ds, ∀ y ∈ ds, PySem.W.alike x y = true := fun x hx y hy => List.all_eq_true.mp (List.all_eq_true.mp h x hx) y hy
theorem srt_of {ds : List D} (h : srtB ds = true) : PySem.W.Sortable ds := by
  unfold srtB at h
  rw [Bool.or_eq_true, List.all_eq_true, List.all_eq_true] at h
  rcases h with h | h
  · refine .inl fun d hd => ?_
    have := h d hd
    split at this
    · exact ⟨_, _, rfl⟩
    · cases this
  · refine .inr fun d hd => ?_
    have := h d hd
    exact ⟨(fun e => by rw [e] at this; cases this), (fun xs e => by rw [e] at this; cases this)⟩
def sMM (mx : Bool) : List D → Option Sl
  | [.list (x :: ds)] => if alkB (x :: ds) && (x :: ds).all nonB && decide (PyData.depthAll (x :: ds) ≤ 50) then some (.sh (if mx then PySem.W.maxD x ds else PySem.W.minD x ds)) else none
  | [.tuple (x :: ds)] => if alkB (x :: ds) && (x :: ds).all nonB && decide (PyData.depthAll (x :: ds) ≤ 50) then some (.sh (if mx then PySem.W.maxD x ds else PySem.W.minD x ds)) else none
  | _ => none
def sMin (xs : List D) : Option Sl := match sMin0 xs with
  | some z => some z
  | none => sMM false xs
def sSorted : List D → Option Sl
  | [.list ds] => if alkB ds && srtB ds && decide (PyData.depthAll ds ≤ 50) && decide (ds.length ≤ big) then some (.ow (ds.mergeSort (PySem.W.dataLe false id))) else none
  | [.tuple ds] => if alkB ds && srtB ds && decide (PyData.depthAll ds ≤ 50) && decide (ds.length ≤ big) then some (.ow (ds.mergeSort (PySem.W.dataLe false id))) else none
  | _ => none
section
variable {X : Cx} {g : Gd} {W : WX}
theorem RpAll.at {K : PySem.W.Frag} {G : Hp} {vs : List V} {ds : List D} {us : List Value} (r : RpAll K G vs ds) (rv : Vals vs us) : ∀ {i : Nat} {u : Value}, us[i]? = some u → ∃ v d, vs[i]? = some v ∧ ds[i]? = some d ∧ RelV v u ∧ Rp K G v d := by
  intro i u hu
  induction i generalizing vs ds us with
  | zero =>
    cases rv with
    | nil => cases hu
    | cons h t =>
      cases r with | cons r1 r2 =>
      cases hu
      exact ⟨_, _, rfl, rfl, h, r1⟩
  | succ i ih =>
    cases rv with
    | nil => cases hu
    | cons h t =>
      cases r with | cons r1 r2 =>
      exact ih r2 t (by simpa using hu)
theorem c_mm (hK : g.K = X.K) (hc : X.calm = true) (hu : X.A.units + 64 < cLine) (mx : Bool) : CallR X (.builtin (if mx then "max" else "min")) (rSC g (sMM mx)) := by
  intro pins s σ H xs us Q I rv ⟨G, ds, z, e, r, hs, k⟩
  unfold sMM at hs
  split at hs
  · rename_i x ds
    split at hs
    rotate_left
    · cases hs
    rename_i hcond
    rw [Bool.and_eq_true, Bool.and_eq_true, decide_eq_true_eq] at hcond
    obtain ⟨⟨hal, hnn⟩, hdp⟩ := hcond
    cases hs
    cases r with | cons r1 r2 =>
    cases r2
    cases r1 with | lst a1 b1 =>
    obtain rfl := Vals.ref1 rv
    have q0 : SqL g.K H _ _ := SqL.of (e _ _ a1)
    rw [hK] at q0
    obtain ⟨its, iv, il, iz⟩ := I.list q0
    obtain ⟨as, hrd⟩ := Dp.readsAll I (x :: ds) _ its (hK ▸ RpAll.dp e _ _ b1) iv
    have hall : PySem.W.AlikeAll (x :: ds) := ⟨alk_of hal, fun d hd q => by
      have := List.all_eq_true.mp hnn d hd
      rw [q] at this
      cases this⟩
    have hu2 : X.A.units + 1 + PyData.depthAll (x :: ds) < cLine := by omega
    have fin : ∀ (m : D) (i : Nat) (v : Value) (h' : Heap) (tk : Nat) (bs : List Addr), its.toArray[i]? = some v → Reads h' v m bs → (∀ b o, s.heap.get? b = some o → h'.get? b = some o) → Kq g G H Q (.sh m) → EP X pins σ Q v { s with heap := h', toks := tk } := fun m i v h' tk bs hv hm hk kq => by
      have hv' : its[i]? = some v := by simpa using hv
      obtain ⟨w, d, hw, hd, rw', rp⟩ := RpAll.at b1 iv hv'
      obtain ⟨cs, q1, _, _, _⟩ := PySem.W.readsAll_at hrd i v hv'
      have ed : (x :: ds).getD i .none = d := by rw [List.getD_eq_getElem?_getD, hd]; rfl
      rw [ed] at q1
      have em := (PySem.W.reads_keeps hk q1 |>.unique _ _ hm).1
      subst em
      exact ⟨w, H, I.kept hk, rw', kq.sh e rp⟩
    cases mx with
    | false => exact PySem.W.min_list_data (A := X.A) (I.ok.hd hc) il.isList (by simpa using hrd) hall hu2 fun i v h' tk bs hv hm hk => fin _ i v h' tk bs hv hm hk k
    | true => exact PySem.W.max_list_data (A := X.A) (I.ok.hd hc) il.isList (by simpa using hrd) hall hu2 fun i v h' tk bs hv hm hk => fin _ i v h' tk bs hv hm hk k
  · rename_i x ds
    split at hs
    rotate_left
    · cases hs
    rename_i hcond
    rw [Bool.and_eq_true, Bool.and_eq_true, decide_eq_true_eq] at hcond
    obtain ⟨⟨hal, hnn⟩, hdp⟩ := hcond
    cases hs
    cases r with | cons r1 r2 =>
    cases r2
    cases r1 with | tup a1 b1 =>
    obtain rfl := Vals.ref1 rv
    have a1' := (sqN_mono e a1).t
    rw [hK] at a1'
    obtain ⟨its, iv, il, iz⟩ := I.tuple a1'
    obtain ⟨as, hrd⟩ := Dp.readsAll I (x :: ds) _ its (hK ▸ RpAll.dp e _ _ b1) iv
    have hall : PySem.W.AlikeAll (x :: ds) := ⟨alk_of hal, fun d hd q => by
      have := List.all_eq_true.mp hnn d hd
      rw [q] at this
      cases this⟩
    have hu2 : X.A.units + 1 + PyData.depthAll (x :: ds) < cLine := by omega
    have fin : ∀ (m : D) (i : Nat) (v : Value) (h' : Heap) (tk : Nat) (bs : List Addr), its.toArray[i]? = some v → Reads h' v m bs → (∀ b o, s.heap.get? b = some o → h'.get? b = some o) → Kq g G H Q (.sh m) → EP X pins σ Q v { s with heap := h', toks := tk } := fun m i v h' tk bs hv hm hk kq => by
      have hv' : its[i]? = some v := by simpa using hv
      obtain ⟨w, d, hw, hd, rw', rp⟩ := RpAll.at b1 iv hv'
      obtain ⟨cs, q1, _, _, _⟩ := PySem.W.readsAll_at hrd i v hv'
      have ed : (x :: ds).getD i .none = d := by rw [List.getD_eq_getElem?_getD, hd]; rfl
      rw [ed] at q1
      have em := (PySem.W.reads_keeps hk q1 |>.unique _ _ hm).1
      subst em
      exact ⟨w, H, I.kept hk, rw', kq.sh e rp⟩
    cases mx with
    | false => exact PySem.W.min_tuple_data (A := X.A) (I.ok.hd hc) il (by simpa using hrd) hall hu2 fun i v h' tk bs hv hm hk => fin _ i v h' tk bs hv hm hk k
    | true => exact PySem.W.max_tuple_data (A := X.A) (I.ok.hd hc) il (by simpa using hrd) hall hu2 fun i v h' tk bs hv hm hk => fin _ i v h' tk bs hv hm hk k
  · cases hs
theorem c_min (hK : g.K = X.K) (hc : X.calm = true) (hu : X.A.units + 64 < cLine) : CallR X (.builtin "min") (rSC g sMin) := by
  intro pins s σ H xs us Q I rv ⟨G, ds, z, e, r, hs, k⟩
  unfold sMin at hs
  split at hs
  · rename_i z' q
    cases hs
    exact c_min0 hK hc pins s σ H xs us Q I rv ⟨G, ds, _, e, r, q, k⟩
  · exact c_mm hK hc hu false pins s σ H xs us Q I rv ⟨G, ds, z, e, r, hs, k⟩
theorem depth_mem : ∀ {ds : List D} {d : D}, d ∈ ds → d.depth ≤ PyData.depthAll ds
  | x :: xs, d, hd => by
    show d.depth ≤ max x.depth (PyData.depthAll xs)
    rcases List.mem_cons.mp hd with rfl | h
    · exact Nat.le_max_left _ _
    · exact Nat.le_trans (depth_mem h) (Nat.le_max_right _ _)
theorem eachIs_pairs {g : Gd} {G : Hp} : ∀ {vs : List V} {ds : List D} {us : List Value}, RpAll g.K G vs ds → Vals vs us → PySem.W.EachIs (fun (u : Value) (b : V × D) => RelV b.1 u ∧ Rp g.K G b.1 b.2) us (vs.zip ds)
  | [], _, _, r, rv => by
    cases r
    cases rv
    exact .nil
  | v :: vs, _, _, r, rv => by
    cases r with | cons r1 r2 =>
    cases rv with | cons h t =>
    exact .cons ⟨h, r1⟩ (eachIs_pairs r2 t)
theorem eachIs_back {g : Gd} {G : Hp} : ∀ {us : List Value} {bs : List (V × D)}, PySem.W.EachIs (fun (u : Value) (b : V × D) => RelV b.1 u ∧ Rp g.K G b.1 b.2) us bs → Vals (bs.map (·.1)) us ∧ RpAll g.K G (bs.map (·.1)) (bs.map (·.2))
  | _, _, .nil => ⟨.nil, .nil⟩
  | _, _, .cons h t => by
    obtain ⟨a, b⟩ := eachIs_back t
    exact ⟨.cons h.1 a, .cons h.2 b⟩
theorem eachIs_reads {X : Cx} {pins : List (Addr × Obj)} {σ : L2.St} {H : Hp} {s : Shared} (I : Inv X pins σ H s) : ∀ {vs : List V} {ds : List D} {us : List Value}, DpAll X.K H vs ds → Vals vs us → PySem.W.EachIs (fun (u : Value) (b : V × D) => ∃ as, Reads s.heap u b.2 as) us (vs.zip ds)
  | [], _, _, r, rv => by
    cases r
    cases rv
    exact .nil
  | v :: vs, _, _, r, rv => by
    cases r with | cons r1 r2 =>
    cases rv with | cons h t =>
    exact .cons (Dp.reads I _ _ _ r1 h) (eachIs_reads I r2 t)
section
variable {prog : Program} {w : World} {A : Around} {E : Value → Shared → Prop} {s : Shared}
/-- the items of a tuple, collected for a new list -/
theorem collect_tup {t : Addr} {vs : List Value} {Q : List Value → Shared → Prop} (ht : s.heap.IsTuple t vs.toArray) (hz : vs.length ≤ sizeLine)
    (h : Q vs { s with heap := (s.heap.push (seqObj "list" #[] 0)).update s.heap.objs.size (Obj.mapSeq (· ++ vs.toArray)) }) : wpAny (model prog w) A (collect (.ref t)) Q E s := by
  obtain ⟨o, ho, hc, n, hd⟩ := id ht
  have ho1 : (s.heap.push (seqObj "list" #[] 0)).get? t = some o := Heap.get?_push_of_some _ ho
  have hnew : (s.heap.push (seqObj "list" #[] 0)).get? s.heap.objs.size = some (seqObj "list" #[] 0) := Heap.get?_push_size _ rfl
  unfold collect
  refine wpAny_bind (wpAny_runValue (codeAny_builtin entry_proto_collect' ?_))
  show wpAny _ _ (do again (.builtin "list.__iadd__" ⟨[← newList [], .ref t], []⟩)) _ _ s
  refine wpAny_bind (wpAny_newList (wpAny_pure ⟨Code.quiet_builtin _ (by decide +kernel), codeAny_builtin entry_list_iadd' ?_⟩))
  show wpAny _ _ (Builtin.List.listExtendWith (.ref s.heap.objs.size) (.ref t) (.ref s.heap.objs.size)) _ _ { s with heap := s.heap.push (seqObj "list" #[] 0) }
  unfold Builtin.List.listExtendWith
  have tt : (Value.type "tuple" == Value.type "tuple") = true := rfl
  refine wpAny_bind (wpAny_typeOf (T := "tuple") ⟨o, ho1, hc⟩ ?_)
  rw [if_pos (by rw [tt]; simp)]
  refine wpAny_bind (listItems_at ho1 hd (wpAny_bind (listItems_at hnew rfl ?_)))
  rw [if_neg (by simp)]
  have hsz : ((#[] : Array Value) ++ vs.toArray).size ≤ sizeLine + 1 := by
    simp only [Array.size_append, List.size_toArray, List.length_nil]
    omega
  refine wpAny_bind (listUpdate_at hnew rfl (wpAny_pure ?_) (Nat.zero_le _) hsz)
  show wpAny (model prog w) A (load s.heap.objs.size >>= fun o => match o.data with | .seq xs _ => pure xs.toList | _ => unsupported "internal:collect") Q E _
  refine wpAny_bind (wpAny_load (get?_update_seq hnew _) ?_)
  show wpAny _ _ (pure ((#[] : Array Value) ++ vs.toArray).toList) Q E _
  have ev : ((#[] : Array Value) ++ vs.toArray).toList = vs := by simp
  rw [ev]
  exact wpAny_pure h
/-- sorted(t), t a tuple of alike data -/
theorem sorted_tup {β : Type} {R : Value → β → Prop} {enc : β → PyData} {vs : List Value} {bs : List β} {t : Addr} {Q : Value → Shared → Prop} (ht : s.heap.IsTuple t vs.toArray) (e : PySem.W.EachIs R vs bs) (er : PySem.W.EachIs (fun v b => ∃ as, Reads s.heap v (enc b) as) vs bs) (hal : PySem.W.AllAlike (bs.map enc)) (hk : PySem.W.Sortable (bs.map enc)) (hL : bs.length ≤ sizeLine)
    (hu : ∀ b, b ∈ bs → A.units + 2 + (enc b).depth < cLine) (h : ∀ out, out.length = bs.length → PySem.W.EachIs R out (bs.mergeSort (PySem.W.dataLe false enc)) → Q (.ref (s.heap.objs.size + 1)) { s with heap := sortedAll s.heap vs (List.toArray out) }) :
    wpAny (model prog w) A (call (.builtin "sorted") [.ref t]) Q E s := by
  have er' : PySem.W.EachIs (fun v b => ∃ as, Reads (PySem.W.sortingHeap (PySem.W.copyHeap s.heap vs) (s.heap.objs.size + 1) vs) v (enc b) as) vs bs := er.mono fun _ _ ⟨as, r⟩ => ⟨as, PyProof.Rows.Reads.keeps (fun _ _ => PySem.W.sorting_copy_old) r⟩
  have hvl : vs.length ≤ sizeLine := by rw [e.length]; exact hL
  have S : PySem.W.SortsAt prog w A.in1.in1 { s with heap := PySem.W.sortingHeap (PySem.W.copyHeap s.heap vs) (s.heap.objs.size + 1) vs } _ vs := PySem.W.SortsAt.data (s := { s with heap := PySem.W.sortingHeap (PySem.W.copyHeap s.heap vs) (s.heap.objs.size + 1) vs }) (PySem.W.each_map (R := fun v d => ∃ as, Reads (PySem.W.sortingHeap (PySem.W.copyHeap s.heap vs) (s.heap.objs.size + 1) vs) v d as) enc er') hal hk (PySem.W.bound_map hu)
  have fin := h _ (by rw [PySem.W.sortVals_length false rfl]; exact e.length) (PySem.W.sortVals_data false e er' hal)
  refine call_function_entry_kw kind_sorted plain_sorted entry_sorted (args_sorted1 _) ?_
  unfold Builtin.«sorted»
  refine wpAny_bind (m := checkCount "sorted" 1 1 _) (wpAny_pure ?_)
  refine wpAny_bind (collect_tup ht hvl (wpAny_bind (wpAny_newList ?_ hvl)))
  have hsz : ((s.heap.push (seqObj "list" #[] 0)).update s.heap.objs.size (Obj.mapSeq (· ++ vs.toArray))).objs.size = s.heap.objs.size + 1 := by
    rw [Heap.size_update, size_push']
  show wpAny _ _ _ _ _ { s with heap := PySem.W.copyHeap s.heap vs }
  rw [hsz]
  refine wpAny_bind (wpAny_holding (wpAny_call_entry_kw slot_list_sort ⟨_, PySem.W.copyHeap_at s.heap vs, rfl⟩ entry_list_sort ?_ (args_list_sort _)))
  refine wpAny_mono (PySem.W.list_sort_vals (P := fun f s' => f = .done (.ret .none) ∧ Q (.ref (s.heap.objs.size + 1)) s') (s := { s with heap := PySem.W.copyHeap s.heap vs }) (PySem.W.copyHeap_at s.heap vs) S hvl ⟨rfl, fin⟩) (fun f s' hf => ?_) fun _ _ q => q
  obtain ⟨rfl, hq⟩ := hf
  exact ⟨_, rfl, wpAny_pure ⟨_, rfl, hq⟩⟩
end
theorem c_sorted (hK : g.K = X.K) (hu : X.A.units + 64 < cLine) : CallR X (.builtin "sorted") (rSC g sSorted) := by
  intro pins s σ H xs us Q I rv ⟨G, ds, z, e, r, hs, k⟩
  unfold sSorted at hs
  split at hs
  · rename_i ds
    split at hs
    rotate_left
    · cases hs
    rename_i hcond
    rw [Bool.and_eq_true, Bool.and_eq_true, Bool.and_eq_true, decide_eq_true_eq, decide_eq_true_eq] at hcond
    obtain ⟨⟨⟨hal, hsr⟩, hdp⟩, hlen⟩ := hcond
    cases hs
    cases r with | cons r1 r2 =>
    cases r2
    cases r1 with | lst a1 b1 =>
    obtain rfl := Vals.ref1 rv
    have q0 : SqL g.K H _ _ := SqL.of (e _ _ a1)
    rw [hK] at q0
    obtain ⟨its, iv, il, iz⟩ := I.list q0
    have hz : b1.len = b1.len := rfl
    have dp : DpAll X.K H _ ds := hK ▸ RpAll.dp e _ _ b1
    rename_i vs
    have zs : ((vs.zip ds).map (·.2)) = ds := by rw [List.map_snd_zip]; rw [b1.len]; exact Nat.le_refl _
    have e1 := eachIs_pairs b1 iv
    have e2 := eachIs_reads I dp iv
    have dpt : ∀ d ∈ ds, d.depth ≤ PyData.depthAll ds := fun d hd => depth_mem hd
    have b2 : (vs.zip ds).length ≤ sizeLine := by
      rw [List.length_zip, b1.len, Nat.min_self, ← big_eq]
      exact hlen
    refine PySem.W.sorted_data (A := X.A) (enc := fun (b : V × D) => b.2) il.isList e1 e2 (by rw [zs]; exact alk_of hal) (by rw [zs]; exact srt_of hsr) b2 (fun b hb => by
      have : b.2 ∈ ds := by rw [← zs]; exact List.mem_map.mpr ⟨b, hb, rfl⟩
      have := dpt _ this
      omega) fun out hl ho => ?_
    obtain ⟨o1, o2⟩ := eachIs_back ho
    have em : ((vs.zip ds).mergeSort (PySem.W.dataLe false fun b => b.2)).map (·.2) = ds.mergeSort (PySem.W.dataLe false id) := by
      have := List.map_mergeSort (r := PySem.W.dataLe false fun (b : V × D) => b.2) (s := PySem.W.dataLe false id) (f := fun (b : V × D) => b.2) (l := vs.zip ds) (fun a _ b _ => rfl)
      rw [this, zs]
    rw [em] at o2
    obtain ⟨ep, he'⟩ := PyProof.Rows.sortedAll_at s.heap its out.toArray
    have hlen2 : (((vs.zip ds).mergeSort (PySem.W.dataLe false fun b => b.2)).map (·.1)).length ≤ sizeLine := by
      rw [List.length_map, List.length_mergeSort]
      exact b2
    exact ⟨.ref _, upd H (s.heap.objs.size + 1) (.lst _), I.laid (t' := s.toks) (fun _ _ => PyProof.Rows.sortedAll_old) (Nat.le_succ _) ⟨hlen2, out, ep, o1, he'⟩, rfl, k.ow e (I.hok.fresh (Nat.le_succ _)) o2⟩
  · rename_i ds
    split at hs
    rotate_left
    · cases hs
    rename_i hcond
    rw [Bool.and_eq_true, Bool.and_eq_true, Bool.and_eq_true, decide_eq_true_eq, decide_eq_true_eq] at hcond
    obtain ⟨⟨⟨hal, hsr⟩, hdp⟩, hlen⟩ := hcond
    cases hs
    cases r with | cons r1 r2 =>
    cases r2
    cases r1 with | tup a1 b1 =>
    obtain rfl := Vals.ref1 rv
    have a1' := (sqN_mono e a1).t
    rw [hK] at a1'
    obtain ⟨its, iv, il, iz⟩ := I.tuple a1'
    have hz : b1.len = b1.len := rfl
    have dp : DpAll X.K H _ ds := hK ▸ RpAll.dp e _ _ b1
    rename_i vs
    have zs : ((vs.zip ds).map (·.2)) = ds := by rw [List.map_snd_zip]; rw [b1.len]; exact Nat.le_refl _
    have e1 := eachIs_pairs b1 iv
    have e2 := eachIs_reads I dp iv
    have dpt : ∀ d ∈ ds, d.depth ≤ PyData.depthAll ds := fun d hd => depth_mem hd
    have b2 : (vs.zip ds).length ≤ sizeLine := by
      rw [List.length_zip, b1.len, Nat.min_self, ← big_eq]
      exact hlen
    refine sorted_tup (A := X.A) (enc := fun (b : V × D) => b.2) il e1 e2 (by rw [zs]; exact alk_of hal) (by rw [zs]; exact srt_of hsr) b2 (fun b hb => by
      have : b.2 ∈ ds := by rw [← zs]; exact List.mem_map.mpr ⟨b, hb, rfl⟩
      have := dpt _ this
      omega) fun out hl ho => ?_
    obtain ⟨o1, o2⟩ := eachIs_back ho
    have em : ((vs.zip ds).mergeSort (PySem.W.dataLe false fun b => b.2)).map (·.2) = ds.mergeSort (PySem.W.dataLe false id) := by
      have := List.map_mergeSort (r := PySem.W.dataLe false fun (b : V × D) => b.2) (s := PySem.W.dataLe false id) (f := fun (b : V × D) => b.2) (l := vs.zip ds) (fun a _ b _ => rfl)
      rw [this, zs]
    rw [em] at o2
    obtain ⟨ep, he'⟩ := PyProof.Rows.sortedAll_at s.heap its out.toArray
    have hlen2 : (((vs.zip ds).mergeSort (PySem.W.dataLe false fun b => b.2)).map (·.1)).length ≤ sizeLine := by
      rw [List.length_map, List.length_mergeSort]
      exact b2
    exact ⟨.ref _, upd H (s.heap.objs.size + 1) (.lst _), I.laid (t' := s.toks) (fun _ _ => PyProof.Rows.sortedAll_old) (Nat.le_succ _) ⟨hlen2, out, ep, o1, he'⟩, rfl, k.ow e (I.hok.fresh (Nat.le_succ _)) o2⟩
  · cases hs
end
end Rk
set_option Elab.async false
set_option linter.all false
set_option maxRecDepth 100000
set_option maxHeartbeats 4000000
namespace Rk
open PySem PySem.Spec PyProof.Rows L2
section
variable {M : Model} {A : Around} {E : Value → Shared → Prop} {s : Shared} {env : Env}
/-- a built-in class called with an argument and keywords -/
theorem callWith_typeK {pos : Pos} {T : String} {e : Expr} {rest : List Expr} {kws : List Keyword} {Q : Value → Shared → Prop}
    (he : backTo pos (starEach (e :: rest) env) = (false, eval e env) :: backTo pos (starEach rest env)) (hplain : (backTo pos (starEach (e :: rest) env)).any (·.1) = false)
    (hall : (backToKw pos (keywordEach kws env)).all (·.1.isSome) = true) (hkw : (backToKw pos (keywordEach kws env)).any (·.1.isNone) = false)
    (h : wpAny M A (spliced (backTo pos (starEach (e :: rest) env))) (fun vs s₁ => wpAny M A (evalAll ((backToKw pos (keywordEach kws env)).map (·.2)))
      (fun kvs s₂ => wpAny M A (call (.type T) vs (((backToKw pos (keywordEach kws env)).filterMap (·.1)).zip kvs)) Q E s₂) E s₁) E s) :
    wpAny M A (callWith pos (.type T) [] (backTo pos (starEach (e :: rest) env)) (backToKw pos (keywordEach kws env))) Q E s := by
  have ev : wpAny M A (evalArgs (.type T) true (backTo pos (starEach (e :: rest) env)) (backToKw pos (keywordEach kws env))) (fun a s₁ => wpAny M A (call (.type T) ([] ++ a.pos) a.kw) Q E s₁) E s := by
    rw [he] at h ⊢
    exact evalArgs_kwB hall h
  unfold callWith
  refine wpAny_bind (wpAny_holding (wpAny_mono ev (fun a s₁ h₁ => wpAny_bind (wpAny_standAt ?_)) fun _ _ x => x))
  simp only [hplain, hkw, Bool.or_false]
  refine wpAny_bind (wpAny_pure ?_)
  exact wpAny_bind (wpAny_mono h₁ (fun r s₂ hr => wpAny_bind (wpAny_holding (wpAny_point (wpAny_pure hr)))) fun _ _ x => x)
end
/-- the tuple at a, each item in a new pair, counted from k -/
def IteS (K : PySem.W.Frag) (a : Addr) (k : Nat) : It :=
  ⟨fun i H => ∃ (xs : List V) (x : V), SqT K H a xs ∧ xs[i]? = some x, fun i H v H' => ∃ T x, v = .ref T ∧ H T = none ∧ H' = upd H T (.tup [.int ((k + i : Nat) : Int), x]) ∧ ∀ xs, SqT K H a xs → xs[i]? = some x, fun i H => ∃ xs : List V, SqT K H a xs ∧ xs.length = i⟩
theorem turn_enumS {P : Program} {w : World} {K : PySem.W.Frag} {elts : List Expr} {kk : Nat} {tpos : Pos} (a e it : Addr) (k : Nat) :
    Turn P w K (.Tuple elts kk tpos) (IteS K a k) [e, it] e (fun i h => (∃ old, IsEnum h e it ((k + i : Nat) : Int) old) ∧ h.IsTupleIter it a i ∧ e ≠ it) where
  mem := by simp
  obj := fun i h st b hb => by
    obtain ⟨⟨old, he⟩, ⟨o, ho, hc, hd⟩, _⟩ := st
    have e' : b = e ∨ b = it := by simpa using hb
    rcases e' with z | z
    · rw [z]; exact ⟨_, he, fun v q => nomatch q⟩
    · rw [z]; exact ⟨o, ho, fun v q => by rw [hd] at q; cases q⟩
  keep := fun i h h' st k => let ⟨⟨old, he⟩, hi, hne⟩ := st; ⟨⟨old, k e (by simp) _ he⟩, hi.at fun o q => k it (by simp) o q, hne⟩
  item := by
    intro X hP hw hK hc i pins s σ H E I hf st hg
    subst hP hw hK
    obtain ⟨⟨old, he⟩, hit, hne⟩ := st
    obtain ⟨xs, x, hq, hx⟩ := hg
    obtain ⟨its, rv, p, hz⟩ := I.tuple hq
    obtain ⟨u, hu, ru⟩ := rv.get hx
    have hel : e < s.heap.objs.size := Heap.lt_size he
    have hil : it < s.heap.objs.size := by obtain ⟨_, q, _⟩ := hit; exact Heap.lt_size q
    have hae : a ≠ e := fun z => by
      obtain ⟨o, ho, hc', n, hd⟩ := p
      rw [z, show s.heap.get? e = some _ from he] at ho
      cases ho
      cases hd
    have hai : a ≠ it := fun z => by
      obtain ⟨o, ho, hc', n, hd⟩ := p
      obtain ⟨o2, ho2, _, hd2⟩ := hit
      rw [z, ho2] at ho
      cases ho
      rw [hd2] at hd
      cases hd
    have hiu : i < its.toArray.size := by
      have := (List.getElem?_eq_some_iff.mp hu).1
      simpa using this
    refine wpAny_pyNext_enum_itemC (Draws.tuple (A := X.A.in1) (I.ok.hd hc) it a hai its.toArray) he ⟨hit, p⟩ hiu hne (by simp only [List.mem_cons, List.mem_nil_iff, not_or]; exact ⟨hne, fun z => hae z.symm, not_false⟩) fun y h' tk hP ho hs' hT hsz hk => ?_
    have hy : y = u := by
      have h1 : its.toArray[i]? = some u := by simpa using hu
      rw [h1] at hP
      exact (Option.some.inj hP).symm
    subst hy
    refine ⟨_, rfl, wpAny_letOwnedTupleGo_enum (s := { s with heap := h', toks := tk + 1 }) ho fun h'' he' sb => ?_⟩
    have hT2 : h''.get? s.heap.objs.size = some { cls := .type "tuple", data := .seq #[.int ((k + i : Nat) : Int) tk, y] } := (sb.2 _ (Nat.ne_of_gt hel)).trans hT
    have new : ObjOk X.prog X.w (upd H s.heap.objs.size (.tup [.int ((k + i : Nat) : Int), x])) h'' s.heap.objs.size (.tup [.int ((k + i : Nat) : Int), x]) :=
      ⟨by show 2 ≤ sizeLine; decide, [.int ((k + i : Nat) : Int) tk, y], .cons ⟨_, rfl⟩ (.cons ru .nil), ⟨_, hT2, rfl, _, rfl⟩⟩
    have I1 : Inv X pins σ (upd H s.heap.objs.size (.tup [.int ((k + i : Nat) : Int), x])) { s with heap := h'', toks := tk + 1 } :=
      I.turnedNew (ch := [e, it]) (fun b ob hb q => (sb.2 b (fun z => hb (by simp [z]))).trans (hk b ob (fun z => hb (by simp [z])) (fun z => hb (by simp [z])) q)) hf (Nat.le_refl _) new
    refine ⟨.ref s.heap.objs.size, _, I1, rfl, ⟨_, x, rfl, I.hok.fresh (Nat.le_refl _), rfl, fun ys hy => by rw [I.tuple_inj hy hq]; exact hx⟩, ⟨⟨y, ?_⟩, hs'.1.at fun o q => (sb.2 it (Ne.symm hne)).trans q, hne⟩, fun b hb => ?_⟩
    · have e1 : ((k + (i + 1) : Nat) : Int) = ((k + i : Nat) : Int) + 1 := by omega
      rw [e1]; exact he'
    · have hb' : b < s.heap.objs.size := by
        have e' : b = e ∨ b = it := by simpa using hb
        rcases e' with z | z
        · rw [z]; exact hel
        · rw [z]; exact hil
      rw [upd_ne (Nat.ne_of_lt hb')]
      exact (hf b hb).1
  done := by
    intro X hP hw hK hc i pins s σ H E I hf st hg
    subst hP hw hK
    obtain ⟨⟨old, he⟩, hit, hne⟩ := st
    obtain ⟨xs, hq, hx⟩ := hg
    obtain ⟨its, rv, p, hz⟩ := I.tuple hq
    obtain ⟨f0, f1, f2, f3, f4, f5⟩ := hf it (by simp)
    have hl := rv.length
    have hai : a ≠ it := fun z => by
      obtain ⟨o, ho, hc', n, hd⟩ := p
      obtain ⟨o2, ho2, _, hd2⟩ := hit
      rw [z, ho2] at ho
      cases ho
      rw [hd2] at hd
      cases hd
    have hn : its.toArray.size = i := by rw [List.size_toArray, ← hl]; exact hx
    exact wpAny_pyNext_enum_endD (Draws.tuple (A := X.A.in1) (I.ok.hd hc) it a hai its.toArray) he (by rw [hn]; exact ⟨hit, p⟩) fun h' eb => ⟨rfl, I.turned (t' := s.toks) (fun b o hb q => eb b o hb q) f0 f1 f3 f4 f5⟩
  self := fun A i s Q E st h => let ⟨⟨_, he⟩, _⟩ := st; wpAny_pyIter_enum he h
/-- enumerate(t, start=k) -/
def cEnumS (k : Nat) (f : Ev) : EvA := fun ρ => bdD (f ρ) fun d ρ1 => match d with
  | .tuple ds => if ds.length ≤ big then some (.ok (enD k ds) ρ1) else none
  | _ => none
section
variable {X : Cx} {g : Gd} {W : WX} {tg e : Expr}
theorem wk_enumS {G : Hp} {a : Addr} {xs : List V} {ds : List D} {k : Nat} (h : SqN g.K G a xs) (r : RpAll g.K G xs ds) (hz : ds.length ≤ big) : Wk g G true (enD k ds) (IteS g.K a k) where
  len := by rw [enD_len]; exact hz
  go := fun i d G' H' e e1 e2 => by
    obtain ⟨y, hy, rfl⟩ := enD_get e
    obtain ⟨x, hx, _⟩ := r.get hy
    exact ⟨xs, x, (sqN_mono (e1.trans e2) h).t, hx⟩
  yld := fun i d G' H' x H'' e e1 e2 q => by
    obtain ⟨T, v, rfl, hT, rfl, q⟩ := q
    obtain ⟨y, hy, rfl⟩ := enD_get e
    obtain ⟨x, hx, rx⟩ := r.get hy
    have := q xs (sqN_mono (e1.trans e2) h).t
    rw [hx] at this
    cases this
    exact ⟨G', grow_new e2 hT, .inr ⟨T, _, _, rfl, rfl, SqT.of upd_same, .cons (.int _) (.one (rx.mono e1))⟩, fun z => by cases z⟩
  stop := fun G' H' e1 e2 => ⟨xs, (sqN_mono (e1.trans e2) h).t, by rw [enD_len, r.len]⟩
theorem i_enumS {f : Ev} {p pos tpos kp : Pos} {elts : List Expr} {kk k : Nat} {fk : Expr} (hK : g.K = X.K) (hg : Gl X "enumerate") (hm : X.mg "enumerate" = none) (ha : PE X e (tD g W f)) (hs : notStar e = true) (hk : PE X fk (tC (.int (k : Int)))) (hkb : k < 1000000) :
    PI X (.Tuple elts kk tpos) (.Call (.Name "enumerate" p) [e] [⟨some "start", fk, kp⟩] pos) (tDI g W true (cEnumS k f)) := by
  refine ⟨fun pins s σ H R I ⟨ρ, G, o, w, eq, po⟩ => ?_⟩
  have hx : ∀ c fs ρ', o = .ex c fs ρ' → Away g W σ ρ G H c fs ρ' := fun c fs ρ' z => by subst z; exact po
  refine wpAny_Call_Name_kw (ld_blt I hg hm boot_enumerate (callWith_typeK (by rw [star_cons hs]; rfl) (by rw [star_cons hs]; rfl) rfl rfl (thn ((pa_cons ha pa_nil (star_cons hs)).run pos pins s σ H (fun vs H1 => ∃ v d ρ1 G1, vs = [v] ∧ StE g σ ρ G H ρ1 G1 H1 ∧ Rp g.K G1 v d ∧ (match d with
    | .tuple ds => if ds.length ≤ big then some (.ok (enD k ds) ρ1) else none
    | _ => none) = some o) I (tD_bd w eq hx fun v d ρ1 G1 H1 s1 r1 e1 => ⟨v, d, ρ1, G1, rfl, s1, r1, e1⟩)) fun us s1 ⟨vs, H1, I1, r1, v, d, ρ1, G1, ev, st, rp, e1⟩ => ?_)))
  subst ev
  obtain ⟨u, rfl, ru⟩ := Vals.one r1
  refine kws_cons (thn (hk.run pins s1 σ H1 (fun v H2 => v = .int (k : Int) ∧ H2 = H1) I1 ⟨rfl, rfl⟩) fun uk s2 ⟨vk, H2, I2, r2, ek, eh⟩ => kws_nil ?_)
  subst ek eh
  obtain ⟨tk, rfl⟩ : ∃ t, uk = .int (k : Int) t := r2
  have two : ∀ b, b ∈ [s2.heap.objs.size + 1, s2.heap.objs.size] → s2.heap.objs.size ≤ b := fun b hb => by
    have e' : b = s2.heap.objs.size + 1 ∨ b = s2.heap.objs.size := by simpa using hb
    rcases e' with z | z
    · rw [z]; exact Nat.le_add_right _ _
    · rw [z]; exact Nat.le_refl _
  cases rp with
  | tup a1 b1 =>
    dsimp only at e1
    split at e1
    · rename_i hz
      cases e1
      have hq : SqT X.K H2 _ _ := hK ▸ (sqN_mono st.wo.gh a1).t
      obtain rfl : u = Value.ref _ := ru
      obtain ⟨its, rv, p', hz'⟩ := I2.tuple hq
      refine PySem.enum_begins_start (begins_tuple _ its.toArray) (show s2.heap.IsTuple _ its.toArray from p') (by omega) (by omega) fun h' he hit hsz hk => wpAny_pyIter_enum he ?_
      exact ⟨s2.heap.objs.size + 1, [s2.heap.objs.size + 1, s2.heap.objs.size], _, _, H2, rfl, I2.kept (t' := s2.toks) hk, turn_enumS _ (s2.heap.objs.size + 1) s2.heap.objs.size k, ⟨⟨.none, he⟩, ⟨_, hit, rfl, rfl⟩, Nat.succ_ne_self _⟩,
        fun b hb => I2.fpOk (two b hb) (I2.hok.fresh (two b hb)), po _ _ _ st (hK ▸ wk_enumS a1 b1 hz)⟩
    · cases e1
  | _ => cases e1
end
end Rk
set_option Elab.async false
set_option linter.all false
set_option maxRecDepth 100000
set_option maxHeartbeats 4000000
namespace Rk
open PySem PySem.Spec PyProof.Rows L2
/-- the list at a, the tuple at b, the items in new pairs -/
def ItzM (K : PySem.W.Frag) (a b : Addr) : It :=
  ⟨fun i H => ∃ (xs ys : List V) (x y : V), SqL K H a xs ∧ SqT K H b ys ∧ xs[i]? = some x ∧ ys[i]? = some y,
    fun i H v H' => ∃ T x y, v = .ref T ∧ H T = none ∧ H' = upd H T (.tup [x, y]) ∧ (∀ xs, SqL K H a xs → xs[i]? = some x) ∧ ∀ ys, SqT K H b ys → ys[i]? = some y,
    fun i H => ∃ xs ys : List V, SqL K H a xs ∧ SqT K H b ys ∧ i ≤ xs.length ∧ i ≤ ys.length ∧ (i = xs.length ∨ i = ys.length)⟩
theorem sep_of {a b z TI TO i1 i2 : Addr} (D : ZipApart z TI TO i1 i2 a b) : ZipSep2 z TI TO i1 i2 [i1, a] [i2, b] where
  TIz := D.TIz
  TOz := D.TOz
  TITO := D.TITO
  TIi1 := D.TIi1
  mem1 := by simp
  zf1 := by simp only [List.mem_cons, List.not_mem_nil, or_false, not_or]; exact ⟨fun q => D.i1z q.symm, fun q => D.l1z q.symm⟩
  Tf1 := by simp only [List.mem_cons, List.not_mem_nil, or_false, not_or]; exact ⟨D.TOi1, fun q => D.l1TO q.symm⟩
  TIi2 := D.TIi2
  mem2 := by simp
  zf2 := by simp only [List.mem_cons, List.not_mem_nil, or_false, not_or]; exact ⟨fun q => D.i2z q.symm, fun q => D.l2z q.symm⟩
  Tf2 := by simp only [List.mem_cons, List.not_mem_nil, or_false, not_or]; exact ⟨D.TOi2, fun q => D.l2TO q.symm⟩
  sep1_2 := by simp only [List.mem_cons, List.not_mem_nil, or_false, not_or]; exact ⟨D.i12, fun q => D.l2i1 q.symm⟩
  sep2_1 := by simp only [List.mem_cons, List.not_mem_nil, or_false, not_or]; exact ⟨fun q => D.i12 q.symm, fun q => D.l1i2 q.symm⟩
theorem turn_zipM {P : Program} {w : World} {K : PySem.W.Frag} {elts : List Expr} {kk : Nat} {tpos : Pos} {a b z TI TO i1 i2 : Addr} (D : ZipApart z TI TO i1 i2 a b) :
    Turn P w K (.Tuple elts kk tpos) (ItzM K a b) [z, TI, TO, i1, i2] z (fun i h => IsZip h z TI TO .none ∧ IsPair h TI (.ref i1) (.ref i2) ∧ (∃ x y, IsPair h TO x y) ∧ h.IsListIter i1 a i ∧ h.IsTupleIter i2 b i) where
  mem := by simp
  obj := fun i h st c hc => by
    obtain ⟨hz, hTI, ⟨x, y, hTO⟩, ⟨o1, e1, _, d1⟩, ⟨o2, e2, _, d2⟩⟩ := st
    have e' : c = z ∨ c = TI ∨ c = TO ∨ c = i1 ∨ c = i2 := by simpa using hc
    rcases e' with q | q | q | q | q
    · rw [q]; exact ⟨_, hz, fun v q => nomatch q⟩
    · rw [q]; exact ⟨_, hTI, fun v q => nomatch q⟩
    · rw [q]; exact ⟨_, hTO, fun v q => nomatch q⟩
    · rw [q]; exact ⟨o1, e1, fun v q => by rw [d1] at q; cases q⟩
    · rw [q]; exact ⟨o2, e2, fun v q => by rw [d2] at q; cases q⟩
  keep := fun i h h' st k => by
    obtain ⟨hz, hTI, ⟨x, y, hTO⟩, h1, h2⟩ := st
    exact ⟨k z (by simp) _ hz, k TI (by simp) _ hTI, ⟨x, y, k TO (by simp) _ hTO⟩, h1.at fun o q => k i1 (by simp) o q, h2.at fun o q => k i2 (by simp) o q⟩
  item := by
    intro X hP hw hK hc i pins s σ H E I hf st hg
    subst hP hw hK
    obtain ⟨hz, hTI, ⟨x0, y0, hTO⟩, h1, h2⟩ := st
    obtain ⟨xs, ys, x, y, hqx, hqy, hx, hy⟩ := hg
    obtain ⟨its, rv, p, _⟩ := I.list hqx
    obtain ⟨its2, rv2, p2, _⟩ := I.tuple hqy
    obtain ⟨u, hu, ru⟩ := rv.get hx
    obtain ⟨u2, hu2, ru2⟩ := rv2.get hy
    have hzl : z < s.heap.objs.size := Heap.lt_size hz
    have hd := I.ok.hd hc
    have k1 : i < its.toArray.size := by
      have := (List.getElem?_eq_some_iff.mp hu).1
      simpa using this
    have k2 : i < its2.toArray.size := by
      have := (List.getElem?_eq_some_iff.mp hu2).1
      simpa using this
    refine wpAny_pyNext_zipD2_item (sep_of D) (Draws.list (A := X.A.in1) hd i1 a D.l1i1 its.toArray) (Draws.tuple (A := X.A.in1) hd i2 b D.l2i2 its2.toArray) hz hTI hTO ⟨h1, p.isList⟩ ⟨h2, p2⟩ k1 k2 fun x1 x2 h' tk e1 e2 z' TO' s1 s2 hT hsz hk => ?_
    have g1 : x1 = u := by
      have q : its.toArray[i]? = some u := by simpa using hu
      rw [q] at e1
      exact (Option.some.inj e1).symm
    have g2 : x2 = u2 := by
      have q : its2.toArray[i]? = some u2 := by simpa using hu2
      rw [q] at e2
      exact (Option.some.inj e2).symm
    subst g1 g2
    refine ⟨_, rfl, wpAny_letOwnedTupleGo_zip (s := { s with heap := h', toks := tk }) z' fun h'' z'' sb => ?_⟩
    have hT2 : h''.get? s.heap.objs.size = some { cls := .type "tuple", data := .seq #[x1, x2] } := (sb.2 _ (Nat.ne_of_gt hzl)).trans hT
    have new : ObjOk X.prog X.w (upd H s.heap.objs.size (.tup [x, y])) h'' s.heap.objs.size (.tup [x, y]) :=
      ⟨by show 2 ≤ sizeLine; decide, [x1, x2], .cons ru (.cons ru2 .nil), ⟨_, hT2, rfl, _, rfl⟩⟩
    have I1 : Inv X pins σ (upd H s.heap.objs.size (.tup [x, y])) { s with heap := h'', toks := tk } :=
      I.turnedNew (t' := tk) (ch := [z, TI, TO, i1, i2]) (fun c o hb q => (sb.2 c (fun q' => hb (by simp [q']))).trans (hk c o (fun q' => hb (by simp [q'])) (fun q' => hb (by simp [q'])) (fun q' => hb (by simp [q'])) (fun q' => hb (by simp [q'])) q)) hf (Nat.le_refl _) new
    refine ⟨.ref s.heap.objs.size, _, I1, rfl, ⟨_, x, y, rfl, I.hok.fresh (Nat.le_refl _), rfl, fun l hl => ?_, fun l hl => by rw [I.tuple_inj hl hqy]; exact hy⟩, ⟨z'', ?_, ⟨x1, x2, ?_⟩, ?_, ?_⟩, fun c hcm => ?_⟩
    · rw [I.list_inj hl hqx]; exact hx
    · exact (sb.2 _ D.TIz).trans (hk _ _ D.TIz D.TITO D.TIi1 D.TIi2 hTI)
    · exact (sb.2 _ D.TOz).trans TO'
    · exact s1.1.at fun o q => (sb.2 _ D.i1z).trans q
    · exact s2.1.at fun o q => (sb.2 _ D.i2z).trans q
    · have hlt : c < s.heap.objs.size := by
        have e' : c = z ∨ c = TI ∨ c = TO ∨ c = i1 ∨ c = i2 := by simpa using hcm
        rcases e' with q | q | q | q | q
        · rw [q]; exact hzl
        · rw [q]; exact Heap.lt_size hTI
        · rw [q]; exact Heap.lt_size hTO
        · rw [q]; obtain ⟨_, e1, _⟩ := h1; exact Heap.lt_size e1
        · rw [q]; obtain ⟨_, e2, _⟩ := h2; exact Heap.lt_size e2
      rw [upd_ne (Nat.ne_of_lt hlt)]
      exact (hf c hcm).1
  done := by
    intro X hP hw hK hc i pins s σ H E I hf st hg
    subst hP hw hK
    obtain ⟨hz, hTI, ⟨x0, y0, hTO⟩, h1, h2⟩ := st
    obtain ⟨xs, ys, hqx, hqy, b1, b2, hend⟩ := hg
    obtain ⟨its, rv, p, _⟩ := I.list hqx
    obtain ⟨its2, rv2, p2, _⟩ := I.tuple hqy
    have l1 := rv.length
    have l2 := rv2.length
    have hd := I.ok.hd hc
    refine wpAny_pyNext_zipD2_end (sep_of D) (Draws.list (A := X.A.in1) hd i1 a D.l1i1 its.toArray) (Draws.tuple (A := X.A.in1) hd i2 b D.l2i2 its2.toArray) hz hTI hTO ⟨h1, p.isList⟩ ⟨h2, p2⟩ (by simp; omega) (by simp; omega) (by simp; omega) fun h' tk hk => ⟨rfl, I.turnedL (t' := tk) (ch := [z, TI, TO, i1, i2]) (fun c o hb q =>
      hk c o (fun q' => hb (by simp [q'])) (fun q' => hb (by simp [q'])) (fun q' => hb (by simp [q'])) (fun q' => hb (by simp [q'])) q) hf⟩
  self := fun A i s Q E st h => wpAny_pyIter_zip st.1 h
section
variable {X : Cx} {g : Gd} {W : WX} {e : Expr}
theorem wk_zipM {G : Hp} {a b : Addr} {xs ys : List V} {ds es : List D} (h : G a = some (.lst xs)) (r : RpAll g.K G xs ds) (h2 : SqN g.K G b ys) (r2 : RpAll g.K G ys es) (hz : ds.length ≤ big) : Wk g G true (zipD ds es) (ItzM g.K a b) where
  len := by rw [zipD_len]; omega
  go := fun i d G' H' e e1 e2 => by
    obtain ⟨x, y, hx, hy, rfl⟩ := zipD_get e
    obtain ⟨v, hv, _⟩ := r.get hx
    obtain ⟨u, hu, _⟩ := r2.get hy
    exact ⟨xs, ys, v, u, SqL.of (e2 _ _ (e1 _ _ h)), (sqN_mono (e1.trans e2) h2).t, hv, hu⟩
  yld := fun i d G' H' x H'' e e1 e2 q => by
    obtain ⟨T, v, u, rfl, hT, rfl, q1, q2⟩ := q
    obtain ⟨x, y, hx, hy, rfl⟩ := zipD_get e
    obtain ⟨v', hv, rv⟩ := r.get hx
    obtain ⟨u', hu, ru⟩ := r2.get hy
    have a1 := q1 xs (SqL.of (e2 _ _ (e1 _ _ h)))
    have a2 := q2 ys (sqN_mono (e1.trans e2) h2).t
    rw [hv] at a1; cases a1
    rw [hu] at a2; cases a2
    exact ⟨G', grow_new e2 hT, .inr ⟨T, _, _, rfl, rfl, SqT.of upd_same, .cons (rv.mono e1) (.one (ru.mono e1))⟩, fun z => by cases z⟩
  stop := fun G' H' e1 e2 => ⟨xs, ys, SqL.of (e2 _ _ (e1 _ _ h)), (sqN_mono (e1.trans e2) h2).t, by rw [zipD_len, r.len, r2.len]; omega⟩
def iZipM (K : PySem.W.Frag) (ta : TA) : TI := fun σ H R => ta σ H fun vs H1 => ∃ a b xs ys, vs = [.ref a, .ref b] ∧ ((SqL K H1 a xs ∧ SqL K H1 b ys ∧ R (Itz K a b) H1) ∨ (SqT K H1 a xs ∧ SqT K H1 b ys ∧ R (RZ.ItzT K a b) H1) ∨ (SqL K H1 a xs ∧ SqT K H1 b ys ∧ R (ItzM K a b) H1))
theorem pi_zipM {e e2 : Expr} {ta : TA} {p pos tpos : Pos} {elts : List Expr} {kk : Nat} (hg : Gl X "zip") (hm : X.mg "zip" = none) (ha : PA X [e, e2] ta)
    (hs : starEach [e, e2] X.env = (false, eval e X.env) :: starEach [e2] X.env) (hpl : (backTo pos (starEach [e2] X.env)).any (·.1) = false) :
    PI X (.Tuple elts kk tpos) (.Call (.Name "zip" p) [e, e2] [] pos) (iZipM X.K ta) := by
  refine ⟨fun pins s σ H R I h => ?_⟩
  refine Call_ (ld_blt I hg hm PyProof.Rows.boot_zip (PyProof.Rows.callWith_type1 (thn (ha.run pos pins s σ H _ I h) fun us s1 ⟨vs, H1, I1, r1, q1⟩ => ?_) hs hpl))
  obtain ⟨a, b, xs, ys, ex, q1⟩ := q1
  subst ex
  obtain ⟨u, u2, rfl, r, r'⟩ : ∃ u u2, us = [u, u2] ∧ RelV (.ref a) u ∧ RelV (.ref b) u2 := by
    cases r1 with | cons x y => cases y with | cons x2 y2 => cases y2; exact ⟨_, _, rfl, x, x2⟩
  obtain rfl : u = .ref a := r
  obtain rfl : u2 = .ref b := r'
  have fresh5 : ∀ c, c ∈ [s1.heap.objs.size + 4, s1.heap.objs.size + 2, s1.heap.objs.size + 3, s1.heap.objs.size, s1.heap.objs.size + 1] → FpOk X pins H1 c := fun c hcm => by
    have hle : s1.heap.objs.size ≤ c := by
      simp only [List.mem_cons, List.not_mem_nil, or_false] at hcm
      rcases hcm with z | z | z | z | z <;> rw [z] <;> omega
    exact I1.fpOk hle (I1.hok.fresh hle)
  rcases q1 with ⟨hqx, hqy, q⟩ | ⟨hqx, hqy, q⟩ | ⟨hqx, hqy, q⟩
  · obtain ⟨its, rv, p1, _⟩ := I1.list hqx
    obtain ⟨its2, rv2, p2, _⟩ := I1.list hqy
    refine call_zip_2 p1.isList p2.isList fun h' hz hTI hTO h1 h2 hsz hk => wpAny_pyIter_zip hz ?_
    have I2 : Inv X pins σ H1 { s1 with heap := h' } := I1.kept (t' := s1.toks) hk
    exact ⟨s1.heap.objs.size + 4, _, _, _, H1, rfl, I2, turn_zip (PySem.W.ktu_apart s1.heap.objs.size a b p1.lt p2.lt), ⟨hz, hTI, ⟨_, _, hTO⟩, h1, h2⟩, fresh5, q⟩
  · obtain ⟨its, rv, p1, _⟩ := I1.tuple hqx
    obtain ⟨its2, rv2, p2, _⟩ := I1.tuple hqy
    obtain ⟨o1, ho1, _⟩ := id p1
    obtain ⟨o2, ho2, _⟩ := id p2
    refine RZ.call_zipT (show s1.heap.IsTuple a its.toArray from p1) (show s1.heap.IsTuple b its2.toArray from p2) fun h' hz hTI hTO h1 h2 hsz hk => wpAny_pyIter_zip hz ?_
    have I2 : Inv X pins σ H1 { s1 with heap := h' } := I1.kept (t' := s1.toks) hk
    exact ⟨s1.heap.objs.size + 4, _, _, _, H1, rfl, I2, RZ.turn_zipT (PySem.W.ktu_apart s1.heap.objs.size a b (Heap.lt_size ho1) (Heap.lt_size ho2)), ⟨hz, hTI, ⟨_, _, hTO⟩, h1, h2⟩, fresh5, q⟩
  · obtain ⟨its, rv, p1, _⟩ := I1.list hqx
    obtain ⟨its2, rv2, p2, _⟩ := I1.tuple hqy
    obtain ⟨o2, ho2, _⟩ := id p2
    refine PySem.zip_begins2 (begins_list a its.toArray) (begins_tuple b its2.toArray) p1.isList (show s1.heap.IsTuple b its2.toArray from p2) fun h' hz hTI hTO g1 g2 hsz hk => wpAny_pyIter_zip hz ?_
    have I2 : Inv X pins σ H1 { s1 with heap := h' } := I1.kept (t' := s1.toks) hk
    exact ⟨s1.heap.objs.size + 4, _, _, _, H1, rfl, I2, turn_zipM (PySem.W.ktu_apart s1.heap.objs.size a b p1.lt (Heap.lt_size ho2)), ⟨hz, hTI, ⟨_, _, hTO⟩, ⟨_, g1, rfl, rfl⟩, ⟨_, g2, rfl, rfl⟩⟩, fresh5, q⟩
theorem i_zip {e2 : Expr} {fs : EvA} {p pos tpos : Pos} {elts : List Expr} {kk : Nat} (hK : g.K = X.K) (hg : Gl X "zip") (hm : X.mg "zip" = none) (ha : PA X [e, e2] (tDA g W fs)) (hs : notStar e = true) (hs2 : notStar e2 = true) :
    PI X (.Tuple elts kk tpos) (.Call (.Name "zip" p) [e, e2] [] pos) (tDI g W true (cZip fs)) :=
  (pi_zipM hg hm ha (star_cons hs) (by rw [star_cons hs2]; rfl)).imp fun σ H R ⟨ρ, G, o, w, eq, po⟩ => tD_ba w eq (fun c fs ρ' z => by subst z; exact po) fun vs ds ρ1 G1 H1 s1 r1 e1 => by
    unfold zipOf at e1
    split at e1
    · rename_i zs q
      split at q
      · split at q
        · rename_i hz
          cases q
          cases e1
          cases r1 with | cons r1 r2 =>
          cases r2 with | cons r2 r3 =>
          cases r3
          cases r1 with | lst a1 b1 =>
          cases r2 with | lst a2 b2 =>
          have g1 := s1.wo.gh
          exact ⟨_, _, _, _, rfl, .inl ⟨SqL.of (g1 _ _ a1), SqL.of (g1 _ _ a2), po _ _ _ s1 (hK ▸ wk_zip a1 b1 a2 b2 hz)⟩⟩
        · cases q
      · split at q
        · rename_i hz
          cases q
          cases e1
          cases r1 with | cons r1 r2 =>
          cases r2 with | cons r2 r3 =>
          cases r3
          cases r1 with | tup a1 b1 =>
          cases r2 with | tup a2 b2 =>
          have g1 := s1.wo.gh
          exact ⟨_, _, _, _, rfl, .inr (.inl ⟨hK ▸ (sqN_mono g1 a1).t, hK ▸ (sqN_mono g1 a2).t, po _ _ _ s1 (hK ▸ wk_zipT a1 b1 a2 b2 hz)⟩)⟩
        · cases q
      · split at q
        · rename_i hz
          cases q
          cases e1
          cases r1 with | cons r1 r2 =>
          cases r2 with | cons r2 r3 =>
          cases r3
          cases r1 with | lst a1 b1 =>
          cases r2 with | tup a2 b2 =>
          have g1 := s1.wo.gh
          exact ⟨_, _, _, _, rfl, .inr (.inr ⟨SqL.of (g1 _ _ a1), hK ▸ (sqN_mono g1 a2).t, po _ _ _ s1 (hK ▸ wk_zipM a1 b1 a2 b2 hz)⟩)⟩
        · cases q
      · cases q
    · cases e1
end
end Rk
set_option Elab.async false
set_option linter.all false
set_option maxRecDepth 100000
set_option maxHeartbeats 4000000
namespace Rk
open PySem PySem.Spec PyProof.Rows L2
def ltB (ns ms : List Int) : Bool := Ob.lexAt (fun j => decide (ns.getD j 0 = ms.getD j 0)) (fun j => decide (ns.getD j 0 < ms.getD j 0)) (decide (ns.length < ms.length)) 0 (min ns.length ms.length)
theorem ltB_2 {a b c d : Int} : ltB [a, b] [c, d] = if a = c then decide (b < d) else decide (a < c) := by
  show Ob.lexAt _ _ _ 0 2 = _
  rw [Ob.lexAt_succ]
  show (if decide (a = c) = true then Ob.lexAt _ _ _ 1 1 else decide (a < c)) = _
  rw [Ob.lexAt_succ]
  show (if decide (a = c) = true then (if decide (b = d) = true then decide ((2 : Nat) < 2) else decide (b < d)) else decide (a < c)) = _
  simp only [decide_eq_true_eq]
  split
  · split
    · rename_i h
      simp [h]
    · rfl
  · rfl
def sLtT : D → D → Option Sl
  | .tuple xs, .tuple ys => (match intsOf xs, intsOf ys with
    | some ns, some ms => some (bl (ltB ns ms))
    | _, _ => none)
  | _, _ => none
section
variable {X : Cx} {g : Gd} {W : WX} {k : Nat}
theorem op_ltT0 (hu : X.A.units < cLine) : OpR X (compareOp .Lt) (fun x y H Q => ∃ (a b : Addr) (ns ms : List Int), x = .ref a ∧ y = .ref b ∧ SqT X.K H a (ns.map V.int) ∧ SqT X.K H b (ms.map V.int) ∧ Q (.bl (ltB ns ms)) H) := by
  intro pins s σ H x y v u Q I rx ry ⟨a, b, ns, ms, ex, ey, ha, hb, q⟩
  subst ex ey
  obtain rfl : v = Value.ref a := rx
  obtain rfl : u = Value.ref b := ry
  obtain ⟨its, r1, p1, _⟩ := I.tuple ha
  obtain ⟨its2, r2, p2, _⟩ := I.tuple hb
  have i1 : IntsAre its ns := Vals.ints r1
  have i2 : IntsAre its2 ms := Vals.ints r2
  have e1 : its.toArray.size = ns.length := by rw [List.size_toArray]; exact i1.length
  have e2 : its2.toArray.size = ms.length := by rw [List.size_toArray]; exact i2.length
  have g1 : ∀ j (h : j < its.toArray.size), ∃ t, its.toArray[j] = .int (ns.getD j 0) t := fun j h => PyProof.Rows.IntsAre.int_at i1 _ _ (by simp at h; simp [h])
  have g2 : ∀ j (h : j < its2.toArray.size), ∃ t, its2.toArray[j] = .int (ms.getD j 0) t := fun j h => PyProof.Rows.IntsAre.int_at i2 _ _ (by simp at h; simp [h])
  have bq : ∀ i j : Int, (i == j) = decide (i = j) := fun i j => by
    by_cases h : i = j
    · simp [h]
    · simp [h]
  have R := Ob.RcOp.tuples_lt (A := X.A) (s := s) (e := fun j => decide (ns.getD j 0 = ms.getD j 0)) (r := fun j => decide (ns.getD j 0 < ms.getD j 0)) p1 p2 hu
    (fun j h1 h2 => by
      obtain ⟨t1, q1⟩ := g1 j h1
      obtain ⟨t2, q2⟩ := g2 j h2
      rw [q1, q2, ← bq]
      exact SeqAt.EqAt.int_int _ _ _ _)
    (fun j h1 h2 _ => by
      obtain ⟨t1, q1⟩ := g1 j h1
      obtain ⟨t2, q2⟩ := g2 j h2
      rw [q1, q2]
      exact Ob.RcOp.lt_int _ _ _ _)
  rw [e1, e2] at R
  exact R X.prog X.w X.xe (EP X pins σ Q) ⟨.bl (ltB ns ms), H, I, rfl, q⟩
theorem o_ltT (hK : g.K = X.K) (hu : X.A.units + 64 < cLine) : OpR X (compareOp .Lt) (rS2 g sLtT) := by
  intro pins s σ H x y v u Q I rx ry ⟨G, dx, dy, z, e, r1, r2, hs, k⟩
  unfold sLtT at hs
  split at hs
  · split at hs
    · rename_i ns ms q1 q2
      cases hs
      cases r1 with | tup a1 b1 =>
      cases r2 with | tup a2 b2 =>
      rw [ints_eq q1] at b1
      rw [ints_eq q2] at b2
      rw [rp_ints b1] at a1
      rw [rp_ints b2] at a2
      exact op_ltT0 (by omega) pins s σ H _ _ v u Q I rx ry ⟨_, _, ns, ms, rfl, rfl, hK ▸ (sqN_mono e a1).t, hK ▸ (sqN_mono e a2).t, k.sh e (.bl _)⟩
    · cases hs
  · cases hs
def cCh3 (s1 s2 s3 : D → D → Option Sl) (fa fb fc fd : Ev) : EvT := fun ρ => bdD (fa ρ) fun x ρ1 => bdD (fb ρ1) fun y ρ2 => match s1 x y with
  | some (.sh (.bool true)) => (bdD (fc ρ2) fun z ρ3 => match s2 y z with
    | some (.sh (.bool true)) => (bdD (fd ρ3) fun w ρ4 => match s3 z w with
      | some (.sh (.bool b)) => some (.ok b ρ4)
      | _ => none)
    | some (.sh (.bool false)) => some (.ok false ρ3)
    | _ => none)
  | some (.sh (.bool false)) => some (.ok false ρ2)
  | _ => none
def tCh3 (r1 r2 r3 : R2) (ta tb tc td : TE) : TT := fun σ H Q => ta σ H fun x H1 => tb σ H1 fun y H2 => r1 x y H2 fun z H3 => ∃ k, z = .bl k ∧
  (if k = true then tc σ H3 fun w H4 => r2 y w H4 fun z2 H5 => ∃ k2, z2 = .bl k2 ∧ (if k2 = true then td σ H5 fun w2 H6 => r3 w w2 H6 fun z3 H7 => ∃ k3, z3 = .bl k3 ∧ Q k3 H7 else Q false H5) else Q false H3)
theorem pt_ch3 {a b c d : Expr} {pos : Pos} {ta tb tc td : TE} {o1 o2 o3 : CmpOp} {r1 r2 r3 : R2} (h1 : OpR X (compareOp o1) r1) (h2 : OpR X (compareOp o2) r2) (h3 : OpR X (compareOp o3) r3) (ha : PE X a ta) (hb : PE X b tb) (hc : PE X c tc) (hd : PE X d td)
    (hm : lastMarks [o1, o2, o3] [b, c, d] = false) : PT X (.Compare a [o1, o2, o3] [b, c, d] pos) (tCh3 r1 r2 r3 ta tb tc td) := by
  refine ⟨fun pins s σ H Q I h => ?_⟩
  refine isTrue_chain (thn (ha.run pins s σ H _ I h) fun v s1 ⟨x, H1, I1, rx, q1⟩ => test_link (thn (hb.run pins s1 σ H1 _ I1 q1) fun u s2 ⟨y, H2, I2, ry, q2⟩ =>
    thn (h1 pins s2 σ H2 x y v u _ I2 rx ry q2) fun t s3 ⟨z, H3, I3, rz, k, e, q3⟩ => ?_)) hm
  subst e
  cases rz
  refine wpAny_truthy_bool ?_
  cases k with
  | false => exact ite_ff ⟨H3, I3, q3⟩
  | true =>
    refine ite_tt (test_link (thn (hc.run pins s3 σ H3 _ I3 q3) fun u2 s4 ⟨w, H4, I4, rw', q4⟩ => thn (h2 pins s4 σ H4 y w u u2 _ I4 ry rw' q4) fun t2 s5 ⟨z2, H5, I5, rz2, k2, e2, q5⟩ => ?_))
    subst e2
    cases rz2
    refine wpAny_truthy_bool ?_
    cases k2 with
    | false => exact ite_ff ⟨H5, I5, q5⟩
    | true =>
      refine ite_tt (test_last (thn (hd.run pins s5 σ H5 _ I5 q5) fun u3 s6 ⟨w2, H6, I6, rw2, q6⟩ => thn (h3 pins s6 σ H6 w w2 u2 u3 _ I6 rw' rw2 q6) fun t3 s7 ⟨z3, H7, I7, rz3, k3, e3, q7⟩ => ?_))
      subst e3
      cases rz3
      exact wpAny_truthy_bool ⟨H7, I7, q7⟩
theorem e_ch3 {a b c d : Expr} {pos : Pos} {fa fb fc fd : Ev} {o1 o2 o3 : CmpOp} {s1 s2 s3 : D → D → Option Sl} (n3 : ∀ x y z, s3 x y = some z → ∃ b, z = bl b) (h1 : OpR X (compareOp o1) (rS2 g s1)) (h2 : OpR X (compareOp o2) (rS2 g s2)) (h3 : OpR X (compareOp o3) (rS2 g s3))
    (ha : PE X a (tD g W fa)) (hb : PE X b (tD g W fb)) (hc : PE X c (tD g W fc)) (hd : PE X d (tD g W fd)) (hm : lastMarks [o1, o2, o3] [b, c, d] = false) :
    PT X (.Compare a [o1, o2, o3] [b, c, d] pos) (tDT g W (cCh3 s1 s2 s3 fa fb fc fd)) := (pt_ch3 h1 h2 h3 ha hb hc hd hm).imp fun σ H Q ⟨ρ, G, o, w, e, p⟩ =>
  tD_bd w e p.exn fun v dx ρ1 G1 H1 t1 r1 e1 => tD_bd t1.wo e1 (p.step t1).exn fun u dy ρ2 G2 H2 t2 r2 e2 => by
    have p2 := p.step (t1.trans t2)
    split at e2
    · rename_i q
      refine ⟨G2, dx, dy, _, t2.wo.gh, r1.mono t2.gg, r2, q, fun v' G' H' gr x => ?_⟩
      cases x
      have t3 := t2.wo.step gr
      refine ⟨true, rfl, iteT (tD_bd t3.wo e2 (p2.step t3).exn fun x3 dz ρ3 G3 H3 t4 r3 e3 => ?_)⟩
      have p3 := (p2.step t3).step t4
      have r2' := r2.mono (t3.gg.trans t4.gg)
      split at e3
      · rename_i q3
        refine ⟨G3, dy, dz, _, t4.wo.gh, r2', r3, q3, fun v' G4 H4 gr4 x4 => ?_⟩
        cases x4
        have t5 := t4.wo.step gr4
        refine ⟨true, rfl, iteT (tD_bd t5.wo e3 (p3.step t5).exn fun x5 dw ρ5 G5 H5 t6 r5 e5 => ?_)⟩
        split at e5
        · rename_i b q5
          cases e5
          refine ⟨G5, dz, dw, _, t6.wo.gh, r3.mono (t5.gg.trans t6.gg), r5, q5, fun v' G6 H6 gr6 x6 => ?_⟩
          cases x6
          exact ⟨b, rfl, ((p3.step t5).step t6) G6 H6 (t6.wo.step gr6)⟩
        · cases e5
      · rename_i q3
        cases e3
        refine ⟨G3, dy, dz, _, t4.wo.gh, r2', r3, q3, fun v' G4 H4 gr4 x4 => ?_⟩
        cases x4
        have t5 := t4.wo.step gr4
        exact ⟨false, rfl, iteF ((p3.step t5).now t5.wo)⟩
      · cases e3
    · rename_i q
      cases e2
      refine ⟨G2, dx, dy, _, t2.wo.gh, r1.mono t2.gg, r2, q, fun v' G' H' gr x => ?_⟩
      cases x
      have t3 := t2.wo.step gr
      exact ⟨false, rfl, iteF ((p2.step t3).now t3.wo)⟩
    · cases e2
end
end Rk
set_option Elab.async false
set_option linter.all false
set_option maxRecDepth 100000
set_option maxHeartbeats 4000000
namespace Rk
open PySem PySem.Spec PyProof.Rows L2
structure IniD where
  oc : Value
  od : Option Addr
  osl : Array (Option Value)
  qual : Str
  scope : Scope
  cl : Addr
  cc : Addr
  doc : Value
  pm : Value
  ct : Value
  an : Option Addr
  p : Nat → Pos
  j : Nat
  cob : Obj
  vs : Array Value
  file : Str
  tf : Tok
  cel : Obj
def IniD.body (d : IniD) (f pre par : Str) : List Stmt :=
  [.Expr (.Call (.Attribute (.Call (.Name ("super" : Str) (d.p 0)) [] [] (d.p 1)) ("__init__" : Str) (d.p 2)) [.JoinedStr [.Constant (.str pre) d.j (d.p 3), .FormattedValue (.Name par (d.p 4)) (-1) none (d.p 5)] (d.p 6)] [] (d.p 7)) (d.p 8),
   .Assign [.Attribute (.Name ("self" : Str) (d.p 9)) f (d.p 10)] (.Name par (d.p 11)) (d.p 12)]
abbrev IniD.fd (d : IniD) (f pre par : Str) : FuncData := PySem.W.fnX ("__init__" : Str) d.qual ⟨[], [⟨("self" : Str), none, d.p 13⟩, ⟨par, none, d.p 14⟩], none, [], [], none, []⟩ (d.body f pre par) d.scope [(("__class__" : Str), d.cl)] .none .none d.doc d.pm d.an (.ref d.cc) d.ct
structure IniC (prog : Program) (K : PySem.W.Frag) (C fI : Addr) (f pre par : Str) (d : IniD) : Prop where
  T : OexC K C
  iC : PySem.W.findIn K (.ref C) "__init__" = some (some (.ref fI))
  tI : PySem.W.typeIn K (.ref fI) = some (.type "function")
  fn : K.lookup fI = some ⟨d.oc, d.od, .func (d.fd f pre par), d.osl⟩
  cd : PySem.W.codeIn K (.ref d.cc) d.qual = true
  kind : d.scope.kind = .function
  co : d.scope.isCoroutine = false
  gen : d.scope.isGenerator = false
  noc : ∀ x ∈ d.scope.names, x.2 ≠ .cell
  sS : d.scope.names.lookup ("super" : Str) = some .globalImplicit
  sC : d.scope.names.lookup ("__class__" : Str) = some .free
  sI : d.scope.names.lookup ("self" : Str) = some .local
  sP : d.scope.names.lookup par = some .local
  np : (par == ("__debug__" : Str)) = false
  ns : par ≠ ("self" : Str)
  cob : K.lookup d.cc = some d.cob
  cod : d.cob.data = .fields d.vs
  cvs : d.vs[2]? = some (.str d.file d.tf)
  cfi : ((prog.main.file : Str) == d.file) = true
  top : (prog.main.scope.names.lookup ("super" : Str)).isSome = false
  cel : K.lookup d.cl = some d.cel
  ced : d.cel.data = .cell (some (.ref C))
  opq : PySem.W.nsIn K cStatics "thirdparty.any" = some none
  sup : PySem.W.ks_superIn K C C "__init__" = some (some (.builtin "ValueError.__init__"))
  vE : PySem.W.subIn K (.ref C) (.type "ValueError") = some true
  fno : PySem.W.findIn K (.ref C) f = some none
  pl : pre.length ≤ 1000
  ln : ((d.p 2).endLine == (d.p 7).line) = true
theorem at_meth {M : Model} {A : Around} {c : Code} {env : Env} {E : Value → Shared → Prop} {Q : Value → Shared → Prop} {s : Shared} {o e : Expr} {name : Str} {apos pos : Pos} (hs : notStar e = true) (hline : (apos.endLine == pos.line) = true)
    (h : PySem.wpAt M A c (attributeBase o name env (eval o env)) (fun ov s₁ => wpAny M A (getMethod ov name (do return (← importBound o env).getD true)) (fun fx s₂ => wpAny M A (callWith pos fx.1 fx.2 (backTo pos (starEach [e] env)) []) Q E s₂) E s₁) E s) :
    PySem.wpAt M A c (eval (.Call (.Attribute o name apos) [e] [] pos) env) Q E s := by
  rw [arm_eval_Call]
  refine PySem.wpAt_bind (ks_wpAt_mono h (fun ov s₁ h₁ => PySem.wpAt_of_wpAny (wpAny_bind (wpAny_standAt ?_))) fun _ _ x => x)
  have hform : methodCallForm (([e] : List Expr).length + ([] : List Keyword).length) (backTo pos (starEach [e] env)) (backToKw pos (keywordEach [] env)) = true := few_one hs
  have hpos : methodCallPos true o env apos pos = pure pos := by unfold methodCallPos; simp [hline]
  unfold methodCall
  rw [hform]
  refine wpAny_bind (wpAny_holding (wpAny_mono h₁ (fun fx s₂ h₂ => ?_) fun _ _ x => x))
  exact wpAny_bind (wpAny_of_eq hpos h₂)
theorem bind_two {fd : FuncData} {a par : Str} {p1 p2 : Pos} {x y : Value} (hp : fd.params = ⟨[], [⟨a, none, p1⟩, ⟨par, none, p2⟩], none, [], [], none, []⟩) (hd : fd.defaults = .none) (hk : fd.kwdefaults = .none) (ne : par ≠ a) : bindArgs fd ⟨[x, y], []⟩ = pure [(a, x), (par, y)] := by
  have e1 : (([(a, x), (par, y)] : List (Str × Value)).lookup a) = some x := by simp [List.lookup]
  have n : (par == a) = false := by simpa using ne
  have e2 : (([(a, x), (par, y)] : List (Str × Value)).lookup par) = some y := by simp [List.lookup, n]
  have e3 : seqItems? (.none) = pure none := rfl
  unfold bindArgs
  rw [hp, hd, hk]
  simp [e1, e2, e3]
section
variable {prog : Program} {w : World} {K : PySem.W.Frag} {C fI : Addr} {f pre par : Str} {d : IniD} {A : Around} {mg mb : Str → Option Value} {h : Heap} {g : Array GenState} {dr : Drawn} {t : Nat} {os : OsState} {R : Result → Shared → Prop}
theorem cw_mw {M : Model} {A : Around} {E : Value → Shared → Prop} {Q : Value → Shared → Prop} {s : Shared} {pos : Pos} {env : Env} {u e : Addr} {x : Expr} (he : starEach [x] env = (false, eval x env) :: starEach [] env)
    (h : wpAny M A (spliced (backTo pos (starEach [x] env))) (fun vs s₁ => PySem.W.KxsAt "ValueError.__init__" u e s₁.heap ∧ wpAny M A (call (.ref u) vs) Q E s₁) E s) : wpAny M A (callWith pos (.ref u) [] (backTo pos (starEach [x] env)) []) Q E s := by
  rw [he] at h ⊢
  refine PySem.W.kxs_callWith (i := "ValueError.__init__") (x := e) rfl ?_
  exact Calls.evalArgs_plain h
/-- super().__init__(v), the bound wrapper called -/
theorem mw_call {A : Around} {E : Value → Shared → Prop} {u e t0 : Addr} {v : Value} {Q : Value → Shared → Prop} (T : OexC K C) (X : K.In h) (hu : h.get? u = some (PySem.W.kxs_mw "ValueError.__init__" e)) (he : h.get? e = some (PySem.HandSPX.excO C t0))
    (hq : ∀ h' t1, (∀ b o, b ≠ e → h.get? b = some o → h'.get? b = some o) → h'.get? e = some (PySem.HandSPX.excO C t1) → Q .none ⟨h', g, dr, t, os⟩) : wpAny (model prog w) A (call (.ref u) [v]) Q E ⟨h, g, dr, t, os⟩ := by
  obtain ⟨nm, q, N, bs, bm, sn, sub, ab, col, dd, k0, k1, k2, k3, k5, hC, hbm⟩ := T.cls
  refine wpAny_call (codeAny_of_tree ?_)
  show wpAny _ A.in1 (callAny (.ref u) ⟨[v], []⟩) _ _ _
  simp only [callAny]
  refine wpAny_bind (wpAny_load hu ?_)
  simp only [PySem.W.kxs_mw, show (Value.type "method-wrapper" == Value.type "method" || Value.type "method-wrapper" == Value.type "builtin_function_or_method" || Value.type "method-wrapper" == Value.type "method-wrapper") = true by decide, if_true]
  refine PySem.W.KFB.if_so (by decide) ?_
  refine wpAny_bind (PySem.W.check_bound_init F.excBase_ValueError.toExcCallFacts (X _ _ hC) he rfl ?_)
  refine wpAny_bind (wpAny_pure (wpAny_pure ?_))
  refine ⟨plainId_quiet F.excBase_ValueError.init.plain _, codeAny_builtin F.excBase_ValueError.initEntry ?_⟩
  exact PySem.W.exc_init_tree (cls := .ref C) (t0 := t0) (dv := none) (c2 := .none) (c3 := .none) (b4 := .bool false) he (by rw [sizeLine_eq]; simp) fun h' k e' t' => hq h' _ k e'
theorem ini_run (I : IniC prog K C fI f pre par d) {e t0 : Addr} {z : Str} {tk : Tok} (hroom : A.depth < recursionLimit) (X : K.In h) (hKe : K.lookup e = none) (hlim : h.NoLimit) (hg : h.Ns mainGlobals mg) (hb : h.Ns builtinsNs mb) (hms : mg "super" = none) (hbs : mb "super" = some (.type "super"))
    (he : h.get? e = some (PySem.HandSPX.excO C t0)) (hz : z.length ≤ 1000)
    (hq : ∀ h' t' dx t1, (∀ b o, b ≠ e → h.get? b = some o → h'.get? b = some o) → h.objs.size ≤ dx → dx ≠ e → h'.get? e = some ({ cls := .ref C, dict := some dx, data := .fields #[.ref t1, .none, .none, .none, .bool false, .none] } : Obj) →
      h'.Ns1 dx (fun y => if y = f then some (.str z tk) else none) → R (.ok (.ret .none)) ⟨h', g, dr, t', os⟩) :
    codeAny (model prog w) A (.call (.ref fI) ⟨[.ref e, .str z tk], []⟩) R ⟨h, g, dr, t, os⟩ := by
  obtain ⟨nm, q, N, bs, bm, sn, sub, ab, col, dd, k0, k1, k2, k3, k5, hC, hbm⟩ := I.T.cls
  have hCh := X _ _ hC
  have hcl : PySem.W.clsIn K C = some { name := nm, bases := bs, mro := .ref C :: bm, ns := N, qualname := q, hasDict := true, slotNames := sn, subclasses := sub, abstract := ab, collection := col, hasDel := false } := by unfold PySem.W.clsIn; rw [hC] <;> rfl
  have heC : e ≠ C := fun q => by
    rw [q, hCh] at he
    cases he
  have hbind : BindsTo (⟨h, g, dr, t, os⟩ : Shared) (d.fd f pre par) ⟨[.ref e, .str z tk], []⟩ [(("self" : Str), .ref e), (par, .str z tk)] := BindsTo.of_eq (bind_two rfl rfl rfl I.ns)
  refine ks_codeAny_call_defAt hroom (X _ _ I.fn) rfl hlim (PySem.W.codeRec_of X I.cd) rfl hbind I.noc (fun x hx => ?_) (fun h0 hns hk => ?_) I.co I.gen I.kind
  · simp only [List.mem_cons, List.not_mem_nil, or_false] at hx
    rcases hx with rfl | rfl
    · exact I.sI
    · exact I.sP
  generalize hL : (⟨h, g, dr, t, os⟩ : Shared).heap.objs.size = L at *
  have X0 : K.In h0 := X.keeps hk
  have he0 := hk _ _ he
  have hC0 := X0 _ _ hC
  have ni : (par == ("self" : Str)) = false := by simpa using I.ns
  have m1 : ([(("self" : Str), Value.ref e), (par, .str z tk)].reverse.lookup ("self" : Str)) = some (.ref e) := by
    have n2 : (("self" : Str) == par) = false := by simpa using I.ns.symm
    simp [List.lookup, n2]
  have m2 : ([(("self" : Str), Value.ref e), (par, .str z tk)].reverse.lookup par) = some (.str z tk) := by simp [List.lookup]
  have ki : interactive (callEnv (d.fd f pre par) L fI) = false := by
    show (d.scope.kind == .module && _) = false
    rw [I.kind]
    rfl
  have ldI : ∀ {A : Around} {E : Value → Shared → Prop} {Q : Value → Shared → Prop} {h' : Heap} {t' : Nat} {x : Str} {v : Value} {pos : Pos}, h'.Ns L (fun x => [(("self" : Str), Value.ref e), (par, .str z tk)].reverse.lookup x) → d.scope.names.lookup x = some .local → ([(("self" : Str), Value.ref e), (par, .str z tk)].reverse.lookup x) = some v → (x == ("__debug__" : Str)) = false → Q v ⟨h', g, dr, t', os⟩ → wpAny (model prog w) A (eval (.Name x pos) (callEnv (d.fd f pre par) L fI)) Q E ⟨h', g, dr, t', os⟩ := fun hn hx hv hd q => wpAny_Name (wpAny_loadName_local I.kind hx hn hv q) hd
  refine ks_wpAt_execs_cons (ks_wpAt_Expr_any (at_meth (by rfl) I.ln ?_) ki (by rfl))
  refine ks_wpAt_super_base I.sS I.sC rfl rfl (X0 _ _ I.fn) rfl rfl rfl (X0 _ _ I.cob) I.cod I.cvs I.cfi I.top ?_
  refine PySem.W.ks_loadName_global I.kind I.sS (Calls.loadGlobal_builtin (hg.keeps hk) hms (hb.keeps hk) hbs ⟨rfl, ?_⟩)
  refine wpAny_loadName_free I.kind I.sC (show ([(("__class__" : Str), d.cl)] : List (Str × Addr)).lookup ("__class__" : Str) = some d.cl from rfl) ⟨_, X0 _ _ I.cel, I.ced⟩ ?_
  refine wpAny_loadName_local I.kind I.sI hns m1 ?_
  refine ks_wpAny_isType_cls hC0 rfl ⟨rfl, ?_⟩
  have hsub : PySem.W.Looks (model prog w) h0 (isSubtype (.ref C) (.ref C)) true := PySem.W.looks_mroIn X0 (by unfold PySem.W.mroIn; rw [hcl]; simp)
  refine ks_wpAny_call_super hC0 rfl he0 rfl (fun c q => by cases q) hsub (fun h1 hso hk1 => ?_)
  have X1 : K.In h1 := X0.keeps hk1
  have he1 := hk1 _ _ he0
  have IA : PySem.W.InstAt h1 e (PySem.HandSPX.excO C t0) C none := ⟨he1, rfl, rfl, trivial⟩
  have hI : PySem.W.Looks (model prog w) h1 (isInstance (.ref e) (.type "ValueError")) true := IA.type.andThen (PySem.W.looks_subIn X1 I.vE)
  have hm : PySem.W.alongIn K "__init__" bm = some (some (.builtin "ValueError.__init__")) := by
    have := I.sup
    unfold PySem.W.ks_superIn at this
    rw [hcl] at this
    simpa [List.dropWhile_cons] using this
  refine PySem.W.kxs_getMethod PySem.W.kxs_ValueError hso (PySem.W.looks_opaque X1 I.opq) (l₀ := .ref C :: bm) ((PySem.W.looks_clsIn X1 hcl).andThen .now) (by simp [List.dropWhile_cons]) X1 hm hI heC (by rfl) ?_
  have hk2 : ∀ b o, h1.get? b = some o → (h1.push (PySem.W.kxs_mw "ValueError.__init__" e)).get? b = some o := fun b o q => Heap.get?_push_of_some _ q
  have hu : (h1.push (PySem.W.kxs_mw "ValueError.__init__" e)).get? h1.objs.size = some (PySem.W.kxs_mw "ValueError.__init__" e) := Heap.get?_push_size _ rfl
  generalize (h1.push (PySem.W.kxs_mw "ValueError.__init__" e)) = h2 at *
  have X2 : K.In h2 := X1.keeps hk2
  have he2 := hk2 _ _ he1
  have hns2 := (hns.keeps hk1).keeps hk2
  refine cw_mw (e := e) rfl (PyProof.Rows.args_cons ?_ rfl)
  refine wpAny_JoinedStr ?_
  have ev : evalEach [Expr.Constant (.str pre) d.j (d.p 3), .FormattedValue (.Name par (d.p 4)) (-1) none (d.p 5)] (callEnv (d.fd f pre par) L fI) = [eval (.Constant (.str pre) d.j (d.p 3)) (callEnv (d.fd f pre par) L fI), eval (.FormattedValue (.Name par (d.p 4)) (-1) none (d.p 5)) (callEnv (d.fd f pre par) L fI)] := by
    simp [evalEach]
  rw [ev]
  have pl := I.pl
  have l1 : (Str.empty ++ pre).length ≤ sizeLine := by rw [sizeLine_eq, PySem.Str.length_append]; show 0 + pre.length ≤ _; omega
  have l2 : (Str.empty ++ pre ++ z).length ≤ sizeLine := by rw [sizeLine_eq, PySem.Str.length_append, PySem.Str.length_append]; show 0 + pre.length + z.length ≤ _; omega
  refine Calls.Constant_str ⟨pre, _, rfl, l1, ?_⟩
  refine wpAny_FormattedValue_plain (ldI hns2 I.sP m2 I.np ?_)
  refine wpAny_formatField_str ⟨z, _, rfl, l2, l2, ?_⟩ ⟨z, _, rfl, l2, l2, ?_⟩ (by rw [sizeLine_eq]; omega)
  all_goals
    refine PyProof.Rows.args_nil ⟨hu, ?_⟩
    refine mw_call I.T X2 hu he2 (fun h3 t3 k3 he3 => ?_)
    have X3 : K.In h3 := fun a o q => k3 a o (fun z => by rw [z, hKe] at q; cases q) (X2 a o q)
    have LeL : L ≠ e := fun z => by
      have := Heap.lt_size he
      rw [← z, ← hL] at this
      exact absurd this (Nat.lt_irrefl _)
    have hns3 := hns2.at (h' := h3) fun o q => k3 L o LeL q
    have hL3 : L < h3.objs.size := hns3.lt
    refine ks_wpAt_execs_cons (ks_wpAt_Assign_Attr (PySem.wpAt_of_wpAny (ldI hns3 I.sP m2 I.np (ldI hns3 I.sI m1 (by rfl) ?_))) (by rfl))
    refine PySem.W.set_plain X3 (ox := PySem.HandSPX.excO C t3) (od := none) ⟨he3, rfl, rfl, trivial⟩ I.T.sa ?_
    refine PySem.HandSPX.exc_osa X3 he3 hcl (show PySem.HandSPX.refsVE (.ref C :: bm) = true from hbm) rfl I.fno (fun h' tk' dx k dn dne hx hn => ?_)
    refine PySem.wpAt_of_wpAny (wpAny_execs_nil ?_)
    refine hq h' tk' dx t3 (fun b o hb q => k b o hb (k3 b o hb (hk2 b o (hk1 b o (hk b o q))))) (by have q1 : h.objs.size = L := hL; have q2 : h3.objs.size ≤ dx := dn; omega) dne hx hn
end
/-- C(z) -/
def tMkI (C : Addr) (f : Str) (ta : TA) : St → Hp → XK → Prop := fun σ H Q => ta σ H fun vs H1 => ∃ z : Str, vs = [.str z] ∧ z.length ≤ 1000 ∧ ∀ dx, H1 dx = none → Q (.ref C) (some dx) (upd H1 dx (.xd [(f, .str z)]))
theorem pmk_ini {X : Cx} {C fI : Addr} {f pre par x : Str} {d : IniD} {k : Nat} {a : Expr} {p pos : Pos} {ta : TA} (I0 : IniC X.prog X.K C fI f pre par d) (hr : Room k X.A) (hg : Gl X x) (hm : X.mg x = some (.ref C)) (hms : X.mg "super" = none) (ha : PA X [a] ta)
    (hdb : (x == ("__debug__" : Str)) = false) (he : starEach [a] X.env = (false, eval a X.env) :: starEach [] X.env) : PMk X (.Call (.Name x p) [a] [] pos) (tMkI C f ta) := by
  intro pins s σ H Q I h
  have T := I0.T
  obtain ⟨nm, q, N, bs, bm, sn, sub, ab, col, dd, k0, k1, k2, k3, k5, hC, hbm⟩ := T.cls
  refine wpAny_Call_Name_kw (ld_glob I hg hm ?_ hdb)
  refine PySem.W.callWith_K (h₀ := X.base) I.ok.mod.kin T.kC (thn (ha.run pos pins s σ H _ I h) fun us s1 ⟨vs, H1, I1, r1, z, hv, hz, q1⟩ => ⟨I1.kIn, ?_⟩) he rfl
  subst hv
  show wpAny _ _ (call (.ref C) us) _ _ _
  obtain ⟨u, rfl, ru⟩ := vals1 r1
  obtain ⟨tk, rfl⟩ := ru
  obtain ⟨hp, g, dr, tk2, os⟩ := s1
  have kk : ∀ b o, hp.get? b = some o → ((hp.push (PySem.W.kdv_tup [Value.str z tk])).push (PySem.HandSPX.excO C hp.objs.size)).get? b = some o := fun b o e => Heap.get?_push_of_some _ (Heap.get?_push_of_some _ e)
  have hget : ((hp.push (PySem.W.kdv_tup [Value.str z tk])).push (PySem.HandSPX.excO C hp.objs.size)).get? (hp.objs.size + 1) = some (PySem.HandSPX.excO C hp.objs.size) := by heap_get
  obtain ⟨mb, hmb, hmb2⟩ := I1.mod.blt
  have hKe : X.K.lookup (hp.objs.size + 1) = none := by
    cases q : X.K.lookup (hp.objs.size + 1) with
    | none => rfl
    | some o =>
      have := Heap.lt_size (I1.kIn _ _ q)
      exact absurd this (by show ¬ hp.objs.size + 1 < hp.objs.size; omega)
  refine wpAny_call (PySem.HandSPX.call_own F.excBase_ValueError (fun Y => PySem.HandSPX.refsVE_contains Y bm hbm) (I1.kIn _ _ hC) (PySem.W.looks_findIn I1.kIn I0.iC) (fun self => PySem.W.bind_fn I1.kIn self I0.tI) (by rw [sizeLine_eq]; simp)
    (ini_run I0 (by have := hr.dp; rw [make_depth]; omega) (I1.kIn.keeps kk) hKe (I1.nolimit.keeps kk) ((I1.mod.glob.keeps I1.bk).keeps kk) ((hmb.keeps I1.bk).keeps kk) hms ((hmb2 _ (by decide)).trans (by decide +kernel)) hget hz fun h' t' dx t1 k hdx hne hx hn => ⟨rfl, ?_⟩))
  obtain ⟨G, g1', g2'⟩ := restrict h' fun b => decide (b ≠ hp.objs.size + 1)
  have gk : ∀ b, b ≠ hp.objs.size + 1 → G.get? b = h'.get? b := fun b hb => g1' b (decide_eq_true hb)
  have ge : G.get? (hp.objs.size + 1) = none := g2' _ (by simp)
  have old : ∀ b o, hp.get? b = some o → b ≠ hp.objs.size + 1 := fun b o q z => by
    have := Heap.lt_size q
    rw [z] at this
    exact absurd this (Nat.not_lt.mpr (Nat.le_succ _))
  have hdx2 : hp.objs.size ≤ dx := Nat.le_trans (Nat.le_of_lt (Nat.lt_trans (Nat.lt_succ_self _) (Heap.lt_size hget))) hdx
  have hn1 : H1 dx = none := I1.hok.fresh hdx2
  have J : Inv X pins σ (upd H1 dx (.xd [(f, .str z)])) ⟨G, g, dr, t', os⟩ := I1.laid (t' := t') (a := dx) (o := .xd [(f, .str z)]) (h' := G) (fun b o q => by rw [gk b (old b o q)]; exact k b o (old b o q) (kk b o q)) hdx2
    ⟨_, hn.at fun o y => (gk dx hne).trans y, relO_put (fs := []) (y := V.str z) ⟨tk, rfl⟩ fun g => True.intro⟩
  have hne2 : H1 (hp.objs.size + 1) = none := I1.hok.fresh (Nat.le_succ _)
  refine ⟨hp.objs.size + 1, _, _, ⟨G, g, dr, t', os⟩, _, .ref C, some dx, rfl, J, fun b o q => ?_, ge, hx, ⟨rfl, rfl⟩, rfl, rfl, ?_, rfl, I1.bare, raises_own T.exC T.tyC, q1 dx hn1⟩
  · by_cases hb : b = hp.objs.size + 1
    · rw [hb, ge] at q
      cases q
    · exact (gk b hb).symm.trans q
  · rw [upd_ne (Ne.symm hne)]
    exact hne2
def oexOk (K : PySem.W.Frag) (C : Addr) : Bool := match K.lookup C with
  | some ⟨.type T, _, .cls cd, sl⟩ => T == "type" && (match cd.mro, sl.toList with
      | .ref C' :: bm, [_, _, _, _, some (.builtin n), _] => decide (C' = C) && (n == "ValueError.__new__" && (!cd.hasDel && (cd.hasDict && PySem.HandSPX.refsVE bm)))
      | _, _ => false)
  | _ => false
theorem oexOk_ok {K : PySem.W.Frag} {C : Addr} (h : oexOk K C = true) : ∃ nm q N bs bm sn sub ab col dd k0 k1 k2 k3 k5, K.lookup C = some (excClassObj nm q C N bs bm true sn sub ab col dd k0 k1 k2 k3 k5 "ValueError.__new__") ∧ PySem.HandSPX.refsVE bm = true := by
  unfold oexOk at h
  split at h
  · rename_i T dd cd sl ho
    rw [Bool.and_eq_true] at h
    obtain ⟨h0, h⟩ := h
    split at h
    · rename_i C' bm k0 k1 k2 k3 n k5 hm hs
      simp only [Bool.and_eq_true, decide_eq_true_eq, Bool.not_eq_true', beq_iff_eq] at h h0
      obtain ⟨rfl, rfl, h3, h4, h5⟩ := h
      subst h0
      obtain ⟨nm, bs, mro, ns, qn, hd, sn, sb, ab, col, del⟩ := cd
      dsimp only at hm h3 h4
      subst hm h3 h4
      have hs' : sl = #[k0, k1, k2, k3, some (.builtin "ValueError.__new__"), k5] := Array.toList_inj.mp hs
      subst hs'
      exact ⟨nm, qn, ns, bs, bm, sn, sb, ab, col, dd, k0, k1, k2, k3, k5, ho, h5⟩
    · cases h
  · cases h
def scB (sc : Scope) (par : Str) : Bool := (match sc.kind with | .function => true | _ => false) && (!sc.isCoroutine && (!sc.isGenerator && ((sc.names.all fun x => decide (x.2 ≠ .cell)) && (decide (sc.names.lookup ("super" : Str) = some .globalImplicit) && (decide (sc.names.lookup ("__class__" : Str) = some .free) && (decide (sc.names.lookup ("self" : Str) = some .local) && decide (sc.names.lookup par = some .local)))))))
def ceB (K : PySem.W.Frag) (cl C : Addr) : Bool := match K.lookup cl with
  | some ⟨_, _, .cell (some (.ref C')), _⟩ => decide (C' = C)
  | _ => false
def fiB (K : PySem.W.Frag) (cc : Addr) (file : Str) : Bool := match K.lookup cc with
  | some ⟨_, _, .fields vs, _⟩ => (match (vs[2]? : Option Value) with
      | some (.str f _) => f == file
      | _ => false)
  | _ => false
def bodyB (K : PySem.W.Frag) (file : Str) (C : Addr) (f : Str) : FuncData → Bool
  | ⟨nm, qual, ⟨[], [⟨s1, none, _⟩, ⟨par, none, _⟩], none, [], [], none, []⟩, .stmts [.Expr (.Call (.Attribute (.Call (.Name sup _) [] [] _) ini q2) [.JoinedStr [.Constant (.str pre) _ _, .FormattedValue (.Name par2 _) cv none _] _] [] q7) _, .Assign [.Attribute (.Name s2 _) f2 _] (.Name par3 _) _], scope, gl, [(cn, cl)], .none, .none, _, _, _, .ref cc, _, bl⟩ =>
    nm == ("__init__" : Str) && (s1 == ("self" : Str) && (sup == ("super" : Str) && (ini == ("__init__" : Str) && (par2 == par && (decide (cv = -1) && (s2 == ("self" : Str) && (f2 == f && (par3 == par && (cn == ("__class__" : Str) && (decide (gl = mainGlobals) && (decide (bl = builtinsNs) &&
    (PySem.W.codeIn K (.ref cc) qual && (scB scope par && (!(par == ("__debug__" : Str)) && (!(par == ("self" : Str)) && (fiB K cc file && (ceB K cl C && (decide (pre.length ≤ 1000) && (q2.endLine == q7.line)))))))))))))))))))
  | _ => false
def fnB (K : PySem.W.Frag) (file : Str) (C : Addr) (f : Str) (fI : Addr) : Bool := match K.lookup fI with
  | some ⟨_, _, .func fd, _⟩ => bodyB K file C f fd
  | _ => false
def iniB (K : PySem.W.Frag) (file : Str) (C : Addr) (f : Str) : Bool := oexOk K C && (decide (PySem.W.findIn K (.ref C) "__setattr__" = some (some (.builtin "object.__setattr__"))) && (decide (PySem.W.subIn K (.ref C) (.type "BaseException") = some true) && (decide (PySem.W.typeIn K (.ref C) = some (.type "type")) && (PySem.W.keepIn K (.ref C) &&
  ((match PySem.W.findIn K (.ref C) "__init__" with | some (some (.ref fI)) => decide (PySem.W.typeIn K (.ref fI) = some (.type "function")) && fnB K file C f fI | _ => false) &&
  (decide (PySem.W.nsIn K cStatics "thirdparty.any" = some none) && (decide (PySem.W.ks_superIn K C C "__init__" = some (some (.builtin "ValueError.__init__"))) && (decide (PySem.W.subIn K (.ref C) (.type "ValueError") = some true) && decide (PySem.W.findIn K (.ref C) f = some none)))))))))
theorem iniB_ok {prog : Program} {K : PySem.W.Frag} {file : Str} {C : Addr} {f : Str} (h : iniB K file C f = true) (hfile : ((prog.main.file : Str) == file) = true) (htop : (prog.main.scope.names.lookup ("super" : Str)).isSome = false) : ∃ fI pre par d, IniC prog K C fI f pre par d := by
  unfold iniB at h
  simp only [Bool.and_eq_true, decide_eq_true_eq] at h
  obtain ⟨h1, h2, h3, h4, h5, h6, h7, h8, h9, h10⟩ := h
  split at h6
  rotate_left
  · cases h6
  rename_i fI hfI
  simp only [Bool.and_eq_true, decide_eq_true_eq] at h6
  obtain ⟨h6, hfn⟩ := h6
  unfold fnB at hfn
  split at hfn
  rotate_left
  · cases hfn
  rename_i oc od fd osl hfd
  unfold bodyB at hfn
  split at hfn
  rotate_left
  · cases hfn
  rename_i nm qual s1 q13 par q14 sup q0 q1 ini q2 pre j q3 par2 q4 cv q5 q6 q7 q8 s2 q9 f2 q10 par3 q11 q12 scope gl cn cl doc pm an cc ct bl
  simp only [Bool.and_eq_true, decide_eq_true_eq, beq_iff_eq, Bool.not_eq_true'] at hfn
  obtain ⟨rfl, rfl, rfl, rfl, rfl, rfl, rfl, rfl, rfl, rfl, rfl, rfl, e1, e2, e3, e4, e5, e6, e7, e8⟩ := hfn
  unfold scB at e2
  simp only [Bool.and_eq_true, decide_eq_true_eq, Bool.not_eq_true', List.all_eq_true] at e2
  obtain ⟨g1, g2, g3, g4, g5, g6, g7, g8⟩ := e2
  have kd : scope.kind = .function := by
    split at g1
    · assumption
    · cases g1
  unfold fiB at e5
  split at e5
  rotate_left
  · cases e5
  rename_i o1 o2 vs o3 hcc
  split at e5
  rotate_left
  · cases e5
  rename_i fl tf hvs
  have efl := eq_of_beq e5
  subst efl
  unfold ceB at e6
  split at e6
  rotate_left
  · cases e6
  rename_i o4 o5 C' o6 hcl
  have ecl := of_decide_eq_true e6
  subst ecl
  refine ⟨fI, pre, _, ⟨oc, od, osl, qual, scope, cl, cc, doc, pm, ct, an, fun n => match n with | 0 => q0 | 1 => q1 | 2 => q2 | 3 => q3 | 4 => q4 | 5 => q5 | 6 => q6 | 7 => q7 | 8 => q8 | 9 => q9 | 10 => q10 | 11 => q11 | 12 => q12 | 13 => q13 | _ => q14, j, _, vs, _, tf, _⟩, ⟨oexOk_ok h1, h2, h3, h4, h5⟩, hfI, h6, hfd, e1, kd, g2, g3, g4, g5, g6, g7, g8, e3, ?_, hcc, rfl, hvs, hfile, htop, hcl, rfl, h7, h8, h9, h10, e7, ?_⟩
  · intro z
    rw [z] at e4
    simp at e4
  · exact beq_iff_eq.mpr e8
end Rk
set_option Elab.async false
set_option linter.all false
set_option maxRecDepth 100000
set_option maxHeartbeats 4000000
namespace Rk
open PySem PySem.Spec PyProof.Rows L2
abbrev Fs := List (Str × D)
/-- raise C(z): its one field -/
def sRaise (c f : Str) (fs : EvA) : EvS := fun ρ => bdS (fs ρ) fun ds ρ1 => match ds with
  | [.str z] => if z.length ≤ 1000 then some (.ex c [(f, .str z)] ρ1) else none
  | _ => none
abbrev Pt := Fs → Option D
def pC (s : Str) : Pt := fun _ => some (.str s)
def pF (f : Str) : Pt := fun fs => match fs with
  | [(f0, d)] => if f = f0 then some d else none
  | _ => none
def pN : Pt := fun _ => none
def allP : List Pt → Fs → Option (List D)
  | [], _ => some []
  | p :: ps, fs => match p fs, allP ps fs with
    | some d, some ds => some (d :: ds)
    | _, _ => none
abbrev Rt := Fs → Option Sl
def hTup (ps : List Pt) : Rt := fun fs => match allP ps fs with
  | some ds => if ds.length ≤ big then some (.sh (.tuple ds)) else none
  | none => none
def hLst (ps : List Pt) : Rt := fun fs => match allP ps fs with
  | some ds => if ds.length ≤ big then some (.ow ds) else none
  | none => none
def hOne (p : Pt) : Rt := fun fs => (p fs).map .sh
/-- what a suite does with an error -/
abbrev Hs := Str → Fs → Rho → Option So
def hRet (r : Rt) : Hs := fun _ fs ρ => match r fs with
  | some v => some (.rt v ρ)
  | none => none
/-- l.append(p): l's slot j, the error's slot i -/
def hApp (pin : Pin) (j i : Nat) (p : Pt) : Hs := fun _ fs ρ => match p fs, slO ρ j, ρ[i]? with
  | some d, some ds, some .un => if ds.length < big ∧ j ≠ i ∧ pin i = false then some (.nx (ρ.set j (.ow (ds ++ [d])))) else none
  | _, _, _ => none
/-- isinstance(e, A) and isinstance(e, ValueError): the classes ls -/
def hIf (ls : List Str) (h1 h2 : Hs) : Hs := fun c fs ρ => if c ∈ ls then h1 c fs ρ else h2 c fs ρ
/-- the classes of which t is true -/
def hIfT (t : Str → Bool) (h1 h2 : Hs) : Hs := fun c fs ρ => if t c = true then h1 c fs ρ else h2 c fs ρ
def pickH : List (List Str × Hs) → Hs
  | [], c, fs, ρ => some (.ex c fs ρ)
  | (l, h) :: r, c, fs, ρ => if c ∈ l then h c fs ρ else pickH r c fs ρ
def kno (cs : List (Str × Str)) (c : Str) : Fs → Bool
  | [(f, _)] => decide ((c, f) ∈ cs)
  | _ => false
def sTry (cs : List (Str × Str)) (hs : List (List Str × Hs)) (fb : EvS) : EvS := fun ρ => match fb ρ with
  | some (.ex c fs ρ1) => if kno cs c fs then pickH hs c fs ρ1 else none
  | o => o
theorem kno_of {cs : List (Str × Str)} {c : Str} {fs : Fs} (h : kno cs c fs = true) : ∃ f d, fs = [(f, d)] ∧ (c, f) ∈ cs := by
  unfold kno at h
  split at h
  · exact ⟨_, _, rfl, of_decide_eq_true h⟩
  · cases h
section
variable {X : Cx} {g : Gd} {W : WX} {pn : Pin} {k : Nat}
theorem s_raise {C fI : Addr} {f pre par x : Str} {d : IniD} {a : Expr} {p pos rpos : Pos} {fs : EvA} (hc : X.calm = true) (tk : Takes X W) (I0 : IniC X.prog X.K C fI f pre par d) (hcl : g.cl x = some C) (hr : Room k X.A) (hg : Gl X x) (hm : X.mg x = some (.ref C)) (hms : X.mg "super" = none) (ha : PA X [a] (tDA g W fs))
    (hdb : (x == ("__debug__" : Str)) = false) (he : starEach [a] X.env = (false, eval a X.env) :: starEach [] X.env) : PS X (.Raise (some (.Call (.Name x p) [a] [] pos)) none rpos) (tDS g W pn (sRaise x f fs)) :=
  (ps_raise hc tk (pmk_ini I0 hr hg hm hms ha hdb he)).imp fun D σ H ⟨ρ, G, o, w, e, po⟩ =>
  tS_ba w e po.exn fun vs ds ρ1 G1 H1 s1 r1 e1 => by
    split at e1
    · rename_i z
      split at e1
      · rename_i hz
        cases e1
        cases r1 with | cons ra rr =>
        cases rr
        cases ra
        refine ⟨z, rfl, hz, fun dx hn => ?_⟩
        have gr : Grow G1 H1 G1 (upd H1 dx (.xd [(f, V.str z)])) := ⟨Same.refl _, fun b o q => by
          have nb : b ≠ dx := fun y => by
            have := s1.wo.gh b o q
            rw [y, hn] at this
            cases this
          rw [upd_ne nb]
          exact s1.wo.gh b o q, same_upd hn, fun _ h _ => h⟩
        exact po σ _ _ _ _ (s1.trans (s1.wo.step gr)).st ⟨C, dx, [V.str z], hcl, rfl, rfl, upd_same, .cons (.str z) .nil⟩
      · cases e1
    · cases e1
abbrev endsAt (D : Ends) (i : Nat) : Ends := { nx := fun σ' H' => D.nx (σ'.set i none) H', rt := D.rt, bk := fun σ' H' => D.bk (σ'.set i none) H', ct := fun σ' H' => D.ct (σ'.set i none) H' }
abbrev Cl := Value × Nat × (Addr → Value → Option Addr → TS)
def wManyA (K : PySem.W.Frag) (Wout : WX) (D : Ends) : List Cl → WX
  | [] => Wout
  | (c, i, ts) :: r => fun cls d σ H => ∃ b, PySem.W.exmOne K cls c = some b ∧ (b = true → ∀ a, H a = none → ts a cls d (endsAt D i) (σ.set i (some (.ref a))) H) ∧ (b = false → wManyA K Wout D r cls d σ H)
inductive HdsA (X : Cx) : List ExceptHandler → List Cl → Prop
  | nil : HdsA X [] []
  | cons {x n : Str} {c : Value} {i : Nat} {ts : Addr → Value → Option Addr → TS} {b₀ : Stmt} {suite : List Stmt} {np pos' : Pos} {hds : List ExceptHandler} {l : List Cl} (hc : Names X x c) (hi : X.N[i]? = some n) (hln : X.env.kindOf n = some .local)
      (hsu : ∀ (a : Addr) (oe : Obj) (cls : Value) (d : Option Addr) (pn : List (Addr × Obj)), Zc cls d oe → (∃ vs, oe.data = .fields vs) → PSs (X.suite a ((a, oe) :: pn)) (b₀ :: suite) (ts a cls d)) (r : HdsA X hds l) :
      HdsA X (.ExceptHandler (some (.Name x np)) (some n) (b₀ :: suite) pos' :: hds) ((c, i, ts) :: l)
theorem ps_try_manyA {body : List Stmt} {h₀ : ExceptHandler} {hds : List ExceptHandler} {l : List Cl} {pos : Pos} {tb : WX → TS} {Wout : WX} (hN : X.N.Nodup) (hs : X.stack = X.env :: X.outer) (hf : X.env.frame = some X.env.locals) (tk : Takes X Wout)
    (hb : ∀ (W : WX) (pn : List (Addr × Obj)) (xe : Value → Shared → Prop), Takes (X.tr pn xe) W → PassesOwn (model X.prog X.w) X.A X.env xe → PSs (X.tr pn xe) body (tb W))
    (hh : HdsA X (h₀ :: hds) l) : PS X (.Try body (h₀ :: hds) [] [] pos) (fun D σ H => tb (wManyA X.K Wout D l) D σ H) := by
  refine ⟨fun pins s σ H D I h => ?_⟩
  have ok := I.ok
  have hfr : X.A.frames = some (X.env :: X.outer) := by rw [ok.frames, hs]
  refine wpAny_Try_except ?_
  refine wpAny_mono ((hb (wManyA X.K Wout D l) (X.pn ++ pins) (fun e s₁ => wpAny (model X.prog X.w) X.A (noteFrame e X.env) (fun _ s₂ => wpAny (model X.prog X.w) X.A (setFlight e none) (fun _ s₃ =>
    wpAny (model X.prog X.w) X.A (handleBy e X.env (h₀ :: hds)) (SP X pins D) X.xe s₃) X.xe s₂) X.xe s₁) (fun u s' xx => ?_) PassesOwn.looking).run [] s σ H D (I.toTry _) h) (fun f s1 hsp => ?_) (fun e s1 he => he)
  · obtain ⟨a, B, sI, pins', σ', H', cls, d, rfl, J', nb, up, sky, na, os, ag, w⟩ := xx
    have J : Inv X pins σ' H' sI := J'.ofTry ok
    have sky' : Sky B (X.env :: X.outer) a (Zc cls d) X.env.locals s'.heap := by rw [← hs]; exact sky
    show wpAny (model X.prog X.w) X.A (noteFrame (.ref a) X.env) _ _ _
    refine Sky.land Zc.steady hfr hf sky' fun h3 fl3 up3 => ?_
    have J3 : Inv X pins σ' H' { s' with heap := h3 } := J.landed nb fl3.1 (up.trans up3) os ag
    obtain ⟨oe3, vs3, he3, hz3, hd3⟩ := fl3.there
    have nfr : a ∉ frs (X.env :: X.outer) := fun hm => by
      obtain ⟨_, o', e', hnf⟩ := fl3.2.2.1.mem hm
      rw [he3] at e'; cases e'
      exact hnf _ hd3
    have nL : a ≠ X.env.locals := fun z => nfr (List.mem_filterMap.mpr ⟨X.env, List.mem_cons_self, by rw [hf, z]⟩)
    have nF : a ∉ X.fs := fun hm => by
      obtain ⟨e, he, q⟩ := List.mem_filterMap.mp hm
      exact nfr (List.mem_filterMap.mpr ⟨e, List.mem_cons_of_mem _ he, q⟩)
    have S3 := J3.suite he3 hd3 na nL nF
    have go : ∀ {hds' : List ExceptHandler} {l' : List Cl}, HdsA X hds' l' → wManyA X.K Wout D l' cls d σ' H' →
        wpAny (model X.prog X.w) X.A (handleBy (.ref a) X.env hds') (SP X pins D) X.xe { s' with heap := h3 } := by
      intro hds' l' hk
      induction hk with
      | nil =>
        intro w
        refine wpAny_handleBy_nil ?_
        obtain ⟨k1, k2, k3, oe, vs, T, oT, ts', he, hz, hd, h1, hr⟩ := id fl3
        unfold PySem.passOn
        refine wpAny_bind (wpAny_field he hd h1 ?_)
        rw [if_neg (show ¬ ((Value.ref T == Value.none) = true) from by simp)]
        have fin : wpAny (model X.prog X.w) X.A (setFlight (.ref a) X.env.frame) (fun _ s4 => wpAny (model X.prog X.w) X.A (throw (.ref a) : Sem Flow) (SP X pins D) X.xe s4) X.xe { s' with heap := h3 } := by
          rw [hf]
          refine HandSPX.setFlight_upZ fl3 fun h4 hh4 up4 => wpAny_throw (tk _ _ ?_)
          exact ⟨a, B, sI, pins, σ', H', cls, d, rfl, J, nb, (up.trans up3).trans up4, .inr (.inr (by rw [hs]; exact hh4)), na, os, ag, w⟩
        first
          | exact wpAny_bind (wpAny_pure (wpAny_bind fin))
          | exact wpAny_bind fin
      | @cons x n c i ts b₀ suite np pos' hds2 l2 hc hi hln hsu r ih =>
        intro w
        obtain ⟨b, hb1, hyes, hno⟩ := w
        refine wpAny_handleBy_cons (codeAny_handlers_test ?_) (by intro q; cases q)
        have LT : PySem.W.Looks (model X.prog X.w) h3 (typeOf (.ref a)) cls := fun A Q E s k q => wpAny_typeOf_ref (k _ _ he3) (by rw [hz3.1]; exact q)
        have LM := PySem.W.exm_one (M := model X.prog X.w) (J3.kIn) LT hb1
        have test : ∀ {Q : Value → Shared → Prop} {E : Value → Shared → Prop}, Q c { s' with heap := h3 } → wpAny (model X.prog X.w) (X.A.mark (some (.ref a))) (eval (.Name x np) X.env) Q E { s' with heap := h3 } := fun {Q E} q => by
          obtain ⟨hg, hdbg, hm | ⟨hm, hv, hnn⟩⟩ := hc
          · exact ld_glob (X := X.suite a ((a, oe3) :: (X.pn ++ pins))) S3 hg hm q hdbg
          · exact ld_blt (X := X.suite a ((a, oe3) :: (X.pn ++ pins))) S3 hg hm hv q hnn hdbg
        refine test (LM.here ?_)
        cases b with
        | true =>
          refine codeAny_handlers_suite_as ?_
          refine HandSPX.lands_againZ fl3 fun h4 fl4 up4 => ?_
          have J4 : Inv X pins σ' H' { s' with heap := h4 } := J.landed nb fl4.1 ((up.trans up3).trans up4) os ag
          obtain ⟨oe4, vs4, he4, hz4, hd4⟩ := fl4.there
          have S4 := J4.suite he4 hd4 na nL nF
          refine store_ok (X := X.suite a ((a, oe4) :: (X.pn ++ pins))) (v := .ref a) S4 hN hi (.inl hln) rfl (fun s5 S5 => ?_) (.inr hln)
          refine wpAny_mono ((hsu a oe4 cls d (X.pn ++ pins) hz4 ⟨_, hd4⟩).run [] s5 _ H' _ S5 (hyes rfl a na)) (fun f s6 hsp => ?_) (fun _ _ z => False.elim z)
          have end_ : ∀ {σ6 : St} {H6 : Hp} {Q : Shared → Prop}, Inv (X.suite a ((a, oe4) :: (X.pn ++ pins))) [] σ6 H6 s6 → (∀ s7, Inv X pins (σ6.set i none) H6 s7 → Q s7) →
              wpAny (model X.prog X.w) X.A (do bindName X.env n .none; unbindBehindTheSuite X.env n pos') (fun _ s7 => Q s7) X.xe s6 := fun {σ6 H6 Q} S6 hq => gone_ok (S6.unsuite ok) hN hi hln hq
          cases f with
          | next =>
            obtain ⟨σ6, H6, S6, q6⟩ := hsp
            exact end_ S6 fun s7 J7 => ⟨_, _, J7, q6⟩
          | brk =>
            obtain ⟨σ6, H6, S6, q6⟩ := hsp
            exact end_ S6 fun s7 J7 => ⟨_, _, J7, q6⟩
          | cont =>
            obtain ⟨σ6, H6, S6, q6⟩ := hsp
            exact end_ S6 fun s7 J7 => ⟨_, _, J7, q6⟩
          | ret u =>
            obtain ⟨v6, σ6, H6, S6, r6, q6⟩ := hsp
            exact end_ S6 fun s7 J7 => ⟨_, _, _, J7, r6, q6⟩
        | false =>
          show wpAny _ X.A (handleBy (.ref a) X.env hds2) _ _ _
          exact ih (hno rfl)
    exact go hh w
  · cases f with
    | next =>
      obtain ⟨σ', H', J', q⟩ := hsp
      exact wpAny_execs_nil ⟨σ', H', J'.ofTry ok, q⟩
    | brk =>
      obtain ⟨σ', H', J', q⟩ := hsp
      exact ⟨σ', H', J'.ofTry ok, q⟩
    | cont =>
      obtain ⟨σ', H', J', q⟩ := hsp
      exact ⟨σ', H', J'.ofTry ok, q⟩
    | ret u =>
      obtain ⟨v, σ', H', J', r, q⟩ := hsp
      exact ⟨v, σ', H', J'.ofTry ok, r, q⟩
/-- a class of errors of the program, with the name of its field -/
structure IsiC (K : PySem.W.Frag) (C : Addr) : Prop where
  hcl : (PySem.W.clsIn K C).isSome = true
  ha : PySem.W.findIn K (.ref C) "__class__" = some (some (.builtin "object.__class__"))
  hn : PySem.W.specialIn K (.builtin "object.__class__") "__get__" = some (some (.builtin "getset_descriptor.__get__"))
  ht : PySem.W.takesIn K (.builtin "object.__class__") = some true
  hm : PySem.W.mroIn K C (.type "object") = some true
  vE : PySem.W.kitOne K (.ref C) (.type "ValueError") = some true
def isiCB (K : PySem.W.Frag) (C : Addr) : Bool := (PySem.W.clsIn K C).isSome && (decide (PySem.W.findIn K (.ref C) "__class__" = some (some (.builtin "object.__class__"))) && (decide (PySem.W.specialIn K (.builtin "object.__class__") "__get__" = some (some (.builtin "getset_descriptor.__get__"))) && (decide (PySem.W.takesIn K (.builtin "object.__class__") = some true) && (decide (PySem.W.mroIn K C (.type "object") = some true) && decide (PySem.W.kitOne K (.ref C) (.type "ValueError") = some true)))))
theorem isiCB_ok {K : PySem.W.Frag} {C : Addr} (h : isiCB K C = true) : IsiC K C := by
  unfold isiCB at h
  simp only [Bool.and_eq_true, decide_eq_true_eq] at h
  obtain ⟨h1, h2, h3, h4, h5, h6⟩ := h
  exact ⟨h1, h2, h3, h4, h5, h6⟩
def ClsOk (prog : Program) (g : Gd) (mg : Str → Option Value) (c f : Str) : Prop := ∃ C fI pre par d, mg c = some (.ref C) ∧ g.cl c = some C ∧ IniC prog g.K C fI f pre par d ∧ XfC g.K C ∧ IsiC g.K C
def AtH (g : Gd) (cs : List (Str × Str)) (i : Nat) (a : Addr) (cls : Value) (d : Option Addr) (σ : St) (G H : Hp) (c : Str) (fs : Fs) : Prop := σ[i]? = some (some (.ref a)) ∧ kno cs c fs = true ∧ XdOk g G H c fs cls d
def tH (g : Gd) (W : WX) (pn : Pin) (cs : List (Str × Str)) (i : Nat) (hf : Hs) (a : Addr) (cls : Value) (d : Option Addr) : TS := fun D σ H => ∃ c fs ρ G o σ0 D0, D = endsAt D0 i ∧ σ = σ0.set i (some (.ref a)) ∧ i < σ0.length ∧ Wo g σ0 ρ G H ∧ H a = none ∧ kno cs c fs = true ∧ XdOk g G H c fs cls d ∧ hf c fs ρ = some o ∧ PostS g W pn D0 σ0 ρ G H o
/-- the clauses as data -/
inductive HdsD (g : Gd) (W : WX) (X : Cx) (pn : Pin) (cs : List (Str × Str)) : List ExceptHandler → List (List Str × Hs) → List Cl → Prop
  | nil : HdsD g W X pn cs [] [] []
  | cons {x n : Str} {cx : Addr} {i : Nat} {ls : List Str} {hf : Hs} {b₀ : Stmt} {suite : List Stmt} {np pos' : Pos} {hds : List ExceptHandler} {hs : List (List Str × Hs)} {l : List Cl} (hc : Names X x (.ref cx)) (hm : ∀ p ∈ cs, ∀ C, g.cl p.1 = some C → PySem.W.exmOne X.K (.ref C) (.ref cx) = some (decide (p.1 ∈ ls))) (hi : X.N[i]? = some n) (hln : X.env.kindOf n = some .local)
      (hsu : ∀ (a : Addr) (oe : Obj) (cls : Value) (d : Option Addr) (pn' : List (Addr × Obj)), Zc cls d oe → (∃ vs, oe.data = .fields vs) → PSs (X.suite a ((a, oe) :: pn')) (b₀ :: suite) (tH g W pn cs i hf a cls d)) (r : HdsD g W X pn cs hds hs l) :
      HdsD g W X pn cs (.ExceptHandler (some (.Name x np)) (some n) (b₀ :: suite) pos' :: hds) ((ls, hf) :: hs) ((.ref cx, i, tH g W pn cs i hf) :: l)
theorem HdsD.a {cs : List (Str × Str)} {hds : List ExceptHandler} {hs : List (List Str × Hs)} {l : List Cl} (h : HdsD g W X pn cs hds hs l) : HdsA X hds l := by
  induction h with
  | nil => exact .nil
  | cons hc hm hi hln hsu r ih => exact .cons hc hi hln hsu ih
theorem pick_ok {cs : List (Str × Str)} {hds : List ExceptHandler} {hs : List (List Str × Hs)} {l : List Cl} (h : HdsD g W X pn cs hds hs l) {D : Ends} {c : Str} {fs : Fs} {ρ : Rho} {G H : Hp} {o : So} {σ : St} {cls : Value} {d : Option Addr} (hl : σ.length = X.N.length) (w : Wo g σ ρ G H) (x : XdOk g G H c fs cls d) (hk : kno cs c fs = true) (e : pickH hs c fs ρ = some o) (p : PostS g W pn D σ ρ G H o) : wManyA X.K W D l cls d σ H := by
  induction h with
  | nil =>
    cases e
    exact p σ cls d G H (StE.refl w).st x
  | @cons xn n cx i ls hf b0 suite np pos' hds hs l hc hm hi hln hsu r ih =>
    obtain ⟨f, dv, rfl, hmem⟩ := kno_of hk
    obtain ⟨C, dx, vs, h1, h2, h3, h4, h5⟩ := id x
    subst h2
    have hx := hm _ hmem C h1
    unfold pickH at e
    refine ⟨_, hx, fun hb a na => ?_, fun hb => ?_⟩
    · rw [if_pos (of_decide_eq_true hb)] at e
      have hil : i < σ.length := by rw [hl]; exact (List.getElem?_eq_some_iff.mp hi).1
      exact ⟨c, _, ρ, G, o, σ, D, rfl, rfl, hil, w, na, hk, x, e, p⟩
    · rw [if_neg (of_decide_eq_false hb)] at e
      exact ih e
theorem s_try {cs : List (Str × Str)} {hs : List (List Str × Hs)} {l : List Cl} {body : List Stmt} {h₀ : ExceptHandler} {hds : List ExceptHandler} {pos : Pos} {fb : EvS} (hN : X.N.Nodup) (hst : X.stack = X.env :: X.outer) (hf : X.env.frame = some X.env.locals) (tk : Takes X W)
    (hb : ∀ (W' : WX) (pn' : List (Addr × Obj)) (xe : Value → Shared → Prop), Takes (X.tr pn' xe) W' → PassesOwn (model X.prog X.w) X.A X.env xe → PSs (X.tr pn' xe) body (tDS g W' pn fb))
    (hh : HdsD g W X pn cs (h₀ :: hds) hs l) : PS X (.Try body (h₀ :: hds) [] [] pos) (tDS g W pn (sTry cs hs fb)) := by
  refine ⟨fun pins s σ H D I q => ?_⟩
  refine (ps_try_manyA hN hst hf tk (tb := fun W' => tDS g W' pn fb) hb hh.a).run pins s σ H D I ?_
  have hlen := I.len
  obtain ⟨ρ, G, o, w, e, p⟩ := q
  unfold sTry at e
  cases q : fb ρ with
  | none => rw [q] at e; cases e
  | some ob =>
    rw [q] at e
    refine ⟨ρ, G, ob, w, q, ?_⟩
    cases ob with
    | nx ρ' => cases e; exact p
    | rt r ρ' => cases e; exact p
    | bk ρ' => cases e; exact p
    | ct ρ' => cases e; exact p
    | ex c fs ρ1 =>
      dsimp only at e
      split at e
      · rename_i hk
        intro σ' cls d G' H' st x
        exact pick_ok hh (st.ln.trans hlen) st.wo x hk e (p.step st)
      · cases e
def partT (n : Str) : Expr → Pt
  | .Constant (.str s) _ _ => pC s
  | .Attribute (.Name m _) f _ => if m = n then pF f else pN
  | _ => pN
def retT (n : Str) : Expr → Rt
  | .Tuple es _ _ => if es.all notStar then hTup (es.map (partT n)) else fun _ => none
  | .List es _ => if es.all notStar then hLst (es.map (partT n)) else fun _ => none
  | e => hOne (partT n e)
def tPart (g : Gd) (cs : List (Str × Str)) (i : Nat) (a : Addr) (cls : Value) (d : Option Addr) (p : Pt) : TE := fun σ H Q => ∃ c fs G dv, Same G H ∧ AtH g cs i a cls d σ G H c fs ∧ p fs = some dv ∧ ∀ v, Rp g.K G v dv → Q v H
def tParts (g : Gd) (cs : List (Str × Str)) (i : Nat) (a : Addr) (cls : Value) (d : Option Addr) (ps : List Pt) : TA := fun σ H Q => ∃ c fs G ds, Same G H ∧ AtH g cs i a cls d σ G H c fs ∧ allP ps fs = some ds ∧ ∀ vs, RpAll g.K G vs ds → Q vs H
section
variable {cs : List (Str × Str)} {i : Nat} {a : Addr} {cls : Value} {d : Option Addr} {oe : Obj} {pn' : List (Addr × Obj)} {n : Str}
theorem part_ok (hK : g.K = X.K) (hcs : ∀ p ∈ cs, ClsOk X.prog g X.mg p.1 p.2) (hi : X.N[i]? = some n) (hln : X.env.kindOf n = some .local) (hdb : (n == ("__debug__" : Str)) = false) (hdc : (n == ("__classdict__" : Str)) = false) (hz : Zc cls d oe) (hf : ∃ vs, oe.data = .fields vs) :
    ∀ e : Expr, PE (X.suite a ((a, oe) :: pn')) e (tPart g cs i a cls d (partT n e)) := fun e => by
  have no : ∀ {e : Expr}, PE (X.suite a ((a, oe) :: pn')) e (tPart g cs i a cls d pN) := fun {e} => ⟨fun _ _ _ _ _ _ ⟨_, _, _, _, _, _, h, _⟩ => by cases h⟩
  unfold partT
  split
  · exact pe_str.imp fun σ H Q ⟨c, fs, G, dv, _, _, h, k⟩ => by
      cases h
      exact k _ (.str _)
  · split
    · rename_i m mp f fp hm
      subst hm
      refine ⟨fun pins s σ H Q I ⟨c, fs, G, dv, sm, ⟨h1, h2, h3⟩, h, k⟩ => ?_⟩
      obtain ⟨f0, d0, rfl, hmem⟩ := kno_of h2
      obtain ⟨C, dx, vs, x1, x2, x3, x4, x5⟩ := h3
      obtain ⟨C', fI, pre, par, dd, y1, y2, y3, y4, _⟩ := hcs _ hmem
      rw [x1] at y2
      cases y2
      have h : (if f = f0 then some d0 else none) = some dv := h
      split at h
      · rename_i hff
        cases h
        subst hff
        cases x5 with | cons r5 rr =>
        cases rr
        rename_i v0
        rw [hK] at y3 y4
        refine (pe_xf y4 y3.fno hz hf (pe_var hi (.inl hln) hdb hdc) (base_plain rfl)).run pins s σ H Q I ⟨.ref a, h1, rfl, x2, dx, [(f, v0)], v0, x3, x4, by simp [List.lookup], k _ r5⟩
      · cases h
    · exact no
  · exact no
theorem parts_ok (hp : ∀ e : Expr, PE (X.suite a ((a, oe) :: pn')) e (tPart g cs i a cls d (partT n e))) : ∀ es : List Expr, es.all notStar = true → PA (X.suite a ((a, oe) :: pn')) es (tParts g cs i a cls d (es.map (partT n)))
  | [], _ => pa_nil.imp fun σ H Q ⟨c, fs, G, ds, _, _, h, k⟩ => by
    cases h
    exact k [] .nil
  | e :: es, hs => by
    rw [List.all_cons, Bool.and_eq_true] at hs
    exact (pa_cons (hp e) (parts_ok hp es hs.2) (star_cons hs.1)).imp fun σ H Q ⟨c, fs, G, ds, sm, h1, h, k⟩ => by
      have h : (match partT n e fs, allP (es.map (partT n)) fs with | some d, some ds => some (d :: ds) | _, _ => none) = some ds := h
      split at h
      · rename_i dv dvs q1 q2
        cases h
        exact ⟨c, fs, G, dv, sm, h1, q1, fun v r => ⟨c, fs, G, dvs, sm, h1, q2, fun vs rs => k _ (.cons r rs)⟩⟩
      · cases h
def tRetV (g : Gd) (cs : List (Str × Str)) (i : Nat) (a : Addr) (cls : Value) (d : Option Addr) (r : Rt) : TE := fun σ H Q => ∃ c fs G z, Same G H ∧ AtH g cs i a cls d σ G H c fs ∧ r fs = some z ∧ Kq g G H Q z
theorem ret_ok (hp : ∀ e : Expr, PE (X.suite a ((a, oe) :: pn')) e (tPart g cs i a cls d (partT n e))) (e : Expr) : PE (X.suite a ((a, oe) :: pn')) e (tRetV g cs i a cls d (retT n e)) := by
  have one : ∀ e : Expr, PE (X.suite a ((a, oe) :: pn')) e (tRetV g cs i a cls d (hOne (partT n e))) := fun e => (hp e).imp fun σ H Q ⟨c, fs, G, z, sm, h1, h, k⟩ => by
    unfold hOne at h
    obtain ⟨dv, q1, rfl⟩ := Option.map_eq_some_iff.mp h
    exact ⟨c, fs, G, dv, sm, h1, q1, fun v r => k.sh sm r⟩
  have no : ∀ {e : Expr}, PE (X.suite a ((a, oe) :: pn')) e (tRetV g cs i a cls d fun _ => none) := fun {e} => ⟨fun _ _ _ _ _ _ ⟨_, _, _, _, _, _, h, _⟩ => by cases h⟩
  unfold retT
  split
  · rename_i es _ _
    split
    · rename_i hs
      exact (pe_tupF (parts_ok hp es hs)).imp fun σ H Q ⟨c, fs, G, z, sm, h1, h, k⟩ => by
        unfold hTup at h
        split at h
        · rename_i ds q
          split at h
          · rename_i hb
            cases h
            exact ⟨c, fs, G, ds, sm, h1, q, fun vs rs => ⟨by rw [rs.len, ← big_eq]; exact hb, fun p o hq hd => k.tup sm hq hd rs⟩⟩
          · cases h
        · cases h
    · exact no
  · rename_i es _
    split
    · rename_i hs
      exact (pe_lst (parts_ok hp es hs)).imp fun σ H Q ⟨c, fs, G, z, sm, h1, h, k⟩ => by
        unfold hLst at h
        split at h
        · rename_i ds q
          split at h
          · rename_i hb
            cases h
            exact ⟨c, fs, G, ds, sm, h1, q, fun vs rs => ⟨by rw [rs.len, ← big_eq]; exact hb, fun p hq => k.ow sm hq rs⟩⟩
          · cases h
        · cases h
    · exact no
  · exact one _
theorem h_ret (hp : ∀ e : Expr, PE (X.suite a ((a, oe) :: pn')) e (tPart g cs i a cls d (partT n e))) {e : Expr} {rp : Pos} : PSs (X.suite a ((a, oe) :: pn')) [.Return (some e) rp] (tH g W pn cs i (hRet (retT n e)) a cls d) :=
  (pss_cons (ps_ret (ret_ok hp e)) pss_nil).imp fun D σ H ⟨c, fs, ρ, G, o, σ0, D0, hD, hσ, hil, w, na, hk, x, h, p⟩ => by
    subst hD hσ
    unfold hRet at h
    split at h
    · rename_i z q
      cases h
      exact ⟨c, fs, G, z, w.gh, ⟨by rw [List.getElem?_set_self hil], hk, x⟩, q, fun v G' H' gr y => p σ0 v G' H' (w.step gr).st y⟩
    · cases h
theorem Wo.gone {σ : St} {ρ : Rho} {G H : Hp} {i : Nat} (w : Wo g σ ρ G H) (h : ρ[i]? = some .un) (hp : pn i = false) (v : Option V) : StS g pn σ ρ G H (σ.set i v) ρ G H where
  gg := Same.refl _
  wo := ⟨w.gh, by rw [List.length_set]; exact w.len, fun k s e => by
    by_cases q : i = k
    · subst q
      rw [h] at e
      cases e
      trivial
    · rw [List.getElem?_set_ne q]
      exact w.sl k s e, fun k l a ds es e1 e2 e3 e4 => by
    have k1 : i ≠ k := fun q => by
      subst q
      rw [h] at e1
      cases e1
    have k2 : i ≠ l := fun q => by
      subst q
      rw [h] at e2
      cases e2
    rw [List.getElem?_set_ne k1] at e3
    rw [List.getElem?_set_ne k2] at e4
    exact w.dj k l a ds es e1 e2 e3 e4, w.tb⟩
  fr := fun _ _ e _ _ => e
  al := fun _ h => h
  nc := fun _ h _ _ => h
  ow := fun a ⟨k, ds, e1, e2⟩ => by
    have k1 : i ≠ k := fun q => by
      subst q
      rw [h] at e1
      cases e1
    rw [List.getElem?_set_ne k1] at e2
    exact .inl ⟨k, ds, e1, e2⟩
  kp := fun k hk => List.getElem?_set_ne fun q => by
    rw [q] at hp
    rw [hp] at hk
    cases hk
  sw := fun _ _ ds e => ⟨ds, e⟩
  ln := by rw [List.length_set]
theorem h_app (hp : ∀ e : Expr, PE (X.suite a ((a, oe) :: pn')) e (tPart g cs i a cls d (partT n e))) {j : Nat} {y : Str} {yp ap cp ep : Pos} {e : Expr} (hN : X.N[j]? = some y) (hv : Vis X.env.scope y) (hd : (y == ("__debug__" : Str)) = false) (hcd : (y == ("__classdict__" : Str)) = false) (hs : notStar e = true) (hl : (ap.endLine == cp.line) = true) :
    PSs (X.suite a ((a, oe) :: pn')) [.Expr (.Call (.Attribute (.Name y yp) "append" ap) [e] [] cp) ep] (tH g W pn cs i (hApp pn j i (partT n e)) a cls d) :=
  (pss_cons (X := X.suite a ((a, oe) :: pn')) (ps_expr (X := X.suite a ((a, oe) :: pn')) (pe_bm (X := X.suite a ((a, oe) :: pn')) PySem.F.plainAttrs_list PySem.F.slot_list_append PySem.F.type_list_append mt_append (pe_var (X := X.suite a ((a, oe) :: pn')) hN hv hd hcd) (pa_cons (X := X.suite a ((a, oe) :: pn')) (hp e) pa_nil (star_cons hs)) rfl (few_one hs) hl (star_cons hs) rfl) (no_swap rfl)) pss_nil).imp fun D σ H ⟨c, fs, ρ, G, o, σ0, D0, hD, hσ, hil, w, na, hk, x, h, p⟩ => by
    subst hD hσ
    unfold hApp at h
    split at h
    · rename_i dv ds q1 q2 q3
      split at h
      · rename_i hc
        cases h
        obtain ⟨a1, xs, ea, _, hh, ra⟩ := w.own q2
        have ej : (σ0.set i (some (.ref a)))[j]? = some (some (.ref a1)) := by
          rw [List.getElem?_set_ne (Ne.symm hc.2.1)]
          exact ea
        refine ⟨.ref a1, ej, own_ty hh, c, fs, G, dv, w.gh, ⟨by rw [List.getElem?_set_self hil], hk, x⟩, q1, fun v r => ⟨a1, xs, v, rfl, rfl, hh, by rw [ra.len, ← big_eq]; exact hc.1, ?_⟩⟩
        have st := w.mutAt (slO_at q2) ea (ra.app (.one r))
        have un : (ρ.set j (.ow (ds ++ [dv])))[i]? = some .un := by
          rw [List.getElem?_set_ne hc.2.1]
          exact q3
        have fin := p _ _ _ (st.st.trans (st.wo.gone un hc.2.2 none))
        show D0.nx ((σ0.set i (some (.ref a))).set i none) _
        rw [List.set_set]
        exact fin
      · cases h
    · cases h
def rIsX (K : PySem.W.Frag) (a : Addr) (cls : Value) (d : Option Addr) : List V → Hp → VK → Prop := fun xs H Q => ∃ (C dx : Addr) (fs : List (Str × V)) (c : V) (cv : Value) (b : Bool), cls = .ref C ∧ IsiC K C ∧ XfC K C ∧ d = some dx ∧ H dx = some (.xd fs) ∧ xs = [.ref a, c] ∧ (∀ u, RelV c u → u = cv) ∧ PySem.W.kitOne K (.ref C) cv = some b ∧ Q (.bl b) H
theorem call_isX (hz : Zc cls d oe) (hf : ∃ vs, oe.data = .fields vs) : CallR (X.suite a ((a, oe) :: pn')) (.builtin "isinstance") (rIsX X.K a cls d) := by
  intro pins s σ H xs us Q I r h
  obtain ⟨C, dx, fs, c, cv, b, rfl, IC, XC, rfl, hH, rfl, hcv, e, q⟩ := h
  cases r with
  | cons rx rr =>
    cases rr with
    | cons rt rr =>
      cases rr
      cases rx
      have ec := hcv _ rt
      subst ec
      obtain ⟨ha, _⟩ := I.pin (a, oe) (List.mem_append_left _ List.mem_cons_self)
      obtain ⟨vs, hd⟩ := hf
      have hx : ObjOk X.prog X.w H s.heap dx (.xd fs) := I.hok dx _ hH
      obtain ⟨mA, hns, hr⟩ := hx
      obtain ⟨od, ho, hl⟩ := lookIn_ns hns
      have J : PySem.W.InstAt s.heap a oe C (some od) := ⟨ha, hz.1, by unfold PySem.W.notCls; rw [hd] <;> rfl, by rw [hz.2]; exact ho⟩
      exact PySem.W.kia_one (PySem.W.kitx_exc IC.hcl XC.ga XC.gg XC.exC IC.ha IC.hn IC.ht IC.hm) I.kIn J e (fun z => nomatch z) fun tk => ⟨.bl b, H, I.tok tk, rfl, q⟩
def tIsX (g : Gd) (cs : List (Str × Str)) (i : Nat) (a : Addr) (cls : Value) (d : Option Addr) (tst : Str → Bool) : TE := fun σ H Q => ∃ c fs G, Same G H ∧ AtH g cs i a cls d σ G H c fs ∧ Q (.bl (tst c)) H
def tIsT (g : Gd) (cs : List (Str × Str)) (i : Nat) (a : Addr) (cls : Value) (d : Option Addr) (tst : Str → Bool) : TT := fun σ H Q => ∃ c fs G, Same G H ∧ AtH g cs i a cls d σ G H c fs ∧ Q (tst c) H
theorem pe_isX (hK : g.K = X.K) (hcs : ∀ p ∈ cs, ClsOk X.prog g X.mg p.1 p.2) (hi : X.N[i]? = some n) (hln : X.env.kindOf n = some .local) (hdb : (n == ("__debug__" : Str)) = false) (hdc : (n == ("__classdict__" : Str)) = false) (hz : Zc cls d oe) (hf : ∃ vs, oe.data = .fields vs)
    {v : V} {u : Value} {A : Str} {tst : Str → Bool} {p np ap pos : Pos} (hA : PE (X.suite a ((a, oe) :: pn')) (.Name A ap) (tC v)) (rv : ∀ u', RelV v u' → u' = u) (hk : ∀ p ∈ cs, ∀ C, g.cl p.1 = some C → PySem.W.kitOne X.K (.ref C) u = some (tst p.1)) (hg : Gl X "isinstance") (hm : X.mg "isinstance" = none) :
    PE (X.suite a ((a, oe) :: pn')) (.Call (.Name "isinstance" p) [.Name n np, .Name A ap] [] pos) (tIsX g cs i a cls d tst) :=
  (pe_callB (X := X.suite a ((a, oe) :: pn')) (call_isX hz hf) hg hm (by decide +kernel) (pa_cons (X := X.suite a ((a, oe) :: pn')) (pe_var (X := X.suite a ((a, oe) :: pn')) hi (.inl hln) hdb hdc) (pa_cons (X := X.suite a ((a, oe) :: pn')) hA pa_nil (star_cons rfl)) (star_cons rfl)) (by decide) (by decide) (star_cons rfl)).imp fun σ H Q ⟨c, fs, G, sm, ⟨h1, h2, h3⟩, q⟩ => by
    obtain ⟨f0, d0, rfl, hmem⟩ := kno_of h2
    obtain ⟨C, dx, vs, x1, x2, x3, x4, x5⟩ := h3
    obtain ⟨C', fI, pre, par, dd, y1, y2, y3, y4, y5⟩ := hcs _ hmem
    rw [x1] at y2
    cases y2
    rw [hK] at y4 y5
    exact ⟨.ref a, h1, C, dx, _, v, u, tst c, x2, y5, y4, x3, x4, rfl, rv, hk _ hmem C x1, q⟩
theorem h_if {r1 r2 : Rt} {e1 e2 a1 a2 : Expr} {ls : List Str} {bp ip p1 p2 : Pos} (h1 : PE (X.suite a ((a, oe) :: pn')) a1 (tIsX g cs i a cls d fun c => decide (c ∈ ls))) (h2 : PE (X.suite a ((a, oe) :: pn')) a2 (tIsX g cs i a cls d fun _ => true))
    (w1 : ∀ whole, isTrue a1 X.env whole = (do let v ← whole; standAt a1.pos; holding [v] (truthy v))) (w2 : ∀ whole, isTrue a2 X.env whole = (do let v ← whole; standAt a2.pos; holding [v] (truthy v)))
    (he1 : PE (X.suite a ((a, oe) :: pn')) e1 (tRetV g cs i a cls d r1)) (he2 : PE (X.suite a ((a, oe) :: pn')) e2 (tRetV g cs i a cls d r2)) :
    PSs (X.suite a ((a, oe) :: pn')) [.If (.BoolOp .And [a1, a2] bp) [.Return (some e1) p1] [] ip, .Return (some e2) p2] (tH g W pn cs i (hIf ls (hRet r1) (hRet r2)) a cls d) :=
  (pss_cons (X := X.suite a ((a, oe) :: pn')) (ps_if (X := X.suite a ((a, oe) :: pn')) (pw_and (X := X.suite a ((a, oe) :: pn')) (pt_val (X := X.suite a ((a, oe) :: pn')) h1 w1) (pw_and1 (X := X.suite a ((a, oe) :: pn')) (pt_val (X := X.suite a ((a, oe) :: pn')) h2 w2))).pt (pss_cons (ps_ret he1) pss_nil) pss_nil) (pss_cons (X := X.suite a ((a, oe) :: pn')) (ps_ret he2) pss_nil)).imp fun D σ H ⟨c, fs, ρ, G, o, σ0, D0, hD, hσ, hil, w, na, hk, x, h, p⟩ => by
    subst hD hσ
    have at_ : AtH g cs i a cls d (σ0.set i (some (.ref a))) G H c fs := ⟨by rw [List.getElem?_set_self hil], hk, x⟩
    unfold hIf at h
    by_cases q : c ∈ ls
    · rw [if_pos q] at h
      unfold hRet at h
      split at h
      · rename_i z qz
        cases h
        refine ⟨c, fs, G, w.gh, at_, true, congrArg V.bl (decide_eq_true q), ⟨c, fs, G, w.gh, at_, true, rfl, ?_⟩⟩
        exact ⟨c, fs, G, z, w.gh, at_, qz, fun v G' H' gr y => p σ0 v G' H' (w.step gr).st y⟩
      · cases h
    · rw [if_neg q] at h
      unfold hRet at h
      split at h
      · rename_i z qz
        cases h
        refine ⟨c, fs, G, w.gh, at_, false, congrArg V.bl (decide_eq_false q), ?_⟩
        exact ⟨c, fs, G, z, w.gh, at_, qz, fun v G' H' gr y => p σ0 v G' H' (w.step gr).st y⟩
      · cases h
theorem h_ifG {r1 : Rt} {hf2 : Hs} {e1 c : Expr} {rest : List Stmt} {tst : Str → Bool} {ip p1 : Pos} (h1 : PT (X.suite a ((a, oe) :: pn')) c (tIsT g cs i a cls d tst))
    (he1 : PE (X.suite a ((a, oe) :: pn')) e1 (tRetV g cs i a cls d r1)) (h2 : PSs (X.suite a ((a, oe) :: pn')) rest (tH g W pn cs i hf2 a cls d)) :
    PSs (X.suite a ((a, oe) :: pn')) (.If c [.Return (some e1) p1] [] ip :: rest) (tH g W pn cs i (hIfT tst (hRet r1) hf2) a cls d) :=
  (pss_cons (X := X.suite a ((a, oe) :: pn')) (ps_if (X := X.suite a ((a, oe) :: pn')) h1 (pss_cons (ps_ret he1) pss_nil) pss_nil) h2).imp fun D σ H ⟨c, fs, ρ, G, o, σ0, D0, hD, hσ, hil, w, na, hk, x, h, p⟩ => by
    subst hD hσ
    have at_ : AtH g cs i a cls d (σ0.set i (some (.ref a))) G H c fs := ⟨by rw [List.getElem?_set_self hil], hk, x⟩
    unfold hIfT at h
    refine ⟨c, fs, G, w.gh, at_, ?_⟩
    split at h
    · rename_i q
      unfold hRet at h
      split at h
      · rename_i z qz
        cases h
        rw [q]
        exact iteT ⟨c, fs, G, z, w.gh, at_, qz, fun v G' H' gr y => p σ0 v G' H' (w.step gr).st y⟩
      · cases h
    · rename_i q
      rw [Bool.eq_false_iff.mpr q]
      exact iteF ⟨c, fs, ρ, G, o, σ0, D0, rfl, rfl, hil, w, na, hk, x, h, p⟩
end
end
end Rk
set_option Elab.async false
set_option linter.all false
set_option maxRecDepth 100000
set_option maxHeartbeats 4000000
namespace Rk
open PySem PySem.Spec PyProof.Rows L2
def cRgV (fs : EvA) : Ev := fun ρ => bdO (fs ρ) fun xs ρ1 => match xs with
  | [.int j] => if rngOk j then some (.ok (.rg 0 j) ρ1) else none
  | _ => none
/-- for .. in x: x a range, or what can be walked -/
def cItN (i : Nat) (f : Ev) : EvA := fun ρ => match ρ[i]? with
  | some (.rg lo hi) => if rngOk lo && rngOk hi then some (.ok (rngD lo (hi - lo).toNat) ρ) else none
  | _ => cIt f ρ
/-- i, i - 1, .. above j -/
def rngDn (i : Int) (n : Nat) : List D := (List.range n).map fun (t : Nat) => .int (i + (t : Int) * -1)
def cRng3 (fs : EvA) : EvA := fun ρ => bdO (fs ρ) fun xs ρ1 => match xs with
  | [.int i, .int j, .int k] => if k = -1 ∧ (rngOk i && rngOk j) = true then some (.ok (rngDn i (i - j).toNat) ρ1) else none
  | _ => none
theorem rngDn_len (i : Int) (n : Nat) : (rngDn i n).length = n := by simp [rngDn]
theorem rngDn_get {lo : Int} {n i : Nat} {d : D} (h : (rngDn lo n)[i]? = some d) : i < n ∧ d = .int (lo + (i : Int) * -1) := by
  have hi := (List.getElem?_eq_some_iff.mp h).1
  rw [rngDn_len] at hi
  refine ⟨hi, ?_⟩
  unfold rngDn at h
  rw [List.getElem?_map, List.getElem?_range hi] at h
  exact (Option.some.inj h).symm
section
variable {X : Cx} {g : Gd} {W : WX} {tg e : Expr}
theorem cr_range1 : CallR X (.type "range") (fun vs H Q => ∃ j, vs = [V.int j] ∧ ∀ p, H p = none → Q (.ref p) (upd H p (.rng 0 j))) := by
  intro pins s σ H vs us Q I r h
  obtain ⟨j, rfl, q⟩ := h
  cases r with | cons r1 rr =>
  cases rr
  obtain ⟨t, rfl⟩ := r1
  refine call_range_1 ⟨.ref s.heap.objs.size, upd H s.heap.objs.size (.rng 0 j), I.laid (t' := s.toks + 1 + 1) (fun b o e => Heap.get?_push_of_some _ e) (Nat.le_refl _) ?_, rfl, q _ (I.hok.fresh (Nat.le_refl _))⟩
  exact ⟨_, t, _, Heap.get?_push_size _ rfl⟩
theorem grow_rng {G H : Hp} {p : Addr} {o : HO} (e : Same G H) (h : H p = none) : Grow G H (upd G p o) (upd H p o) := by
  have hG : G p = none := by
    cases q : G p with
    | none => rfl
    | some u => rw [e p u q] at h; cases h
  refine ⟨same_upd hG, fun b u q => ?_, same_upd h, fun b q1 q2 => ?_⟩
  · by_cases hb : b = p
    · subst hb; rw [upd_same] at q ⊢; exact q
    · rw [upd_ne hb] at q ⊢; exact e _ _ q
  · have nb : b ≠ p := fun z => by subst z; exact q2 h
    rw [upd_ne nb]; exact q1
theorem e_rgV {p pos : Pos} {fs : EvA} (hg : Gl X "range") (hm : X.mg "range" = none) (h : PA X [e] (tDA g W fs)) (hs : notStar e = true) : PE X (.Call (.Name "range" p) [e] [] pos) (tD g W (cRgV fs)) :=
  (pe_callTy cr_range1 hg hm (by decide +kernel) h (by decide) (by decide) (star_cons hs) rfl).imp fun σ H Q ⟨ρ, G, o, w, eq, po⟩ => tD_ba w eq po.exn fun vs ds ρ1 G1 H1 s1 r1 e1 => by
    split at e1
    · rename_i j
      split at e1
      · rename_i hb
        cases e1
        cases r1 with | cons r1 r2 =>
        cases r2; cases r1
        refine ⟨j, rfl, fun q hq => ?_⟩
        have gr := grow_rng (o := .rng 0 j) s1.wo.gh hq
        exact po _ _ _ (s1.trans (s1.wo.step gr)) ⟨q, rfl, upd_same⟩
      · cases e1
    · cases e1
theorem i_itN (hK : g.K = X.K) {i : Nat} {x : Str} {p : Pos} {f : Ev} (hN : X.N[i]? = some x) (hv : Vis X.env.scope x) (hd : (x == ("__debug__" : Str)) = false) (hcd : (x == ("__classdict__" : Str)) = false) (h : PE X (.Name x p) (tD g W f)) : PI X tg (.Name x p) (tDI g W false (cItN i f)) := by
  refine ⟨fun pins s σ H R I q => ?_⟩
  obtain ⟨ρ, G, o, w, e, po⟩ := q
  unfold cItN at e
  split at e
  · rename_i lo hi q
    split at e
    · rename_i hb
      cases e
      obtain ⟨a, e1, r⟩ := w.sl i _ q
      rw [Bool.and_eq_true] at hb
      obtain ⟨h1, h2⟩ := rngOk_of hb.1
      obtain ⟨h3, h4⟩ := rngOk_of hb.2
      refine thn ((pe_var hN hv hd hcd).run pins s σ H (fun v H1 => v = .ref a ∧ H1 = H) I ⟨_, get_join e1, rfl, rfl⟩) fun u s1 ⟨v, H1, I1, ru, hv1, hH⟩ => ?_
      subst hv1 hH
      obtain rfl : u = Value.ref a := ru
      obtain ⟨t1, t2, t3, ho⟩ := I1.hok a _ (w.gh _ _ r)
      refine wpAny_pyIter_range (show IsRange s1.heap a lo hi 1 t1 t2 t3 from ho) (small_one (by omega) (by omega) (by omega) (by omega)) ?_
      refine ⟨s1.heap.objs.size, [s1.heap.objs.size], _, _, H1, rfl, I1.kept (t' := s1.toks) fun b o e => Heap.get?_push_of_some _ e, turn_range _ lo (hi - lo).toNat, ?_, fun b hb => ?_, po _ _ _ (StE.refl w) (wk_rng (by have hb2 : big = 16777216 := rfl; omega))⟩
      · have e1 : lo + ((0 : Nat) : Int) * 1 = lo := by simp
        have e2 : (((hi - lo).toNat : Nat) : Int) - ((0 : Nat) : Int) = Builtin.Range.rangeSize lo hi 1 := by rw [rangeSize_one]; split <;> omega
        show IsRangeIter _ _ (lo + ((0 : Nat) : Int) * 1) ((((hi - lo).toNat : Nat) : Int) - ((0 : Nat) : Int)) 1
        rw [e1, e2]
        exact Heap.get?_push_size _ rfl
      · have e : b = s1.heap.objs.size := by simpa using hb
        subst e
        exact I1.fpOk (Nat.le_refl _) (I1.hok.fresh (Nat.le_refl _))
    · cases e
  · exact (i_seq hK h).run pins s σ H R I ⟨ρ, G, o, w, e, po⟩
theorem wk_rngDn {G : Hp} {lo : Int} {n : Nat} (hz : n ≤ big) : Wk g G false (rngDn lo n) (Itc lo (-1) n) where
  len := by rw [rngDn_len]; exact hz
  go := fun i d G' H' e e1 e2 => (rngDn_get e).1
  yld := fun i d G' H' x H'' e e1 e2 y => by
    obtain ⟨rfl, rfl⟩ := y
    obtain ⟨_, rfl⟩ := rngDn_get e
    exact ⟨G', .refl e2, .inl (.int _), fun _ => .int _⟩
  stop := fun G' H' e1 e2 => by show n ≤ _; rw [rngDn_len]; exact Nat.le_refl _
theorem i_rng3 {e2 e3 : Expr} {p pos : Pos} {fs : EvA} (hg : Gl X "range") (hm : X.mg "range" = none) (h : PA X [e, e2, e3] (tDA g W fs)) (hs : notStar e = true) (hs2 : notStar e2 = true) (hs3 : notStar e3 = true) : PI X tg (.Call (.Name "range" p) [e, e2, e3] [] pos) (tDI g W false (cRng3 fs)) :=
  (pi_range3 hg hm h (star_cons hs) (by rw [star_cons hs2, star_cons hs3]; rfl)).imp fun σ H R ⟨ρ, G, o, w, eq, po⟩ => tD_ba w eq (fun c fs ρ' z => by subst z; exact po) fun vs ds ρ1 G1 H1 s1 r1 e1 => by
    split at e1
    · split at e1
      · rename_i hb
        cases e1
        obtain ⟨rfl, hb⟩ := hb
        cases r1 with | cons r1 r2 =>
        cases r2 with | cons r2 r3 =>
        cases r3 with | cons r3 r4 =>
        cases r4; cases r1; cases r2; cases r3
        have hb2 : big = 16777216 := rfl
        rw [Bool.and_eq_true] at hb
        obtain ⟨h1, h2⟩ := rngOk_of hb.1
        obtain ⟨h3, h4⟩ := rngOk_of hb.2
        exact ⟨_, _, _, _, rfl, RgC.neg (by omega) (by omega) (by omega) (by omega), po _ _ _ s1 (wk_rngDn (by omega))⟩
      · cases e1
    · cases e1
end
end Rk
set_option Elab.async false
set_option linter.all false
set_option maxRecDepth 100000
set_option maxHeartbeats 4000000
namespace Rk
open PySem PySem.Spec PyProof.Rows L2
/-- a set just made, nothing in it -/
abbrev noneSet (w : World) : Obj := { cls := .type "set", dict := none, data := .set #[] 0 (.fresh 0 0 (!w.params.followText "set-order")) }
/-- what set(x) leaves: the set of the ints ns at the heap's old end -/
abbrev Left (w : World) (s : Shared) (ns : List Int) (r : Value) (s2 : Shared) : Prop := r = .none ∧ ∃ hp k c, s2 = { s with heap := hp, toks := k } ∧ SetR w hp s.heap.objs.size (fun j => decide (j ∈ ns)) c ∧ c ≤ ns.length ∧ ∀ b o, s.heap.get? b = some o → hp.get? b = some o
section
variable {P : Program} {w : World} {A : Around} {E : Value → Shared → Prop} {s : Shared}
set_option maxHeartbeats 6400000 in
theorem set_ofInts {l : Addr} {its : Array Value} (ns : List Int) {Q : Value → Shared → Prop} (nh : A.handled = none) (il : s.heap.IsList l its) (ia : IntsAre its.toList ns) (few : ns.length + 1 < scanBound)
    (q : ∀ (hp : Heap) (k c : Nat), SetR w hp s.heap.objs.size (fun j => decide (j ∈ ns)) c → c ≤ ns.length → (∀ b o, s.heap.get? b = some o → hp.get? b = some o) → Q (.ref s.heap.objs.size) { s with heap := hp, toks := k }) :
    wpAny (model P w) A (call (.type "set") [.ref l]) Q E s := by
  have size : its.size = ns.length := by rw [← IntsAre.length ia, Array.length_toList]
  obtain ⟨mc, mt, mro⟩ := F.called_set.mro
  have made := F.called_set.made
  have subs := F.called_set.sub
  refine wpAny_call (codeAny_of_tree ?_)
  show wpAny _ _ (callAny (.type "set") _) _ _ _
  refine wpAny_pure ⟨Code.quiet_builtin _ (by decide +kernel), codeAny_builtin F.entry_type_call ?_⟩
  rw [Around.under_plain (weight_type_call_type "set" [.ref l] []) rfl]
  have nt := F.called_set.notType
  have cc := F.called_set.canCreate
  have tc := F.typeCall_set_1 (.ref l)
  repeat any_goals first | assumption | wp_step
  refine codeAny_mono (code_set_led1 (.ref l) (E := E) (Q₁ := fun v t => v = .ref s.heap.objs.size ∧ t = { s with heap := s.heap.push (noneSet w) }) ⟨rfl, rfl⟩) fun r t hr => ?_
  cases r with
  | error x => exact hr
  | ok fl =>
    cases fl with
    | ret v =>
      obtain ⟨rfl, rfl⟩ := hr
      have here : (s.heap.push (noneSet w)).get? s.heap.objs.size = some (noneSet w) := Heap.get?_push_size _ rfl
      have ty : Shared.TypeIs { s with heap := s.heap.push (noneSet w) } (.ref s.heap.objs.size) "set" := ⟨_, here, rfl⟩
      have ini := F.called_set.init.lookup
      have bnd := F.called_set.init.bind (.ref s.heap.objs.size)
      repeat any_goals first | assumption | wp_step
      refine codeAny_mono (codeAny_call_builtin (R := wants (Left w s ns) E) F.called_set.init.plain F.entry_set_init (check_set_init_1 ty ?_)) fun r2 t2 hr2 => ?_
      · obtain ⟨⟨lc, ld, ldt, ls⟩, gl, kl, nl, dl⟩ := il
        dsimp only at kl dl
        subst kl dl
        have gl1 : (s.heap.push (noneSet w)).get? l = some { cls := .type "list", dict := ld, data := .seq its nl, slots := ls } := Heap.get?_push_of_some _ gl
        have f1 := F.sub_list_set
        have f2 := F.sub_list_frozenset
        have f3 : (Value.type "list" == Value.type "dict") = false := rfl
        have il1 : (s.heap.push (noneSet w)).IsList l its := ⟨_, gl1, rfl, nl, rfl⟩
        unfold Builtin.«set.__init__» Builtin.Frozenset.updateFrom noKeywords
        generalize hit : pyIter = it
        wp_walk
        subst hit
        refine wpAny_pyIter_list il1 (wpAny_bind (wpAny_runValue ?_))
        have lt : l < s.heap.objs.size := Heap.lt_size gl
        have sz : (s.heap.push (noneSet w)).objs.size = s.heap.objs.size + 1 := Heap.size_push ..
        have ne : l ≠ (s.heap.push (noneSet w)).objs.size := by rw [sz]; exact Nat.ne_of_lt (Nat.lt_succ_of_lt lt)
        have nf : s.heap.objs.size ∉ [(s.heap.push (noneSet w)).objs.size, l] := by
          rw [sz]
          intro z
          rcases List.mem_cons.mp z with z | z
          · exact absurd z (Nat.ne_of_lt (Nat.lt_succ_self _))
          · exact absurd (List.mem_singleton.mp z) (Nat.ne_of_gt lt)
        refine set_update_ints ((Walks.list (A := A.in1.in1.in1) (by simp [nh]) _ l ne its).toS) s.heap.objs.size nf ns size few (fun i v hv => ?_) (its.size - 0) 0 _ (by omega) (Nat.zero_le _) ⟨⟨_, Heap.get?_push_size _ rfl, rfl, rfl⟩, il1.push _⟩
          ⟨0, Nat.le_refl 0, setR_new_at (Heap.get?_push_of_some _ here)⟩ fun t3 c3 mv hc hS => ?_
        · have hi : i < ns.length := by rw [← size]; exact (Array.getElem?_eq_some_iff.mp hv).1
          obtain ⟨k, e⟩ := PyProof.Rows.IntsAre.int_at ia i v (by rw [Array.getElem?_toList]; exact hv)
          refine ⟨ns[i], k, List.getElem?_eq_getElem hi, e.trans ?_⟩
          rw [List.getD_eq_getElem?_getD, List.getElem?_eq_getElem hi] <;> rfl
        · obtain ⟨hp, g2, d2, k2, o2⟩ := t3
          have eg : g2 = s.gens := mv.gens
          have ed : d2 = s.drawn := mv.drawn
          have eo : o2 = s.os := mv.os
          subst eg ed eo
          refine wpAny_pure ?_
          show wpAny _ _ (ret Value.none) _ _ _
          refine wpAny_pure ⟨rfl, hp, k2, c3, rfl, hS, by rw [← size]; exact hc, fun b o e => ?_⟩
          have hb : b < s.heap.objs.size := Heap.lt_size e
          refine mv.heap b o (fun z => ?_) (Heap.get?_push_of_some _ (Heap.get?_push_of_some _ e))
          rcases List.mem_cons.mp z with z | z
          · exact absurd z (Nat.ne_of_lt hb)
          · have e2 := List.mem_singleton.mp z
            rw [sz] at e2
            exact absurd e2 (Nat.ne_of_lt (Nat.lt_succ_of_lt hb))
      · cases r2 with
        | error x => exact hr2
        | ok f2 =>
          cases f2 with
          | ret u =>
            obtain ⟨rfl, hp, k, c, rfl, hS, hc, hk⟩ := hr2
            repeat any_goals first | assumption | wp_step
            exact q _ _ _ hS hc hk
          | _ => exact hr2.elim
    | _ => exact hr.elim
end
end Rk
set_option Elab.async false
set_option linter.all false
set_option maxRecDepth 100000
set_option maxHeartbeats 4000000
namespace Rk
open PySem PySem.Spec PyProof.Rows L2
theorem setR_size {w : World} {h : Heap} {a : Addr} {ns : List Int} {c : Nat} (R : SetR w h a (fun j => decide (j ∈ ns)) c) : c = (ddI ns).length := by
  obtain ⟨o, es, ep, t, _, _, _, _, nd, mem, _, _, hn, _⟩ := R
  have hp : (es.toList.map keyOf).Perm (ddI ns) := (List.perm_ext_iff_of_nodup nd (ddI_nodup ns)).mpr fun k => by
    rw [← mem k, decide_eq_true_eq, ddI_mem]
  have := hp.length_eq
  rw [List.length_map, Array.length_toList] at this
  omega
/-- the different ones, in order -/
def ssI (ns : List Int) : List Int := (ddI ns).mergeSort fun a b => decide (a ≤ b)
theorem ssI_uniq {ns L : List Int} (hs : L.Pairwise (· < ·)) (hm : ∀ k, k ∈ L ↔ k ∈ ns) : L = ssI ns := by
  have nd : L.Nodup := hs.imp fun h => by omega
  have hp : L.Perm (ssI ns) := ((List.perm_ext_iff_of_nodup nd (ddI_nodup ns)).mpr fun k => (hm k).trans ddI_mem.symm).trans (List.mergeSort_perm _ _).symm
  have h2 : (ssI ns).Pairwise (· ≤ ·) := by
    have := List.pairwise_mergeSort (le := fun (a b : Int) => decide (a ≤ b)) (fun a b c h1 h2 => by rw [decide_eq_true_eq] at *; omega) (fun a b => by rw [Bool.or_eq_true, decide_eq_true_eq, decide_eq_true_eq]; omega) (ddI ns)
    exact this.imp fun h => of_decide_eq_true h
  exact List.Perm.eq_of_pairwise (fun a b _ _ h1 h3 => by omega) (hs.imp fun h => by omega) h2 hp
def srtD (ρ1 : Rho) : D → Option (Oc Sl)
  | .list ds => (match tupsOf ds with
    | some kss => if okT kss then some (.ok (.ow ((ssT kss).map fun k => .tuple (k.map .int))) ρ1) else none
    | none => (match intsOf ds with
      | some ns => if ns.length ≤ 4000 ∧ (ddI ns).length < 64 then some (.ok (.ow ((ssI ns).map .int)) ρ1) else none
      | none => none))
  | _ => none
def cSortSet (fa : Ev) : Ev := fun ρ => bdD (fa ρ) fun d ρ1 => srtD ρ1 d
section
variable {X : Cx} {g : Gd} {W : WX}
/-- set(x): a list of tuples of ints, or of ints -/
def rSetTI (K : PySem.W.Frag) (P : Program) (w : World) : List V → Hp → VK → Prop := fun xs H Q => rSetOfT K P w xs H Q ∨ ∃ (l : Addr) (ns : List Int), xs = [V.ref l] ∧ SqL K H l (ns.map V.int) ∧ ns.length ≤ 4000 ∧
  ∀ a, H a = none → Q (.ref a) (upd H a (SetO w a (fun j => decide (j ∈ ns)) (ddI ns).length))
theorem cr_setTI (hc : X.calm = true) (hu : X.A.units + 64 < cLine) : CallR X (.type "set") (rSetTI X.K X.prog X.w) := by
  intro pins s σ H xs us Q I r h
  rcases h with h | ⟨l, ns, rfl, hl, hz, q⟩
  · exact cr_setOfT hc hu pins s σ H xs us Q I r h
  · rw [Vals.ref1 r]
    obtain ⟨its, rv, pl, _⟩ := I.list hl
    refine set_ofInts ns (I.ok.hd hc) pl.isList (by simpa using Vals.ints rv) (by unfold scanBound; omega) fun hp k c R hcn kk => ?_
    have hn : H s.heap.objs.size = none := I.hok.fresh (Nat.le_refl _)
    have e := setR_size R
    subst e
    exact ⟨.ref s.heap.objs.size, upd H s.heap.objs.size (SetO X.w s.heap.objs.size _ _), I.laid (t' := k) kk (Nat.le_refl _) (setO_new R), rfl, q _ hn⟩
def rSrtTI (K : PySem.W.Frag) (P : Program) (w : World) : List V → Hp → VK → Prop := fun vs H Q => rSortedT K P w vs H Q ∨ rSortedSet w vs H Q
theorem cr_srtTI (hc : X.calm = true) : CallR X (.builtin "sorted") (rSrtTI X.K X.prog X.w) := by
  intro pins s σ H xs us Q I r h
  rcases h with h | h
  · exact cr_sortedT hc pins s σ H xs us Q I r h
  · exact cr_sortedSet hc pins s σ H xs us Q I r h
theorem e_sortSet {a : Expr} {fa : Ev} {p p2 q pos : Pos} (hK : g.K = X.K) (hc : X.calm = true) (hu : X.A.units + 64 < cLine) (hg : Gl X "sorted") (hm : X.mg "sorted" = none) (hg2 : Gl X "set") (hm2 : X.mg "set" = none) (ha : PE X a (tD g W fa)) (hs : notStar a = true) :
    PE X (.Call (.Name "sorted" p) [.Call (.Name "set" p2) [a] [] q] [] pos) (tD g W (cSortSet fa)) := by
  have inner := pe_callTy (pos := q) (p := p2) (cr_setTI hc hu) hg2 hm2 (by decide +kernel) (pa_cons ha pa_nil (star_cons hs)) (by decide) (by decide) (star_cons hs) rfl
  refine (pe_callB (pos := pos) (p := p) (cr_srtTI hc) hg hm (by decide +kernel) (pa_cons inner pa_nil (star_cons rfl)) (by decide) (by decide) (star_cons rfl) rfl).imp fun σ H Q ⟨ρ, G, o, w, e, po⟩ => ?_
  refine tD_bd w e po.exn fun v d ρ1 G1 H1 s1 r1 e1 => ?_
  unfold srtD at e1
  split at e1
  rotate_left
  · cases e1
  split at e1
  rotate_left
  · split at e1
    rotate_left
    · cases e1
    split at e1
    rotate_left
    · cases e1
    rename_i ds _ ns hni hz
    cases e1
    cases r1 with | lst a1 b1 =>
    rw [ints_eq hni] at b1
    obtain rfl := rp_ints b1
    have pk := po.step s1
    refine .inr ⟨_, ns, rfl, hK ▸ SqL.of (s1.wo.gh _ _ a1), hz.1, fun b hb => ?_⟩
    have gr1 := grow_new (u := SetO X.w b (fun j => decide (j ∈ ns)) (ddI ns).length) s1.wo.gh hb
    refine .inr ⟨b, _, _, rfl, upd_same, hz.2, fun L c hpw hmem _ hcn => ?_⟩
    have hcb : c ≠ b := fun z => by rw [z, upd_same] at hcn; cases hcn
    have hc0 : H1 c = none := by rw [upd_ne hcb] at hcn; exact hcn
    have gr2 := grow_new (u := HO.lst (L.map V.int)) gr1.gh hcn
    have hG0 : G1 c = none := by
      cases q : G1 c with
      | none => rfl
      | some o => rw [s1.wo.gh c o q] at hc0; cases hc0
    have hun : L = ssI ns := ssI_uniq hpw fun k => (hmem k).trans decide_eq_true_iff
    refine (pk.kq s1.wo) (.ref c) _ _ (gr1.trans gr2) ⟨c, _, rfl, hc0, hG0, upd_same, ?_⟩
    rw [← hun]
    exact rp_of_ints L
  rename_i ds kss hts
  split at e1
  rotate_left
  · cases e1
  rename_i hok
  cases e1
  cases r1 with | lst a1 b1 =>
  obtain ⟨ks, rfl, rfl, hks⟩ := rp_tups b1 hts
  unfold okT at hok
  rw [Bool.and_eq_true, decide_eq_true_eq, List.length_map] at hok
  obtain ⟨hl, hok⟩ := hok
  obtain ⟨dd, hd1, hd2⟩ : ∃ dd, 1 ≤ dd ∧ ∀ k ∈ ks.map (·.2), k.length = dd ∧ TS.Bd 64 k := by
    cases ks with
    | nil => exact ⟨1, Nat.le_refl _, fun k hk => by cases hk⟩
    | cons k0 kr =>
      simp only [List.map_cons, Bool.and_eq_true, decide_eq_true_eq] at hok
      obtain ⟨h1, h2⟩ := hok
      refine ⟨_, h1, fun k hk => ?_⟩
      have := List.all_eq_true.mp h2 k hk
      rw [Bool.and_eq_true, decide_eq_true_eq] at this
      refine ⟨this.1, fun m hm => ?_⟩
      have := List.all_eq_true.mp this.2 m hm
      simpa using this
  have pk := po.step s1
  refine .inl ⟨_, ks, rfl, hK ▸ SqL.of (s1.wo.gh _ _ a1), fun p hp => hK ▸ (sqN_mono s1.wo.gh (hks p hp)).t, hl, fun b L hb hL1 hL2 => ?_⟩
  have gr1 := grow_new (u := SetTO X.prog X.w b L) s1.wo.gh hb
  refine .inl ⟨b, L, dd, 64, rfl, upd_same, fun p hp => hK ▸ (sqN_mono gr1.gh (hks p (hL1 p hp))).t, hd1, fun p hp => hd2 _ (List.mem_map.mpr ⟨p, hL1 p hp, rfl⟩), fun L' c hpm hnd hlt hpw hcn => ?_⟩
  have hcb : c ≠ b := fun z => by rw [z, upd_same] at hcn; cases hcn
  have hc0 : H1 c = none := by rw [upd_ne hcb] at hcn; exact hcn
  have gr2 := grow_new (u := HO.lst (L'.map fun q => V.ref q.1)) gr1.gh hcn
  have hG0 : G1 c = none := by
    cases q : G1 c with
    | none => rfl
    | some o => rw [s1.wo.gh c o q] at hc0; cases hc0
  have hun : L'.map (·.2) = ssT (ks.map (·.2)) := by
    refine ssT_uniq hd2 hnd (fun k => ⟨fun hk => ?_, fun hk => ?_⟩) (List.pairwise_map.mpr hpw)
    · obtain ⟨p, hp, rfl⟩ := List.mem_map.mp hk
      exact List.mem_map.mpr ⟨p, hL1 p (hpm.mem_iff.mp hp), rfl⟩
    · obtain ⟨p, hp, rfl⟩ := List.mem_map.mp hk
      obtain ⟨p', hp', e'⟩ := List.mem_map.mp (hL2 p hp)
      exact List.mem_map.mpr ⟨p', hpm.mem_iff.mpr hp', e'⟩
  refine (pk.kq s1.wo) (.ref c) _ _ (gr1.trans gr2) ⟨c, _, rfl, hc0, hG0, upd_same, ?_⟩
  rw [← hun]
  exact rp_ofTups fun p hp => hks p (hL1 p (hpm.mem_iff.mp hp))
end
end Rk
set_option Elab.async false
set_option linter.all false
set_option maxRecDepth 100000
set_option maxHeartbeats 4000000
namespace Rk
open PySem PySem.Spec PyProof.Rows L2
/-- x.count(k): a list of ints, an int -/
def cCount (fo fe : Ev) : Ev := fun ρ => bdD (fo ρ) fun d ρ1 => match d with
  | .list ds => (match intsOf ds with
    | some ns => bdD (fe ρ1) fun y ρ2 => match y with
      | .int k => some (.ok (.sh (.int (ns.count k : Nat))) ρ2)
      | _ => none
    | none => none)
  | _ => none
def cTupRg (fa : Ev) : Ev := fun ρ => bdD (fa ρ) fun d ρ1 => match d with
  | .int j => if rngOk j then some (.ok (.sh (.tuple (rngD 0 j.toNat))) ρ1) else none
  | _ => none
section
variable {X : Cx} {g : Gd} {W : WX} {o e a : Expr} {fa : Ev} {apos cpos : Pos}
theorem e_count {fo fe : Ev} (hK : g.K = X.K) (ho : PE X o (tD g W fo)) (hb : notCall o = true) (he : PE X e (tD g W fe)) (hs : notStar e = true) (hl : (apos.endLine == cpos.line) = true) :
    PE X (.Call (.Attribute o "count" apos) [e] [] cpos) (tD g W (cCount fo fe)) :=
  (pe_bm PySem.F.plainAttrs_list PySem.F.slot_list_count PySem.F.type_list_count mt_lcount ho (pa_cons he pa_nil (star_cons hs)) (base_plain hb) (few_one hs) hl (star_cons hs) rfl).imp fun σ H Q ⟨ρ, G, oc, w, eq, p⟩ =>
  tD_bd w eq p.exn fun v d ρ1 G1 H1 s1 r1 e1 => by
    split at e1
    rotate_left
    · cases e1
    split at e1
    rotate_left
    · cases e1
    rename_i ds ns hni
    cases r1 with | lst a1 b1 =>
    rw [ints_eq hni] at b1
    obtain rfl := rp_ints b1
    refine ⟨.inl ⟨rfl, _, SqL.of (s1.wo.gh _ _ a1)⟩, tD_bd s1.wo e1 (p.step s1).exn fun y dy ρ2 G2 H2 s2 r2 e2 => ?_⟩
    split at e2
    · cases e2
      cases r2
      exact ⟨_, ns, _, rfl, rfl, SqL.of (s2.wo.gh _ _ (s2.gg _ _ a1)), (p.step (s1.trans s2)).now s2.wo (.int _)⟩
    · cases e2
theorem e_tupRg {p p2 q pos : Pos} (hc : X.calm = true) (hg : Gl X "tuple") (hm : X.mg "tuple" = none) (hg2 : Gl X "range") (hm2 : X.mg "range" = none) (ha : PE X a (tD g W fa)) (hs : notStar a = true) :
    PE X (.Call (.Name "tuple" p) [.Call (.Name "range" p2) [a] [] q] [] pos) (tD g W (cTupRg fa)) := by
  refine ⟨fun pins s σ H Q I h => ?_⟩
  have inner := (prg_1 (pos := q) (p := p2) hg2 hm2 ha (star_cons hs)) pins s σ H (fun lo hi H1 => lo = 0 ∧ hi.natAbs ≤ 1000000 ∧ ∀ b o, H1 b = none → o.dict = none → Q (.ref b) (upd H1 b (.frz o (.tup (rgV 0 hi))))) I ?_
  · refine Call_ (ld_blt I hg hm boot_tuple (PyProof.Rows.callWith_type1 (args_cons (thn inner fun v s1 ⟨r, lo, hi, t, u, w, H1, e1, hr, I1, e2, hz, q1⟩ => args_nil ?_) (star_cons rfl)) (star_cons rfl)))
    subst e1 e2
    refine call_tuple_range (n := (hi - 0).toNat) (I1.ok.hd hc) hr (small_one (by omega) (by omega) (by omega) (by omega)) (rangeSize_nat 0 hi) (by omega) fun h' tk acc kp ha => ?_
    have I2 : Inv X pins σ H1 { s1 with heap := h', toks := tk } := I1.kept kp
    have ea : acc = acc.toList.toArray := by rw [Array.toArray_toList]
    rw [ea]
    exact ⟨.ref h'.objs.size, _, laidF (t' := tk) I2 (vals_rg ha) (by rw [rgV_length, sizeLine_eq]; omega), rfl, q1 _ _ (I2.hok.fresh (Nat.le_refl _)) rfl⟩
  · obtain ⟨ρ, G, oc, w, eq, po⟩ := h
    exact tD_bd w eq po.exn fun v d ρ1 G1 H1 s1 r1 e1 => by
      split at e1
      · split at e1
        · rename_i hb
          cases e1
          cases r1
          exact ⟨_, rfl, rfl, of_decide_eq_true hb, fun b o hb2 hd => ((po.step s1).kq s1.wo).tup s1.wo.gh hb2 hd (rp_rng _)⟩
        · cases e1
      · cases e1
end
end Rk
set_option Elab.async false
set_option linter.all false
set_option maxRecDepth 100000
set_option maxHeartbeats 4000000
namespace Rk
open PySem PySem.Spec PyProof.Rows L2
structure Pg where
  glob : List (Str × D)
  fns : List (Str × Bool × Nat × Ev)
  free : List Str
  cs : List (Str × Str)
  ec : List (Str × List Str)
structure En where
  N : List Str
  sc : Scope
  fnc : Str → Bool
  gx : Bool
  lx : Bool
  rx : List Str
structure Rc where
  e : En → Expr → Ev
  t : En → Expr → EvT
  i : En → Expr → Expr → Bool × EvA
def cNone : Ev := fun _ => none
def tNone : EvT := fun _ => none
def aNone : EvA := fun _ => none
def sNone : EvS := fun _ => none
def gNone : EvG := fun _ _ => none
def idxN (N : List Str) (x : Str) : Option Nat := N.findIdx? fun y => decide (y = x)
def visB (sc : Scope) (x : Str) : Bool := match sc.names.lookup x with
  | some .local => true
  | some .cell => true
  | some .free => true
  | _ => false
def locB (sc : Scope) (x : Str) : Bool := match sc.names.lookup x with
  | some .local => true
  | some .cell => true
  | _ => false
def glB (sc : Scope) (x : Str) : Bool := match sc.names.lookup x with
  | some .globalImplicit => !(x == ("__debug__" : Str))
  | _ => false
def okNm (x : Str) : Bool := !(x == ("__debug__" : Str)) && !(x == ("__classdict__" : Str))
/-- the slot of a name -/
def slot (E : En) (x : Str) : Option Nat := if visB E.sc x && okNm x then idxN E.N x else none
def isFree (P : Pg) (E : En) (x : Str) : Bool := glB E.sc x && P.free.any fun y => decide (y = x)
def lookF {α : Type} : List (Str × α) → Str → Option α
  | [], _ => none
  | (y, a) :: l, x => if y = x then some a else lookF l x
def nmE (P : Pg) (E : En) (x : Str) : Ev := match slot E x with
  | some i => cName i
  | none => if glB E.sc x then (match lookF P.glob x with
    | some d => cK d
    | none => cNone) else cNone
def cst : Const → Ev
  | .int i => cK (.int i)
  | .bool b => cK (.bool b)
  | .none => cK .none
  | .str s => cK (.str s)
  | _ => cNone
def opSem : Operator → Option (D → D → Option Sl)
  | .Add => some sAdd
  | .Sub => some sSub
  | .Mult => some sMul
  | .Mod => some sMod
  | .FloorDiv => some sDiv
  | .Pow => some sPow
  | .LShift => some sShl
  | .RShift => some sShr
  | .BitAnd => some sBand
  | .BitOr => some sBor
  | _ => none
def cmpSem : CmpOp → Option (D → D → Option Sl)
  | .Eq => some sEq
  | .NotEq => some sNe
  | .Lt => some (sCmp fun i j => decide (i < j))
  | .LtE => some (sCmp fun i j => decide (i ≤ j))
  | .Gt => some (sCmp fun i j => decide (j < i))
  | .GtE => some (sCmp fun i j => decide (j ≤ i))
  | .In => some (sIn false)
  | .NotIn => some (sIn true)
  | .Is => some (sIsN false)
  | .IsNot => some (sIsN true)
def boV (f : Expr → Ev) (op : BoolOp) : List Expr → Ev
  | [] => cNone
  | [a] => f a
  | a :: b :: r => match op with
    | .And => cAndV (f a) (boV f op (b :: r))
    | .Or => cOrV (f a) (boV f op (b :: r))
def boT (f : Expr → EvT) (op : BoolOp) : List Expr → EvT
  | [] => tNone
  | [a] => f a
  | a :: b :: r => match op with
    | .And => cAndT (f a) (boT f op (b :: r))
    | .Or => cOrT (f a) (boT f op (b :: r))
def argsE (f : Expr → Ev) : List Expr → EvA
  | [] => cA0
  | e :: es => if notStar e then cA1 (f e) (argsE f es) else aNone
def ltTup (a : Expr) (op : CmpOp) (b : Expr) : Bool := (match op with | .Lt => true | _ => false) && (match a with | .Tuple .. => true | _ => false) && (match b with | .Tuple .. => true | _ => false)
def cmpV (f : Expr → Ev) (a : Expr) : List CmpOp → List Expr → Ev
  | [op], [b] => if ltTup a op b then cBin sLtT (f a) (f b) else (match cmpSem op with
    | some s => if behindInMarks op b then cNone else cBin s (f a) (f b)
    | none => cNone)
  | [op, op'], [b, c] => (match cmpSem op, cmpSem op' with
    | some s, some s' => if lastMarks [op, op'] [b, c] then cNone else cChain s s' (f a) (f b) (f c)
    | _, _ => cNone)
  | _, _ => cNone
def cmpT (f : Expr → Ev) (a : Expr) (ops : List CmpOp) (bs : List Expr) : EvT := match ops, bs with
  | [o1, o2, o3], [b, c, d] => (match cmpSem o1, cmpSem o2, cmpSem o3 with
    | some s1, some s2, some s3 => if lastMarks [o1, o2, o3] [b, c, d] then tNone else cCh3 s1 s2 s3 (f a) (f b) (f c) (f d)
    | _, _, _ => tNone)
  | _, _ => cT (cmpV f a ops bs)
/-- x[::-1] -/
def revE (fa : Ev) : Option Expr → Option Expr → Expr → Ev
  | none, none, .UnaryOp .USub (.Constant (.int i) _ _) _ => if i = 1 then cRev fa else cNone
  | _, _, _ => cNone
def subE (f : Expr → Ev) (P : Pg) (E : En) (a : Expr) : Expr → Ev
  | .Slice lo hi none _ => cSl (f a) (lo.map f) (hi.map f)
  | .Slice lo hi (some st) _ => revE (f a) lo hi st
  | b => match a with
    | .Name x _ => (match slot E x with
      | some i => cIxN i (f b)
      | none => cBin sIx (nmE P E x) (f b))
    | .Dict ks vs _ => (match pairsOf ks vs with
      | some ps => if decide (ps.length ≠ 0) && decide (ps.length ≤ 15) then cDct ps (f b) else cNone
      | none => cNone)
    | a => cBin sIx (f a) (f b)
/-- the names of a target, with their places -/
def ownOf (N : List Str) : Nat → Expr → List (Str × Nat)
  | 0, _ => []
  | _ + 1, .Name x _ => (match idxN N x with
    | some i => [(x, i)]
    | none => [])
  | n + 1, .Tuple es _ _ => es.flatMap (ownOf N n)
  | _ + 1, _ => []
def tgE (E : En) (pin : Pin) : Nat → Expr → EvG
  | 0, _ => gNone
  | _ + 1, .Name x _ => (match idxN E.N x with
    | some i => if locB E.sc x && (E.fnc x || decide (E.sc.names.lookup x = some .local)) && !(pin i) then gName' i else gNone
    | none => gNone)
  | n + 1, .Tuple es _ _ => if es.all notStar then gTup' es.length (es.foldr (fun e r => gCons' (tgE E pin n e) r) gNil') else gNone
  | _ + 1, _ => gNone
def isTupE : Expr → Bool
  | .Tuple .. => true
  | _ => false
def tgP (E : En) (pin : Pin) (pr : Bool) (e : Expr) : EvG := if pr && !(isTupE e) then gNone else tgE E pin 8 e
def notSet : Expr → Bool
  | .Set .. => false
  | _ => true
def notLst : Expr → Bool
  | .List .. => false
  | _ => true
def blkE (E : En) (scope : Scope) : En := { E with sc := relS scope E.sc, fnc := fun x => scope.names.lookup x == some .cell, lx := false }
def genE (E : En) (scope : Scope) : En := { E with sc := scope, fnc := fun _ => false, gx := false, lx := false }
def ifsE (f : Expr → EvT) : List Expr → EvT
  | [] => yes
  | [c] => f c
  | _ => tNone
def lcE (r : Rc) (E : En) (elt : Expr) (gs : List Comprehension) (scope : Scope) : Ev := match gs with
  | [⟨te, iter, ifs, 0⟩] => if blkC E.N E.sc scope (ownOf E.N 8 te) && notSet iter then
      cLc ((ownOf E.N 8 te).map (·.2)) (r.i E te iter).2 (tgP (blkE E scope) (pnO ((ownOf E.N 8 te).map (·.2))) (r.i E te iter).1 te) (ifsE (r.t (blkE E scope)) ifs) (r.e (blkE E scope) elt) else cNone
  | [⟨te, iter, ifs, 0⟩, ⟨te1, iter1, ifs1, 0⟩] => if blkC E.N E.sc scope (ownOf E.N 8 te ++ ownOf E.N 8 te1) && notSet iter && notSet iter1 then
      cLc2 ((ownOf E.N 8 te ++ ownOf E.N 8 te1).map (·.2)) ((ownOf E.N 8 te1).map (·.2)) (r.i E te iter).2 (tgP (blkE E scope) (pnO ((ownOf E.N 8 te ++ ownOf E.N 8 te1).map (·.2))) (r.i E te iter).1 te) (ifsE (r.t (blkE E scope)) ifs)
        (r.i (blkE E scope) te1 iter1).2 (tgP (blkE E scope) (pnO ((ownOf E.N 8 te1).map (·.2))) (r.i (blkE E scope) te1 iter1).1 te1) (ifsE (r.t (blkE E scope)) ifs1) (r.e (blkE E scope) elt) else cNone
  | _ => cNone
/-- a generator expression's scope, checked -/
def gscC (N : List Str) (sc scope : Scope) (own : List (Str × Nat)) : Bool :=
  (match scope.kind with | .function => true | _ => false) && !scope.isCoroutine && (scope.names.all fun y => decide (scope.names.lookup y.1 = some y.2)) && (scope.names.all fun y => decide (y.2 ≠ .cell)) && decide (scope.names.lookup (".0" : Str) = some NameKind.local) &&
    (own.all fun p => decide (N[p.2]? = some p.1)) && (scope.names.all fun y => match y.2 with
      | .free => (match sc.names.lookup y.1 with | some .cell => true | some .free => true | _ => false)
      | .local => decide (y.1 ∈ own.map (·.1)) || decide (y.1 ∉ N)
      | _ => true)
def gnE (r : Rc) (E : En) (stop : D → Bool) (fin : List Nat → List (D × Rho) → Option Rho → Rho → Option (Oc Sl)) (elt : Expr) (gs : List Comprehension) (scope : Scope) : Ev := match gs with
  | [⟨te, iter, ifs, 0⟩] => if E.gx && gscC E.N E.sc scope (ownOf E.N 8 te) && notSet iter && notLst iter then
      gGo ((ownOf E.N 8 te).map (·.2)) (r.i E te iter).2 (tgP (genE E scope) (pnO ((ownOf E.N 8 te).map (·.2))) (r.i E te iter).1 te) (ifsE (r.t (genE E scope)) ifs) (r.e (genE E scope) elt) stop (fin ((ownOf E.N 8 te).map (·.2))) else cNone
  | _ => cNone
def bltSem (x : Str) : Option (List D → Option Sl) :=
  if x = ("len" : Str) then some sLen
  else if x = ("int" : Str) then some sInt
  else if x = ("abs" : Str) then some sAbs
  else if x = ("max" : Str) then some sMax
  else if x = ("min" : Str) then some sMin
  else if x = ("tuple" : Str) then some sTuple
  else if x = ("list" : Str) then some sList
  else if x = ("sum" : Str) then some sSum
  else if x = ("all" : Str) then some sAll
  else if x = ("any" : Str) then some sAny
  else if x = ("sorted" : Str) then some sSorted
  else none
def tyOf (x : Str) : Option String :=
  if x = ("int" : Str) then some "int"
  else if x = ("bool" : Str) then some "bool"
  else if x = ("str" : Str) then some "str"
  else if x = ("list" : Str) then some "list"
  else if x = ("tuple" : Str) then some "tuple"
  else none
/-- a built-in by its name -/
def bltG (r : Rc) (E : En) (x : Str) (args : List Expr) : Ev := match bltSem x with
  | some s => cCall s (argsE (r.e E) args)
  | none => if x = ("range" : Str) then (match args with
    | [a] => cRgV (argsE (r.e E) [a])
    | _ => cNone) else cNone
def bltE (r : Rc) (P : Pg) (E : En) (x : Str) : List Expr → Ev
  | [.GeneratorExp elt gs scope gp] => if x = ("all" : Str) then gnE r E stopF finAll elt gs scope else if x = ("tuple" : Str) then gnE r E never finTup elt gs scope else cNone
  | [a, .Name T tp] => if x = ("isinstance" : Str) then (match tyOf T with
      | some t => if notStar a && isFree P E T then cIsi t (r.e E a) else cNone
      | none => cNone) else bltG r E x [a, .Name T tp]
  | [.Call (.Name s sp) [a] [] q] => if isFree P E s && notStar a && decide (x = ("len" : Str)) && decide (s = ("set" : Str)) then cLenSet (r.e E a) else if isFree P E s && notStar a && decide (x = ("list" : Str)) && decide (s = ("range" : Str)) then cLstRg (r.e E a) else if isFree P E s && notStar a && decide (x = ("sorted" : Str)) && decide (s = ("set" : Str)) then cSortSet (r.e E a) else if isFree P E s && notStar a && decide (x = ("tuple" : Str)) && decide (s = ("range" : Str)) then cTupRg (r.e E a) else bltG r E x [.Call (.Name s sp) [a] [] q]
  | [.Call (.Name s sp) [a, b] [] q] => if isFree P E s && notStar a && notStar b && decide (x = ("list" : Str)) && decide (s = ("zip" : Str)) then cLstZip (argsE (r.e E) [a, b]) else bltG r E x [.Call (.Name s sp) [a, b] [] q]
  | [.Name y yp] => if x = ("len" : Str) then (match slot E y with
      | some i => cLenN i
      | none => bltG r E x [.Name y yp]) else if x = ("list" : Str) then (match slot E y with
      | some i => cLstN i
      | none => bltG r E x [.Name y yp]) else bltG r E x [.Name y yp]
  | [] => cNone
  | args => bltG r E x args
/-- a def of the program -/
def fnE (r : Rc) (E : En) (own : Bool) (ar : Nat) (sem : Ev) : List Expr → Ev
  | [] => cNone
  | .Name y yp :: es => if own then (match slot E y with
      | some i => cFn1 i ar sem (argsE (r.e E) es)
      | none => cNone) else cFn ar sem (argsE (r.e E) (.Name y yp :: es))
  | e :: es => if own then cNone else cFn ar sem (argsE (r.e E) (e :: es))
/-- a built-in with keywords -/
def kwE (r : Rc) (P : Pg) (E : En) (x : Str) : List Expr → List Keyword → Ev
  | [e], [⟨some nm, d, _⟩] => if decide (nm = ("default" : Str)) && notStar e && isFree P E x then (if x = ("max" : Str) then cKw (sDef true) (cA1 (r.e E e) cA0) (cA1 (r.e E d) cA0) else if x = ("min" : Str) then cKw (sDef false) (cA1 (r.e E e) cA0) (cA1 (r.e E d) cA0) else cNone) else cNone
  | [.Name y _], [⟨some k1, .Lambda ⟨[], [⟨a, _, _⟩], none, [], [], none, []⟩ (.Subscript (.Name l _) (.Name a' _) _) scope _, _⟩, ⟨some k2, .Constant .none _ _, _⟩] =>
    if E.lx && decide (k1 = ("key" : Str)) && decide (k2 = ("default" : Str)) && decide (x = ("min" : Str)) && isFree P E x && decide (a = a') && lamPB E.sc scope a l && !(a == ("__debug__" : Str)) then (match slot E y, slot E l with
      | some i, some j => cMinKey i j
      | _, _ => cNone) else cNone
  | _, _ => cNone
def callE (r : Rc) (P : Pg) (E : En) (pos : Pos) : Expr → List Expr → List Keyword → Ev
  | .Name x _, args, [] => if glB E.sc x && args.all notStar then (match lookF P.fns x with
      | some (own, ar, sem) => fnE r E own ar sem args
      | none => if isFree P E x then bltE r P E x args else cNone) else cNone
  | .Name x _, args, k :: ks => if glB E.sc x then kwE r P E x args (k :: ks) else cNone
  | .Attribute (.Name y _) m ap, [e], [] => if notStar e && (ap.endLine == pos.line) then
      (if m = ("index" : Str) then cIndex (nmE P E y) (r.e E e) else if m = ("count" : Str) then cCount (nmE P E y) (r.e E e) else (match slot E y with
        | some i => if m = ("append" : Str) then cApp i (r.e E e) else if m = ("extend" : Str) then cExt i (r.e E e) else if m = ("pop" : Str) then cPop i (r.e E e) else cNone
        | none => cNone)) else cNone
  | .Attribute o m ap, [e], [] => if notStar e && (ap.endLine == pos.line) && notCall o && decide (m = ("index" : Str)) then cIndex (r.e E o) (r.e E e) else cNone
  | _, _, _ => cNone
def stE (P : Pg) (r : Rc) (E : En) : Expr → Ev
  | .Constant c _ _ => cst c
  | .Name x _ => nmE P E x
  | .BinOp a op b _ => (match opSem op with
    | some s => cBin s (r.e E a) (r.e E b)
    | none => cNone)
  | .UnaryOp op a _ => (match op with
    | .USub => cUn sNeg (r.e E a)
    | .Not => cNotV (r.e E a)
    | _ => cNone)
  | .BoolOp op vs _ => boV (r.e E) op vs
  | .Compare a ops bs _ => cmpV (r.e E) a ops bs
  | .IfExp c a b _ => cIf (r.t E c) (r.e E a) (r.e E b)
  | .Tuple es _ _ => cTup (argsE (r.e E) es)
  | .List es _ => cLst (argsE (r.e E) es)
  | .Subscript a s _ => subE (r.e E) P E a s
  | .ListComp elt gs scope _ => lcE r E elt gs scope
  | .Call f args kws pos => callE r P E pos f args kws
  | _ => cNone
def stT (r : Rc) (E : En) : Expr → EvT
  | .UnaryOp op a pos => (match op with
    | .Not => cNotT (r.t E a)
    | _ => cT (r.e E (.UnaryOp op a pos)))
  | .BoolOp op vs _ => boT (r.t E) op vs
  | .Compare a ops bs _ => cmpT (r.e E) a ops bs
  | .IfExp .. => tNone
  | e => cT (r.e E e)
def stI (P : Pg) (r : Rc) (E : En) (te : Expr) (iter : Expr) : Bool × EvA := match iter with
  | .Call (.Name x xp) [a] [⟨some k1, .Constant (.int i) c1 c2, kp⟩] pos => if isFree P E x && (decide (x = ("enumerate" : Str)) && (decide (k1 = ("start" : Str)) && (decide (i = 1) && (notStar a && isTupE te)))) then (true, cEnumS 1 (r.e E a)) else (false, cIt (r.e E (.Call (.Name x xp) [a] [⟨some k1, .Constant (.int i) c1 c2, kp⟩] pos)))
  | .Call (.Name x xp) args [] pos => if isFree P E x then
      (if x = ("range" : Str) then (match args with
        | [a] => if notStar a then (false, cRng1 (argsE (r.e E) [a])) else (false, aNone)
        | [a, b] => if notStar a && notStar b then (false, cRng2 (argsE (r.e E) [a, b])) else (false, aNone)
        | [a, b, c] => if notStar a && (notStar b && notStar c) then (false, cRng3 (argsE (r.e E) [a, b, c])) else (false, aNone)
        | _ => (false, aNone))
      else if x = ("enumerate" : Str) then (match args with
        | [a] => if notStar a && isTupE te then (true, cEnum (r.e E a)) else (false, aNone)
        | _ => (false, aNone))
      else if x = ("zip" : Str) then (match args with
        | [a, b] => if notStar a && notStar b && isTupE te then (true, cZip (argsE (r.e E) [a, b])) else (false, aNone)
        | _ => (false, aNone))
      else (false, cIt (r.e E (.Call (.Name x xp) args [] pos)))) else (false, cIt (r.e E (.Call (.Name x xp) args [] pos)))
  | .Name x xp => (match slot E x with
    | some i => if decide (x ∈ E.rx) then (false, cItN i (r.e E (.Name x xp))) else (false, cIt (r.e E (.Name x xp)))
    | none => (false, cIt (r.e E (.Name x xp))))
  | e => (false, cIt (r.e E e))
def rc0 : Rc := ⟨fun _ _ => cNone, fun _ _ => tNone, fun _ _ _ => (false, aNone)⟩
def stepR (P : Pg) (r : Rc) : Rc := ⟨stE P r, stT r, stI P r⟩
def rcN (P : Pg) : Nat → Rc
  | 0 => rc0
  | n + 1 => stepR P (rcN P n)
def wFuel : Nat := 10000
/-- a, b = .. stored from the right -/
def swapC (E : En) (x y : Str) (px py : Pos) (a b : Expr) : Bool := (E.sc.kind == .function) && decide (px.line = py.line) && decide (x ≠ y) && !([a, b].all (foldedForSure 8)) && !([a, b].all (constantsAlone 8)) && decide (E.sc.names.lookup x = some .local) && decide (E.sc.names.lookup y = some .local)
/-- .. not from the right: a name of them is another def's, too -/
def noSwapC (E : En) (x y : Str) : Bool := !(decide (E.sc.names.lookup x = some .local) && decide (E.sc.names.lookup y = some .local))
def asgE (P : Pg) (r : Rc) (E : En) (pin : Pin) : Expr → Expr → EvS
  | .Name x p, .ListComp elt gs scope lp => (match idxN E.N x with
    | some i => if locB E.sc x && E.fnc x && !(pin i) then sSet i (lcE r E elt gs scope) else sNone
    | none => sNone)
  | .Name x p, e => (match idxN E.N x with
    | some i => if locB E.sc x && E.fnc x && !(pin i) && notComp e then sSet i (r.e E e) else sNone
    | none => sNone)
  | .Tuple [.Name x px, .Name y py] kt pt, .Tuple [a, b] k2 pt2 => (match idxN E.N x, idxN E.N y with
    | some i, some j => if decide (i ≠ j) && swapC E x y px py a b && !(pin i) && !(pin j) && notStar a && notStar b then sPar2 i j (argsE (r.e E) [a, b]) else if noSwapC E x y && (notStar a && notStar b) then sAsg (tgE E pin 8 (.Tuple [.Name x px, .Name y py] kt pt)) (r.e E (.Tuple [a, b] k2 pt2)) else sNone
    | _, _ => sNone)
  | .Tuple es k p, e => if notComp e && notTup e then sAsg (tgE E pin 8 (.Tuple es k p)) (r.e E e) else sNone
  | .Subscript (.Name x _) ix _, e => (match slot E x with
    | some i => if notComp e && notSlice ix then sPut i (r.e E e) (r.e E ix) else sNone
    | none => sNone)
  | _, _ => sNone
/-- raise C(a) -/
def raiseE (P : Pg) (r : Rc) (E : En) : Expr → EvS
  | .Call (.Name x _) [a] [] _ => if glB E.sc x && notStar a then (match lookF P.cs x with
    | some f => sRaise x f (argsE (r.e E) [a])
    | none => sNone) else sNone
  | _ => sNone
def hdE (P : Pg) (E : En) (pin : Pin) : ExceptHandler → Option (List Str × Hs)
  | .ExceptHandler (some (.Name x _)) (some n) [.Return (some e) _] _ => if glB E.sc x && (okNm n && decide (E.sc.names.lookup n = some .local)) then (match idxN E.N n, lookF P.ec x with
    | some _, some l => some (l, hRet (retT n e))
    | _, _ => none) else none
  | .ExceptHandler (some (.Name x _)) (some n) [.Expr (.Call (.Attribute (.Name y _) m ap) [e] [] cp) _] _ => if m = ("append" : Str) then (if glB E.sc x && (okNm n && (decide (E.sc.names.lookup n = some .local) && (notStar e && (ap.endLine == cp.line)))) then (match idxN E.N n, lookF P.ec x, slot E y with
    | some i, some l, some j => some (l, hApp pin j i (partT n e))
    | _, _, _ => none) else none) else none
  | .ExceptHandler (some (.Name x _)) (some n) [.If (.BoolOp .And [.Call (.Name f1 _) [.Name m1 _, .Name A _] [] _, .Call (.Name f2 _) [.Name m2 _, .Name B _] [] _] _) [.Return (some e1) _] [] _, .Return (some e2) _] _ =>
    if f1 = ("isinstance" : Str) ∧ f2 = ("isinstance" : Str) ∧ B = ("ValueError" : Str) ∧ m1 = n ∧ m2 = n then (if glB E.sc x && (glB E.sc A && (okNm n && (decide (E.sc.names.lookup n = some .local) && (isFree P E "isinstance" && isFree P E "ValueError")))) then (match idxN E.N n, lookF P.ec x, lookF P.ec A with
    | some _, some l, some la => some (l, hIf la (hRet (retT n e1)) (hRet (retT n e2)))
    | _, _, _ => none) else none) else none
  | _ => none
/-- isinstance(n, A), and such with another: for which classes it is true -/
def testT (P : Pg) (E : En) (n : Str) : Nat → Expr → Option (Str → Bool)
  | 0, _ => none
  | _ + 1, .Call (.Name f _) [.Name m _, .Name A _] [] _ => if f = ("isinstance" : Str) ∧ m = n then (if isFree P E "isinstance" && glB E.sc A then (match lookF P.ec A with
    | some la => some fun c => decide (c ∈ la)
    | none => if A = ("ValueError" : Str) then (if isFree P E "ValueError" then some fun _ => true else none) else none) else none) else none
  | k + 1, .BoolOp .And [a, b] _ => (match testT P E n k a, testT P E n k b with
    | some t, some u => some fun c => t c && u c
    | _, _ => none)
  | _ + 1, _ => none
def isTest : Expr → Bool
  | .Call .. => true
  | .BoolOp .. => true
  | _ => false
def alwaysT (P : Pg) (t : Option (Str → Bool)) : Bool := match t with
  | some t => P.cs.all fun q => t q.1
  | none => false
def pK (d : D) : Pt := fun _ => some d
def partX (P : Pg) (E : En) (n : Str) (e : Expr) : Pt := if isTest e then (if alwaysT P (testT P E n 3 e) then pK (.bool true) else pN) else partT n e
def retX0 (P : Pg) (E : En) (n : Str) : Expr → Rt
  | .Tuple es _ _ => if es.all notStar then hTup (es.map (partX P E n)) else fun _ => none
  | .List es _ => if es.all notStar then hLst (es.map (partX P E n)) else fun _ => none
  | e => hOne (partX P E n e)
def retX (P : Pg) (E : En) (n : Str) : Expr → Rt
  | .IfExp c a _ _ => if alwaysT P (testT P E n 3 c) then retX0 P E n a else fun _ => none
  | e => retX0 P E n e
def suiteX (P : Pg) (E : En) (n : Str) : List Stmt → Option Hs
  | [] => none
  | .If c [.Return (some e) _] [] _ :: rest => (match testT P E n 3 c, suiteX P E n rest with
    | some t, some h => some (hIfT t (hRet (retX P E n e)) h)
    | _, _ => none)
  | s :: rest => (match s, rest with
    | .Return (some e) _, [] => some (hRet (retX P E n e))
    | _, _ => none)
def hdX (P : Pg) (E : En) : ExceptHandler → Option (List Str × Hs)
  | .ExceptHandler (some (.Name x _)) (some n) suite _ => if glB E.sc x && (okNm n && decide (E.sc.names.lookup n = some .local)) then (match idxN E.N n, lookF P.ec x, suiteX P E n suite with
    | some _, some l, some h => some (l, h)
    | _, _, _ => none) else none
  | _ => none
def hdE2 (P : Pg) (E : En) (pin : Pin) (h : ExceptHandler) : Option (List Str × Hs) := match hdE P E pin h with
  | some r => some r
  | none => hdX P E h
def hdsE (P : Pg) (E : En) (pin : Pin) : List ExceptHandler → Option (List (List Str × Hs))
  | [] => some []
  | h :: hs => match hdE2 P E pin h, hdsE P E pin hs with
    | some x, some xs => some (x :: xs)
    | _, _ => none
mutual
def stS (P : Pg) (r : Rc) (E : En) (pin : Pin) : Stmt → EvS
  | .Expr e _ => (match e with
    | .Constant (.str _) _ _ => sNil
    | e => if notComp e then sDrop (r.e E e) else sNone)
  | .Return e _ => (match e with
    | none => sRetN
    | some e => sRet (r.e E e))
  | .Assign [t] e _ => asgE P r E pin t e
  | .If c a b _ => sIf (r.t E c) (stSs P r E pin a) (stSs P r E pin b)
  | .While c b [] _ => sWhile wFuel (r.t E c) (stSs P r E pin b)
  | .For te iter b [] _ => if notSet iter then sForL (r.i E te iter).2 (tgP E pin (r.i E te iter).1 te) (stSs P r E pin b) else sNone
  | .Raise (some e) none _ => raiseE P r E e
  | .Try b (h :: hs) [] [] _ => (match hdsE P E pin (h :: hs) with
    | some l => sTry P.cs l (stSs P r E pin b)
    | none => sNone)
  | .Pass _ => sNil
  | .Break _ => sBrk
  | .Continue _ => sCnt
  | _ => sNone
def stSs (P : Pg) (r : Rc) (E : En) (pin : Pin) : List Stmt → EvS
  | [] => sNil
  | s :: ss => sSeq (stS P r E pin s) (stSs P r E pin ss)
end
end Rk
set_option Elab.async false
set_option linter.all false
set_option maxRecDepth 100000
set_option maxHeartbeats 4000000
namespace Rk
open PySem PySem.Spec PyProof.Rows L2
structure PgR (g : Gd) (P : Pg) (k : Nat) (prog : Program) (w : World) (K : PySem.W.Frag) (mg : Str → Option Value) (base : Heap) : Prop where
  hK : g.K = K
  glob : ∀ x d, lookF P.glob x = some d → ∃ v u, mg x = some u ∧ RelV v u ∧ ∀ G, Rp g.K G v d
  free : ∀ x ∈ P.free, mg x = none
  cls : ∀ q ∈ P.cs, ClsOk prog g mg q.1 q.2
  sup : P.cs ≠ [] → mg "super" = none
  exc : ∀ x l, lookF P.ec x = some l → ∃ cx, mg x = some (.ref cx) ∧ ∀ q ∈ P.cs, ∀ C, g.cl q.1 = some C → PySem.W.exmOne K (.ref C) (.ref cx) = some (decide (q.1 ∈ l)) ∧ PySem.W.kitOne K (.ref C) (.ref cx) = some (decide (q.1 ∈ l))
  fns : ∀ x own ar sem, lookF P.fns x = some (own, ar, sem) → ∃ f fd ps, mg x = some (.ref f) ∧ PySem.W.keepIn K (.ref f) = true ∧ Binds K fd ps [] ∧ FnOk prog w K mg base (L2.CX prog w) k f fd ps (spF g ar sem)
structure CxR (g : Gd) (P : Pg) (E : En) (k : Nat) (X : Cx) (W : WX) : Prop where
  pg : PgR g P k X.prog X.w X.K X.mg X.base
  N : X.N = E.N
  nd : X.N.Nodup
  sc : X.env.scope = E.sc
  fn : ∀ x, X.fn x = E.fnc x
  calm : X.calm = true
  room : Room k X.A
  gx : E.gx = true → Room (k + 1) X.A ∧ ∃ c Pt, GxR.TabB X.base X.mg c Pt ∧ X.env.code = .ref c ∧ Pt ∈ g.T ∧ ∀ q, (Pt, q) ∉ g.L
  lx : E.lx = true → Room (k + 1) X.A ∧ ∃ c Pt, LamX.TabB X.base X.mg c Pt ∧ X.env.code = .ref c ∧ Pt ∈ g.T ∧ (Pt, X.env.qual ++ "<lambda>") ∈ g.L ∧ ∀ q, (Pt, q) ∈ g.L → q = X.env.qual ++ "<lambda>"
  tk : Takes X W
structure RcOk (g : Gd) (P : Pg) (k : Nat) (r : Rc) : Prop where
  e : ∀ E e X W, CxR g P E k X W → PE X e (tD g W (r.e E e))
  t : ∀ E e X W, CxR g P E k X W → PT X e (tDT g W (r.t E e))
  i : ∀ E te iter X W, CxR g P E k X W → PI X te iter (tDI g W (r.i E te iter).1 (r.i E te iter).2)
section
variable {g : Gd} {P : Pg} {E : En} {k : Nat} {X : Cx} {W : WX} {r : Rc}
theorem CxR.blk (h : CxR g P E k X W) (scope : Scope) : Blk X scope fun Y => CxR g P (blkE E scope) k Y W0 := fun s H C cl fp =>
  ⟨h.pg, h.N, h.nd, by show relS scope X.env.scope = relS scope E.sc; rw [h.sc], fun _ => rfl, h.calm, h.room, h.gx, (fun z => by cases z), takes0⟩
theorem CxR.gen (h : CxR g P E k X W) (scope : Scope) : Gnx X k scope fun Y => CxR g P (genE E scope) k Y W0 := fun A' s H C code cl fp pn hr =>
  ⟨h.pg, h.N, h.nd, rfl, fun _ => rfl, h.calm, hr, (fun z => by cases z), (fun z => by cases z), takes0⟩
theorem CxR.tr (h : CxR g P E k X W) {W' : WX} {pn' : List (Addr × Obj)} {xe : Value → Shared → Prop} (tk : Takes (X.tr pn' xe) W') : CxR g P E k (X.tr pn' xe) W' :=
  ⟨h.pg, h.N, h.nd, h.sc, h.fn, h.calm, h.room, h.gx, h.lx, tk⟩
theorem none_e {e : Expr} : PE X e (tD g W cNone) := ⟨fun _ _ _ _ _ _ ⟨_, _, _, _, h, _⟩ => by cases h⟩
theorem none_t {e : Expr} : PT X e (tDT g W tNone) := ⟨fun _ _ _ _ _ _ ⟨_, _, _, _, h, _⟩ => by cases h⟩
theorem none_w {e : Expr} : PW X e (tDT g W tNone) := ⟨fun _ _ _ _ _ _ _ ⟨_, _, _, _, h, _⟩ => by cases h⟩
theorem none_a {es : List Expr} : PA X es (tDA g W aNone) := ⟨fun _ _ _ _ _ _ _ ⟨_, _, _, _, h, _⟩ => by cases h⟩
theorem none_i {te it : Expr} {pr : Bool} : PI X te it (tDI g W pr aNone) := ⟨fun _ _ _ _ _ _ ⟨_, _, _, _, h, _⟩ => by cases h⟩
theorem none_g {e : Expr} {pn : Pin} {pr : Bool} : PG X e (tDG g pn pr gNone) := ⟨fun _ _ _ _ _ _ _ _ _ ⟨_, _, _, _, _, _, _, h, _⟩ => by cases h⟩
theorem none_s {s : Stmt} {pn : Pin} : PS X s (tDS g W pn sNone) := ⟨fun _ _ _ _ _ _ ⟨_, _, _, _, h, _⟩ => by cases h⟩
theorem none_if {c : List Expr} : PTs X c (tDT g W tNone) := ⟨fun _ _ _ _ _ _ ⟨_, _, _, _, h, _⟩ => by cases h⟩
theorem idxN_at {N : List Str} {x : Str} {i : Nat} (h : idxN N x = some i) : N[i]? = some x := by
  unfold idxN at h
  obtain ⟨hi, hx, _⟩ := List.findIdx?_eq_some_iff_getElem.mp h
  rw [List.getElem?_eq_getElem hi]
  exact congrArg some (of_decide_eq_true hx)
theorem visB_of {sc : Scope} {x : Str} (h : visB sc x = true) : Vis sc x := by
  unfold visB at h
  split at h
  · exact .inl (by assumption)
  · exact .inr (.inl (by assumption))
  · exact .inr (.inr (by assumption))
  · cases h
theorem locB_of {sc : Scope} {x : Str} (h : locB sc x = true) : Loc sc x := by
  unfold locB at h
  split at h
  · exact .inl (by assumption)
  · exact .inr (by assumption)
  · cases h
theorem slot_of (h : CxR g P E k X W) {x : Str} {i : Nat} (hs : slot E x = some i) : X.N[i]? = some x ∧ Vis X.env.scope x ∧ (x == ("__debug__" : Str)) = false ∧ (x == ("__classdict__" : Str)) = false := by
  unfold slot at hs
  split at hs
  · rename_i hc
    rw [Bool.and_eq_true] at hc
    have h2 := hc.2
    unfold okNm at h2
    simp only [Bool.and_eq_true, Bool.not_eq_true'] at h2
    exact ⟨by rw [h.N]; exact idxN_at hs, by rw [h.sc]; exact visB_of hc.1, h2.1, h2.2⟩
  · cases hs
theorem glB_of (h : CxR g P E k X W) {x : Str} (hg : glB E.sc x = true) : Gl X x ∧ (x == ("__debug__" : Str)) = false := by
  unfold glB at hg
  split at hg
  · rename_i q
    refine ⟨?_, by simpa using hg⟩
    show X.env.scope.names.lookup x = _
    rw [h.sc]
    exact q
  · cases hg
theorem isFree_of (h : CxR g P E k X W) {x : Str} (hf : isFree P E x = true) : Gl X x ∧ (x == ("__debug__" : Str)) = false ∧ X.mg x = none := by
  unfold isFree at hf
  rw [Bool.and_eq_true, List.any_eq_true] at hf
  obtain ⟨h1, y, hy, e⟩ := hf
  obtain ⟨a, b⟩ := glB_of h h1
  exact ⟨a, b, (of_decide_eq_true e) ▸ h.pg.free y hy⟩
theorem nm_ok (h : CxR g P E k X W) {x : Str} {p : Pos} : PE X (.Name x p) (tD g W (nmE P E x)) := by
  unfold nmE
  split
  · rename_i i q
    obtain ⟨a, b, c, d⟩ := slot_of h q
    exact e_name a b c d
  · split
    · rename_i hg
      obtain ⟨a, b⟩ := glB_of h hg
      split
      · rename_i d q
        obtain ⟨v, u, h1, h2, h3⟩ := h.pg.glob x d q
        exact e_glob a h1 h2 b h3
      · exact none_e
    · exact none_e
theorem cst_ok {c : Const} {j : Nat} {p : Pos} : PE X (.Constant c j p) (tD g W (cst c)) := by
  cases c with
  | int i => exact e_const pe_int fun _ => .int _
  | bool b => exact e_const pe_bl fun _ => .bl _
  | none => exact e_const pe_non fun _ => .non
  | str s => exact e_const pe_str fun _ => .str _
  | _ => exact none_e
theorem units_of (h : CxR g P E k X W) : X.A.units + 64 < cLine ∧ X.A.units + 65 < cLine := by
  have := h.room.un
  exact ⟨by omega, by omega⟩
theorem opSem_ok (h : CxR g P E k X W) {op : Operator} {s : D → D → Option Sl} (e : opSem op = some s) : OpR X (binaryOp op) (rS2 g s) := by
  have hK := h.pg.hK
  cases op <;> (first | cases e) <;> first | exact o_add hK | exact o_sub hK | exact o_mul hK | exact o_mod hK | exact o_div hK | exact o_pow hK | exact o_shl | exact o_shr | exact o_band | exact o_bor
theorem cmpSem_ok (h : CxR g P E k X W) {op : CmpOp} {s : D → D → Option Sl} (e : cmpSem op = some s) : OpR X (compareOp op) (rS2 g s) := by
  have hK := h.pg.hK
  obtain ⟨u1, u2⟩ := units_of h
  cases op <;> cases e
  · exact o_eq hK u1
  · exact o_ne hK u1
  · exact o_cmp hK op_lt u1 tr_lt
  · exact o_cmp hK op_le u1 tr_le
  · exact o_cmp hK op_gt u1 tr_gt
  · exact o_cmp hK op_ge u1 tr_ge
  · exact o_is hK
  · exact o_isnot hK
  · exact o_in hK u2
  · exact o_notin hK u2
theorem cmpSem_bl {op : CmpOp} {s : D → D → Option Sl} (e : cmpSem op = some s) : ∀ x y z, s x y = some z → ∃ b, z = bl b := by
  intro x y z q
  cases op <;> cases e
  · unfold sEq at q; split at q <;> cases q; exact ⟨_, rfl⟩
  · unfold sNe at q; split at q <;> cases q; exact ⟨_, rfl⟩
  · unfold sCmp at q
    split at q
    · cases q; exact ⟨_, rfl⟩
    · split at q <;> cases q
      exact ⟨_, rfl⟩
    · cases q
  · unfold sCmp at q
    split at q
    · cases q; exact ⟨_, rfl⟩
    · split at q <;> cases q
      exact ⟨_, rfl⟩
    · cases q
  · unfold sCmp at q
    split at q
    · cases q; exact ⟨_, rfl⟩
    · split at q <;> cases q
      exact ⟨_, rfl⟩
    · cases q
  · unfold sCmp at q
    split at q
    · cases q; exact ⟨_, rfl⟩
    · split at q <;> cases q
      exact ⟨_, rfl⟩
    · cases q
  · unfold sIsN at q
    split at q
    · cases q; exact ⟨_, rfl⟩
    · unfold sIsB at q; split at q <;> cases q; exact ⟨_, rfl⟩
  · unfold sIsN at q
    split at q
    · cases q; exact ⟨_, rfl⟩
    · unfold sIsB at q; split at q <;> cases q; exact ⟨_, rfl⟩
  · unfold sIn inL at q
    split at q
    · split at q <;> cases q; exact ⟨_, rfl⟩
    · split at q <;> cases q; exact ⟨_, rfl⟩
    · cases q; exact ⟨_, rfl⟩
    · cases q
  · unfold sIn inL at q
    split at q
    · split at q <;> cases q; exact ⟨_, rfl⟩
    · split at q <;> cases q; exact ⟨_, rfl⟩
    · cases q; exact ⟨_, rfl⟩
    · cases q
end
end Rk
set_option Elab.async false
set_option linter.all false
set_option maxRecDepth 100000
set_option maxHeartbeats 4000000
namespace Rk
open PySem PySem.Spec PyProof.Rows L2
section
variable {g : Gd} {P : Pg} {E : En} {k : Nat} {X : Cx} {W : WX} {r : Rc}
theorem boV_ok {f : Expr → Ev} (hf : ∀ e, PE X e (tD g W (f e))) (op : BoolOp) : ∀ (vs : List Expr) (pos : Pos), PE X (.BoolOp op vs pos) (tD g W (boV f op vs))
  | [], _ => none_e
  | [a], _ => e_one (hf a)
  | a :: b :: r, pos => by
    cases op with
    | And => exact e_andV (hf _) (boV_ok hf .And (b :: r) pos)
    | Or => exact e_orV (hf a) (boV_ok hf .Or (b :: r) pos)
theorem boT_ok {f : Expr → EvT} (hf : ∀ e, PT X e (tDT g W (f e))) (op : BoolOp) : ∀ (vs : List Expr) (pos : Pos), PW X (.BoolOp op vs pos) (tDT g W (boT f op vs))
  | [], _ => none_w
  | [a], _ => by
    cases op with
    | And => exact e_and1 (hf a)
    | Or => exact e_or1 (hf a)
  | a :: b :: r, pos => by
    cases op with
    | And => exact e_andT (hf a) (boT_ok hf .And (b :: r) pos)
    | Or => exact e_orT (hf a) (boT_ok hf .Or (b :: r) pos)
theorem argsE_ok {f : Expr → Ev} (hf : ∀ e, PE X e (tD g W (f e))) : ∀ es : List Expr, PA X es (tDA g W (argsE f es))
  | [] => e_a0
  | e :: es => by
    unfold argsE
    split
    · exact e_a1 (hf e) (argsE_ok hf es) (by assumption)
    · exact none_a
theorem ltTup_of {a : Expr} {op : CmpOp} {b : Expr} (h : ltTup a op b = true) : op = .Lt ∧ behindInMarks op b = false := by
  unfold ltTup at h
  rw [Bool.and_eq_true, Bool.and_eq_true] at h
  have : op = .Lt := by
    have := h.1.1
    cases op <;> first | rfl | cases this
  subst this
  exact ⟨rfl, nomark b⟩
theorem sLtT_bl {x y : D} {z : Sl} (q : sLtT x y = some z) : ∃ b, z = bl b := by
  unfold sLtT at q
  split at q
  · split at q
    · cases q; exact ⟨_, rfl⟩
    · cases q
  · cases q
theorem cmpV_ok (h : CxR g P E k X W) {f : Expr → Ev} (hf : ∀ e, PE X e (tD g W (f e))) {a : Expr} {ops : List CmpOp} {bs : List Expr} {pos : Pos} : PE X (.Compare a ops bs pos) (tD g W (cmpV f a ops bs)) := by
  unfold cmpV
  split
  · split
    · rename_i hl
      obtain ⟨rfl, hm⟩ := ltTup_of hl
      exact e_cmp (o_ltT h.pg.hK (units_of h).1) (hf _) (hf _) hm
    split
    · rename_i s q
      split
      · exact none_e
      · rename_i hm
        exact e_cmp (cmpSem_ok h q) (hf _) (hf _) (Bool.eq_false_iff.mpr hm)
    · exact none_e
  · split
    · rename_i op op' b c s s' q q'
      split
      · exact none_e
      · rename_i hm
        exact e_chain (cmpSem_ok h q) (cmpSem_ok h q') (hf _) (hf _) (hf _) (Bool.eq_false_iff.mpr hm)
    · exact none_e
  · exact none_e
/-- an expression whose value is a bool, as a test -/
theorem tTest_of {f : Ev} {σ : St} {H : Hp} {Q : Bool → Hp → Prop} (hb : ∀ ρ r ρ', f ρ = some (.ok r ρ') → ∃ b, r = bl b) (h : tDT g W (cT f) σ H Q) : tD g W f σ H fun x H' => ∃ k, x = .bl k ∧ Q k H' := by
  obtain ⟨ρ, G, o, w, e, p⟩ := h
  unfold cT bdD bdO at e
  cases q : f ρ with
  | none => rw [q] at e; cases e
  | some oa =>
    rw [q] at e
    refine ⟨ρ, G, oa, w, q, ?_⟩
    cases oa with
    | ex c fs ρ' => cases e; exact p
    | ok r ρ1 =>
      obtain ⟨b, rfl⟩ := hb _ _ _ q
      cases e
      intro v G' H' s x
      cases x
      exact ⟨b, rfl, p _ _ s⟩
theorem lift_bl {s : D → D → Option Sl} (hs : ∀ x y z, s x y = some z → ∃ b, z = bl b) {x y : D} {ρ : Rho} {r : Sl} {ρ' : Rho} (h : lift (s x y) ρ = some (.ok r ρ')) : ∃ b, r = bl b := by
  obtain ⟨z, hz, e⟩ := lift_ok h
  cases e
  exact hs _ _ _ hz
theorem bdD_inv {β : Type} {x : Option (Oc Sl)} {kk : D → Rho → Option (Oc β)} {r : β} {ρ' : Rho} (h : bdD x kk = some (.ok r ρ')) : ∃ d ρ1, kk d ρ1 = some (.ok r ρ') := by
  unfold bdD bdO at h
  cases x with
  | none => cases h
  | some o =>
    cases o with
    | ex c fs ρ => cases h
    | ok a ρ =>
      dsimp only at h
      cases q : pub a with
      | none => rw [q] at h; cases h
      | some d => rw [q] at h; exact ⟨d, ρ, h⟩
theorem cmpT_ok (h : CxR g P E k X W) {f : Expr → Ev} (hf : ∀ e, PE X e (tD g W (f e))) {a : Expr} {ops : List CmpOp} {bs : List Expr} {pos : Pos} : PT X (.Compare a ops bs pos) (tDT g W (cT (cmpV f a ops bs))) := by
  have nn : ∀ {e : Expr}, PT X e (tDT g W (cT cNone)) := fun {e} => ⟨fun _ _ _ _ _ _ ⟨_, _, _, _, h, _⟩ => by cases h⟩
  unfold cmpV
  split
  · split
    · rename_i hl
      obtain ⟨rfl, hm⟩ := ltTup_of hl
      exact e_cmpT (fun _ _ _ => sLtT_bl) (o_ltT h.pg.hK (units_of h).1) (hf _) (hf _) hm
    split
    · rename_i s q
      split
      · exact nn
      · rename_i hm
        exact e_cmpT (cmpSem_bl q) (cmpSem_ok h q) (hf _) (hf _) (Bool.eq_false_iff.mpr hm)
    · exact nn
  · split
    · rename_i op op' b c s s' q q'
      split
      · exact nn
      · rename_i hm
        have hm := Bool.eq_false_iff.mpr hm
        refine (pt_chain (cmpSem_ok h q) (cmpSem_ok h q') (hf _) (hf _) (hf _) hm).imp fun σ H Q hh => ?_
        have hh' := tTest_of (f := cChain s s' _ _ _) (fun ρ r ρ' e => ?_) hh
        · obtain ⟨ρ, G, o, w, e, p⟩ := hh'
          refine tD_bd w e p.exn fun v d ρ1 G1 H1 st1 r1 e1 => tD_bd st1.wo e1 (p.step st1).exn fun u d2 ρ2 G2 H2 st2 r2 e2 => ?_
          have p2 := p.step (st1.trans st2)
          cases q1 : s d d2 with
          | none => rw [q1] at e2; cases e2
          | some z =>
            obtain ⟨b1, rfl⟩ := cmpSem_bl q _ _ _ q1
            rw [q1] at e2
            refine ⟨G2, d, d2, _, st2.wo.gh, r1.mono st2.gg, r2, q1, fun v' G' H' gr x => ?_⟩
            cases x
            have s3 := st2.wo.step gr
            cases b1 with
            | true =>
              refine ⟨true, rfl, iteT (tD_bd s3.wo e2 (p2.step s3).exn fun v3 d3 ρ3 G3 H3 st3 r3 e3 => ?_)⟩
              obtain ⟨z3, hz3, rfl⟩ := lift_ok e3
              exact ⟨G3, d2, d3, z3, st3.wo.gh, r2.mono (gr.gg.trans st3.gg), r3, hz3, ((p2.step s3).step st3).kq st3.wo⟩
            | false =>
              cases e2
              exact ⟨false, rfl, iteF ((p2.step s3).now s3.wo (.bl _))⟩
        · unfold cChain at e
          obtain ⟨d1, ρ1, e1⟩ := bdD_inv e
          obtain ⟨d2, ρ2, e2⟩ := bdD_inv e1
          split at e2
          · obtain ⟨d3, ρ3, e3⟩ := bdD_inv e2
            exact lift_bl (cmpSem_bl q') e3
          · cases e2; exact ⟨_, rfl⟩
          · cases e2
    · exact nn
  · exact nn
theorem cmpTT_ok (h : CxR g P E k X W) {f : Expr → Ev} (hf : ∀ e, PE X e (tD g W (f e))) {a : Expr} {ops : List CmpOp} {bs : List Expr} {pos : Pos} : PT X (.Compare a ops bs pos) (tDT g W (cmpT f a ops bs)) := by
  unfold cmpT
  split
  · split
    · rename_i q1 q2 q3
      split
      · exact none_t
      · rename_i hm
        exact e_ch3 (cmpSem_bl q3) (cmpSem_ok h q1) (cmpSem_ok h q2) (cmpSem_ok h q3) (hf _) (hf _) (hf _) (hf _) (Bool.eq_false_iff.mpr hm)
    · exact none_t
  · exact cmpT_ok h hf
end
end Rk
set_option Elab.async false
set_option linter.all false
set_option maxRecDepth 100000
set_option maxHeartbeats 4000000
namespace Rk
open PySem PySem.Spec PyProof.Rows L2
section
variable {g : Gd} {P : Pg} {E : En} {k : Nat} {X : Cx} {W : WX} {r : Rc}
theorem tgs_ok {pin : Pin} {f : Expr → EvG} : ∀ {es : List Expr}, es.all notStar = true → (∀ e ∈ es, PG X e (tDG g pin false (f e))) → PGs X es (tDGs g pin (es.foldr (fun e r => gCons' (f e) r) gNil'))
  | [], _, _ => g_nil
  | e :: es, h, hf => by
    rw [List.all_cons, Bool.and_eq_true] at h
    exact g_cons h.1 (hf e List.mem_cons_self) (tgs_ok h.2 fun e' m => hf e' (List.mem_cons_of_mem _ m))
theorem tgE_ok (h : CxR g P E k X W) {pin : Pin} : ∀ (n : Nat) (e : Expr), PG X e (tDG g pin false (tgE E pin n e)) ∧ (isTupE e = true → ∀ pr, PG X e (tDG g pin pr (tgE E pin n e)))
  | 0, e => ⟨none_g, fun _ _ => none_g⟩
  | n + 1, e => by
    cases e with
    | Name x p =>
      refine ⟨?_, fun z => by cases z⟩
      show PG X _ (tDG g pin false (match idxN E.N x with
        | some i => if locB E.sc x && (E.fnc x || decide (E.sc.names.lookup x = some .local)) && !(pin i) then gName' i else gNone
        | none => gNone))
      split
      · rename_i i q
        split
        · rename_i hc
          simp only [Bool.and_eq_true, Bool.or_eq_true, decide_eq_true_eq, Bool.not_eq_true'] at hc
          obtain ⟨⟨h1, h2⟩, h3⟩ := hc
          refine g_name h.nd (by rw [h.N]; exact idxN_at q) (by rw [h.sc]; exact locB_of h1) ?_ h3
          rcases h2 with h2 | h2
          · exact .inl ((h.fn x).trans h2)
          · exact .inr (by rw [h.sc]; exact h2)
        · exact none_g
      · exact none_g
    | Tuple es kk p =>
      have all : ∀ pr, PG X (.Tuple es kk p) (tDG g pin pr (if es.all notStar then gTup' es.length (es.foldr (fun e r => gCons' (tgE E pin n e) r) gNil') else gNone)) := fun pr => by
        split
        · rename_i hs
          exact g_tup h.pg.hK h.calm hs (tgs_ok hs fun e _ => (tgE_ok h n e).1)
        · exact none_g
      exact ⟨all false, fun _ pr => all pr⟩
    | _ => exact ⟨none_g, fun _ _ => none_g⟩
theorem tgP_ok (h : CxR g P E k X W) {pin : Pin} (pr : Bool) (e : Expr) : PG X e (tDG g pin pr (tgP E pin pr e)) := by
  unfold tgP
  split
  · exact none_g
  · rename_i hc
    cases pr with
    | false => exact (tgE_ok h 8 e).1
    | true =>
      refine (tgE_ok h 8 e).2 ?_ true
      cases q : isTupE e with
      | true => rfl
      | false => rw [q] at hc; exact absurd rfl hc
theorem ifsE_ok {f : Expr → EvT} (hf : ∀ e, PT X e (tDT g W (f e))) : ∀ cs : List Expr, PTs X cs (tDT g W (ifsE f cs))
  | [] => b_nil
  | [c] => b_one (hf c)
  | _ :: _ :: _ => none_if
theorem fold_pure {iter : Expr} (h : notSet iter = true) (env : Env) (x : Value) : foldedSetIterable iter env x = pure x := by
  cases iter <;> first | rfl | cases h
theorem gfold_pure {iter : Expr} (h : notSet iter = true) (h2 : notLst iter = true) (env : Env) (x : Value) : genFold iter env x = pure x := by
  cases iter <;> first | rfl | exact absurd h Bool.false_ne_true | exact absurd h2 Bool.false_ne_true
theorem subE_ok (h : CxR g P E k X W) {f : Expr → Ev} (hf : ∀ e, PE X e (tD g W (f e))) {a s : Expr} {pos : Pos} : PE X (.Subscript a s pos) (tD g W (subE f P E a s)) := by
  have hK := h.pg.hK
  have part : ∀ o : Option Expr, PO X o (tDO g W (cPart (o.map f))) := fun o => by
    cases o with
    | none => exact e_part0
    | some e => exact e_part1 (hf e)
  have gen : notSlice s = true → PE X (.Subscript a s pos) (tD g W (match a with
    | .Name x _ => (match slot E x with
      | some i => cIxN i (f s)
      | none => cBin sIx (nmE P E x) (f s))
    | .Dict ks vs _ => (match pairsOf ks vs with
      | some ps => if decide (ps.length ≠ 0) && decide (ps.length ≤ 15) then cDct ps (f s) else cNone
      | none => cNone)
    | a => cBin sIx (f a) (f s))) := fun hs => by
    split
    · rename_i x p
      split
      · rename_i i q
        obtain ⟨h1, h2, h3, h4⟩ := slot_of h q
        exact e_ixN hK h1 h2 h3 h4 (hf _) hs
      · exact e_ix hK (nm_ok h) (hf _) hs
    · split
      · rename_i ps hp
        split
        · rename_i hc
          rw [Bool.and_eq_true, decide_eq_true_eq, decide_eq_true_eq] at hc
          exact e_dct (units_of h).1 hp hc.1 hc.2 (hf _) (plain_ix hK hs)
        · exact none_e
      · exact none_e
    · exact e_ix hK (hf _) (hf _) hs
  cases s with
  | Slice lo hi st p =>
    cases st with
    | none => exact e_sl hK (hf a) (part lo) (part hi)
    | some st =>
      show PE X (.Subscript a (.Slice lo hi (some st) p) pos) (tD g W (revE (f a) lo hi st))
      unfold revE
      split
      · split
        · subst_vars
          exact e_rev hK (hf a)
        · exact none_e
      · exact none_e
  | _ => exact gen rfl
/-- what the rule of a comprehension wants -/
structure LcP (g : Gd) (X : Cx) (W : WX) (E : En) (scope : Scope) (te iter elt : Expr) (ifs : List Expr) (own : List (Str × Nat)) (pr : Bool) (src : EvA) (tg : EvG) (t : EvT) (fe : Ev) : Prop where
  hi : PI X te iter (tDI g W pr src)
  ok : BlkOk X.N X.env.scope scope own
  hg : Blk X scope fun Y => PG Y te (tDG g (pnO (own.map (·.2))) pr tg)
  ht : Blk X scope fun Y => PTs Y ifs (tDT g W0 t)
  he : Blk X scope fun Y => PE Y elt (tD g W0 fe)
  hs : ∀ x, foldedSetIterable iter X.env x = pure x
theorem lcP_ok (R : RcOk g P k r) (h : CxR g P E k X W) {te iter elt : Expr} {ifs : List Expr} {scope : Scope} (hc : (blkC E.N E.sc scope (ownOf E.N 8 te) && notSet iter) = true) :
    LcP g X W E scope te iter elt ifs (ownOf E.N 8 te) (r.i E te iter).1 (r.i E te iter).2 (tgP (blkE E scope) (pnO ((ownOf E.N 8 te).map (·.2))) (r.i E te iter).1 te) (ifsE (r.t (blkE E scope)) ifs) (r.e (blkE E scope) elt) := by
  rw [Bool.and_eq_true] at hc
  have hb : Blk X scope fun Y => CxR g P (blkE E scope) k Y W0 := h.blk scope
  exact ⟨R.i E te iter X W h, by rw [h.N, h.sc]; exact blkOk_by hc.1, fun s H C cl fp => tgP_ok (hb s H C cl fp) _ _, fun s H C cl fp => ifsE_ok (fun e => R.t _ e _ _ (hb s H C cl fp)) _, fun s H C cl fp => R.e _ _ _ _ (hb s H C cl fp), fold_pure hc.2 _⟩
/-- .. with two clauses -/
structure LcP2 (g : Gd) (X : Cx) (W : WX) (E : En) (scope : Scope) (te iter te1 iter1 elt : Expr) (ifs ifs1 : List Expr) (own : List (Str × Nat)) (own1 : List Nat) (pr pr1 : Bool) (src src1 : EvA) (tg tg1 : EvG) (t t1 : EvT) (fe : Ev) : Prop extends LcP g X W E scope te iter elt ifs own pr src tg t fe where
  hv : ∀ i ∈ own1, i ∈ own.map (·.2)
  hi1 : Blk X scope fun Y => PI Y te1 iter1 (tDI g W0 pr1 src1)
  hg1 : Blk X scope fun Y => PG Y te1 (tDG g (pnO own1) pr1 tg1)
  ht1 : Blk X scope fun Y => PTs Y ifs1 (tDT g W0 t1)
  hs1 : ∀ env x, foldedSetIterable iter1 env x = pure x
theorem lcP2_ok (R : RcOk g P k r) (h : CxR g P E k X W) {te iter te1 iter1 elt : Expr} {ifs ifs1 : List Expr} {scope : Scope} (hc : (blkC E.N E.sc scope (ownOf E.N 8 te ++ ownOf E.N 8 te1) && notSet iter && notSet iter1) = true) :
    LcP2 g X W E scope te iter te1 iter1 elt ifs ifs1 (ownOf E.N 8 te ++ ownOf E.N 8 te1) ((ownOf E.N 8 te1).map (·.2)) (r.i E te iter).1 (r.i (blkE E scope) te1 iter1).1 (r.i E te iter).2 (r.i (blkE E scope) te1 iter1).2 (tgP (blkE E scope) (pnO ((ownOf E.N 8 te ++ ownOf E.N 8 te1).map (·.2))) (r.i E te iter).1 te)
      (tgP (blkE E scope) (pnO ((ownOf E.N 8 te1).map (·.2))) (r.i (blkE E scope) te1 iter1).1 te1) (ifsE (r.t (blkE E scope)) ifs) (ifsE (r.t (blkE E scope)) ifs1) (r.e (blkE E scope) elt) := by
  rw [Bool.and_eq_true, Bool.and_eq_true] at hc
  have hb : Blk X scope fun Y => CxR g P (blkE E scope) k Y W0 := h.blk scope
  exact ⟨⟨R.i E te iter X W h, by rw [h.N, h.sc]; exact blkOk_by hc.1.1, fun s H C cl fp => tgP_ok (hb s H C cl fp) _ _, fun s H C cl fp => ifsE_ok (fun e => R.t _ e _ _ (hb s H C cl fp)) _, fun s H C cl fp => R.e _ _ _ _ (hb s H C cl fp), fold_pure hc.1.2 _⟩,
    fun i m => by rw [List.map_append]; exact List.mem_append_right _ m, fun s H C cl fp => R.i _ _ _ _ _ (hb s H C cl fp), fun s H C cl fp => tgP_ok (hb s H C cl fp) _ _, fun s H C cl fp => ifsE_ok (fun e => R.t _ e _ _ (hb s H C cl fp)) _, fold_pure hc.2⟩
theorem lcE_ok (R : RcOk g P k r) (h : CxR g P E k X W) {elt : Expr} {gs : List Comprehension} {scope : Scope} {pos : Pos} : PE X (.ListComp elt gs scope pos) (tD g W (lcE r E elt gs scope)) := by
  unfold lcE
  split
  · split
    · rename_i te iter ifs hc
      have q := lcP_ok (elt := elt) (ifs := ifs) R h hc
      exact e_lc h.calm h.nd q.hi q.ok q.hg q.ht q.he q.hs
    · exact none_e
  · split
    · rename_i te iter ifs te1 iter1 ifs1 hc
      have q := lcP2_ok (elt := elt) (ifs := ifs) (ifs1 := ifs1) R h hc
      exact e_lc2 h.calm h.nd q.hi q.ok q.hv q.hg q.ht q.hi1 q.hg1 q.ht1 q.he q.hs q.hs1
    · exact none_e
  · exact none_e
theorem gscp_by {N : List Str} {sc scope : Scope} {own : List (Str × Nat)} (h : gscC N sc scope own = true) : GScp N sc scope own := by
  unfold gscC at h
  simp only [Bool.and_eq_true, List.all_eq_true, decide_eq_true_eq, Bool.not_eq_true'] at h
  obtain ⟨⟨⟨⟨⟨⟨h1, h2⟩, h3⟩, h4⟩, h5⟩, h6⟩, h7⟩ := h
  refine ⟨?_, h2, h3, h4, h5, h6, fun y hy e => ?_, fun y hy e => ?_⟩
  · split at h1
    · assumption
    · cases h1
  · have q := h7 y hy
    simp only [e] at q
    split at q <;> first | exact .inl (by assumption) | exact .inr (by assumption) | cases q
  · have q := h7 y hy
    simp only [e, Bool.or_eq_true, decide_eq_true_eq] at q
    exact q
theorem gnE_all (R : RcOk g P k r) (h : CxR g P E k X W) {elt : Expr} {gs : List Comprehension} {scope : Scope} {p pos gpos : Pos} (hf : Gl X "all") (hm : X.mg "all" = none) : PE X (.Call (.Name "all" p) [.GeneratorExp elt gs scope gpos] [] pos) (tD g W (gnE r E stopF finAll elt gs scope)) := by
  unfold gnE
  split
  · split
    · rename_i hc
      simp only [Bool.and_eq_true] at hc
      obtain ⟨⟨⟨h1, h2⟩, h3⟩, h4⟩ := hc
      obtain ⟨hr, c, Pt, TB, hcode, hPT, hPL⟩ := h.gx h1
      have hb := h.gen scope
      exact e_allG h.calm h.nd hr TB hcode hPT hPL (by rw [h.N, h.sc]; exact gscp_by h2) (R.i E _ _ X W h) (fun A' s H C code cl fp pn hr => tgP_ok (hb A' s H C code cl fp pn hr) _ _) (fun A' s H C code cl fp pn hr => ifsE_ok (fun e => R.t _ e _ _ (hb A' s H C code cl fp pn hr)) _)
        (fun A' s H C code cl fp pn hr => R.e _ _ _ _ (hb A' s H C code cl fp pn hr)) (gfold_pure h3 h4 _) hf hm
    · exact none_e
  · exact none_e
theorem gnE_tup (R : RcOk g P k r) (h : CxR g P E k X W) {elt : Expr} {gs : List Comprehension} {scope : Scope} {p pos gpos : Pos} (hf : Gl X "tuple") (hm : X.mg "tuple" = none) : PE X (.Call (.Name "tuple" p) [.GeneratorExp elt gs scope gpos] [] pos) (tD g W (gnE r E never finTup elt gs scope)) := by
  unfold gnE
  split
  · split
    · rename_i hc
      simp only [Bool.and_eq_true] at hc
      obtain ⟨⟨⟨h1, h2⟩, h3⟩, h4⟩ := hc
      obtain ⟨hr, c, Pt, TB, hcode, hPT, hPL⟩ := h.gx h1
      have hb := h.gen scope
      exact e_tupG h.calm h.nd hr TB hcode hPT hPL (by rw [h.N, h.sc]; exact gscp_by h2) (R.i E _ _ X W h) (fun A' s H C code cl fp pn hr => tgP_ok (hb A' s H C code cl fp pn hr) _ _) (fun A' s H C code cl fp pn hr => ifsE_ok (fun e => R.t _ e _ _ (hb A' s H C code cl fp pn hr)) _)
        (fun A' s H C code cl fp pn hr => R.e _ _ _ _ (hb A' s H C code cl fp pn hr)) (gfold_pure h3 h4 _) hf hm
    · exact none_e
  · exact none_e
end
end Rk
set_option Elab.async false
set_option linter.all false
set_option maxRecDepth 100000
set_option maxHeartbeats 4000000
namespace Rk
open PySem PySem.Spec PyProof.Rows L2
section
variable {g : Gd} {P : Pg} {E : En} {k : Nat} {X : Cx} {W : WX} {r : Rc}
theorem star_any {pos : Pos} {env : Env} : ∀ {es : List Expr}, es.all notStar = true → (backTo pos (starEach es env)).any (·.1) = false
  | [], _ => rfl
  | e :: es, h => by
    rw [List.all_cons, Bool.and_eq_true] at h
    rw [star_cons h.1]
    exact star_any (es := es) h.2
theorem bltG_ok (R : RcOk g P k r) (h : CxR g P E k X W) {x : Str} {e : Expr} {es : List Expr} {p pos : Pos} (hf : Gl X x) (hm : X.mg x = none) (hs : (e :: es).all notStar = true) : PE X (.Call (.Name x p) (e :: es) [] pos) (tD g W (bltG r E x (e :: es))) := by
  have hK := h.pg.hK
  have ha := argsE_ok (fun e => R.e E e X W h) (e :: es)
  have hs1 : notStar e = true ∧ es.all notStar = true := by rw [List.all_cons, Bool.and_eq_true] at hs; exact hs
  have he : starEach (e :: es) X.env = (false, eval e X.env) :: starEach es X.env := star_cons hs1.1
  have hpl := star_any (pos := pos) (env := X.env) hs1.2
  unfold bltG
  split
  · rename_i s q
    unfold bltSem at q
    split at q
    · subst x; cases q; exact tCB_of (pe_callB (c_len hK) hf hm (by decide +kernel) ha (by decide) (by decide) he hpl)
    split at q
    · subst x; cases q; exact tCB_of (pe_callTy (c_int hK) hf hm (by decide +kernel) ha (by decide) (by decide) he hpl)
    split at q
    · subst x; cases q; exact tCB_of (pe_callB (c_abs hK) hf hm (by decide +kernel) ha (by decide) (by decide) he hpl)
    split at q
    · subst x; cases q; exact tCB_of (pe_callB (c_max hK h.calm) hf hm (by decide +kernel) ha (by decide) (by decide) he hpl)
    split at q
    · subst x; cases q; exact tCB_of (pe_callB (c_min hK h.calm (units_of h).1) hf hm (by decide +kernel) ha (by decide) (by decide) he hpl)
    split at q
    · subst x; cases q; exact tCB_of (pe_callTy (c_tuple hK) hf hm (by decide +kernel) ha (by decide) (by decide) he hpl)
    split at q
    · subst x; cases q; exact tCB_of (pe_callTy (c_list hK) hf hm (by decide +kernel) ha (by decide) (by decide) he hpl)
    split at q
    · subst x; cases q; exact tCB_of (pe_callB (c_sum hK h.calm) hf hm (by decide +kernel) ha (by decide) (by decide) he hpl)
    split at q
    · subst x; cases q; exact tCB_of (pe_callB (c_all hK h.calm) hf hm (by decide +kernel) ha (by decide) (by decide) he hpl)
    split at q
    · subst x; cases q; exact tCB_of (pe_callB (c_any hK h.calm) hf hm (by decide +kernel) ha (by decide) (by decide) he hpl)
    split at q
    · subst x; cases q; exact tCB_of (pe_callB (c_sorted hK (units_of h).1) hf hm (by decide +kernel) ha (by decide) (by decide) he hpl)
    · cases q
  · split
    · subst x
      split
      · rename_i a q
        cases q
        exact e_rgV hf hm ha hs1.1
      · exact none_e
    · exact none_e
theorem tyOf_ok {T : Str} {t : String} (h : tyOf T = some t) : bootBuiltins T = some (.type t) ∧ T ≠ "__name__" ∧ (T == ("__debug__" : Str)) = false := by
  unfold tyOf at h
  split at h
  · subst T; cases h; decide +kernel
  split at h
  · subst T; cases h; decide +kernel
  split at h
  · subst T; cases h; decide +kernel
  split at h
  · subst T; cases h; decide +kernel
  split at h
  · subst T; cases h; decide +kernel
  · cases h
theorem bltE_ok (R : RcOk g P k r) (h : CxR g P E k X W) {x : Str} {args : List Expr} {p pos : Pos} (hf : Gl X x) (hm : X.mg x = none) (hs : args.all notStar = true) : PE X (.Call (.Name x p) args [] pos) (tD g W (bltE r P E x args)) := by
  have hK := h.pg.hK
  unfold bltE
  split
  · split
    · subst x; exact gnE_all R h hf hm
    · split
      · subst x; exact gnE_tup R h hf hm
      · exact none_e
  · split
    · subst x
      split
      · rename_i t q
        split
        · rename_i hc
          rw [Bool.and_eq_true] at hc
          obtain ⟨h1, h2, h3⟩ := isFree_of h hc.2
          obtain ⟨b1, b2, b3⟩ := tyOf_ok q
          exact e_isi hK (R.e E _ X W h) hc.1 hf hm (by decide +kernel) h1 h3 b1 b2 b3
        · exact none_e
      · exact none_e
    · exact bltG_ok R h hf hm hs
  · split
    · rename_i hc
      simp only [Bool.and_eq_true, decide_eq_true_eq] at hc
      obtain ⟨⟨⟨c1, c2⟩, rfl⟩, rfl⟩ := hc
      obtain ⟨h1, h2, h3⟩ := isFree_of h c1
      exact e_lenSet hK h.calm hf hm h1 h3 (R.e E _ X W h) c2
    · split
      · rename_i hc
        simp only [Bool.and_eq_true, decide_eq_true_eq] at hc
        obtain ⟨⟨⟨c1, c2⟩, rfl⟩, rfl⟩ := hc
        obtain ⟨h1, h2, h3⟩ := isFree_of h c1
        exact e_lstRg h.calm hf hm h1 h3 (R.e E _ X W h) c2
      · split
        · rename_i hc
          simp only [Bool.and_eq_true, decide_eq_true_eq] at hc
          obtain ⟨⟨⟨c1, c2⟩, rfl⟩, rfl⟩ := hc
          obtain ⟨h1, h2, h3⟩ := isFree_of h c1
          exact e_sortSet hK h.calm (units_of h).1 hf hm h1 h3 (R.e E _ X W h) c2
        · split
          · rename_i hc
            simp only [Bool.and_eq_true, decide_eq_true_eq] at hc
            obtain ⟨⟨⟨c1, c2⟩, rfl⟩, rfl⟩ := hc
            obtain ⟨h1, h2, h3⟩ := isFree_of h c1
            exact e_tupRg h.calm hf hm h1 h3 (R.e E _ X W h) c2
          · exact bltG_ok R h hf hm hs
  · split
    · rename_i hc
      simp only [Bool.and_eq_true, decide_eq_true_eq] at hc
      obtain ⟨⟨⟨⟨c1, c2⟩, c3⟩, rfl⟩, rfl⟩ := hc
      obtain ⟨h1, h2, h3⟩ := isFree_of h c1
      exact e_lstZip hK h.calm hf hm h1 h3 (argsE_ok (fun e => R.e E e X W h) _) c2 c3
    · exact bltG_ok R h hf hm hs
  · split
    · subst x
      split
      · rename_i i q
        obtain ⟨h1, h2, h3, h4⟩ := slot_of h q
        exact e_lenN hK h1 h2 h3 h4 hf hm
      · exact bltG_ok R h hf hm hs
    · split
      · subst x
        split
        · rename_i i q
          obtain ⟨h1, h2, h3, h4⟩ := slot_of h q
          exact e_lstN hK h1 h2 h3 h4 hf hm
        · exact bltG_ok R h hf hm hs
      · exact bltG_ok R h hf hm hs
  · exact none_e
  · cases args with
    | nil => exact ((by assumption : ([] : List Expr) = [] → False) rfl).elim
    | cons e es => exact bltG_ok R h hf hm hs
theorem bind_lam {q : Str} {a : Str} {ann : Option Expr} {apos : Pos} {body : Expr} {scope : Scope} {cl : List (Str × Addr)} {pm cv ctv v : Value} : bindArgs (PySem.W.kla_fn "<lambda>" q ⟨[], [⟨a, ann, apos⟩], none, [], [], none, []⟩ body scope cl pm cv ctv) ⟨[v], []⟩ = pure [(a, v)] := by
  have e1 : (([(a, v)] : List (Str × Value)).lookup a) = some v := by simp [List.lookup]
  have e2 : seqItems? (.none) = pure none := rfl
  unfold bindArgs
  simp [e1, e2]
theorem kwE_ok (R : RcOk g P k r) (h : CxR g P E k X W) {x : Str} {args : List Expr} {kws : List Keyword} {p pos : Pos} (hf : Gl X x) : PE X (.Call (.Name x p) args kws pos) (tD g W (kwE r P E x args kws)) := by
  have hK := h.pg.hK
  obtain ⟨u1, u2⟩ := units_of h
  unfold kwE
  split
  · split
    · rename_i hc
      simp only [Bool.and_eq_true, decide_eq_true_eq] at hc
      obtain ⟨⟨rfl, c2⟩, c3⟩ := hc
      obtain ⟨_, _, h3⟩ := isFree_of h c3
      split
      · subst_vars
        exact e_kw (id := "max") (c_def hK h.calm u1 true) hf h3 (by decide +kernel) (R.e E _ X W h) (R.e E _ X W h) (by decide) (by decide) c2
      · split
        · subst_vars
          exact e_kw (id := "min") (c_def hK h.calm u1 false) hf h3 (by decide +kernel) (R.e E _ X W h) (R.e E _ X W h) (by decide) (by decide) c2
        · exact none_e
    · exact none_e
  · split
    · rename_i hc
      simp only [Bool.and_eq_true, decide_eq_true_eq, Bool.not_eq_true'] at hc
      obtain ⟨⟨⟨⟨⟨⟨⟨c1, rfl⟩, rfl⟩, rfl⟩, c5⟩, rfl⟩, c7⟩, c8⟩ := hc
      obtain ⟨_, _, h3⟩ := isFree_of h c5
      obtain ⟨hr, c, Pt, TB, hcode, hPT, hL, hLu⟩ := h.lx c1
      split
      · rename_i i j q1 q2
        obtain ⟨a1, a2, a3, a4⟩ := slot_of h q1
        obtain ⟨b1, b2, b3, b4⟩ := slot_of h q2
        exact e_minKey hK h.calm hr TB hcode hPT hL hLu hf h3 a1 a2 a3 a4 b1 b2 b3 b4 c8 (lamP_by (by rw [h.sc]; exact c7)) rfl fun q cl pm cv ctv v => bind_lam
      · exact none_e
    · exact none_e
  · exact none_e
theorem fnE_ok (R : RcOk g P k r) (h : CxR g P E k X W) {x : Str} {args : List Expr} {p pos : Pos} {own : Bool} {ar : Nat} {sem : Ev} (hf : Gl X x) (hd : (x == ("__debug__" : Str)) = false) (hs : args.all notStar = true) (hl : lookF P.fns x = some (own, ar, sem)) : PE X (.Call (.Name x p) args [] pos) (tD g W (fnE r E own ar sem args)) := by
  obtain ⟨f, fd, ps, hm, hk, hb, F⟩ := h.pg.fns x own ar sem hl
  have all : ∀ (e : Expr) (es : List Expr), (e :: es).all notStar = true → PE X (.Call (.Name x p) (e :: es) [] pos) (tD g W (cFn ar sem (argsE (r.e E) (e :: es)))) := fun e es hs => by
    have hs1 : notStar e = true ∧ es.all notStar = true := by rw [List.all_cons, Bool.and_eq_true] at hs; exact hs
    exact e_fn F h.room hf hm hk hb h.tk (argsE_ok (fun e => R.e E e X W h) (e :: es)) hd (star_cons hs1.1) (star_any hs1.2)
  unfold fnE
  split
  · exact none_e
  · rename_i y yp es
    split
    · split
      · rename_i i q
        obtain ⟨h1, h2, h3, h4⟩ := slot_of h q
        have hs1 : es.all notStar = true := by rw [List.all_cons, Bool.and_eq_true] at hs; exact hs.2
        exact e_fn1 F h.room hf hm hk hb h.tk h1 h2 h3 h4 (argsE_ok (fun e => R.e E e X W h) es) hd (star_any hs1)
      · exact none_e
    · exact all _ _ hs
  · split
    · exact none_e
    · exact all _ _ hs
theorem callE_ok (R : RcOk g P k r) (h : CxR g P E k X W) {f : Expr} {args : List Expr} {kws : List Keyword} {pos : Pos} : PE X (.Call f args kws pos) (tD g W (callE r P E pos f args kws)) := by
  have hK := h.pg.hK
  obtain ⟨u1, u2⟩ := units_of h
  unfold callE
  split
  · split
    · rename_i hc
      rw [Bool.and_eq_true] at hc
      obtain ⟨h1, h2⟩ := glB_of h hc.1
      split
      · rename_i q
        exact fnE_ok R h h1 h2 hc.2 q
      · split
        · rename_i hfr
          obtain ⟨_, _, h3⟩ := isFree_of h hfr
          exact bltE_ok R h h1 h3 hc.2
        · exact none_e
    · exact none_e
  · split
    · rename_i hc
      exact kwE_ok R h (glB_of h hc).1
    · exact none_e
  · split
    · rename_i hc
      rw [Bool.and_eq_true] at hc
      split
      · subst_vars
        exact e_index hK u2 (nm_ok h) rfl (R.e E _ X W h) hc.1 hc.2
      · split
        · subst_vars
          exact e_count hK (nm_ok h) rfl (R.e E _ X W h) hc.1 hc.2
        split
        · rename_i i q
          obtain ⟨h1, h2, h3, h4⟩ := slot_of h q
          split
          · subst_vars; exact e_app h1 h2 h3 h4 (R.e E _ X W h) hc.1 hc.2
          · split
            · subst_vars; exact e_ext h1 h2 h3 h4 (R.e E _ X W h) hc.1 hc.2
            · split
              · subst_vars; exact e_pop h1 h2 h3 h4 (R.e E _ X W h) hc.1 hc.2
              · exact none_e
        · exact none_e
    · exact none_e
  · split
    · rename_i hc
      simp only [Bool.and_eq_true, decide_eq_true_eq] at hc
      obtain ⟨⟨⟨c1, c2⟩, c3⟩, c4⟩ := hc
      subst c4
      exact e_index hK u2 (R.e E _ X W h) c3 (R.e E _ X W h) c1 c2
    · exact none_e
  · exact none_e
theorem stE_ok (R : RcOk g P k r) (h : CxR g P E k X W) (e : Expr) : PE X e (tD g W (stE P r E e)) := by
  have hf : ∀ e, PE X e (tD g W (r.e E e)) := fun e => R.e E e X W h
  cases e with
  | Constant c j p => exact cst_ok
  | Name x p => exact nm_ok h
  | BinOp a op b p =>
    show PE X _ (tD g W (match opSem op with
      | some s => cBin s (r.e E a) (r.e E b)
      | none => cNone))
    split
    · rename_i s q
      exact e_bin (opSem_ok h q) (hf a) (hf b)
    · exact none_e
  | UnaryOp op a p =>
    cases op with
    | USub => exact e_un o_neg (hf a)
    | Not => exact e_notV (hf a)
    | _ => exact none_e
  | BoolOp op vs p => exact boV_ok hf op vs p
  | Compare a ops bs p => exact cmpV_ok h hf
  | IfExp c a b p => exact e_if (R.t E c X W h) (hf a) (hf b)
  | Tuple es kk p => exact e_tup (argsE_ok hf es)
  | List es p => exact e_lst (argsE_ok hf es)
  | Subscript a s p => exact subE_ok h hf
  | ListComp elt gs scope p => exact lcE_ok R h
  | Call f args kws p => exact callE_ok R h
  | _ => exact none_e
theorem stT_ok (R : RcOk g P k r) (h : CxR g P E k X W) (e : Expr) : PT X e (tDT g W (stT r E e)) := by
  have hf : ∀ e, PE X e (tD g W (r.e E e)) := fun e => R.e E e X W h
  have hK := h.pg.hK
  cases e with
  | UnaryOp op a p =>
    cases op with
    | Not => exact e_notT (R.t E a X W h)
    | _ => exact e_test hK (hf _) (fun _ => rfl)
  | BoolOp op vs p => exact (boT_ok (fun e => R.t E e X W h) op vs p).pt
  | Compare a ops bs p => exact cmpTT_ok h hf
  | IfExp c a b p => exact none_t
  | _ => exact e_test hK (hf _) (fun _ => rfl)
theorem stI_ok (R : RcOk g P k r) (h : CxR g P E k X W) (te iter : Expr) : PI X te iter (tDI g W (stI P r E te iter).1 (stI P r E te iter).2) := by
  have hf : ∀ e, PE X e (tD g W (r.e E e)) := fun e => R.e E e X W h
  have hK := h.pg.hK
  have tup : ∀ {te : Expr}, isTupE te = true → ∃ es kk p, te = .Tuple es kk p := fun {te} q => by
    cases te <;> first | exact ⟨_, _, _, rfl⟩ | cases q
  unfold stI
  split
  · split
    · rename_i hc
      simp only [Bool.and_eq_true, decide_eq_true_eq] at hc
      obtain ⟨hfr, rfl, rfl, rfl, hs, ht⟩ := hc
      obtain ⟨h1, h2, h3⟩ := isFree_of h hfr
      obtain ⟨es, kk, p, rfl⟩ := tup ht
      exact i_enumS (k := 1) hK h1 h3 (hf _) hs pe_int (by decide)
    · exact i_seq hK (hf _)
  · split
    · rename_i hfr
      obtain ⟨h1, h2, h3⟩ := isFree_of h hfr
      split
      · subst_vars
        split
        · split
          · exact i_rng1 h1 h3 (argsE_ok hf _) (by assumption)
          · exact none_i
        · split
          · rename_i hc
            rw [Bool.and_eq_true] at hc
            exact i_rng2 h1 h3 (argsE_ok hf _) hc.1 hc.2
          · exact none_i
        · split
          · rename_i hc
            rw [Bool.and_eq_true, Bool.and_eq_true] at hc
            exact i_rng3 h1 h3 (argsE_ok hf _) hc.1 hc.2.1 hc.2.2
          · exact none_i
        · exact none_i
      · split
        · subst_vars
          split
          · split
            · rename_i hc
              rw [Bool.and_eq_true] at hc
              obtain ⟨es, kk, p, rfl⟩ := tup hc.2
              exact i_enum hK h1 h3 (hf _) hc.1
            · exact none_i
          · exact none_i
        · split
          · subst_vars
            split
            · split
              · rename_i hc
                rw [Bool.and_eq_true, Bool.and_eq_true] at hc
                obtain ⟨es, kk, p, rfl⟩ := tup hc.2
                exact i_zip hK h1 h3 (argsE_ok hf _) hc.1.1 hc.1.2
              · exact none_i
            · exact none_i
          · exact i_seq hK (hf _)
    · exact i_seq hK (hf _)
  · split
    · rename_i i q
      split
      · obtain ⟨h1, h2, h3, h4⟩ := slot_of h q
        exact i_itN hK h1 h2 h3 h4 (hf _)
      · exact i_seq hK (hf _)
    · exact i_seq hK (hf _)
  · exact i_seq hK (hf _)
theorem step_ok (R : RcOk g P k r) : RcOk g P k (stepR P r) :=
  ⟨fun E e X W h => stE_ok R h e, fun E e X W h => stT_ok R h e, fun E te iter X W h => stI_ok R h te iter⟩
theorem rcN_ok : ∀ n, RcOk g P k (rcN P n)
  | 0 => ⟨fun _ _ _ _ _ => none_e, fun _ _ _ _ _ => none_t, fun _ _ _ _ _ _ => none_i⟩
  | n + 1 => step_ok (rcN_ok n)
theorem swap2 {env : Env} {x y : Str} {px py pt pt2 : Pos} {kt k2 : Nat} {a b : Expr} (hE : env.scope = E.sc) (h : swapC E x y px py a b = true) (ha : notStar a = true) (hb : notStar b = true) :
    swappedStores [.Tuple [.Name x px, .Name y py] kt pt] (.Tuple [a, b] k2 pt2) env = pure (some [x, y]) := by
  unfold swapC at h
  simp only [Bool.and_eq_true, decide_eq_true_eq, Bool.not_eq_true'] at h
  obtain ⟨⟨⟨⟨⟨⟨h1, h2⟩, h3⟩, h4⟩, h5⟩, h6⟩, h7⟩ := h
  have k1 : env.blockKind = .function := by
    have q := eq_of_beq h1
    unfold Env.blockKind
    rw [hE, q]
    rfl
  have e1 : env.kindOf x = some .local := by show env.scope.names.lookup x = _; rw [hE]; exact h6
  have e2 : env.kindOf y = some .local := by show env.scope.names.lookup y = _; rw [hE]; exact h7
  have st : ([a, b].any fun | .Starred .. => true | _ => false) = false := by
    have f : ∀ e : Expr, notStar e = true → (match e with | .Starred .. => true | _ => false) = false := fun e h => by cases e <;> first | rfl | cases h
    simp [List.any_cons, f a ha, f b hb]
  unfold swappedStores
  have e3 : (some NameKind.local == some NameKind.local) = true := by decide
  have pp : (Expr.Name x px).pos = px := rfl
  simp only [List.length_cons, List.length_nil, k1, st, h4, h5, List.head?_cons, Option.map_some, Option.getD_some, List.filterMap_cons, List.filterMap_nil, e1, e2, e3, pp, h2, Nat.beq_refl, beq_self_eq_true, Bool.and_self, Bool.true_and, if_true]
  have e4 : ([x, y].eraseDups.length) = 2 := by
    have : ¬ (y == x) = true := fun z => h3 (eq_of_beq z).symm
    simp [List.eraseDups_cons, this]
  rw [if_neg (by decide)]
  refine (if_neg (fun z => Bool.false_ne_true (st.symm.trans z))).trans ?_
  rw [if_neg (by rw [e4]; decide), if_neg (by decide), if_neg (by decide)]
theorem unswap {env : Env} {x y : Str} {px py pt pt2 : Pos} {kt k2 : Nat} {a b : Expr} (hE : env.scope = E.sc) (h : noSwapC E x y = true) (ha : notStar a = true) (hb : notStar b = true) :
    swappedStores [.Tuple [.Name x px, .Name y py] kt pt] (.Tuple [a, b] k2 pt2) env = pure none := by
  have st : ([a, b].any fun | .Starred .. => true | _ => false) = false := by
    have f : ∀ e : Expr, notStar e = true → (match e with | .Starred .. => true | _ => false) = false := fun e h => by cases e <;> first | rfl | cases h
    simp [List.any_cons, f a ha, f b hb]
  have k1 : ∀ z : Str, (env.kindOf z == some NameKind.local) = decide (E.sc.names.lookup z = some .local) := fun z => by
    have : env.kindOf z = E.sc.names.lookup z := by show env.scope.names.lookup z = _; rw [hE]
    rw [this]
    by_cases q : E.sc.names.lookup z = some .local
    · rw [q]; rfl
    · rw [decide_eq_false q, beq_eq_false_iff_ne]
      exact q
  unfold noSwapC at h
  rw [Bool.not_eq_true', Bool.and_eq_false_iff] at h
  unfold swappedStores
  simp only [List.length_cons, List.length_nil]
  split
  · rfl
  · refine (if_neg (fun z => Bool.false_ne_true (st.symm.trans z))).trans ?_
    have len : ([Expr.Name x px, Expr.Name y py].filterMap fun
      | .Name id pos => if env.kindOf id == some .local && pos.line == (([Expr.Name x px, Expr.Name y py].head?.map (·.pos.line)).getD 0) then some id else none
      | _ => none).length ≠ 2 := by
      simp only [List.filterMap_cons, List.filterMap_nil, k1]
      rcases h with h | h <;> rw [h] <;> simp <;> split <;> simp
    rw [if_pos (by
      rw [Bool.or_eq_true]
      refine .inl ?_
      simp only [bne_iff_ne]
      exact len)]
theorem put_eq {env : Env} {x : Str} {px tp : Pos} {ix : Expr} (h : notSlice ix = true) (v : Value) : assign (.Subscript (.Name x px) ix tp) env v = (do
      let ov ← holding [v] (eval (.Name x px) env)
      let iv ← holding [v, ov] (eval ix env)
      standAt tp
      holding [v, ov, iv] (setItem ov iv v)
      release [v, ov, iv] []) := by
  cases ix <;> first | rfl | cases h
theorem setLc_ok (R : RcOk g P k r) (h : CxR g P E k X W) {pin : Pin} {elt : Expr} {gs : List Comprehension} {scope : Scope} {x : Str} {i : Nat} {p lp pos : Pos} (q : idxN E.N x = some i) (hc : (locB E.sc x && E.fnc x && !(pin i)) = true) :
    PS X (.Assign [.Name x p] (.ListComp elt gs scope lp) pos) (tDS g W pin (sSet i (lcE r E elt gs scope))) := by
  simp only [Bool.and_eq_true, Bool.not_eq_true'] at hc
  obtain ⟨⟨c1, c2⟩, c3⟩ := hc
  have hi : X.N[i]? = some x := by rw [h.N]; exact idxN_at q
  have hx : Loc X.env.scope x := by rw [h.sc]; exact locB_of c1
  have hfn : X.fn x = true ∨ X.env.scope.names.lookup x = some .local := .inl ((h.fn x).trans c2)
  have hsw : swapsWith (.ListComp elt gs scope lp) (some (.Name x p)) pos.line X.env = pure (X.env.blockKind == .function && X.env.kindOf x == some .local && p.line == lp.line && !(scope.names.any fun (n, k) => n == x && (k == .local || k == .cell))) := rfl
  cases hcb : (X.env.blockKind == .function && X.env.kindOf x == some .local && p.line == lp.line && !(scope.names.any fun (n, k) => n == x && (k == .local || k == .cell))) with
  | false =>
    rw [hcb] at hsw
    exact s_setC h.nd hi hx hfn c3 (lcE_ok R h) hsw
  | true =>
    rw [hcb] at hsw
    have hl : X.env.scope.names.lookup x = some .local := by
      simp only [Bool.and_eq_true] at hcb
      have := hcb.1.1.2
      exact eq_of_beq this
    have no : PS X (.Assign [.Name x p] (.ListComp elt gs scope lp) pos) (tDS g W pin (sSet i cNone)) := ⟨fun _ _ _ _ _ _ ⟨_, _, _, _, h, _⟩ => by cases h⟩
    unfold lcE
    split
    · split
      · rename_i te iter ifs hcc
        have qq := lcP_ok (elt := elt) (ifs := ifs) R h hcc
        exact s_setLc c3 h.calm h.nd hi hl hsw qq.hi qq.ok qq.hg qq.ht qq.he qq.hs
      · exact no
    · split
      · rename_i te iter ifs te1 iter1 ifs1 hcc
        have qq := lcP2_ok (elt := elt) (ifs := ifs) (ifs1 := ifs1) R h hcc
        exact s_setLc2 c3 h.calm h.nd hi hl hsw qq.hi qq.ok qq.hv qq.hg qq.ht qq.hi1 qq.hg1 qq.ht1 qq.he qq.hs qq.hs1
      · exact no
    · exact no
theorem asgE_ok (R : RcOk g P k r) (h : CxR g P E k X W) {pin : Pin} {t e : Expr} {pos : Pos} : PS X (.Assign [t] e pos) (tDS g W pin (asgE P r E pin t e)) := by
  have hf : ∀ e, PE X e (tD g W (r.e E e)) := fun e => R.e E e X W h
  unfold asgE
  split
  · split
    · rename_i q
      split
      · rename_i hc
        exact setLc_ok R h q hc
      · exact none_s
    · exact none_s
  · split
    · rename_i i q
      split
      · rename_i hc
        simp only [Bool.and_eq_true, Bool.not_eq_true'] at hc
        obtain ⟨⟨⟨c1, c2⟩, c3⟩, c4⟩ := hc
        exact s_set h.nd (by rw [h.N]; exact idxN_at q) (by rw [h.sc]; exact locB_of c1) (.inl ((h.fn _).trans c2)) c3 (hf _) c4
      · exact none_s
    · exact none_s
  · split
    · rename_i i j q1 q2
      split
      · rename_i hc
        simp only [Bool.and_eq_true, Bool.not_eq_true', decide_eq_true_eq] at hc
        obtain ⟨⟨⟨⟨⟨c1, c2⟩, c3⟩, c4⟩, c5⟩, c6⟩ := hc
        have hsw := c2
        unfold swapC at hsw
        simp only [Bool.and_eq_true, decide_eq_true_eq, Bool.not_eq_true'] at hsw
        exact s_par2 h.calm h.nd (by rw [h.N]; exact idxN_at q1) (by rw [h.N]; exact idxN_at q2) c1 (by rw [h.sc]; exact hsw.1.2) (by rw [h.sc]; exact hsw.2) c3 c4 (argsE_ok hf _) (swap2 h.sc c2 c5 c6)
      · split
        · rename_i hc
          simp only [Bool.and_eq_true] at hc
          exact s_asgP rfl (hf _) (tgE_ok h 8 _).1 (unswap h.sc hc.1 hc.2.1 hc.2.2)
        · exact none_s
    · exact none_s
  · split
    · rename_i hc
      rw [Bool.and_eq_true] at hc
      exact s_asg hc.1 hc.2 (hf _) (tgE_ok h 8 _).1
    · exact none_s
  · split
    · rename_i i q
      split
      · rename_i hc
        rw [Bool.and_eq_true] at hc
        obtain ⟨h1, h2, h3, h4⟩ := slot_of h q
        exact s_put h1 h2 h3 h4 hc.1 (hf _) (hf _) (put_eq hc.2)
      · exact none_s
    · exact none_s
  · exact none_s
end
end Rk
set_option Elab.async false
set_option linter.all false
set_option maxRecDepth 100000
set_option maxHeartbeats 4000000
namespace Rk
open PySem PySem.Spec PyProof.Rows L2
section
variable {g : Gd} {P : Pg} {E : En} {k : Nat} {X : Cx} {W : WX} {r : Rc}
theorem lookF_in {α : Type} : ∀ {l : List (Str × α)} {x : Str} {a : α}, lookF l x = some a → (x, a) ∈ l
  | [], _, _, e => by cases e
  | (y, b) :: l, x, a, e => by
    by_cases q : y = x
    · subst q
      rw [show lookF ((y, b) :: l) y = some b from if_pos rfl] at e
      cases e
      exact List.mem_cons_self
    · rw [show lookF ((y, b) :: l) x = lookF l x from if_neg q] at e
      exact List.mem_cons_of_mem _ (lookF_in e)
theorem raiseE_ok (R : RcOk g P k r) (h : CxR g P E k X W) {pin : Pin} {e : Expr} {pos : Pos} : PS X (.Raise (some e) none pos) (tDS g W pin (raiseE P r E e)) := by
  unfold raiseE
  split
  · split
    · rename_i hc
      rw [Bool.and_eq_true] at hc
      obtain ⟨h1, h2⟩ := glB_of h hc.1
      split
      · rename_i f q
        have hm := lookF_in q
        obtain ⟨C, fI, pre, par, d, c1, c2, c3, c4⟩ := h.pg.cls _ hm
        rw [h.pg.hK] at c3
        exact s_raise h.calm h.tk c3 c2 h.room h1 c1 (h.pg.sup (List.ne_nil_of_mem hm)) (argsE_ok (fun e => R.e E e X W h) _) h2 (star_cons hc.2)
      · exact none_s
    · exact none_s
  · exact none_s
section
variable {a : Addr} {cls : Value} {d : Option Addr} {oe : Obj} {pn' : List (Addr × Obj)} {n : Str} {i : Nat}
theorem tIsX_T {e : Expr} {t : Str → Bool} (he : PE X e (tIsX g P.cs i a cls d t)) (hw : ∀ whole, isTrue e X.env whole = (do let v ← whole; standAt e.pos; holding [v] (truthy v))) : PT X e (tIsT g P.cs i a cls d t) :=
  (pt_val he hw).imp fun σ H Q ⟨c, fs, G, sm, q1, q⟩ => ⟨c, fs, G, sm, q1, t c, rfl, q⟩
theorem isx_both {e : Expr} {t : Str → Bool} (he : PE X e (tIsX g P.cs i a cls d t)) (hw : ∀ whole, isTrue e X.env whole = (do let v ← whole; standAt e.pos; holding [v] (truthy v))) : PE X e (tIsX g P.cs i a cls d t) ∧ PT X e (tIsT g P.cs i a cls d t) := ⟨he, tIsX_T he hw⟩
theorem testE_ok (h : CxR g P E k X W) (hi : X.N[i]? = some n) (hln : X.env.kindOf n = some .local) (hdb : (n == ("__debug__" : Str)) = false) (hdc : (n == ("__classdict__" : Str)) = false) (hz : Zc cls d oe) (hf : ∃ vs, oe.data = .fields vs) :
    ∀ (m : Nat) (e : Expr) (t : Str → Bool), testT P E n m e = some t → PE (X.suite a ((a, oe) :: pn')) e (tIsX g P.cs i a cls d t) ∧ PT (X.suite a ((a, oe) :: pn')) e (tIsT g P.cs i a cls d t)
  | 0, e, t, q => by cases q
  | m + 1, e, t, q => by
    unfold testT at q
    split at q
    · cases q
    · split at q
      · rename_i hc
        obtain ⟨rfl, rfl⟩ := hc
        split at q
        · rename_i hc
          rw [Bool.and_eq_true] at hc
          obtain ⟨i1, i2, i3⟩ := isFree_of h hc.1
          obtain ⟨gA1, gA2⟩ := glB_of h hc.2
          refine isx_both ?_ (fun _ => rfl)
          · split at q
            · rename_i la ql
              cases q
              obtain ⟨ca, na1, na2⟩ := h.pg.exc _ _ ql
              exact pe_isX h.pg.hK h.pg.cls hi hln hdb hdc hz hf (pe_glob (X := X.suite a ((a, oe) :: pn')) (v := .ref ca) gA1 na1 rfl gA2) (fun _ r => r) (fun p hp C hC => (na2 p hp C hC).2) i1 i3
            · split at q
              · subst_vars
                split at q
                · rename_i hv
                  cases q
                  obtain ⟨v1, v2, v3⟩ := isFree_of h hv
                  exact pe_isX h.pg.hK h.pg.cls hi hln hdb hdc hz hf (pe_bltn (X := X.suite a ((a, oe) :: pn')) (v := .ty "ValueError") v1 v3 (by decide +kernel) rfl (by decide) v2) (fun _ r => r) (fun p hp C hC => by
                    obtain ⟨C', _, _, _, _, _, y2, _, _, y5⟩ := h.pg.cls p hp
                    rw [hC] at y2
                    cases y2
                    exact h.pg.hK ▸ y5.vE) i1 i3
                · cases q
              · cases q
        · cases q
      · cases q
    · rename_i k' x y pos hk
      cases hk
      split at q
      · rename_i t1 t2 q1 q2
        cases q
        obtain ⟨a1, a2⟩ := testE_ok h hi hln hdb hdc hz hf m x t1 q1
        obtain ⟨b1, b2⟩ := testE_ok h hi hln hdb hdc hz hf m y t2 q2
        refine ⟨(pe_and (X := X.suite a ((a, oe) :: pn')) a1 (pe_one b1)).imp fun σ H Q ⟨c, fs, G, sm, at_, qq⟩ => ?_, ((pw_and (X := X.suite a ((a, oe) :: pn')) a2 (pw_and1 b2)).pt).imp fun σ H Q ⟨c, fs, G, sm, at_, qq⟩ => ?_⟩
        · refine ⟨c, fs, G, sm, at_, t1 c, rfl, ?_⟩
          have qq : Q (.bl (t1 c && t2 c)) H := qq
          cases z : t1 c with
          | true =>
            rw [z] at qq
            exact iteT ⟨c, fs, G, sm, at_, qq⟩
          | false =>
            rw [z] at qq
            exact iteF qq
        · refine ⟨c, fs, G, sm, at_, ?_⟩
          have qq : Q (t1 c && t2 c) H := qq
          cases z : t1 c with
          | true =>
            rw [z] at qq
            exact iteT ⟨c, fs, G, sm, at_, qq⟩
          | false =>
            rw [z] at qq
            exact iteF qq
      · cases q
    · cases q
theorem partX_ok (h : CxR g P E k X W) (hi : X.N[i]? = some n) (hln : X.env.kindOf n = some .local) (hdb : (n == ("__debug__" : Str)) = false) (hdc : (n == ("__classdict__" : Str)) = false) (hz : Zc cls d oe) (hf : ∃ vs, oe.data = .fields vs) (e : Expr) :
    PE (X.suite a ((a, oe) :: pn')) e (tPart g P.cs i a cls d (partX P E n e)) := by
  have no : ∀ {e : Expr}, PE (X.suite a ((a, oe) :: pn')) e (tPart g P.cs i a cls d pN) := fun {e} => ⟨fun _ _ _ _ _ _ ⟨_, _, _, _, _, _, h, _⟩ => by cases h⟩
  unfold partX
  split
  · split
    · rename_i hc
      unfold alwaysT at hc
      split at hc
      · rename_i t q
        refine (testE_ok h hi hln hdb hdc hz hf 3 e t q).1.imp fun σ H Q ⟨c, fs, G, dv, sm, h1, q1, q2⟩ => ⟨c, fs, G, sm, h1, ?_⟩
        obtain ⟨f0, d0, rfl, hmem⟩ := kno_of h1.2.1
        rw [List.all_eq_true.mp hc _ hmem]
        cases q1
        exact q2 _ (.bl _)
      · cases hc
    · exact no
  · exact part_ok h.pg.hK h.pg.cls hi hln hdb hdc hz hf e
theorem partsX_ok {f : Expr → Pt} (hp : ∀ e : Expr, PE (X.suite a ((a, oe) :: pn')) e (tPart g P.cs i a cls d (f e))) : ∀ es : List Expr, es.all notStar = true → PA (X.suite a ((a, oe) :: pn')) es (tParts g P.cs i a cls d (es.map f))
  | [], _ => pa_nil.imp fun σ H Q ⟨c, fs, G, ds, _, _, h, k⟩ => by
    cases h
    exact k [] .nil
  | e :: es, hs => by
    rw [List.all_cons, Bool.and_eq_true] at hs
    exact (pa_cons (hp e) (partsX_ok hp es hs.2) (star_cons hs.1)).imp fun σ H Q ⟨c, fs, G, ds, sm, h1, h, k⟩ => by
      have h : (match f e fs, allP (es.map f) fs with | some d, some ds => some (d :: ds) | _, _ => none) = some ds := h
      split at h
      · rename_i dv dvs q1 q2
        cases h
        exact ⟨c, fs, G, dv, sm, h1, q1, fun v r => ⟨c, fs, G, dvs, sm, h1, q2, fun vs rs => k _ (.cons r rs)⟩⟩
      · cases h
theorem retX0_ok (hp : ∀ e : Expr, PE (X.suite a ((a, oe) :: pn')) e (tPart g P.cs i a cls d (partX P E n e))) (e : Expr) : PE (X.suite a ((a, oe) :: pn')) e (tRetV g P.cs i a cls d (retX0 P E n e)) := by
  have one : ∀ e : Expr, PE (X.suite a ((a, oe) :: pn')) e (tRetV g P.cs i a cls d (hOne (partX P E n e))) := fun e => (hp e).imp fun σ H Q ⟨c, fs, G, z, sm, h1, h, k⟩ => by
    unfold hOne at h
    obtain ⟨dv, q1, rfl⟩ := Option.map_eq_some_iff.mp h
    exact ⟨c, fs, G, dv, sm, h1, q1, fun v r => k.sh sm r⟩
  have no : ∀ {e : Expr}, PE (X.suite a ((a, oe) :: pn')) e (tRetV g P.cs i a cls d fun _ => none) := fun {e} => ⟨fun _ _ _ _ _ _ ⟨_, _, _, _, _, _, h, _⟩ => by cases h⟩
  unfold retX0
  split
  · rename_i es _ _
    split
    · rename_i hs
      exact (pe_tupF (partsX_ok hp es hs)).imp fun σ H Q ⟨c, fs, G, z, sm, h1, h, k⟩ => by
        unfold hTup at h
        split at h
        · rename_i ds q
          split at h
          · rename_i hb
            cases h
            exact ⟨c, fs, G, ds, sm, h1, q, fun vs rs => ⟨by rw [rs.len, ← big_eq]; exact hb, fun p o hq hd => k.tup sm hq hd rs⟩⟩
          · cases h
        · cases h
    · exact no
  · rename_i es _
    split
    · rename_i hs
      exact (pe_lst (partsX_ok hp es hs)).imp fun σ H Q ⟨c, fs, G, z, sm, h1, h, k⟩ => by
        unfold hLst at h
        split at h
        · rename_i ds q
          split at h
          · rename_i hb
            cases h
            exact ⟨c, fs, G, ds, sm, h1, q, fun vs rs => ⟨by rw [rs.len, ← big_eq]; exact hb, fun p hq => k.ow sm hq rs⟩⟩
          · cases h
        · cases h
    · exact no
  · exact one _
theorem retX_ok (h : CxR g P E k X W) (hi : X.N[i]? = some n) (hln : X.env.kindOf n = some .local) (hdb : (n == ("__debug__" : Str)) = false) (hdc : (n == ("__classdict__" : Str)) = false) (hz : Zc cls d oe) (hf : ∃ vs, oe.data = .fields vs) (e : Expr) :
    PE (X.suite a ((a, oe) :: pn')) e (tRetV g P.cs i a cls d (retX P E n e)) := by
  have hp := fun e => partX_ok (a := a) (pn' := pn') h hi hln hdb hdc hz hf e
  have no : ∀ {e : Expr}, PE (X.suite a ((a, oe) :: pn')) e (tRetV g P.cs i a cls d fun _ => none) := fun {e} => ⟨fun _ _ _ _ _ _ ⟨_, _, _, _, _, _, h, _⟩ => by cases h⟩
  unfold retX
  split
  · rename_i c x y p
    split
    · rename_i hc
      unfold alwaysT at hc
      split at hc
      · rename_i t q
        refine (pe_ifExp (X := X.suite a ((a, oe) :: pn')) (testE_ok h hi hln hdb hdc hz hf 3 c t q).2 (retX0_ok hp x) (no (e := y))).imp fun σ H Q ⟨c, fs, G, z, sm, h1, q1, q2⟩ => ⟨c, fs, G, sm, h1, ?_⟩
        obtain ⟨f0, d0, rfl, hmem⟩ := kno_of h1.2.1
        rw [List.all_eq_true.mp hc _ hmem]
        exact iteT ⟨c, _, G, z, sm, h1, q1, q2⟩
      · cases hc
    · exact no
  · exact retX0_ok hp _
theorem suiteX_ok (h : CxR g P E k X W) {pin : Pin} (hi : X.N[i]? = some n) (hln : X.env.kindOf n = some .local) (hdb : (n == ("__debug__" : Str)) = false) (hdc : (n == ("__classdict__" : Str)) = false) (hz : Zc cls d oe) (hf : ∃ vs, oe.data = .fields vs) :
    ∀ (suite : List Stmt) (hs : Hs), suiteX P E n suite = some hs → PSs (X.suite a ((a, oe) :: pn')) suite (tH g W pin P.cs i hs a cls d)
  | [], hs, q => by cases q
  | s :: rest, hs, q => by
    have last : ∀ e p, PSs (X.suite a ((a, oe) :: pn')) [.Return (some e) p] (tH g W pin P.cs i (hRet (retX P E n e)) a cls d) := fun e p =>
      (pss_cons (ps_ret (retX_ok (a := a) (pn' := pn') h hi hln hdb hdc hz hf e)) pss_nil).imp fun D σ H ⟨c, fs, ρ, G, o, σ0, D0, hD, hσ, hil, w, na, hk, x, h, p⟩ => by
        subst hD hσ
        unfold hRet at h
        split at h
        · rename_i z q
          cases h
          exact ⟨c, fs, G, z, w.gh, ⟨by rw [List.getElem?_set_self hil], hk, x⟩, q, fun v G' H' gr y => p σ0 v G' H' (w.step gr).st y⟩
        · cases h
    unfold suiteX at q
    split at q
    · rename_i h1
      cases h1
    · rename_i c e p1 p2 rest' h1
      cases h1
      split at q
      · rename_i t h2 q1 q2
        cases q
        exact h_ifG (testE_ok h hi hln hdb hdc hz hf 3 c t q1).2 (retX_ok (a := a) (pn' := pn') h hi hln hdb hdc hz hf e) (suiteX_ok h hi hln hdb hdc hz hf rest h2 q2)
      · cases q
    · rename_i s' rest' _ h1
      cases h1
      split at q
      · cases q
        exact last _ _
      · cases q
end
theorem hdX_ok (h : CxR g P E k X W) {pin : Pin} {hd : ExceptHandler} {x : List Str × Hs} (q : hdX P E hd = some x) {hds : List ExceptHandler} {xs : List (List Str × Hs)} {l : List Cl} (hl : HdsD g W X pin P.cs hds xs l) : ∃ l', HdsD g W X pin P.cs (hd :: hds) (x :: xs) l' := by
  unfold hdX at q
  split at q
  · rename_i xx pp nn suite pp2
    split at q
    · rename_i hc
      simp only [Bool.and_eq_true, decide_eq_true_eq] at hc
      obtain ⟨c1, c2, c3⟩ := hc
      split at q
      · rename_i i ls hs qi ql qs
        cases q
        obtain ⟨g1, g2⟩ := glB_of h c1
        obtain ⟨cx, m1, m2⟩ := h.pg.exc _ _ ql
        unfold okNm at c2
        simp only [Bool.and_eq_true, Bool.not_eq_true'] at c2
        have hln : X.env.kindOf nn = some .local := by show X.env.scope.names.lookup nn = _; rw [h.sc]; exact c3
        have hiN : X.N[i]? = some nn := by rw [h.N]; exact idxN_at qi
        cases suite with
        | nil => cases qs
        | cons b₀ suite =>
          exact ⟨_, .cons ⟨g1, g2, .inl m1⟩ (fun p hp C hC => (m2 p hp C hC).1) hiN hln (fun a oe cls d pn' hz hf => suiteX_ok h hiN hln c2.1 c2.2 hz hf _ _ qs) hl⟩
      · cases q
    · cases q
  · cases q
theorem hdsE_ok (h : CxR g P E k X W) {pin : Pin} : ∀ {hds : List ExceptHandler} {hs : List (List Str × Hs)}, hdsE P E pin hds = some hs → ∃ l, HdsD g W X pin P.cs hds hs l
  | [], hs, e => by
    cases e
    exact ⟨[], .nil⟩
  | hd :: hds, hs, e => by
    unfold hdsE at e
    split at e
    · rename_i x xs q1 q2
      cases e
      obtain ⟨l, hl⟩ := hdsE_ok h (pin := pin) q2
      unfold hdE2 at q1
      split at q1
      rotate_left
      · exact hdX_ok h q1 hl
      rename_i r1 q0
      cases q1
      have q1 := q0
      unfold hdE at q1
      split at q1
      · rename_i xx pp nn ee rr pp2
        split at q1
        · rename_i hc
          simp only [Bool.and_eq_true, decide_eq_true_eq] at hc
          obtain ⟨c1, c2, c3⟩ := hc
          split at q1
          · rename_i i ls qi ql
            cases q1
            obtain ⟨g1, g2⟩ := glB_of h c1
            obtain ⟨cx, m1, m2⟩ := h.pg.exc _ _ ql
            unfold okNm at c2
            simp only [Bool.and_eq_true, Bool.not_eq_true'] at c2
            have hln : X.env.kindOf nn = some .local := by show X.env.scope.names.lookup nn = _; rw [h.sc]; exact c3
            have hiN : X.N[i]? = some nn := by rw [h.N]; exact idxN_at qi
            exact ⟨_, .cons ⟨g1, g2, .inl m1⟩ (fun p hp C hC => (m2 p hp C hC).1) hiN hln (fun a oe cls d pn' hz hf => h_ret (part_ok (g := g) (cs := P.cs) (i := i) h.pg.hK h.pg.cls hiN hln c2.1 c2.2 hz hf)) hl⟩
          · cases q1
        · cases q1
      · rename_i xx pp nn yy yp mm ap ee cp ep pp2
        split at q1
        · rename_i hm
          subst hm
          split at q1
          · rename_i hc
            simp only [Bool.and_eq_true, decide_eq_true_eq] at hc
            obtain ⟨c1, c2, c3, c4, c5⟩ := hc
            split at q1
            · rename_i i ls j qi ql qj
              cases q1
              obtain ⟨g1, g2⟩ := glB_of h c1
              obtain ⟨cx, m1, m2⟩ := h.pg.exc _ _ ql
              unfold okNm at c2
              simp only [Bool.and_eq_true, Bool.not_eq_true'] at c2
              have hln : X.env.kindOf nn = some .local := by show X.env.scope.names.lookup nn = _; rw [h.sc]; exact c3
              have hiN : X.N[i]? = some nn := by rw [h.N]; exact idxN_at qi
              obtain ⟨s1, s2, s3, s4⟩ := slot_of h qj
              exact ⟨_, .cons ⟨g1, g2, .inl m1⟩ (fun p hp C hC => (m2 p hp C hC).1) hiN hln (fun a oe cls d pn' hz hf => h_app (part_ok (g := g) (cs := P.cs) (i := i) h.pg.hK h.pg.cls hiN hln c2.1 c2.2 hz hf) s1 s2 s3 s4 c4 c5) hl⟩
            · cases q1
          · cases q1
        · cases q1
      · rename_i xx pp nn f1 fp1 m1' mp1 AA ap1 cp1 f2 fp2 m2' mp2 BB bp1 cp2 bop e1 rp1 ip e2 rp2 pp2
        split at q1
        · rename_i hm
          obtain ⟨rfl, rfl, rfl, rfl, rfl⟩ := hm
          split at q1
          · rename_i hc
            simp only [Bool.and_eq_true, decide_eq_true_eq] at hc
            obtain ⟨c1, cA, c2, c3, c4, c5⟩ := hc
            split at q1
            · rename_i i ls la qi ql qA
              cases q1
              obtain ⟨g1, g2⟩ := glB_of h c1
              obtain ⟨gA1, gA2⟩ := glB_of h cA
              obtain ⟨cx, n1, n2⟩ := h.pg.exc _ _ ql
              obtain ⟨ca, na1, na2⟩ := h.pg.exc _ _ qA
              obtain ⟨i1, i2, i3⟩ := isFree_of h c4
              obtain ⟨v1, v2, v3⟩ := isFree_of h c5
              unfold okNm at c2
              simp only [Bool.and_eq_true, Bool.not_eq_true'] at c2
              have hln : X.env.kindOf m2' = some .local := by show X.env.scope.names.lookup m2' = _; rw [h.sc]; exact c3
              have hiN : X.N[i]? = some m2' := by rw [h.N]; exact idxN_at qi
              exact ⟨_, .cons ⟨g1, g2, .inl n1⟩ (fun p hp C hC => (n2 p hp C hC).1) hiN hln (fun a oe cls d pn' hz hf => h_if
                (pe_isX h.pg.hK h.pg.cls hiN hln c2.1 c2.2 hz hf (pe_glob (X := X.suite a ((a, oe) :: pn')) (v := .ref ca) gA1 na1 rfl gA2) (fun _ r => r) (fun p hp C hC => (na2 p hp C hC).2) i1 i3)
                (pe_isX h.pg.hK h.pg.cls hiN hln c2.1 c2.2 hz hf (pe_bltn (X := X.suite a ((a, oe) :: pn')) (v := .ty "ValueError") v1 v3 (by decide +kernel) rfl (by decide) v2) (fun _ r => r) (fun p hp C hC => by
                  obtain ⟨C', _, _, _, _, _, y2, _, _, y5⟩ := h.pg.cls p hp
                  rw [hC] at y2
                  cases y2
                  exact h.pg.hK ▸ y5.vE) i1 i3)
                (fun _ => rfl) (fun _ => rfl)
                (ret_ok (part_ok (g := g) (cs := P.cs) (i := i) h.pg.hK h.pg.cls hiN hln c2.1 c2.2 hz hf) e1) (ret_ok (part_ok (g := g) (cs := P.cs) (i := i) h.pg.hK h.pg.cls hiN hln c2.1 c2.2 hz hf) e2)) hl⟩
            · cases q1
          · cases q1
        · cases q1
      · cases q1
    · cases e
end
section
variable {g : Gd} {P : Pg} {E : En} {k : Nat} {r : Rc}
mutual
theorem stS_ok {X : Cx} {W : WX} (R : RcOk g P k r) (h : CxR g P E k X W) (hst : X.stack = X.env :: X.outer ∧ X.env.frame = some X.env.locals) (hp : PassesOwn (model X.prog X.w) X.A X.env X.xe) {pin : Pin} : ∀ st : Stmt, PS X st (tDS g W pin (stS P r E pin st))
  | .Expr e pos => by
    have gen : ∀ e, PS X (.Expr e pos) (tDS g W pin (if notComp e then sDrop (r.e E e) else sNone)) := fun e => by
      split
      · exact s_expr (R.e E e X W h) (by assumption)
      · exact none_s
    cases e with
    | Constant c j p =>
      cases c with
      | str s => exact s_doc
      | _ => exact gen _
    | _ => exact gen _
  | .Return e pos => by
    cases e with
    | none => exact s_retN
    | some e => exact s_ret (R.e E e X W h)
  | .Assign ts e pos => by
    cases ts with
    | nil => exact none_s
    | cons t ts =>
      cases ts with
      | nil => exact asgE_ok R h
      | cons t' ts => exact none_s
  | .If c a b pos => s_if (R.t E c X W h) (stSs_ok R h hst hp a) (stSs_ok R h hst hp b)
  | .While c b ob pos => by
    cases ob with
    | nil => exact s_while wFuel hp (R.t E c X W h) (stSs_ok R h hst hp b)
    | cons _ _ => exact none_s
  | .For te iter b ob pos => by
    cases ob with
    | nil =>
      show PS X _ (tDS g W pin (if notSet iter then sForL (r.i E te iter).2 (tgP E pin (r.i E te iter).1 te) (stSs P r E pin b) else sNone))
      split
      · rename_i hs
        exact s_for hp h.calm (R.i E te iter X W h) (tgP_ok h _ _) (stSs_ok R h hst hp b) (fold_pure hs _)
      · exact none_s
    | cons _ _ => exact none_s
  | .Pass pos => s_pass
  | .Break pos => s_break
  | .Continue pos => s_continue
  | .FunctionDef .. => none_s
  | .AsyncFunctionDef .. => none_s
  | .ClassDef .. => none_s
  | .Delete .. => none_s
  | .TypeAlias .. => none_s
  | .AugAssign .. => none_s
  | .AnnAssign .. => none_s
  | .AsyncFor .. => none_s
  | .With .. => none_s
  | .AsyncWith .. => none_s
  | .Match .. => none_s
  | .Raise e c pos => by
    cases e with
    | none => exact none_s
    | some e =>
      cases c with
      | none => exact raiseE_ok R h
      | some c => exact none_s
  | .Try b hs oe fe pos => by
    cases hs with
    | nil => exact none_s
    | cons h0 hs =>
      cases oe with
      | cons _ _ => exact none_s
      | nil =>
        cases fe with
        | cons _ _ => exact none_s
        | nil =>
          show PS X _ (tDS g W pin (match hdsE P E pin (h0 :: hs) with
            | some l => sTry P.cs l (stSs P r E pin b)
            | none => sNone))
          split
          · rename_i l q
            obtain ⟨l', hl⟩ := hdsE_ok h (pin := pin) q
            exact s_try h.nd hst.1 hst.2 h.tk (fun W' pn' xe tk' hp' => stSs_ok R (h.tr tk') hst hp' b) hl
          · exact none_s
  | .TryStar .. => none_s
  | .Assert .. => none_s
  | .Import .. => none_s
  | .ImportFrom .. => none_s
  | .Global .. => none_s
  | .Nonlocal .. => none_s
theorem stSs_ok {X : Cx} {W : WX} (R : RcOk g P k r) (h : CxR g P E k X W) (hst : X.stack = X.env :: X.outer ∧ X.env.frame = some X.env.locals) (hp : PassesOwn (model X.prog X.w) X.A X.env X.xe) {pin : Pin} : ∀ ss : List Stmt, PSs X ss (tDS g W pin (stSs P r E pin ss))
  | [] => s_nil
  | s :: ss => s_cons (stS_ok R h hst hp s) (stSs_ok R h hst hp ss)
end
end
/-- a def, as written: its names (parameters first), how many parameters, whether it works on its first argument's list, whether it holds a generator expression -/
structure Df where
  name : Str
  N : List Str
  ar : Nat
  own : Bool
  gx : Bool
  lx : Bool
  rx : List Str
  sc : Scope
  body : List Stmt
def Df.en (d : Df) : En := ⟨d.N, d.sc, fun _ => true, d.gx, d.lx, d.rx⟩
def depthE : Nat := 40
def Df.sem (d : Df) (P : Pg) : Ev := defSem d.own d.ar d.N.length (stSs P (rcN P depthE) d.en (pinF d.own) d.body)
/-- the program, its defs n deep -/
def pgN (glob : List (Str × D)) (free : List Str) (cs : List (Str × Str)) (ec : List (Str × List Str)) (ds : List Df) : Nat → Pg
  | 0 => ⟨glob, [], free, cs, ec⟩
  | n + 1 => ⟨glob, ds.map fun d => (d.name, d.own, d.ar, d.sem (pgN glob free cs ec ds n)), free, cs, ec⟩
section
variable {prog : Program} {w : World} {K : PySem.W.Frag} {mg : Str → Option Value} {base : Heap} {g : Gd}
/-- what is known of a def's place -/
structure DfOk (g : Gd) (K : PySem.W.Frag) (mm : Str → Option Value) (base : Heap) (d : Df) (f : Addr) (fd : FuncData) : Prop where
  mg : mm d.name = some (.ref f)
  kp : PySem.W.keepIn K (.ref f) = true
  bd : Binds K fd (d.N.take d.ar) []
  fn : ∃ (params : Arguments) (kws : List (Str × V)), FunD K d.name d.name params d.body d.sc [] kws f fd
  S : FnScope d.N (d.N.take d.ar) d.sc
  ar : d.ar ≤ d.N.length
  gx : d.gx = true → ∃ c Pt, GxR.TabB base mm c Pt ∧ Pt ∈ g.T ∧ fd.code = .ref c ∧ ∀ q, (Pt, q) ∉ g.L
  lx : d.lx = true → ∃ c Pt, LamX.TabB base mm c Pt ∧ Pt ∈ g.T ∧ fd.code = .ref c ∧ (Pt, d.name ++ ".<locals>." ++ "<lambda>") ∈ g.L ∧ ∀ q, (Pt, q) ∈ g.L → q = d.name ++ ".<locals>." ++ "<lambda>"
theorem lookF_map {α β : Type} {f : α → Str} {h : α → β} : ∀ {l : List α} {x : Str} {b : β}, lookF (l.map fun a => (f a, h a)) x = some b → ∃ a ∈ l, f a = x ∧ h a = b
  | [], _, _, e => by cases e
  | a :: l, x, b, e => by
    by_cases q : f a = x
    · have e' : (if f a = x then some (h a) else lookF (l.map fun a => (f a, h a)) x) = some b := e
      rw [if_pos q] at e'
      exact ⟨a, List.mem_cons_self, q, Option.some.inj e'⟩
    · have e' : (if f a = x then some (h a) else lookF (l.map fun a => (f a, h a)) x) = some b := e
      rw [if_neg q] at e'
      obtain ⟨a', m, r⟩ := lookF_map e'
      exact ⟨a', List.mem_cons_of_mem _ m, r⟩
theorem df_ok {P : Pg} {k : Nat} {d : Df} {f : Addr} {fd : FuncData} (hP : PgR g P k prog w K mg base) (h : DfOk g K mg base d f fd) : FnOk prog w K mg base (L2.CX prog w) (k + 2) f fd (d.N.take d.ar) (spF g d.ar (d.sem P)) := by
  obtain ⟨params, kws, F⟩ := h.fn
  have hl : (d.N.take d.ar).length = d.ar := by rw [List.length_take]; exact Nat.min_eq_left h.ar
  have := def_ok (P := prog) (w := w) (mg := mg) (base := base) (g := g) (k := k + 1) (own := d.own) (fb := stSs P (rcN P depthE) d.en (pinF d.own) d.body) F h.S fun X W hX => by
    obtain ⟨rfl, rfl, rfl, rfl, rfl, hN, hsc, hfn, hc, hr, hcode, hql, tk, hps, hst1, hst2⟩ := hX
    refine stSs_ok (rcN_ok depthE) ⟨hP, hN, by rw [hN]; exact h.S.nd, hsc, hfn, hc, hr.mono (Nat.le_succ _), fun gx => ⟨hr, ?_⟩, fun lx => ⟨hr, ?_⟩, tk⟩ ⟨hst1, hst2⟩ hps d.body
    · obtain ⟨c, Pt, h1, h2, h3, h4⟩ := h.gx gx
      exact ⟨c, Pt, h1, hcode.trans h3, h2, h4⟩
    · obtain ⟨c, Pt, h1, h2, h3, h4, h5⟩ := h.lx lx
      rw [hql]
      exact ⟨c, Pt, h1, hcode.trans h3, h2, h4, h5⟩
  rw [hl] at this
  exact this
theorem pg_ok {glob : List (Str × D)} {free : List Str} {cs : List (Str × Str)} {ec : List (Str × List Str)} {ds : List Df} (hcls : ∀ q ∈ cs, ClsOk prog g mg q.1 q.2) (hsup : cs ≠ [] → mg "super" = none) (hexc : ∀ x l, lookF ec x = some l → ∃ cx, mg x = some (.ref cx) ∧ ∀ q ∈ cs, ∀ C, g.cl q.1 = some C → PySem.W.exmOne K (.ref C) (.ref cx) = some (decide (q.1 ∈ l)) ∧ PySem.W.kitOne K (.ref C) (.ref cx) = some (decide (q.1 ∈ l))) (hK : g.K = K) (hglob : ∀ x d, lookF glob x = some d → ∃ v u, mg x = some u ∧ RelV v u ∧ ∀ G, Rp g.K G v d) (hfree : ∀ x ∈ free, mg x = none) (hds : ∀ d ∈ ds, ∃ f fd, DfOk g K mg base d f fd) :
    ∀ n, PgR g (pgN glob free cs ec ds n) (2 * n) prog w K mg base
  | 0 => ⟨hK, hglob, hfree, hcls, hsup, hexc, fun x own ar sem e => by cases e⟩
  | n + 1 => by
    have ih := pg_ok hcls hsup hexc hK hglob hfree hds n
    refine ⟨hK, hglob, hfree, hcls, hsup, hexc, fun x own ar sem e => ?_⟩
    obtain ⟨d, hd, hx, e⟩ := lookF_map (f := Df.name) (h := fun d => (d.own, d.ar, d.sem (pgN glob free cs ec ds n))) e
    obtain ⟨f, fd, hf⟩ := hds d hd
    cases e
    exact ⟨f, fd, _, hx ▸ hf.mg, hf.kp, hf.bd, df_ok ih hf⟩
/-- a def of the program, n calls deep -/
theorem pg_def {glob : List (Str × D)} {free : List Str} {cs : List (Str × Str)} {ec : List (Str × List Str)} {ds : List Df} (hcls : ∀ q ∈ cs, ClsOk prog g mg q.1 q.2) (hsup : cs ≠ [] → mg "super" = none) (hexc : ∀ x l, lookF ec x = some l → ∃ cx, mg x = some (.ref cx) ∧ ∀ q ∈ cs, ∀ C, g.cl q.1 = some C → PySem.W.exmOne K (.ref C) (.ref cx) = some (decide (q.1 ∈ l)) ∧ PySem.W.kitOne K (.ref C) (.ref cx) = some (decide (q.1 ∈ l))) (hK : g.K = K) (hglob : ∀ x d, lookF glob x = some d → ∃ v u, mg x = some u ∧ RelV v u ∧ ∀ G, Rp g.K G v d) (hfree : ∀ x ∈ free, mg x = none) (hds : ∀ d ∈ ds, ∃ f fd, DfOk g K mg base d f fd) (n : Nat) {d : Df} {f : Addr} {fd : FuncData} (h : DfOk g K mg base d f fd) :
    FnOk prog w K mg base (L2.CX prog w) (2 * n + 2) f fd (d.N.take d.ar) (spF g d.ar (d.sem (pgN glob free cs ec ds n))) := df_ok (pg_ok hcls hsup hexc hK hglob hfree hds n) h
end
end Rk
set_option Elab.async false
set_option linter.all false
set_option maxRecDepth 100000
set_option maxHeartbeats 4000000
namespace Rk
open PySem PySem.Spec PyProof.Rows L2
/-- a def as the program writes it -/
structure Src where
  name : Str
  N : List Str
  ar : Nat
  own : Bool
  gx : Bool
  lx : Bool
  rx : List Str
  st : Stmt
def Src.df (s : Src) : Df := ⟨s.name, s.N, s.ar, s.own, s.gx, s.lx, s.rx, defScope s.st, defBody s.st⟩
def Src.dd (s : Src) : He.DefD := ⟨(s.name, none), s.name, s.name, defArgs s.st, defBody s.st, defScope s.st, [], []⟩
def Src.ps (s : Src) : List Str := s.N.take s.ar
def fscC (N P : List Str) (sc : Scope) : Bool := (match sc.kind with | .function => true | _ => false) && !sc.isCoroutine && !sc.isGenerator && decide N.Nodup && decide (N.take P.length = P) && (P.all fun x => decide (sc.names.lookup x = some .local) || decide (sc.names.lookup x = some .cell)) && (sc.names.all fun y => decide (y.2 ≠ .free))
theorem fsc_by {N P : List Str} {sc : Scope} (h : fscC N P sc = true) : FnScope N P sc := by
  unfold fscC at h
  simp only [Bool.and_eq_true, List.all_eq_true, decide_eq_true_eq, Bool.not_eq_true', Bool.or_eq_true] at h
  obtain ⟨⟨⟨⟨⟨⟨h1, h2⟩, h3⟩, h4⟩, h5⟩, h6⟩, h7⟩ := h
  refine ⟨?_, h2, h3, h4, h5, h6, h7⟩
  split at h1
  · assumption
  · cases h1
def Src.ok (s : Src) : Bool := fscC s.N s.ps (defScope s.st) && !(s.gx && s.lx) && decide (s.ar ≤ s.N.length)
def Src.Bnd (s : Src) : Prop := ∀ (kV doc pm : Value) (an : Option Addr) (cdv ct : Value) (us : List Value), us.length = s.ps.length → bindArgs (PySem.W.fnOf s.name s.name (defArgs s.st) (defBody s.st) (defScope s.st) .none kV doc pm an cdv ct) ⟨us, []⟩ = pure (s.ps.zip us)
/-- the program: its defs, its numbers by name, the built-ins that it uses -/
structure Prg where
  defs : List Src
  nums : List (Str × Int)
  free : List Str
  cs : List (Str × Str)
  ec : List (Str × List Str)
  file : Str
def Prg.fa (p : Prg) : List He.Fa := p.defs.map (fun s => .glo s.name) ++ (p.nums.map (fun q => .int q.1 q.2) ++ (p.free.map (fun x => .free x) ++ (p.cs.map (fun q => .glo q.1) ++ (p.ec.map (fun q => .glo q.1) ++ if p.cs.isEmpty then [] else [.free "super"]))))
def Prg.fn (p : Prg) : List He.DefD := p.defs.map Src.dd
def Prg.tf (p : Prg) : List He.Defn := (p.defs.filter fun s => s.gx || s.lx).map fun s => (s.name, none)
def Prg.glob (p : Prg) : List (Str × D) := p.nums.map fun q => (q.1, .int q.2)
def Prg.pg (p : Prg) (n : Nat) : Pg := pgN p.glob p.free p.cs p.ec (p.defs.map Src.df) n
section
variable {p : Prg} {K : PySem.W.Frag} {h : Heap} {mg : Str → Option Value} {w : World}
/-- the tables of the lambdas' code, with the name that a lambda bears -/
def Prg.lam (p : Prg) (K : PySem.W.Frag) : List (Addr × Str) := (p.defs.filter Src.lx).map fun s => ((He.cT K (s.name, none)).2, s.name ++ ".<locals>." ++ "<lambda>")
def exB0 (p : Prg) (K : PySem.W.Frag) : Bool := p.defs.all fun s => p.defs.all fun t => (!(s.gx && t.lx) || !decide ((He.cT K (s.name, none)).2 = (He.cT K (t.name, none)).2)) && (!(s.lx && t.lx) || decide (s.name = t.name) || !decide ((He.cT K (s.name, none)).2 = (He.cT K (t.name, none)).2))
def excB (K : PySem.W.Frag) (cx : Addr) : Bool := decide (PySem.W.subIn K (.ref cx) (.type "BaseException") = some true) && (PySem.W.hasDictIn K cx && decide (PySem.W.typeIn K (.ref cx) = some (.type "type")))
def clsB (p : Prg) (K : PySem.W.Frag) : Bool := (p.cs.all fun q => iniB K p.file (He.ga K q.1) q.2 && (xfB K (He.ga K q.1) && isiCB K (He.ga K q.1))) && p.ec.all fun q => excB K (He.ga K q.1) && p.cs.all fun c => (decide (PySem.W.subIn K (.ref (He.ga K c.1)) (.ref (He.ga K q.1)) = some (decide (c.1 ∈ q.2))) && decide (PySem.W.kitOne K (.ref (He.ga K c.1)) (.ref (He.ga K q.1)) = some (decide (c.1 ∈ q.2))))
def clO (K : PySem.W.Frag) (x : Str) : Option Addr := some (He.ga K x)
def gdOf (p : Prg) (K : PySem.W.Frag) (cl : Str → Option Addr) : Gd := ⟨K, p.tf.map fun q => (He.cT K q).2, p.lam K, cl⟩
/-- each def has its own table; the classes of errors are what they seem -/
def exB (p : Prg) (K : PySem.W.Frag) : Bool := exB0 p K && clsB p K
theorem fa_glo {s : Src} (hs : s ∈ p.defs) : He.Fa.glo s.name ∈ p.fa := List.mem_append_left _ (List.mem_map.mpr ⟨s, hs, rfl⟩)
theorem fa_int {q : Str × Int} (hq : q ∈ p.nums) : He.Fa.int q.1 q.2 ∈ p.fa := List.mem_append_right _ (List.mem_append_left _ (List.mem_map.mpr ⟨q, hq, rfl⟩))
theorem fa_free {x : Str} (hx : x ∈ p.free) : He.Fa.free x ∈ p.fa := List.mem_append_right _ (List.mem_append_right _ (List.mem_append_left _ (List.mem_map.mpr ⟨x, hx, rfl⟩)))
theorem fa_cs {q : Str × Str} (hq : q ∈ p.cs) : He.Fa.glo q.1 ∈ p.fa := List.mem_append_right _ (List.mem_append_right _ (List.mem_append_right _ (List.mem_append_left _ (List.mem_map.mpr ⟨q, hq, rfl⟩))))
theorem fa_ec {q : Str × List Str} (hq : q ∈ p.ec) : He.Fa.glo q.1 ∈ p.fa := List.mem_append_right _ (List.mem_append_right _ (List.mem_append_right _ (List.mem_append_right _ (List.mem_append_left _ (List.mem_map.mpr ⟨q, hq, rfl⟩)))))
theorem fa_sup (hq : p.cs ≠ []) : He.Fa.free "super" ∈ p.fa := List.mem_append_right _ (List.mem_append_right _ (List.mem_append_right _ (List.mem_append_right _ (List.mem_append_right _ (by
  cases h : p.cs with
  | nil => exact absurd h hq
  | cons a b => simp)))))
theorem lookF_mem {α : Type} : ∀ {l : List (Str × α)} {x : Str} {a : α}, lookF l x = some a → (x, a) ∈ l
  | [], _, _, e => by cases e
  | (y, b) :: l, x, a, e => by
    by_cases q : y = x
    · subst q
      rw [show lookF ((y, b) :: l) y = some b from if_pos rfl] at e
      cases e
      exact List.mem_cons_self
    · rw [show lookF ((y, b) :: l) x = lookF l x from if_neg q] at e
      exact List.mem_cons_of_mem _ (lookF_mem e)
theorem tabGx {base : Heap} {c P : Addr} (t : LamX.TabB base mg c P) : GxR.TabB base mg c P := ⟨t.code, t.bm, t.gP⟩
/-- the facts of the top give the program -/
theorem prg_df (cl : Str → Option Addr) (X : K.In h) (G : h.Ns mainGlobals mg) (c : He.SaysX p.fa p.fn [] p.tf (exB p) w h K) (hok : p.defs.all Src.ok = true) (hb : ∀ s ∈ p.defs, s.Bnd) {base : Heap} (hT : ∀ q ∈ p.tf, GxR.TabB base mg (He.cT K q).1 (He.cT K q).2) {s : Src} (hs : s ∈ p.defs) :
    ∃ fd, DfOk (gdOf p K cl) K mg base s.df (He.fAd K (s.name, none)) fd ∧ (∀ (kV doc pm : Value) (an : Option Addr) (cdv ct : Value) (us : List Value), us.length = s.ps.length → bindArgs (PySem.W.fnOf s.name s.name (defArgs s.st) (defBody s.st) (defScope s.st) .none kV doc pm an cdv ct) ⟨us, []⟩ = pure (s.ps.zip us)) ∧
      FunD K s.name s.name (defArgs s.st) (defBody s.st) (defScope s.st) [] [] (He.fAd K (s.name, none)) fd := by
  have cd := c.t.d
  obtain ⟨fd, F⟩ := cd.defs (d := s.dd) (List.mem_map.mpr ⟨s, hs, rfl⟩)
  have F : FunD K s.name s.name (defArgs s.st) (defBody s.st) (defScope s.st) [] [] (He.fAd K (s.name, none)) fd := F
  have hsok := List.all_eq_true.mp hok s hs
  unfold Src.ok at hsok
  rw [Bool.and_eq_true, Bool.and_eq_true, decide_eq_true_eq] at hsok
  have hbn := hb s hs
  have lam : ∀ q, ((He.cT K (s.name, none)).2, q) ∈ p.lam K → ∃ t ∈ p.defs, t.lx = true ∧ (He.cT K (s.name, none)).2 = (He.cT K (t.name, none)).2 ∧ q = t.name ++ ".<locals>." ++ "<lambda>" := fun q m => by
    obtain ⟨t, ht, e⟩ := List.mem_map.mp m
    obtain ⟨ht1, ht2⟩ := List.mem_filter.mp ht
    obtain ⟨e1, e2⟩ := Prod.mk.inj e
    exact ⟨t, ht1, ht2, e1.symm, e2.symm⟩
  have exs : ∀ t ∈ p.defs, ((!(s.gx && t.lx) || !decide ((He.cT K (s.name, none)).2 = (He.cT K (t.name, none)).2)) && (!(s.lx && t.lx) || decide (s.name = t.name) || !decide ((He.cT K (s.name, none)).2 = (He.cT K (t.name, none)).2))) = true := fun t ht => by
    have := c.more
    unfold exB at this
    rw [Bool.and_eq_true] at this
    have := this.1
    unfold exB0 at this
    exact List.all_eq_true.mp (List.all_eq_true.mp this s hs) t ht
  have code : fd.code = .ref (He.cT K (s.name, none)).1 := by
    obtain ⟨oc, od, dV, kV, doc, pm, an, cdv, ct, osl, rfl, lk, hcd, _, _⟩ := F.ex
    obtain ⟨cc, rfl⟩ := He.codeIn_ref hcd
    have := He.codeOf_eq lk (show (PySem.W.fnOf s.name s.name (defArgs s.st) (defBody s.st) (defScope s.st) dV kV doc pm an (.ref cc) ct).code = .ref cc from rfl)
    show Value.ref cc = .ref (He.codeOf K (s.name, none))
    rw [this]
  refine ⟨fd, ⟨?_, F.kp, F.bindsN (ps := s.ps) fun kV doc pm an cdv ct us hl => hbn kV doc pm an cdv ct us hl, ⟨_, _, F⟩, fsc_by hsok.1.1, hsok.2, fun gx => ?_, fun lx => ?_⟩, hbn, F⟩
  · have := He.glo_ok X G (cd.facts (fa_glo hs))
    exact this
  · have hq : ((s.name, none) : He.Defn) ∈ p.tf := List.mem_map.mpr ⟨s, List.mem_filter.mpr ⟨hs, by rw [show s.gx = true from gx]; rfl⟩, rfl⟩
    refine ⟨_, _, hT _ hq, List.mem_map.mpr ⟨_, hq, rfl⟩, code, fun q m => ?_⟩
    obtain ⟨t, ht1, ht2, ht3, _⟩ := lam q m
    have := exs t ht1
    rw [show s.gx = true from gx, ht2, ← ht3] at this
    simp at this
  · have hq : ((s.name, none) : He.Defn) ∈ p.tf := List.mem_map.mpr ⟨s, List.mem_filter.mpr ⟨hs, by rw [show s.lx = true from lx, Bool.or_true]⟩, rfl⟩
    have hTq := hT _ hq
    refine ⟨_, _, ⟨hTq.code, hTq.bm, hTq.gP⟩, List.mem_map.mpr ⟨_, hq, rfl⟩, code, List.mem_map.mpr ⟨s, List.mem_filter.mpr ⟨hs, lx⟩, rfl⟩, fun q m => ?_⟩
    obtain ⟨t, ht1, ht2, ht3, ht4⟩ := lam q m
    have := exs t ht1
    rw [show s.lx = true from lx, ht2, ← ht3] at this
    simp at this
    rw [ht4, ← this.2]
    rfl
theorem rk_end {l : PySem.W.OpenLaw} {fa : Addr} (n : Nat) (hfile : ((l.prog.main.file : Str) == p.file) = true) (htop : (l.prog.main.scope.names.lookup ("super" : Str)).isSome = false) (X : K.In h) (G : h.Ns mainGlobals mg) (c : He.SaysX p.fa p.fn [] p.tf (exB p) w h K) (hok : p.defs.all Src.ok = true) (hb : ∀ s ∈ p.defs, s.Bnd)
    {s : Src} (hs : s ∈ p.defs) (hps : s.ps = ([("script" : Str)] : List Str)) (hmg : mg s.name = some (.ref fa))
    (hlaw : ∀ ns : List Int, ns.length ≤ 63 → (∀ z ∈ ns, Builtin.Int.intBits z ≤ 1048576) → ∃ ρ, s.df.sem (p.pg n) [.scr ns] = some (.ok (bl true) ρ)) :
    LamX.LawAtS l w K (L2.CX l.prog w) (2 * n + 2) 63 "script" mg fa h := by
  have cd := c.t.d
  have bindA : ∃ fd, FunD K s.name s.name (defArgs s.st) (defBody s.st) (defScope s.st) [] [] (He.fAd K (s.name, none)) fd := by
    obtain ⟨fd, F⟩ := cd.defs (d := s.dd) (List.mem_map.mpr ⟨s, hs, rfl⟩)
    exact ⟨fd, F⟩
  obtain ⟨fd, F⟩ := bindA
  have hfa : fa = He.fAd K (s.name, none) := by
    have e1 := He.glo_ok X G (cd.facts (fa_glo hs))
    rw [hmg] at e1
    have e2 : fa = He.ga K s.name := by cases e1; rfl
    exact e2
  subst hfa
  have har : (s.df.N.take s.df.ar).length = s.df.ar := by
    have hsok := List.all_eq_true.mp hok s hs
    unfold Src.ok at hsok
    rw [Bool.and_eq_true, Bool.and_eq_true, decide_eq_true_eq] at hsok
    rw [List.length_take]
    exact Nat.min_eq_left hsok.2
  refine ⟨fd, p.tf.map (He.cT K), spF (gdOf p K (clO K)) s.df.ar (s.df.sem (p.pg n)), fun q hq => ?_, fun q hq => ?_, fun q hq => ?_, fun s' u => ?_, fun H a ns hl hbits hT hS => ?_, fun base X' G' hT => ?_⟩
  · obtain ⟨q', hq', rfl⟩ := List.mem_map.mp hq
    exact c.empty q' hq'
  · obtain ⟨q', hq', rfl⟩ := List.mem_map.mp hq
    exact c.out q' hq'
  · obtain ⟨q', hq', rfl⟩ := List.mem_map.mp hq
    exact PySem.W.codeHd_of_K X (c.hd q' hq')
  · have := FunD.bindsA (ps := s.ps) F (hb s hs) s' [u] (by rw [hps]; rfl)
    rw [hps] at this
    exact this
  · obtain ⟨ρ, hρ⟩ := hlaw ns hl hbits
    have har1 : s.df.ar = 1 := by
      have : (s.df.N.take s.df.ar) = ([("script" : Str)] : List Str) := hps
      rw [← har, this]
      rfl
    refine ⟨har1.symm, [.scr ns], fun b => match H b with | some (.tbl _) => none | o => o, _, ?_, hρ, ?_⟩
    · refine ⟨fun b o q => ?_, rfl, fun i sl q => ?_, fun i j b d1 d2 q => ?_, fun P hP => ?_⟩
      · have q : (match H b with | some (.tbl _) => none | o => o) = some o := q
        split at q
        · cases q
        · exact q
      · cases i with
        | zero =>
          cases q
          refine ⟨a, rfl, ?_⟩
          rcases hS with hS | hS
          · rcases hS with hS | ⟨o, hS⟩
            · exact .inl (.inl (by dsimp only; rw [hS]))
            · exact .inl (.inr ⟨o, by dsimp only; rw [hS]⟩)
          · exact .inr hS
        | succ i => cases q
      · cases i <;> cases q
      · obtain ⟨q', hq', rfl⟩ := List.mem_map.mp hP
        have e := hT _ (List.mem_map.mpr ⟨q', hq', rfl⟩)
        refine ⟨by show (match H (He.cT K q').2 with | some (.tbl _) => none | o => o) = none; rw [e], #[], e, trivial, fun q m pos cv hc => ?_⟩
        cases hc
    · intro v G' H' st x
      cases x
      rfl
  · have all : ∀ d ∈ p.defs.map Src.df, ∃ f fd, DfOk (gdOf p K (clO K)) K mg base d f fd := fun d hd => by
      obtain ⟨s', hs', rfl⟩ := List.mem_map.mp hd
      obtain ⟨fd', hfd, _⟩ := prg_df (clO K) X G c hok hb (fun q hq => tabGx (hT _ (List.mem_map.mpr ⟨q, hq, rfl⟩))) hs'
      exact ⟨_, fd', hfd⟩
    obtain ⟨fd', hfd, _, F'⟩ := prg_df (clO K) X G c hok hb (fun q hq => tabGx (hT _ (List.mem_map.mpr ⟨q, hq, rfl⟩))) hs
    have efd : fd' = fd := by
      obtain ⟨oc, od, dV, kV, doc, pm, an, cdv, ct, osl, e1, lk, _⟩ := F.ex
      obtain ⟨oc', od', dV', kV', doc', pm', an', cdv', ct', osl', e1', lk', _⟩ := F'.ex
      rw [lk] at lk'
      have := Option.some.inj lk'
      cases this
      rfl
    subst efd
    have clb : clsB p K = true := by
      have := c.more
      unfold exB at this
      rw [Bool.and_eq_true] at this
      exact this.2
    unfold clsB at clb
    rw [Bool.and_eq_true, List.all_eq_true, List.all_eq_true] at clb
    obtain ⟨clb1, clb2⟩ := clb
    have hcls : ∀ q ∈ p.cs, ClsOk l.prog (gdOf p K (clO K)) mg q.1 q.2 := fun q hq => by
      have := clb1 q hq
      rw [Bool.and_eq_true, Bool.and_eq_true] at this
      obtain ⟨fI, pre, par, d, h1⟩ := iniB_ok this.1 hfile htop
      exact ⟨He.ga K q.1, fI, pre, par, d, He.glo_ok X G (cd.facts (fa_cs hq)), rfl, h1, xfB_ok this.2.1, isiCB_ok this.2.2⟩
    have hexc : ∀ x l', lookF p.ec x = some l' → ∃ cx, mg x = some (.ref cx) ∧ ∀ q ∈ p.cs, ∀ C, (gdOf p K (clO K)).cl q.1 = some C → PySem.W.exmOne K (.ref C) (.ref cx) = some (decide (q.1 ∈ l')) ∧ PySem.W.kitOne K (.ref C) (.ref cx) = some (decide (q.1 ∈ l')) := fun x l' q => by
      have hm := lookF_mem q
      have := clb2 _ hm
      rw [Bool.and_eq_true, List.all_eq_true] at this
      obtain ⟨h1, h2⟩ := this
      unfold excB at h1
      simp only [Bool.and_eq_true, decide_eq_true_eq] at h1
      refine ⟨_, He.glo_ok X G (cd.facts (fa_ec hm)), fun q hq C hC => ?_⟩
      cases hC
      have h3 := h2 q hq
      rw [Bool.and_eq_true] at h3
      exact ⟨PySem.W.exm_ref h1.1 h1.2.1 h1.2.2 (of_decide_eq_true h3.1), of_decide_eq_true h3.2⟩
    have := pg_def (prog := l.prog) (w := w) (glob := p.glob) (free := p.free) (g := gdOf p K (clO K)) hcls (fun hne => He.free_ok X G (cd.facts (fa_sup hne))) hexc rfl (fun x d q => ?_) (fun x hx => He.free_ok X G (cd.facts (fa_free hx))) all n hfd
    · have e2 : (s.df.N.take s.df.ar) = ([("script" : Str)] : List Str) := hps
      rw [e2] at this
      exact this
    · have hm := lookF_mem q
      obtain ⟨z, hz, e⟩ := List.mem_map.mp hm
      cases e
      obtain ⟨t, ht⟩ := He.int_ok X G (cd.facts (fa_int hz))
      exact ⟨.int z.2, _, ht, ⟨t, rfl⟩, fun _ => .int _⟩
end
end Rk
set_option Elab.async false
set_option linter.all false
set_option maxRecDepth 100000
set_option maxHeartbeats 1000000
namespace Rk
open PySem PySem.Spec PyProof.Rows L2
def expY (g : Addr → Option Obj) (as : List Addr) : List Addr := as.flatMap fun a => match g a with
  | some o => He.refsD o
  | none => []
/-- what is seen, what was seen last -/
def lvY (g : Addr → Option Obj) : Nat → List Addr × List Addr
  | 0 => ([mainGlobals], [mainGlobals])
  | n + 1 => match lvY g n with
    | (s, f) => match (expY g f).eraseDups.filter fun a => !s.elem a with
      | f' => (s ++ f', f')
def asY (g : Addr → Option Obj) (n : Nat) : List Addr := cStatics :: (lvY g n).1
def obsY (n : Nat) (fa : List He.Fa) (fn : List He.DefD) (tf : List He.Defn) (ex : PySem.W.Frag → Bool) (g : Addr → Option Obj) : He.AlX :=
  (He.obsT fa fn [] (He.frT g (asY g n)), ex (He.frT g (asY g n)) && He.tabsB g tf (He.frT g (asY g n)))
theorem saysY {n : Nat} {fa : List He.Fa} {fn : List He.DefD} {tf : List He.Defn} {ex : PySem.W.Frag → Bool} {w : World} {h : Heap} (e : obsY n fa fn tf ex h.get? = He.valX fn [] w) : He.SaysX fa fn [] tf ex w h (He.frT h.get? (asY h.get? n)) := by
  unfold obsY He.valX at e
  injection e with e1 e2
  rw [Bool.and_eq_true] at e2
  obtain ⟨h1, h2⟩ := e2
  have each : ∀ q ∈ tf, PySem.W.codeHdIn (He.frT h.get? (asY h.get? n)) (He.cT (He.frT h.get? (asY h.get? n)) q).1 (He.cT (He.frT h.get? (asY h.get? n)) q).2 = true ∧ ∃ o, h.get? (He.cT (He.frT h.get? (asY h.get? n)) q).2 = some o ∧ He.emptyTab o = true := fun q hq => by
    unfold He.tabsB at h2
    have z := List.all_eq_true.mp h2 q hq
    rw [Bool.and_eq_true] at z
    refine ⟨z.1, ?_⟩
    have z2 := z.2
    split at z2
    · rename_i o ho
      exact ⟨o, ho, z2⟩
    · cases z2
  exact ⟨e1, h1, fun q hq => (each q hq).1, fun q hq => by
    obtain ⟨_, o, ho, hz⟩ := each q hq
    exact He.frT_none ho hz, fun q hq => by
    obtain ⟨_, o, ho, hz⟩ := each q hq
    rw [ho, He.emptyTab_eq hz]⟩
def hookY (n : Nat) (fa : List He.Fa) (fn : List He.DefD) (tf : List He.Defn) (ex : PySem.W.Frag → Bool) : PySem.W.Hook where
  α := He.AlX
  obs := fun s => obsY n fa fn tf ex s.heap.get?
  val := fun w => He.valX fn [] w
  says := fun w h => ∃ K : PySem.W.Frag, K.In h ∧ He.SaysX fa fn [] tf ex w h K
  of := fun _ _ e => ⟨_, He.frT_in, saysY e⟩
  keeps := fun _ _ _ ⟨K, hK, c⟩ k => ⟨K, PySem.W.Frag.In.keeps hK k, ⟨c.t, c.more, c.hd, c.out, fun q hq => k _ _ (c.empty q hq)⟩⟩
theorem obsY_eq {n : Nat} {fa : List He.Fa} {fn : List He.DefD} {tf : List He.Defn} {ex : PySem.W.Frag → Bool} {g : Addr → Option Obj} {s : Shared} (h : ∀ a, g a = s.heap.get? a) : obsY n fa fn tf ex g = (hookY n fa fn tf ex).obs s := by
  obtain rfl : g = s.heap.get? := funext h
  rfl
end Rk
set_option Elab.async false
set_option linter.all false
set_option maxRecDepth 100000
set_option maxHeartbeats 4000000
namespace Rk
open PySem PySem.Spec PyProof.Rows L2
section
variable {ρ ρ1 : Rho} {d x y : D} {ds es : List D} {i j n ar : Nat} {fa fb fc : Ev} {ta tb : EvT} {fs : EvA} {f h : EvS} {α β : Type} {a : α} {own : Bool}
@[simp] theorem bl_eq {b : Bool} : bl b = .sh (.bool b) := rfl
@[simp] theorem lift_some {r : Sl} : lift (some r) ρ = some (.ok r ρ) := rfl
@[simp] theorem lift_none : lift none ρ = none := rfl
@[simp] theorem lift_if {c : Prop} [Decidable c] {u v : Option Sl} : lift (if c then u else v) ρ = if c then lift u ρ else lift v ρ := by split <;> rfl
@[simp] theorem mrg_bl {c : Prop} [Decidable c] {u v : Bool} : (if c then some (Oc.ok (Sl.sh (.bool u)) ρ) else some (Oc.ok (Sl.sh (.bool v)) ρ)) = some (Oc.ok (Sl.sh (.bool (if c then u else v))) ρ) := by split <;> rfl
@[simp] theorem mrg_b {c : Prop} [Decidable c] {u v : Bool} : (if c then some (Oc.ok u ρ) else some (Oc.ok v ρ)) = some (Oc.ok (if c then u else v) ρ) := by split <;> rfl
def nmK (i : Nat) (ρ : Rho) : Option Sl → Option (Oc Sl)
  | some (.sh d) => some (.ok (.sh d) ρ)
  | some (.ow ds) => some (.ok (.sh (.list ds)) (ρ.set i (.sh (.list ds))))
  | some (.scr ns) => some (.ok (.scr ns) ρ)
  | _ => none
@[simp] theorem ap_name : cName i ρ = nmK i ρ ρ[i]? := by
  unfold cName nmK
  rcases ρ[i]? with _ | s
  · rfl
  · cases s <;> rfl
@[simp] theorem nmK_sh : nmK i ρ (some (.sh d)) = some (.ok (.sh d) ρ) := rfl
@[simp] theorem nmK_ow : nmK i ρ (some (.ow ds)) = some (.ok (.sh (.list ds)) (ρ.set i (.sh (.list ds)))) := rfl
@[simp] theorem nmK_scr {ns : List Int} : nmK i ρ (some (.scr ns)) = some (.ok (.scr ns) ρ) := rfl
@[simp] theorem ap_K : cK d ρ = some (.ok (.sh d) ρ) := rfl
def binK2 (s : D → D → Option Sl) (x1 : D) (x : Option (Oc Sl)) : Option (Oc Sl) := bdD x fun d ρ => lift (s x1 d) ρ
@[simp] theorem binK2_sh {d : D} {ρ : Rho} (s : D → D → Option Sl) (x1 : D) : binK2 s x1 (some (.ok (.sh d) ρ)) = lift (s x1 d) ρ := rfl
@[simp] theorem binK2_ow {ds : List D} {ρ : Rho} (s : D → D → Option Sl) (x1 : D) : binK2 s x1 (some (.ok (.ow ds) ρ)) = lift (s x1 (.list ds)) ρ := rfl
@[simp] theorem binK2_if (s : D → D → Option Sl) (x1 : D) {c : Prop} [Decidable c] {u v : Option (Oc Sl)} : binK2 s x1 (if c then u else v) = if c then binK2 s x1 u else binK2 s x1 v := by split <;> rfl
def binK (s : D → D → Option Sl) (fb : Ev) (x : Option (Oc Sl)) : Option (Oc Sl) := bdD x fun d ρ => binK2 s d (fb ρ)
@[simp] theorem binK_sh {d : D} {ρ : Rho} (s : D → D → Option Sl) (fb : Ev) : binK s fb (some (.ok (.sh d) ρ)) = binK2 s d (fb ρ) := rfl
@[simp] theorem binK_ow {ds : List D} {ρ : Rho} (s : D → D → Option Sl) (fb : Ev) : binK s fb (some (.ok (.ow ds) ρ)) = binK2 s (.list ds) (fb ρ) := rfl
@[simp] theorem binK_if (s : D → D → Option Sl) (fb : Ev) {c : Prop} [Decidable c] {u v : Option (Oc Sl)} : binK s fb (if c then u else v) = if c then binK s fb u else binK s fb v := by split <;> rfl
@[simp] theorem ap_bin {s : D → D → Option Sl} : cBin s fa fb ρ = binK s fb (fa ρ) := rfl
def unK (s : D → Option Sl) (x : Option (Oc Sl)) : Option (Oc Sl) := bdD x fun d ρ => lift (s d) ρ
@[simp] theorem unK_sh {d : D} {ρ : Rho} (s : D → Option Sl) : unK s (some (.ok (.sh d) ρ)) = lift (s d) ρ := rfl
@[simp] theorem unK_ow {ds : List D} {ρ : Rho} (s : D → Option Sl) : unK s (some (.ok (.ow ds) ρ)) = lift (s (.list ds)) ρ := rfl
@[simp] theorem unK_if (s : D → Option Sl) {c : Prop} [Decidable c] {u v : Option (Oc Sl)} : unK s (if c then u else v) = if c then unK s u else unK s v := by split <;> rfl
@[simp] theorem ap_un {s : D → Option Sl} : cUn s fa ρ = unK s (fa ρ) := rfl
def tK (ρ : Rho) : Option Bool → Option (Oc Bool)
  | some b => some (.ok b ρ)
  | none => none
@[simp] theorem tK_some {b : Bool} : tK ρ (some b) = some (.ok b ρ) := rfl
def TK  (x : Option (Oc Sl)) : Option (Oc Bool) := bdD x fun d ρ => tK ρ (truD d)
@[simp] theorem TK_sh {d : D} {ρ : Rho}  : TK  (some (.ok (.sh d) ρ)) = tK ρ (truD d) := rfl
@[simp] theorem TK_ow {ds : List D} {ρ : Rho}  : TK  (some (.ok (.ow ds) ρ)) = tK ρ (truD (.list ds)) := rfl
@[simp] theorem TK_if  {c : Prop} [Decidable c] {u v : Option (Oc Sl)} : TK  (if c then u else v) = if c then TK  u else TK  v := by split <;> rfl
@[simp] theorem ap_T : cT fa ρ = TK (fa ρ) := rfl
@[simp] theorem tru_bool {b : Bool} : truD (.bool b) = some b := rfl
@[simp] theorem tru_int {i : Int} : truD (.int i) = some (i != 0) := rfl
@[simp] theorem tru_none : truD .none = some false := rfl
@[simp] theorem tru_list : truD (.list ds) = some (!ds.isEmpty) := rfl
@[simp] theorem tru_tup : truD (.tuple ds) = some (!ds.isEmpty) := rfl
def andTK (tb : EvT) (x : Option (Oc Bool)) : Option (Oc Bool) := bdO x fun a ρ => if a = true then tb ρ else some (.ok false ρ)
@[simp] theorem andTK_ok {a : Bool} {ρ : Rho} (tb : EvT) : andTK tb (some (.ok a ρ)) = if a = true then tb ρ else some (.ok false ρ) := rfl
@[simp] theorem andTK_if (tb : EvT) {c : Prop} [Decidable c] {u v : Option (Oc Bool)} : andTK tb (if c then u else v) = if c then andTK tb u else andTK tb v := by split <;> rfl
@[simp] theorem ap_andT : cAndT ta tb ρ = andTK tb (ta ρ) := by
  unfold cAndT andTK; congr 1; funext b ρ1; cases b <;> rfl
def orTK (tb : EvT) (x : Option (Oc Bool)) : Option (Oc Bool) := bdO x fun a ρ => if a = true then some (.ok true ρ) else tb ρ
@[simp] theorem orTK_ok {a : Bool} {ρ : Rho} (tb : EvT) : orTK tb (some (.ok a ρ)) = if a = true then some (.ok true ρ) else tb ρ := rfl
@[simp] theorem orTK_if (tb : EvT) {c : Prop} [Decidable c] {u v : Option (Oc Bool)} : orTK tb (if c then u else v) = if c then orTK tb u else orTK tb v := by split <;> rfl
@[simp] theorem ap_orT : cOrT ta tb ρ = orTK tb (ta ρ) := by
  unfold cOrT orTK; congr 1; funext b ρ1; cases b <;> rfl
def notTK  (x : Option (Oc Bool)) : Option (Oc Bool) := bdO x fun a ρ => some (.ok (!a) ρ)
@[simp] theorem notTK_ok {a : Bool} {ρ : Rho}  : notTK  (some (.ok a ρ)) = some (.ok (!a) ρ) := rfl
@[simp] theorem notTK_if  {c : Prop} [Decidable c] {u v : Option (Oc Bool)} : notTK  (if c then u else v) = if c then notTK  u else notTK  v := by split <;> rfl
@[simp] theorem ap_notT : cNotT ta ρ = notTK (ta ρ) := rfl
def ifK (fa fb : Ev) (x : Option (Oc Bool)) : Option (Oc Sl) := bdO x fun a ρ => if a = true then fa ρ else fb ρ
@[simp] theorem ifK_ok {a : Bool} {ρ : Rho} (fa fb : Ev) : ifK fa fb (some (.ok a ρ)) = if a = true then fa ρ else fb ρ := rfl
@[simp] theorem ifK_if (fa fb : Ev) {c : Prop} [Decidable c] {u v : Option (Oc Bool)} : ifK fa fb (if c then u else v) = if c then ifK fa fb u else ifK fa fb v := by split <;> rfl
@[simp] theorem ap_if {t : EvT} : cIf t fa fb ρ = ifK fa fb (t ρ) := by
  unfold cIf ifK; congr 1; funext b ρ1; cases b <;> rfl
def andK (fb : Ev) (ρ : Rho) : D → Option (Oc Sl)
  | .bool b => if b = true then fb ρ else some (.ok (bl false) ρ)
  | _ => none
@[simp] theorem andK_b {b : Bool} : andK fb ρ (.bool b) = if b = true then fb ρ else some (.ok (bl false) ρ) := rfl
def andVK (fb : Ev) (x : Option (Oc Sl)) : Option (Oc Sl) := bdD x fun d ρ => andK fb ρ d
@[simp] theorem andVK_sh {d : D} {ρ : Rho} (fb : Ev) : andVK fb (some (.ok (.sh d) ρ)) = andK fb ρ d := rfl
@[simp] theorem andVK_ow {ds : List D} {ρ : Rho} (fb : Ev) : andVK fb (some (.ok (.ow ds) ρ)) = andK fb ρ (.list ds) := rfl
@[simp] theorem andVK_if (fb : Ev) {c : Prop} [Decidable c] {u v : Option (Oc Sl)} : andVK fb (if c then u else v) = if c then andVK fb u else andVK fb v := by split <;> rfl
@[simp] theorem ap_andV : cAndV fa fb ρ = andVK fb (fa ρ) := by
  unfold cAndV andVK; congr 1; funext x ρ1; cases x <;> try rfl
  rename_i b; cases b <;> rfl
def orK (fb : Ev) (ρ : Rho) : D → Option (Oc Sl)
  | .bool b => if b = true then some (.ok (bl true) ρ) else fb ρ
  | _ => none
@[simp] theorem orK_b {b : Bool} : orK fb ρ (.bool b) = if b = true then some (.ok (bl true) ρ) else fb ρ := rfl
def orVK (fb : Ev) (x : Option (Oc Sl)) : Option (Oc Sl) := bdD x fun d ρ => orK fb ρ d
@[simp] theorem orVK_sh {d : D} {ρ : Rho} (fb : Ev) : orVK fb (some (.ok (.sh d) ρ)) = orK fb ρ d := rfl
@[simp] theorem orVK_ow {ds : List D} {ρ : Rho} (fb : Ev) : orVK fb (some (.ok (.ow ds) ρ)) = orK fb ρ (.list ds) := rfl
@[simp] theorem orVK_if (fb : Ev) {c : Prop} [Decidable c] {u v : Option (Oc Sl)} : orVK fb (if c then u else v) = if c then orVK fb u else orVK fb v := by split <;> rfl
@[simp] theorem ap_orV : cOrV fa fb ρ = orVK fb (fa ρ) := by
  unfold cOrV orVK; congr 1; funext x ρ1; cases x <;> try rfl
  rename_i b; cases b <;> rfl
def notK (ρ : Rho) : D → Option (Oc Sl)
  | .bool b => some (.ok (bl (!b)) ρ)
  | _ => none
@[simp] theorem notK_b {b : Bool} : notK ρ (.bool b) = some (.ok (bl (!b)) ρ) := rfl
def notVK  (x : Option (Oc Sl)) : Option (Oc Sl) := bdD x fun d ρ => notK ρ d
@[simp] theorem notVK_sh {d : D} {ρ : Rho}  : notVK  (some (.ok (.sh d) ρ)) = notK ρ d := rfl
@[simp] theorem notVK_ow {ds : List D} {ρ : Rho}  : notVK  (some (.ok (.ow ds) ρ)) = notK ρ (.list ds) := rfl
@[simp] theorem notVK_if  {c : Prop} [Decidable c] {u v : Option (Oc Sl)} : notVK  (if c then u else v) = if c then notVK  u else notVK  v := by split <;> rfl
@[simp] theorem ap_notV : cNotV fa ρ = notVK (fa ρ) := by
  unfold cNotV notVK; congr 1
def chK3 (s2 : D → D → Option Sl) (y1 : D) (x : Option (Oc Sl)) : Option (Oc Sl) := bdD x fun d ρ => lift (s2 y1 d) ρ
@[simp] theorem chK3_sh {d : D} {ρ : Rho} (s2 : D → D → Option Sl) (y1 : D) : chK3 s2 y1 (some (.ok (.sh d) ρ)) = lift (s2 y1 d) ρ := rfl
@[simp] theorem chK3_ow {ds : List D} {ρ : Rho} (s2 : D → D → Option Sl) (y1 : D) : chK3 s2 y1 (some (.ok (.ow ds) ρ)) = lift (s2 y1 (.list ds)) ρ := rfl
@[simp] theorem chK3_if (s2 : D → D → Option Sl) (y1 : D) {c : Prop} [Decidable c] {u v : Option (Oc Sl)} : chK3 s2 y1 (if c then u else v) = if c then chK3 s2 y1 u else chK3 s2 y1 v := by split <;> rfl
def chK (fc : Ev) (s2 : D → D → Option Sl) (y : D) (ρ : Rho) : Option Sl → Option (Oc Sl)
  | some (.sh (.bool b)) => if b = true then chK3 s2 y (fc ρ) else some (.ok (bl false) ρ)
  | _ => none
@[simp] theorem chK_b {s2 : D → D → Option Sl} {b : Bool} : chK fc s2 y ρ (some (.sh (.bool b))) = if b = true then chK3 s2 y (fc ρ) else some (.ok (bl false) ρ) := rfl
def chK2 (s1 s2 : D → D → Option Sl) (fc : Ev) (x1 : D) (x : Option (Oc Sl)) : Option (Oc Sl) := bdD x fun d ρ => chK fc s2 d ρ (s1 x1 d)
@[simp] theorem chK2_sh {d : D} {ρ : Rho} (s1 s2 : D → D → Option Sl) (fc : Ev) (x1 : D) : chK2 s1 s2 fc x1 (some (.ok (.sh d) ρ)) = chK fc s2 d ρ (s1 x1 d) := rfl
@[simp] theorem chK2_ow {ds : List D} {ρ : Rho} (s1 s2 : D → D → Option Sl) (fc : Ev) (x1 : D) : chK2 s1 s2 fc x1 (some (.ok (.ow ds) ρ)) = chK fc s2 (.list ds) ρ (s1 x1 (.list ds)) := rfl
@[simp] theorem chK2_if (s1 s2 : D → D → Option Sl) (fc : Ev) (x1 : D) {c : Prop} [Decidable c] {u v : Option (Oc Sl)} : chK2 s1 s2 fc x1 (if c then u else v) = if c then chK2 s1 s2 fc x1 u else chK2 s1 s2 fc x1 v := by split <;> rfl
def chK1 (s1 s2 : D → D → Option Sl) (fb fc : Ev) (x : Option (Oc Sl)) : Option (Oc Sl) := bdD x fun d ρ => chK2 s1 s2 fc d (fb ρ)
@[simp] theorem chK1_sh {d : D} {ρ : Rho} (s1 s2 : D → D → Option Sl) (fb fc : Ev) : chK1 s1 s2 fb fc (some (.ok (.sh d) ρ)) = chK2 s1 s2 fc d (fb ρ) := rfl
@[simp] theorem chK1_ow {ds : List D} {ρ : Rho} (s1 s2 : D → D → Option Sl) (fb fc : Ev) : chK1 s1 s2 fb fc (some (.ok (.ow ds) ρ)) = chK2 s1 s2 fc (.list ds) (fb ρ) := rfl
@[simp] theorem chK1_if (s1 s2 : D → D → Option Sl) (fb fc : Ev) {c : Prop} [Decidable c] {u v : Option (Oc Sl)} : chK1 s1 s2 fb fc (if c then u else v) = if c then chK1 s1 s2 fb fc u else chK1 s1 s2 fb fc v := by split <;> rfl
@[simp] theorem ap_chain {s1 s2 : D → D → Option Sl} : cChain s1 s2 fa fb fc ρ = chK1 s1 s2 fb fc (fa ρ) := by
  unfold cChain chK1; congr 1; funext x ρ1; unfold chK2; congr 1; funext y ρ2
  rcases s1 x y with _ | r
  · rfl
  cases r <;> try rfl
  rename_i d; cases d <;> try rfl
  rename_i b; cases b <;> rfl
@[simp] theorem ap_A0 : cA0 ρ = some (.ok [] ρ) := rfl
def A1K2 (x1 : D) (x : Option (Oc (List D))) : Option (Oc (List D)) := bdO x fun a ρ => some (.ok (x1 :: a) ρ)
@[simp] theorem A1K2_ok {a : (List D)} {ρ : Rho} (x1 : D) : A1K2 x1 (some (.ok a ρ)) = some (.ok (x1 :: a) ρ) := rfl
@[simp] theorem A1K2_if (x1 : D) {c : Prop} [Decidable c] {u v : Option (Oc (List D))} : A1K2 x1 (if c then u else v) = if c then A1K2 x1 u else A1K2 x1 v := by split <;> rfl
def A1K (fs : EvA) (x : Option (Oc Sl)) : Option (Oc (List D)) := bdD x fun d ρ => A1K2 d (fs ρ)
@[simp] theorem A1K_sh {d : D} {ρ : Rho} (fs : EvA) : A1K fs (some (.ok (.sh d) ρ)) = A1K2 d (fs ρ) := rfl
@[simp] theorem A1K_ow {ds : List D} {ρ : Rho} (fs : EvA) : A1K fs (some (.ok (.ow ds) ρ)) = A1K2 (.list ds) (fs ρ) := rfl
@[simp] theorem A1K_if (fs : EvA) {c : Prop} [Decidable c] {u v : Option (Oc Sl)} : A1K fs (if c then u else v) = if c then A1K fs u else A1K fs v := by split <;> rfl
@[simp] theorem ap_A1 : cA1 fa fs ρ = A1K fs (fa ρ) := rfl
def tupK  (x : Option (Oc (List D))) : Option (Oc Sl) := bdO x fun a ρ => if a.length ≤ big then some (.ok (.sh (.tuple a)) ρ) else none
@[simp] theorem tupK_ok {a : (List D)} {ρ : Rho}  : tupK  (some (.ok a ρ)) = if a.length ≤ big then some (.ok (.sh (.tuple a)) ρ) else none := rfl
@[simp] theorem tupK_if  {c : Prop} [Decidable c] {u v : Option (Oc (List D))} : tupK  (if c then u else v) = if c then tupK  u else tupK  v := by split <;> rfl
@[simp] theorem ap_tup : cTup fs ρ = tupK (fs ρ) := rfl
def lstK'  (x : Option (Oc (List D))) : Option (Oc Sl) := bdO x fun a ρ => if a.length ≤ big then some (.ok (.ow a) ρ) else none
@[simp] theorem lstK'_ok {a : (List D)} {ρ : Rho}  : lstK'  (some (.ok a ρ)) = if a.length ≤ big then some (.ok (.ow a) ρ) else none := rfl
@[simp] theorem lstK'_if  {c : Prop} [Decidable c] {u v : Option (Oc (List D))} : lstK'  (if c then u else v) = if c then lstK'  u else lstK'  v := by split <;> rfl
@[simp] theorem ap_lst : cLst fs ρ = lstK' (fs ρ) := rfl
def callK (s : List D → Option Sl) (x : Option (Oc (List D))) : Option (Oc Sl) := bdO x fun a ρ => lift (s a) ρ
@[simp] theorem callK_ok {a : (List D)} {ρ : Rho} (s : List D → Option Sl) : callK s (some (.ok a ρ)) = lift (s a) ρ := rfl
@[simp] theorem callK_if (s : List D → Option Sl) {c : Prop} [Decidable c] {u v : Option (Oc (List D))} : callK s (if c then u else v) = if c then callK s u else callK s v := by split <;> rfl
@[simp] theorem ap_call {s : List D → Option Sl} : cCall s fs ρ = callK s (fs ρ) := rfl
def isiK (T : String) (x : Option (Oc Sl)) : Option (Oc Sl) := bdD x fun d ρ => lift ((isiD T d).map bl) ρ
@[simp] theorem isiK_sh {d : D} {ρ : Rho} (T : String) : isiK T (some (.ok (.sh d) ρ)) = lift ((isiD T d).map bl) ρ := rfl
@[simp] theorem isiK_ow {ds : List D} {ρ : Rho} (T : String) : isiK T (some (.ok (.ow ds) ρ)) = lift ((isiD T (.list ds)).map bl) ρ := rfl
@[simp] theorem isiK_if (T : String) {c : Prop} [Decidable c] {u v : Option (Oc Sl)} : isiK T (if c then u else v) = if c then isiK T u else isiK T v := by split <;> rfl
@[simp] theorem ap_isi {T : String} : cIsi T fa ρ = isiK T (fa ρ) := rfl
@[simp] theorem asD_sh : asD (.sh d) = some d := rfl
@[simp] theorem asD_ow : asD (.ow ds) = some (.list ds) := rfl
def slDK : Option Sl → Option D
  | some s => asD s
  | none => none
@[simp] theorem slDK_some {s : Sl} : slDK (some s) = asD s := rfl
@[simp] theorem ap_slD : slD ρ i = slDK ρ[i]? := rfl
def slOK : Option Sl → Option (List D)
  | some (.ow ds) => some ds
  | _ => none
@[simp] theorem slOK_ow : slOK (some (.ow ds)) = some ds := rfl
@[simp] theorem ap_slO : slO ρ i = slOK ρ[i]? := rfl
def ixK2 (y : D) (ρ : Rho) : Option D → Option (Oc Sl)
  | some d => lift (sIx d y) ρ
  | none => none
@[simp] theorem ixK2_some : ixK2 y ρ (some d) = lift (sIx d y) ρ := rfl
def ixK1 (i : Nat) (x : Option (Oc Sl)) : Option (Oc Sl) := bdD x fun d ρ => ixK2 d ρ (slD ρ i)
@[simp] theorem ixK1_sh {d : D} {ρ : Rho} (i : Nat) : ixK1 i (some (.ok (.sh d) ρ)) = ixK2 d ρ (slD ρ i) := rfl
@[simp] theorem ixK1_ow {ds : List D} {ρ : Rho} (i : Nat) : ixK1 i (some (.ok (.ow ds) ρ)) = ixK2 (.list ds) ρ (slD ρ i) := rfl
@[simp] theorem ixK1_if (i : Nat) {c : Prop} [Decidable c] {u v : Option (Oc Sl)} : ixK1 i (if c then u else v) = if c then ixK1 i u else ixK1 i v := by split <;> rfl
def ixK (i : Nat) (fb : Ev) (ρ : Rho) : Option D → Option (Oc Sl)
  | none => none
  | some _ => ixK1 i (fb ρ)
@[simp] theorem ixK_some : ixK i fb ρ (some d) = ixK1 i (fb ρ) := rfl
@[simp] theorem ap_ixN : cIxN i fb ρ = ixK i fb ρ (slD ρ i) := by
  unfold cIxN ixK
  cases slD ρ i
  · rfl
  · show bdD (fb ρ) _ = ixK1 i (fb ρ)
    unfold ixK1; congr 1
def lenK (ρ : Rho) : Option Nat → Option (Oc Sl)
  | some n => some (.ok (.sh (.int n)) ρ)
  | none => none
@[simp] theorem lenK_some : lenK ρ (some n) = some (.ok (.sh (.int n)) ρ) := rfl
def lenK2 (ρ : Rho) : Option D → Option (Oc Sl)
  | some d => lenK ρ (lenD d)
  | none => none
@[simp] theorem lenK2_some : lenK2 ρ (some d) = lenK ρ (lenD d) := rfl
@[simp] theorem ap_lenN : cLenN i ρ = lenK2 ρ (slD ρ i) := by unfold cLenN lenK2 lenK; rfl
@[simp] theorem len_list : lenD (.list ds) = some ds.length := rfl
@[simp] theorem len_tup : lenD (.tuple ds) = some ds.length := rfl
@[simp] theorem ap_len : sLen [d] = (lenD d).map fun (n : Nat) => .sh (.int (n : Int)) := rfl
def slK3 (d1 : D) (lo : Option Int) (x : Option (Oc (Option Int))) : Option (Oc Sl) := bdO x fun a ρ => lift (sSl d1 lo a) ρ
@[simp] theorem slK3_ok {a : (Option Int)} {ρ : Rho} (d1 : D) (lo : Option Int) : slK3 d1 lo (some (.ok a ρ)) = lift (sSl d1 lo a) ρ := rfl
@[simp] theorem slK3_if (d1 : D) (lo : Option Int) {c : Prop} [Decidable c] {u v : Option (Oc (Option Int))} : slK3 d1 lo (if c then u else v) = if c then slK3 d1 lo u else slK3 d1 lo v := by split <;> rfl
def slK2 (d1 : D) (fh : Option Ev) (x : Option (Oc (Option Int))) : Option (Oc Sl) := bdO x fun a ρ => slK3 d1 a (cPart fh ρ)
@[simp] theorem slK2_ok {a : (Option Int)} {ρ : Rho} (d1 : D) (fh : Option Ev) : slK2 d1 fh (some (.ok a ρ)) = slK3 d1 a (cPart fh ρ) := rfl
@[simp] theorem slK2_if (d1 : D) (fh : Option Ev) {c : Prop} [Decidable c] {u v : Option (Oc (Option Int))} : slK2 d1 fh (if c then u else v) = if c then slK2 d1 fh u else slK2 d1 fh v := by split <;> rfl
def slK1 (fl fh : Option Ev) (x : Option (Oc Sl)) : Option (Oc Sl) := bdD x fun d ρ => slK2 d fh (cPart fl ρ)
@[simp] theorem slK1_sh {d : D} {ρ : Rho} (fl fh : Option Ev) : slK1 fl fh (some (.ok (.sh d) ρ)) = slK2 d fh (cPart fl ρ) := rfl
@[simp] theorem slK1_ow {ds : List D} {ρ : Rho} (fl fh : Option Ev) : slK1 fl fh (some (.ok (.ow ds) ρ)) = slK2 (.list ds) fh (cPart fl ρ) := rfl
@[simp] theorem slK1_if (fl fh : Option Ev) {c : Prop} [Decidable c] {u v : Option (Oc Sl)} : slK1 fl fh (if c then u else v) = if c then slK1 fl fh u else slK1 fl fh v := by split <;> rfl
@[simp] theorem ap_sl {fl fh : Option Ev} : cSl fa fl fh ρ = slK1 fl fh (fa ρ) := rfl
@[simp] theorem part_none : cPart none ρ = some (.ok none ρ) := rfl
def partK (ρ : Rho) : D → Option (Oc (Option Int))
  | .int i => some (.ok (some i) ρ)
  | _ => none
@[simp] theorem partK_int {i : Int} : partK ρ (.int i) = some (.ok (some i) ρ) := rfl
def partK1  (x : Option (Oc Sl)) : Option (Oc (Option Int)) := bdD x fun d ρ => partK ρ d
@[simp] theorem partK1_sh {d : D} {ρ : Rho}  : partK1  (some (.ok (.sh d) ρ)) = partK ρ d := rfl
@[simp] theorem partK1_ow {ds : List D} {ρ : Rho}  : partK1  (some (.ok (.ow ds) ρ)) = partK ρ (.list ds) := rfl
@[simp] theorem partK1_if  {c : Prop} [Decidable c] {u v : Option (Oc Sl)} : partK1  (if c then u else v) = if c then partK1  u else partK1  v := by split <;> rfl
@[simp] theorem part_some : cPart (some fa) ρ = partK1 (fa ρ) := by
  show bdD (fa ρ) _ = partK1 (fa ρ)
  unfold partK1; congr 1
@[simp] theorem sl_list {lo hi : Option Int} : sSl (.list ds) lo hi = some (.ow (cutD ds lo hi)) := rfl
@[simp] theorem sl_tup {lo hi : Option Int} : sSl (.tuple ds) lo hi = some (.sh (.tuple (cutD ds lo hi))) := rfl
@[simp] theorem ix_list {i : Int} : sIx (.list ds) (.int i) = (atI ds i).map .sh := rfl
@[simp] theorem ix_tup {i : Int} : sIx (.tuple ds) (.int i) = (atI ds i).map .sh := rfl
theorem ixN_nn {k : Int} (h0 : 0 ≤ k) (h1 : k < n) : ixN n k = some k.toNat := by unfold ixN; rw [if_pos h0, if_pos h1]
theorem ixN_big {k : Int} (h0 : 0 ≤ k) (h1 : (n : Int) ≤ k) : ixN n k = none := by unfold ixN; rw [if_pos h0, if_neg (by omega)]
@[simp] theorem atI_nn {xs : List β} {k : Int} (h0 : 0 ≤ k) : atI xs k = xs[k.toNat]? := by
  unfold atI
  by_cases h1 : k < xs.length
  · rw [ixN_nn h0 h1]; rfl
  · rw [ixN_big h0 (by omega), List.getElem?_eq_none (by omega)]; rfl
@[simp] theorem atI_m1 {xs : List β} : atI xs (-1) = xs.getLast? := by
  unfold atI ixN
  cases xs with
  | nil => rfl
  | cons x r =>
    rw [if_neg (by omega), if_pos (by rw [List.length_cons]; omega), List.getLast?_eq_getElem?]
    show (x :: r)[((-1 : Int) + ((x :: r).length : Nat)).toNat]? = _
    congr 1
    rw [List.length_cons]; omega
@[simp] theorem sub_none_sl : (Option.map Sl.sh (none : Option D)) = none := rfl
theorem layAll_eq : ∀ ds : List D, PyData.canLayAll0 ds = ds.all fun d => d.canLay0
  | [] => rfl
  | d :: ds => by
    show (d.canLay0 && PyData.canLayAll0 ds) = _
    rw [layAll_eq ds]; rfl
@[simp] theorem lay_tup : PyData.canLay0 (.tuple ds) = ds.all fun d => d.canLay0 := layAll_eq ds
@[simp] theorem lay_list : PyData.canLay0 (.list ds) = ds.all fun d => d.canLay0 := layAll_eq ds
@[simp] theorem lay_int {i : Int} : PyData.canLay0 (.int i) = true := rfl
@[simp] theorem lay_bool {b : Bool} : PyData.canLay0 (.bool b) = true := rfl
@[simp] theorem add_int {i j : Int} : sAdd (.int i) (.int j) = some (.sh (.int (i + j))) := rfl
@[simp] theorem sub_int {i j : Int} : sSub (.int i) (.int j) = some (.sh (.int (i - j))) := rfl
@[simp] theorem add_tup : sAdd (.tuple ds) (.tuple es) = if ds.length + es.length ≤ big then some (.sh (.tuple (ds ++ es))) else none := rfl
@[simp] theorem add_list : sAdd (.list ds) (.list es) = if ds.length + es.length ≤ big then some (.ow (ds ++ es)) else none := rfl
@[simp] theorem mul_intR {i j : Int} (h1 : -(2 ^ 64) < j) (h2 : j < 2 ^ 64) : sMul (.int i) (.int j) = some (.sh (.int (i * j))) := if_pos (.inr ⟨h1, h2⟩)
@[simp] theorem mod_int {i j : Int} (h : 0 < j) : sMod (.int i) (.int j) = some (.sh (.int (i % j))) := if_pos h
@[simp] theorem div_int {i j : Int} (h1 : 0 < j) (h2 : j < 1073741824) : sDiv (.int i) (.int j) = some (.sh (.int (i / j))) := if_pos ⟨h1, h2⟩
@[simp] theorem pow_int {i j : Int} (h0 : 0 ≤ j) (h1 : j ≤ 1000000) (h2 : i.natAbs < 2 ^ 64) : sPow (.int i) (.int j) = some (.sh (.int (i ^ j.toNat))) := if_pos ⟨h0, h1, h2⟩
@[simp] theorem mul_list {k : Int} : sMul (.list ds) (.int k) = if k < 1000000 ∧ -1000000 < k ∧ ds.length * k.toNat ≤ big then some (.ow (List.replicate k.toNat ds).flatten) else none := rfl
@[simp] theorem mul_tup {k : Int} : sMul (.tuple ds) (.int k) = if ds ≠ [] ∧ 1 ≤ k ∧ k ≤ 1000 ∧ ds.length ≤ 1000 then some (.sh (.tuple (List.replicate k.toNat ds).flatten)) else none := rfl
@[simp] theorem neg_int {i : Int} : sNeg (.int i) = some (.sh (.int (-i))) := rfl
@[simp] theorem cmp_int {p : Int → Int → Bool} {i j : Int} : sCmp p (.int i) (.int j) = some (bl (p i j)) := rfl
@[simp] theorem isN_none {neg : Bool} : sIsN neg d .none = some (bl (if neg then !isN d else isN d)) := rfl
@[simp] theorem isB_b {neg a b : Bool} : sIsN neg (.bool a) (.bool b) = some (bl (if neg then !decide (a = b) else decide (a = b))) := rfl
@[simp] theorem isN_n : isN .none = true := rfl
@[simp] theorem isN_b {b : Bool} : isN (.bool b) = false := rfl
@[simp] theorem isN_i {i : Int} : isN (.int i) = false := rfl
@[simp] theorem isN_s {s : Str} : isN (.str s) = false := rfl
@[simp] theorem isN_l : isN (.list ds) = false := rfl
@[simp] theorem isN_t : isN (.tuple ds) = false := rfl
@[simp] theorem eq_int {i j : Int} : sEq (.int i) (.int j) = some (bl (i == j)) := rfl
@[simp] theorem ne_int {i j : Int} : sNe (.int i) (.int j) = some (bl (!(i == j))) := rfl
@[simp] theorem eq_bool {i j : Bool} : sEq (.bool i) (.bool j) = some (bl (i == j)) := rfl
@[simp] theorem eq_str {x y : Str} (hx : PyData.canLay0 (.str x) = true) (hy : PyData.canLay0 (.str y) = true) : sEq (.str x) (.str y) = some (bl (x == y)) := by
  have e3 : PyData.depth (.str x) ≤ 64 := by simp [PyData.depth]
  have e4 : PyData.depth (.str y) ≤ 64 := by simp [PyData.depth]
  unfold sEq okc
  simp only [hx, hy, e3, e4, decide_true, Bool.and_self, if_true]
  rfl
@[simp] theorem int_int {i : Int} : sInt [.int i] = some (.sh (.int i)) := rfl
@[simp] theorem int_bool {b : Bool} : sInt [.bool b] = some (.sh (.int (if b then 1 else 0))) := rfl
@[simp] theorem abs_int {i : Int} : sAbs [.int i] = some (.sh (.int (if i < 0 then -i else i))) := rfl
@[simp] theorem tuple_list : sTuple [.list ds] = some (.sh (.tuple ds)) := rfl
@[simp] theorem tuple_tup : sTuple [.tuple ds] = some (.sh (.tuple ds)) := rfl
@[simp] theorem list_tup : sList [.tuple ds] = some (.ow ds) := rfl
@[simp] theorem list_list : sList [.list ds] = some (.ow ds) := rfl
def lstK (ρ : Rho) : Option Sl → Option (Oc Sl)
  | some (.scr ns) => some (.ok (.ow (ns.map .int)) ρ)
  | some (.ow ds) => some (.ok (.ow ds) ρ)
  | some (.sh (.list ds)) => some (.ok (.ow ds) ρ)
  | some (.sh (.tuple ds)) => some (.ok (.ow ds) ρ)
  | _ => none
@[simp] theorem ap_lstN : cLstN i ρ = lstK ρ ρ[i]? := by
  unfold cLstN lstK
  rcases ρ[i]? with _ | s
  · rfl
  cases s <;> rfl
@[simp] theorem lstK_scr {ns : List Int} : lstK ρ (some (.scr ns)) = some (.ok (.ow (ns.map .int)) ρ) := rfl
@[simp] theorem lstK_ow : lstK ρ (some (.ow ds)) = some (.ok (.ow ds) ρ) := rfl
@[simp] theorem lstK_list : lstK ρ (some (.sh (.list ds))) = some (.ok (.ow ds) ρ) := rfl
@[simp] theorem lstK_tup : lstK ρ (some (.sh (.tuple ds))) = some (.ok (.ow ds) ρ) := rfl
def fnK (ρ : Rho) : Option (Oc Sl) → Option (Oc Sl)
  | some (.ok r _) => some (.ok r ρ)
  | some (.ex c fs _) => some (.ex c fs ρ)
  | none => none
@[simp] theorem fnK_ok {r : Sl} : fnK ρ (some (.ok r ρ1)) = some (.ok r ρ) := rfl
@[simp] theorem fnK_if {c : Prop} [Decidable c] {u v : Option (Oc Sl)} : fnK ρ (if c then u else v) = if c then fnK ρ u else fnK ρ v := by split <;> rfl
def fnK1 (ar : Nat) (sem : Ev) (x : Option (Oc (List D))) : Option (Oc Sl) := bdO x fun a ρ => if a.length = ar then fnK ρ (sem (a.map .sh)) else none
@[simp] theorem fnK1_ok {a : (List D)} {ρ : Rho} (ar : Nat) (sem : Ev) : fnK1 ar sem (some (.ok a ρ)) = if a.length = ar then fnK ρ (sem (a.map .sh)) else none := rfl
@[simp] theorem fnK1_if (ar : Nat) (sem : Ev) {c : Prop} [Decidable c] {u v : Option (Oc (List D))} : fnK1 ar sem (if c then u else v) = if c then fnK1 ar sem u else fnK1 ar sem v := by split <;> rfl
@[simp] theorem ap_fn {sem : Ev} : cFn ar sem fs ρ = fnK1 ar sem (fs ρ) := by
  unfold cFn fnK1; congr 1
def by1K : Option Sl → Option Sl
  | some (.ow ds) => some (.ow ds)
  | some (.scr ns) => some (.scr ns)
  | _ => none
@[simp] theorem by1K_ow : by1K (some (.ow ds)) = some (.ow ds) := rfl
@[simp] theorem by1K_scr {ns : List Int} : by1K (some (.scr ns)) = some (.scr ns) := rfl
@[simp] theorem ap_by1 : by1 i ρ = by1K ρ[i]? := by
  unfold by1 by1K
  rcases ρ[i]? with _ | s
  · rfl
  cases s <;> rfl
def f1K2 (i ar : Nat) (sem : Ev) (xs : List D) (ρ1 : Rho) : Option Sl → Option (Oc Sl)
  | none => none
  | some s0 => if xs.length + 1 = ar then back1 i ρ1 (sem (s0 :: xs.map .sh)) else none
@[simp] theorem f1K2_some {sem : Ev} {xs : List D} {s0 : Sl} : f1K2 i ar sem xs ρ1 (some s0) = if xs.length + 1 = ar then back1 i ρ1 (sem (s0 :: xs.map .sh)) else none := rfl
def f1K1 (i ar : Nat) (sem : Ev) (x : Option (Oc (List D))) : Option (Oc Sl) := bdO x fun a ρ => f1K2 i ar sem a ρ (by1 i ρ)
@[simp] theorem f1K1_ok {a : (List D)} {ρ : Rho} (i ar : Nat) (sem : Ev) : f1K1 i ar sem (some (.ok a ρ)) = f1K2 i ar sem a ρ (by1 i ρ) := rfl
@[simp] theorem f1K1_if (i ar : Nat) (sem : Ev) {c : Prop} [Decidable c] {u v : Option (Oc (List D))} : f1K1 i ar sem (if c then u else v) = if c then f1K1 i ar sem u else f1K1 i ar sem v := by split <;> rfl
def f1K (i ar : Nat) (sem : Ev) (fs : EvA) (ρ : Rho) : Option Sl → Option (Oc Sl)
  | none => none
  | some _ => f1K1 i ar sem (fs ρ)
@[simp] theorem f1K_some {sem : Ev} {s : Sl} : f1K i ar sem fs ρ (some s) = f1K1 i ar sem (fs ρ) := rfl
@[simp] theorem ap_fn1 {sem : Ev} : cFn1 i ar sem fs ρ = f1K i ar sem fs ρ (by1 i ρ) := by
  unfold cFn1 f1K
  cases by1 i ρ
  · rfl
  · show bdO (fs ρ) _ = f1K1 i ar sem (fs ρ)
    unfold f1K1; congr 1
@[simp] theorem back1_ok {r s1 : Sl} {rest : Rho} : back1 i ρ1 (some (.ok r (s1 :: rest))) = some (.ok r (ρ1.set i s1)) := rfl
def appK (i : Nat) (d : D) (ρ : Rho) : Option (List D) → Option (Oc Sl)
  | some ds => if ds.length < big then some (.ok (.sh .none) (ρ.set i (.ow (ds ++ [d])))) else none
  | none => none
@[simp] theorem appK_some : appK i d ρ (some ds) = if ds.length < big then some (.ok (.sh .none) (ρ.set i (.ow (ds ++ [d])))) else none := rfl
def appK1 (i : Nat) (x : Option (Oc Sl)) : Option (Oc Sl) := bdD x fun d ρ => appK i d ρ (slO ρ i)
@[simp] theorem appK1_sh {d : D} {ρ : Rho} (i : Nat) : appK1 i (some (.ok (.sh d) ρ)) = appK i d ρ (slO ρ i) := rfl
@[simp] theorem appK1_ow {ds : List D} {ρ : Rho} (i : Nat) : appK1 i (some (.ok (.ow ds) ρ)) = appK i (.list ds) ρ (slO ρ i) := rfl
@[simp] theorem appK1_if (i : Nat) {c : Prop} [Decidable c] {u v : Option (Oc Sl)} : appK1 i (if c then u else v) = if c then appK1 i u else appK1 i v := by split <;> rfl
def mK (x : Option (Oc Sl)) : Option (List D) → Option (Oc Sl)
  | none => none
  | some _ => x
@[simp] theorem mK_some {u : Option (Oc Sl)} : mK u (some ds) = u := rfl
@[simp] theorem ap_app : cApp i fa ρ = mK (appK1 i (fa ρ)) (slO ρ i) := by
  unfold cApp mK; cases slO ρ i
  · rfl
  · show bdD (fa ρ) _ = appK1 i (fa ρ)
    unfold appK1; congr 1
def extK (i : Nat) (d : D) (ρ : Rho) : Option (List D) → Option (Oc Sl)
  | some ds => (match d with
    | .list es => if ds.length + es.length ≤ big then some (.ok (.sh .none) (ρ.set i (.ow (ds ++ es)))) else none
    | _ => none)
  | none => none
@[simp] theorem extK_some : extK i (.list es) ρ (some ds) = if ds.length + es.length ≤ big then some (.ok (.sh .none) (ρ.set i (.ow (ds ++ es)))) else none := rfl
def extK1 (i : Nat) (x : Option (Oc Sl)) : Option (Oc Sl) := bdD x fun d ρ => extK i d ρ (slO ρ i)
@[simp] theorem extK1_sh {d : D} {ρ : Rho} (i : Nat) : extK1 i (some (.ok (.sh d) ρ)) = extK i d ρ (slO ρ i) := rfl
@[simp] theorem extK1_ow {ds : List D} {ρ : Rho} (i : Nat) : extK1 i (some (.ok (.ow ds) ρ)) = extK i (.list ds) ρ (slO ρ i) := rfl
@[simp] theorem extK1_if (i : Nat) {c : Prop} [Decidable c] {u v : Option (Oc Sl)} : extK1 i (if c then u else v) = if c then extK1 i u else extK1 i v := by split <;> rfl
@[simp] theorem ap_ext : cExt i fa ρ = mK (extK1 i (fa ρ)) (slO ρ i) := by
  unfold cExt mK
  cases slO ρ i
  · rfl
  · show bdD (fa ρ) _ = extK1 i (fa ρ)
    unfold extK1
    congr 1; funext d ρ1
    unfold extK
    cases slO ρ1 i
    · rfl
    · cases d <;> rfl
def popK (i : Nat) (d : D) (ρ : Rho) : Option (List D) → Option (Oc Sl)
  | some ds => (match d with
    | .int k => if ds.length ≤ big then (match ixN ds.length k with
      | some j => (match ds[j]? with
        | some y => some (.ok (.sh y) (ρ.set i (.ow (ds.eraseIdx j))))
        | none => none)
      | none => none) else none
    | _ => none)
  | none => none
def popK1 (i : Nat) (x : Option (Oc Sl)) : Option (Oc Sl) := bdD x fun d ρ => popK i d ρ (slO ρ i)
@[simp] theorem popK1_sh {d : D} {ρ : Rho} (i : Nat) : popK1 i (some (.ok (.sh d) ρ)) = popK i d ρ (slO ρ i) := rfl
@[simp] theorem popK1_ow {ds : List D} {ρ : Rho} (i : Nat) : popK1 i (some (.ok (.ow ds) ρ)) = popK i (.list ds) ρ (slO ρ i) := rfl
@[simp] theorem popK1_if (i : Nat) {c : Prop} [Decidable c] {u v : Option (Oc Sl)} : popK1 i (if c then u else v) = if c then popK1 i u else popK1 i v := by split <;> rfl
@[simp] theorem ap_pop : cPop i fa ρ = mK (popK1 i (fa ρ)) (slO ρ i) := by
  unfold cPop mK
  cases slO ρ i
  · rfl
  · show bdD (fa ρ) _ = popK1 i (fa ρ)
    unfold popK1
    congr 1; funext d ρ1
    unfold popK
    cases slO ρ1 i
    · rfl
    · cases d <;> rfl
@[simp] theorem ap_nil : sNil ρ = some (.nx ρ) := rfl
def seqK (h : EvS) : Option So → Option So
  | some (.nx ρ1) => h ρ1
  | o => o
@[simp] theorem ap_seq : sSeq f h ρ = seqK h (f ρ) := by
  unfold sSeq seqK
  rcases f ρ with _ | o
  · rfl
  cases o <;> rfl
@[simp] theorem seqK_nx : seqK h (some (.nx ρ)) = h ρ := rfl
@[simp] theorem seqK_rt {r : Sl} : seqK h (some (.rt r ρ)) = some (.rt r ρ) := rfl
@[simp] theorem seqK_bk : seqK h (some (.bk ρ)) = some (.bk ρ) := rfl
@[simp] theorem seqK_ct : seqK h (some (.ct ρ)) = some (.ct ρ) := rfl
@[simp] theorem seqK_ex {c : Str} {fs : List (Str × D)} : seqK h (some (.ex c fs ρ)) = some (.ex c fs ρ) := rfl
@[simp] theorem seqK_if {c : Prop} [Decidable c] {u v : Option So} : seqK h (if c then u else v) = if c then seqK h u else seqK h v := by split <;> rfl
def dropK  (x : Option (Oc Sl)) : Option So := bdS x fun a ρ => some (.nx ρ)
@[simp] theorem dropK_ok {a : Sl} {ρ : Rho}  : dropK  (some (.ok a ρ)) = some (.nx ρ) := rfl
@[simp] theorem dropK_if  {c : Prop} [Decidable c] {u v : Option (Oc Sl)} : dropK  (if c then u else v) = if c then dropK  u else dropK  v := by split <;> rfl
@[simp] theorem ap_drop : sDrop fa ρ = dropK (fa ρ) := rfl
def retK  (x : Option (Oc Sl)) : Option So := bdS x fun a ρ => some (.rt a ρ)
@[simp] theorem retK_ok {a : Sl} {ρ : Rho}  : retK  (some (.ok a ρ)) = some (.rt a ρ) := rfl
@[simp] theorem retK_if  {c : Prop} [Decidable c] {u v : Option (Oc Sl)} : retK  (if c then u else v) = if c then retK  u else retK  v := by split <;> rfl
@[simp] theorem ap_ret : sRet fa ρ = retK (fa ρ) := rfl
@[simp] theorem ap_retN : sRetN ρ = some (.rt (.sh .none) ρ) := rfl
@[simp] theorem ap_brk : sBrk ρ = some (.bk ρ) := rfl
@[simp] theorem ap_cnt : sCnt ρ = some (.ct ρ) := rfl
def ifSK (f h : EvS) (x : Option (Oc Bool)) : Option So := bdS x fun a ρ => if a = true then f ρ else h ρ
@[simp] theorem ifSK_ok {a : Bool} {ρ : Rho} (f h : EvS) : ifSK f h (some (.ok a ρ)) = if a = true then f ρ else h ρ := rfl
@[simp] theorem ifSK_if (f h : EvS) {c : Prop} [Decidable c] {u v : Option (Oc Bool)} : ifSK f h (if c then u else v) = if c then ifSK f h u else ifSK f h v := by split <;> rfl
@[simp] theorem ap_ifS {t : EvT} : sIf t f h ρ = ifSK f h (t ρ) := by
  unfold sIf ifSK; congr 1; funext b ρ1; cases b <;> rfl
@[simp] theorem sto_sh : storable (.sh d) = true := rfl
@[simp] theorem sto_ow : storable (.ow ds) = true := rfl
def setK (i : Nat) (x : Option (Oc Sl)) : Option So := bdS x fun a ρ => if storable a && decide (i < ρ.length) then some (.nx (ρ.set i a)) else none
@[simp] theorem setK_ok {a : Sl} {ρ : Rho} (i : Nat) : setK i (some (.ok a ρ)) = if storable a && decide (i < ρ.length) then some (.nx (ρ.set i a)) else none := rfl
@[simp] theorem setK_if (i : Nat) {c : Prop} [Decidable c] {u v : Option (Oc Sl)} : setK i (if c then u else v) = if c then setK i u else setK i v := by split <;> rfl
@[simp] theorem ap_set : sSet i fa ρ = setK i (fa ρ) := rfl
def asgK : Option Rho → Option So
  | some ρ2 => some (.nx ρ2)
  | none => none
@[simp] theorem asgK_some : asgK (some ρ) = some (.nx ρ) := rfl
def asgK1 (g : EvG) (x : Option (Oc Sl)) : Option So := bdP x fun d ρ => asgK (g d ρ)
@[simp] theorem asgK1_sh {d : D} {ρ : Rho} (g : EvG) : asgK1 g (some (.ok (.sh d) ρ)) = asgK (g d ρ) := rfl
@[simp] theorem asgK1_ow {ds : List D} {ρ : Rho} (g : EvG) : asgK1 g (some (.ok (.ow ds) ρ)) = asgK (g (.list ds) ρ) := rfl
@[simp] theorem asgK1_if (g : EvG) {c : Prop} [Decidable c] {u v : Option (Oc Sl)} : asgK1 g (if c then u else v) = if c then asgK1 g u else asgK1 g v := by split <;> rfl
@[simp] theorem ap_asg {g : EvG} : sAsg g fa ρ = asgK1 g (fa ρ) := by
  unfold sAsg asgK1; congr 1
@[simp] theorem ap_gname : gName' i d ρ = if i < ρ.length then some (ρ.set i (.sh d)) else none := rfl
@[simp] theorem ap_gnil : gNil' [] ρ = some ρ := rfl
def gcK (ds : List D) (h : List D → Rho → Option Rho) : Option Rho → Option Rho
  | some ρ1 => h ds ρ1
  | none => none
@[simp] theorem gcK_some {g : List D → Rho → Option Rho} : gcK ds g (some ρ) = g ds ρ := rfl
@[simp] theorem ap_gcons {g : EvG} {k : List D → Rho → Option Rho} : gCons' g k (d :: ds) ρ = gcK ds k (g d ρ) := rfl
@[simp] theorem ap_gtup {k : List D → Rho → Option Rho} : gTup' n k (.tuple ds) ρ = if ds.length = n then k ds ρ else none := rfl
def par2K (i j : Nat) (ρ1 : Rho) : List D → Option So
  | [x, y] => if i < ρ1.length ∧ j < ρ1.length then some (.nx ((ρ1.set i (.sh x)).set j (.sh y))) else none
  | _ => none
@[simp] theorem par2K_two : par2K i j ρ [x, y] = if i < ρ.length ∧ j < ρ.length then some (.nx ((ρ.set i (.sh x)).set j (.sh y))) else none := rfl
def par2K1 (i j : Nat) (x : Option (Oc (List D))) : Option So := bdS x fun a ρ => par2K i j ρ a
@[simp] theorem par2K1_ok {a : (List D)} {ρ : Rho} (i j : Nat) : par2K1 i j (some (.ok a ρ)) = par2K i j ρ a := rfl
@[simp] theorem par2K1_if (i j : Nat) {c : Prop} [Decidable c] {u v : Option (Oc (List D))} : par2K1 i j (if c then u else v) = if c then par2K1 i j u else par2K1 i j v := by split <;> rfl
@[simp] theorem ap_par2 : sPar2 i j fs ρ = par2K1 i j (fs ρ) := by
  unfold sPar2 par2K1; congr 1
def putK2 (i : Nat) (d k : D) (ρ : Rho) : Option (List D) → Option So
  | some ds => (match k with
    | .int n => (match ixN ds.length n with
      | some j => some (.nx (ρ.set i (.ow (ds.set j d))))
      | none => none)
    | _ => none)
  | none => none
def putK0 (i : Nat) (d1 : D) (x : Option (Oc Sl)) : Option So := bdP x fun d ρ => putK2 i d1 d ρ (slO ρ i)
@[simp] theorem putK0_sh {d : D} {ρ : Rho} (i : Nat) (d1 : D) : putK0 i d1 (some (.ok (.sh d) ρ)) = putK2 i d1 d ρ (slO ρ i) := rfl
@[simp] theorem putK0_ow {ds : List D} {ρ : Rho} (i : Nat) (d1 : D) : putK0 i d1 (some (.ok (.ow ds) ρ)) = putK2 i d1 (.list ds) ρ (slO ρ i) := rfl
@[simp] theorem putK0_if (i : Nat) (d1 : D) {c : Prop} [Decidable c] {u v : Option (Oc Sl)} : putK0 i d1 (if c then u else v) = if c then putK0 i d1 u else putK0 i d1 v := by split <;> rfl
def putK (i : Nat) (fi : Ev) (d : D) (ρ : Rho) : Option (List D) → Option So
  | some _ => putK0 i d (fi ρ)
  | none => none
@[simp] theorem putK_some : putK i fa d ρ (some ds) = putK0 i d (fa ρ) := rfl
def pK3 (i : Nat) (d : D) (ds : List D) (ρ : Rho) : Option Nat → Option So
  | some j => some (.nx (ρ.set i (.ow (ds.set j d))))
  | none => none
@[simp] theorem pK3_some : pK3 i d ds ρ (some j) = some (.nx (ρ.set i (.ow (ds.set j d)))) := rfl
@[simp] theorem putK2_some {k : Int} : putK2 i d (.int k) ρ (some ds) = pK3 i d ds ρ (ixN ds.length k) := by
  unfold putK2 pK3; rfl
def putK1 (i : Nat) (fb : Ev) (x : Option (Oc Sl)) : Option So := bdP x fun d ρ => putK i fb d ρ (slO ρ i)
@[simp] theorem putK1_sh {d : D} {ρ : Rho} (i : Nat) (fb : Ev) : putK1 i fb (some (.ok (.sh d) ρ)) = putK i fb d ρ (slO ρ i) := rfl
@[simp] theorem putK1_ow {ds : List D} {ρ : Rho} (i : Nat) (fb : Ev) : putK1 i fb (some (.ok (.ow ds) ρ)) = putK i fb (.list ds) ρ (slO ρ i) := rfl
@[simp] theorem putK1_if (i : Nat) (fb : Ev) {c : Prop} [Decidable c] {u v : Option (Oc Sl)} : putK1 i fb (if c then u else v) = if c then putK1 i fb u else putK1 i fb v := by split <;> rfl
@[simp] theorem ap_put : sPut i fa fb ρ = putK1 i fb (fa ρ) := by
  unfold sPut putK1; congr 1; funext d ρ1
  unfold putK
  cases slO ρ1 i
  · rfl
  · show bdP (fb ρ1) _ = putK0 i d (fb ρ1)
    unfold putK0
    congr 1; funext k ρ2
    unfold putK2
    cases slO ρ2 i
    · rfl
    · cases k <;> rfl
def forK (g : EvG) (f : EvS) (x : Option (Oc (List D))) : Option So := bdS x fun a ρ => sFor a g f ρ
@[simp] theorem forK_ok {a : (List D)} {ρ : Rho} (g : EvG) (f : EvS) : forK g f (some (.ok a ρ)) = sFor a g f ρ := rfl
@[simp] theorem forK_if (g : EvG) (f : EvS) {c : Prop} [Decidable c] {u v : Option (Oc (List D))} : forK g f (if c then u else v) = if c then forK g f u else forK g f v := by split <;> rfl
@[simp] theorem ap_forL {src : EvA} {g : EvG} : sForL src g f ρ = forK g f (src ρ) := rfl
@[simp] theorem endF_nx {as : Rho} : endF as (.nx ρ) = some (.ok (.sh .none) (argBack as ρ)) := rfl
@[simp] theorem endF_rt {as : Rho} {r : Sl} : endF as (.rt r ρ) = some (.ok r (argBack as ρ)) := rfl
@[simp] theorem endF_ex {as : Rho} {c : Str} {fs : List (Str × D)} : endF as (.ex c fs ρ) = some (.ex c fs (argBack as ρ)) := rfl
def endK (as : Rho) : Option So → Option (Oc Sl)
  | some o => endF as o
  | none => none
@[simp] theorem endK_some {as : Rho} {o : So} : endK as (some o) = endF as o := rfl
@[simp] theorem endK_if {as : Rho} {c : Prop} [Decidable c] {u v : Option So} : endK as (if c then u else v) = if c then endK as u else endK as v := by split <;> rfl
@[simp] theorem back_sh {rest : Rho} : argBack (.sh d :: rest) ρ = .sh d :: rest := rfl
@[simp] theorem back_scr {ns : List Int} {rest : Rho} : argBack (.scr ns :: rest) ρ = .scr ns :: rest := rfl
@[simp] theorem back_ow {s : Sl} {rest r2 : Rho} : argBack (.ow ds :: rest) (s :: r2) = s :: rest := rfl
@[simp] theorem ok_sh {rest : Rho} : okArgs own (.sh d :: rest) = noOw rest := rfl
@[simp] theorem ok_scr {ns : List Int} {rest : Rho} : okArgs own (.scr ns :: rest) = noOw rest := rfl
@[simp] theorem ok_ow {rest : Rho} : okArgs own (.ow ds :: rest) = (own && noOw rest) := rfl
@[simp] theorem now_nil : noOw [] = true := rfl
@[simp] theorem now_sh {rest : Rho} : noOw (.sh d :: rest) = noOw rest := rfl
@[simp] theorem ap_def {as : Rho} : defSem own ar n f as = if okArgs own as && decide (as.length = ar) then endK as (f (as ++ List.replicate (n - ar) .un)) else none := rfl
def rgK1 (ρ : Rho) : List D → Option (Oc (List D))
  | [.int j] => if rngOk j then some (.ok (rngD 0 j.toNat) ρ) else none
  | _ => none
@[simp] theorem rgK1_1 {j : Int} : rgK1 ρ [.int j] = if rngOk j then some (.ok (rngD 0 j.toNat) ρ) else none := rfl
def rgK2 (ρ : Rho) : List D → Option (Oc (List D))
  | [.int i, .int j] => if rngOk i && rngOk j then some (.ok (rngD i (j - i).toNat) ρ) else none
  | _ => none
@[simp] theorem rgK2_2 {i j : Int} : rgK2 ρ [.int i, .int j] = if rngOk i && rngOk j then some (.ok (rngD i (j - i).toNat) ρ) else none := rfl
def rngK1  (x : Option (Oc (List D))) : Option (Oc (List D)) := bdO x fun a ρ => rgK1 ρ a
@[simp] theorem rngK1_ok {a : (List D)} {ρ : Rho}  : rngK1  (some (.ok a ρ)) = rgK1 ρ a := rfl
@[simp] theorem rngK1_if  {c : Prop} [Decidable c] {u v : Option (Oc (List D))} : rngK1  (if c then u else v) = if c then rngK1  u else rngK1  v := by split <;> rfl
def rngK2  (x : Option (Oc (List D))) : Option (Oc (List D)) := bdO x fun a ρ => rgK2 ρ a
@[simp] theorem rngK2_ok {a : (List D)} {ρ : Rho}  : rngK2  (some (.ok a ρ)) = rgK2 ρ a := rfl
@[simp] theorem rngK2_if  {c : Prop} [Decidable c] {u v : Option (Oc (List D))} : rngK2  (if c then u else v) = if c then rngK2  u else rngK2  v := by split <;> rfl
@[simp] theorem ap_cRng1 : cRng1 fs ρ = rngK1 (fs ρ) := by
  unfold cRng1 rngK1; congr 1
@[simp] theorem ap_cRng2 : cRng2 fs ρ = rngK2 (fs ρ) := by
  unfold cRng2 rngK2; congr 1
def itK (ρ : Rho) : Option (List D) → Option (Oc (List D))
  | some ds => if ds.length ≤ big then some (.ok ds ρ) else none
  | none => none
@[simp] theorem itK_some : itK ρ (some ds) = if ds.length ≤ big then some (.ok ds ρ) else none := rfl
def itK1  (x : Option (Oc Sl)) : Option (Oc (List D)) := bdD x fun d ρ => itK ρ (itD d)
@[simp] theorem itK1_sh {d : D} {ρ : Rho}  : itK1  (some (.ok (.sh d) ρ)) = itK ρ (itD d) := rfl
@[simp] theorem itK1_ow {ds : List D} {ρ : Rho}  : itK1  (some (.ok (.ow ds) ρ)) = itK ρ (itD (.list ds)) := rfl
@[simp] theorem itK1_if  {c : Prop} [Decidable c] {u v : Option (Oc Sl)} : itK1  (if c then u else v) = if c then itK1  u else itK1  v := by split <;> rfl
@[simp] theorem ap_it : cIt fa ρ = itK1 (fa ρ) := by
  unfold cIt itK1; congr 1
@[simp] theorem it_list : itD (.list ds) = some ds := rfl
@[simp] theorem it_tup : itD (.tuple ds) = some ds := rfl
def lsK2 (ρ : Rho) : Option (List Int) → Option (Oc Sl)
  | some ns => if ns.length ≤ 4000 then some (.ok (.sh (.int ((ddI ns).length : Nat))) ρ) else none
  | none => none
@[simp] theorem lsK2_some {ns : List Int} : lsK2 ρ (some ns) = if ns.length ≤ 4000 then some (.ok (.sh (.int ((ddI ns).length : Nat))) ρ) else none := rfl
def lsK (ρ : Rho) : D → Option (Oc Sl)
  | .tuple ds => lsK2 ρ (intsOf ds)
  | _ => none
@[simp] theorem lsK_tup : lsK ρ (.tuple ds) = lsK2 ρ (intsOf ds) := rfl
def lenSetK  (x : Option (Oc Sl)) : Option (Oc Sl) := bdD x fun d ρ => lsK ρ d
@[simp] theorem lenSetK_sh {d : D} {ρ : Rho}  : lenSetK  (some (.ok (.sh d) ρ)) = lsK ρ d := rfl
@[simp] theorem lenSetK_ow {ds : List D} {ρ : Rho}  : lenSetK  (some (.ok (.ow ds) ρ)) = lsK ρ (.list ds) := rfl
@[simp] theorem lenSetK_if  {c : Prop} [Decidable c] {u v : Option (Oc Sl)} : lenSetK  (if c then u else v) = if c then lenSetK  u else lenSetK  v := by split <;> rfl
@[simp] theorem ap_lenSet : cLenSet fa ρ = lenSetK (fa ρ) := by
  unfold cLenSet lenSetK; congr 1
def lrK (ρ : Rho) : D → Option (Oc Sl)
  | .int j => if rngOk j then some (.ok (.ow (rngD 0 j.toNat)) ρ) else none
  | _ => none
@[simp] theorem lrK_int {j : Int} : lrK ρ (.int j) = if rngOk j then some (.ok (.ow (rngD 0 j.toNat)) ρ) else none := rfl
def lstRgK  (x : Option (Oc Sl)) : Option (Oc Sl) := bdD x fun d ρ => lrK ρ d
@[simp] theorem lstRgK_sh {d : D} {ρ : Rho}  : lstRgK  (some (.ok (.sh d) ρ)) = lrK ρ d := rfl
@[simp] theorem lstRgK_ow {ds : List D} {ρ : Rho}  : lstRgK  (some (.ok (.ow ds) ρ)) = lrK ρ (.list ds) := rfl
@[simp] theorem lstRgK_if  {c : Prop} [Decidable c] {u v : Option (Oc Sl)} : lstRgK  (if c then u else v) = if c then lstRgK  u else lstRgK  v := by split <;> rfl
@[simp] theorem ap_lstRg : cLstRg fa ρ = lstRgK (fa ρ) := by
  unfold cLstRg lstRgK; congr 1
def lcK (ρ1 : Rho) (o : List Nat) : Option (Oc (List D)) → Option (Oc Sl)
  | some (.ok ys ρe) => some (.ok (.ow ys) (backR ρ1 ρe o))
  | _ => none
@[simp] theorem lcK_ok {ys : List D} {o : List Nat} : lcK ρ o (some (.ok ys ρ1)) = some (.ok (.ow ys) (backR ρ ρ1 o)) := rfl
def lcK1 (o : List Nat) (g : EvG) (t : EvT) (fe : Ev) (x : Option (Oc (List D))) : Option (Oc Sl) := bdO x fun a ρ => if calmO ρ o then lcK ρ o (lcGo o g t fe a (wipeR ρ o)) else none
@[simp] theorem lcK1_ok {a : (List D)} {ρ : Rho} (o : List Nat) (g : EvG) (t : EvT) (fe : Ev) : lcK1 o g t fe (some (.ok a ρ)) = if calmO ρ o then lcK ρ o (lcGo o g t fe a (wipeR ρ o)) else none := rfl
@[simp] theorem lcK1_if (o : List Nat) (g : EvG) (t : EvT) (fe : Ev) {c : Prop} [Decidable c] {u v : Option (Oc (List D))} : lcK1 o g t fe (if c then u else v) = if c then lcK1 o g t fe u else lcK1 o g t fe v := by split <;> rfl
@[simp] theorem ap_cLc {o : List Nat} {src : EvA} {g : EvG} {t : EvT} : cLc o src g t fa ρ = lcK1 o g t fa (src ρ) := by
  unfold cLc lcK1; congr 1
@[simp] theorem wipeR_nil : wipeR ρ [] = ρ := rfl
@[simp] theorem wipeR_cons {v : Nat} {vs : List Nat} : wipeR ρ (v :: vs) = (wipeR ρ vs).set v .un := rfl
def bkK (v : Nat) (r : Rho) : Option Sl → Rho
  | some s => r.set v s
  | none => r
@[simp] theorem bkK_some {s : Sl} : bkK i ρ (some s) = ρ.set i s := rfl
@[simp] theorem backR_nil : backR ρ ρ1 [] = ρ1 := rfl
@[simp] theorem backR_cons {v : Nat} {vs : List Nat} : backR ρ ρ1 (v :: vs) = bkK v (backR ρ ρ1 vs) ρ[v]? := by
  show (match ρ[v]? with | some s => (backR ρ ρ1 vs).set v s | none => backR ρ ρ1 vs) = _
  cases ρ[v]? <;> rfl
def cmK : Option Sl → Bool
  | some (.ow _) => false
  | _ => true
@[simp] theorem cmK_un : cmK (some .un) = true := rfl
@[simp] theorem cmK_sh : cmK (some (.sh d)) = true := rfl
@[simp] theorem calmO_nil : calmO ρ [] = true := rfl
@[simp] theorem calmO_cons {v : Nat} {vs : List Nat} : calmO ρ (v :: vs) = (cmK ρ[v]? && calmO ρ vs) := by
  unfold calmO
  rw [List.all_cons]
  unfold cmK
  rcases ρ[v]? with _ | s
  · rfl
  cases s <;> rfl
@[simp] theorem pub_sh : pub (.sh d) = some d := rfl
@[simp] theorem pub_ow : pub (.ow ds) = some (.list ds) := rfl
@[simp] theorem ap_yes : yes ρ = some (.ok true ρ) := rfl
theorem gtr_all {o : List Nat} {g : EvG} {t : EvT} {ρw : Rho} {F : D → Bool} (R : D → Rho) : ∀ ds : List D, (∀ d ∈ ds, g d ρw = some (R d) ∧ t (R d) = some (.ok true (R d)) ∧ fa (R d) = some (.ok (.sh (.bool (F d))) (R d)) ∧ wipeR (R d) o = ρw) →
    ∃ L, gtr o g t fa stopF ds ρw = some (L, if ds.all F then some ρw else none) ∧ L.all (fun p => isB p.1) = true ∧ (ds.all F = false → ∃ y, L.getLast? = some (y, ρw))
  | [], _ => ⟨[], rfl, rfl, fun z => by cases z⟩
  | d :: ds, h => by
    obtain ⟨h1, h2, h3, h4⟩ := h d List.mem_cons_self
    obtain ⟨L, e1, e2, e3⟩ := gtr_all R ds fun d' m => h d' (List.mem_cons_of_mem _ m)
    cases hF : F d with
    | false =>
      refine ⟨[(.bool false, ρw)], ?_, rfl, fun _ => ⟨_, rfl⟩⟩
      rw [hF] at h3
      unfold gtr
      simp only [h1, h2, h3, h4]
      rw [List.all_cons, hF]
      rfl
    | true =>
      refine ⟨(.bool true, ρw) :: L, ?_, ?_, fun z => ?_⟩
      · rw [hF] at h3
        unfold gtr
        simp only [h1, h2, h3, h4]
        rw [List.all_cons, hF, e1]
        rfl
      · rw [List.all_cons, e2]; rfl
      · rw [List.all_cons, hF] at z
        obtain ⟨y, hy⟩ := e3 z
        refine ⟨y, ?_⟩
        cases L with
        | nil => cases hy
        | cons a l => exact hy
theorem gAll {o : List Nat} {src : EvA} {g : EvG} {t : EvT} {F : D → Bool} (R : D → Rho) (hs : src ρ = some (.ok ds ρ)) (hc : calmO ρ o = true) (hb : backR ρ (wipeR ρ o) o = ρ)
    (h : ∀ d ∈ ds, g d (wipeR ρ o) = some (R d) ∧ t (R d) = some (.ok true (R d)) ∧ fa (R d) = some (.ok (.sh (.bool (F d))) (R d)) ∧ wipeR (R d) o = wipeR ρ o) :
    gGo o src g t fa stopF (finAll o) ρ = some (.ok (.sh (.bool (ds.all F))) ρ) := by
  unfold gGo
  rw [hs]
  show (if calmO ρ o = true then _ else _) = _
  rw [if_pos hc]
  obtain ⟨L, e1, e2, e3⟩ := gtr_all R ds h
  rw [e1]
  show finAll o L _ ρ = _
  unfold finAll
  rw [if_pos e2]
  cases q : ds.all F with
  | true => simp only [if_true]; rw [hb]; rfl
  | false =>
    obtain ⟨y, hy⟩ := e3 q
    simp only [Bool.false_eq_true, if_false]
    rw [hy]
    show some (Oc.ok (bl false) (backR ρ (wipeR ρ o) o)) = _
    rw [hb]; rfl
def popK2 (i : Nat) (ds : List D) (ρ : Rho) (j : Nat) : Option D → Option (Oc Sl)
  | some y => some (.ok (.sh y) (ρ.set i (.ow (ds.eraseIdx j))))
  | none => none
@[simp] theorem popK2_some {y : D} : popK2 i ds ρ j (some y) = some (.ok (.sh y) (ρ.set i (.ow (ds.eraseIdx j)))) := rfl
@[simp] theorem popK_nn {k : Int} (h0 : 0 ≤ k) (h1 : k < ds.length) (hz : ds.length ≤ big) : popK i (.int k) ρ (some ds) = popK2 i ds ρ k.toNat ds[k.toNat]? := by
  unfold popK popK2
  simp only [ixN_nn h0 h1, if_pos hz]
theorem eraseIdx_map' {γ δ : Type} (q : γ → δ) : ∀ (l : List γ) (k : Nat), (l.map q).eraseIdx k = (l.eraseIdx k).map q
  | [], _ => rfl
  | _ :: _, 0 => rfl
  | a :: l, k + 1 => congrArg (q a :: ·) (eraseIdx_map' q l k)
theorem six_nn {m e : Nat} {k : Int} (h : 0 ≤ k) : HT.sIx m e (some k) = min k.toNat m := by
  show (if k < 0 then _ else _) = _
  rw [if_neg (by omega)]
@[simp] theorem cut_to {xs : List β} {k : Int} (h : 0 ≤ k) : cutD xs none (some k) = xs.take k.toNat := by
  unfold cutD
  rw [six_nn h]
  show (xs.drop 0).take (min k.toNat xs.length - 0) = _
  rw [List.drop_zero, Nat.sub_zero, ← List.take_eq_take_min]
@[simp] theorem cut_from {xs : List β} {k : Int} (h : 0 ≤ k) : cutD xs (some k) none = xs.drop k.toNat := by
  unfold cutD
  rw [six_nn h]
  show (xs.drop (min k.toNat xs.length)).take (xs.length - min k.toNat xs.length) = _
  by_cases c : k.toNat ≤ xs.length
  · rw [Nat.min_eq_left c, List.take_of_length_le (by rw [List.length_drop]; exact Nat.le_refl _)]
  · rw [Nat.min_eq_right (by omega), List.drop_of_length_le (by omega), List.drop_of_length_le (by omega)]; simp
@[simp] theorem cut_last {xs : List β} : cutD xs none (some (-1)) = xs.dropLast := by
  unfold cutD
  show (xs.drop 0).take (((-1 : Int) + (xs.length : Int)).toNat - 0) = _
  rw [List.drop_zero, Nat.sub_zero, List.dropLast_eq_take]
  congr 1; omega
@[simp] theorem cut_all {xs : List β} : cutD xs none none = xs := by
  unfold cutD
  show (xs.drop 0).take (xs.length - 0) = _
  simp
def nice : Nat → D → Bool
  | _, .none => true
  | _, .bool _ => true
  | _, .int _ => true
  | _, .str s => PyData.canLay0 (.str s)
  | k + 1, .list ds => decide (ds.length ≤ 1000000) && ds.all (nice k)
  | k + 1, .tuple ds => decide (ds.length ≤ 1000000) && ds.all (nice k)
  | _, _ => false
@[simp] theorem nice_none {k : Nat} : nice k .none = true := by cases k <;> rfl
@[simp] theorem nice_bool {k : Nat} {b : Bool} : nice k (.bool b) = true := by cases k <;> rfl
@[simp] theorem nice_int {k : Nat} {z : Int} : nice k (.int z) = true := by cases k <;> rfl
@[simp] theorem nice_str {k : Nat} {s : Str} : nice k (.str s) = PyData.canLay0 (.str s) := by cases k <;> rfl
@[simp] theorem nice_list {k : Nat} : nice (k + 1) (.list ds) = (decide (ds.length ≤ 1000000) && ds.all (nice k)) := rfl
@[simp] theorem nice_tup {k : Nat} : nice (k + 1) (.tuple ds) = (decide (ds.length ≤ 1000000) && ds.all (nice k)) := rfl
@[simp] theorem ltT_pair {a b c d : Int} : sLtT (.tuple [.int a, .int b]) (.tuple [.int c, .int d]) = some (.sh (.bool (if a = c then decide (b < d) else decide (a < c)))) := by
  rw [← ltB_2]
  rfl
def c3b (ρ : Rho) : Option Sl → Option (Oc Bool)
  | some (.sh (.bool b)) => some (.ok b ρ)
  | _ => none
@[simp] theorem c3b_b {b : Bool} : c3b ρ (some (.sh (.bool b))) = some (.ok b ρ) := rfl
def c3K4 (s3 : D → D → Option Sl) (z1 : D) (x : Option (Oc Sl)) : Option (Oc Bool) := bdD x fun d ρ => c3b ρ (s3 z1 d)
@[simp] theorem c3K4_sh {d : D} {ρ : Rho} (s3 : D → D → Option Sl) (z1 : D) : c3K4 s3 z1 (some (.ok (.sh d) ρ)) = c3b ρ (s3 z1 d) := rfl
def c3m (s3 : D → D → Option Sl) (fd : Ev) (z : D) (ρ : Rho) : Option Sl → Option (Oc Bool)
  | some (.sh (.bool b)) => if b = true then c3K4 s3 z (fd ρ) else some (.ok false ρ)
  | _ => none
@[simp] theorem c3m_b {s3 : D → D → Option Sl} {fd : Ev} {z : D} {b : Bool} : c3m s3 fd z ρ (some (.sh (.bool b))) = if b = true then c3K4 s3 z (fd ρ) else some (.ok false ρ) := rfl
def c3K3 (s2 s3 : D → D → Option Sl) (fd : Ev) (y1 : D) (x : Option (Oc Sl)) : Option (Oc Bool) := bdD x fun d ρ => c3m s3 fd d ρ (s2 y1 d)
@[simp] theorem c3K3_sh {d : D} {ρ : Rho} (s2 s3 : D → D → Option Sl) (fd : Ev) (y1 : D) : c3K3 s2 s3 fd y1 (some (.ok (.sh d) ρ)) = c3m s3 fd d ρ (s2 y1 d) := rfl
def c3m2 (s2 s3 : D → D → Option Sl) (fc fd : Ev) (y : D) (ρ : Rho) : Option Sl → Option (Oc Bool)
  | some (.sh (.bool b)) => if b = true then c3K3 s2 s3 fd y (fc ρ) else some (.ok false ρ)
  | _ => none
@[simp] theorem c3m2_b {s2 s3 : D → D → Option Sl} {fd : Ev} {y : D} {b : Bool} : c3m2 s2 s3 fc fd y ρ (some (.sh (.bool b))) = if b = true then c3K3 s2 s3 fd y (fc ρ) else some (.ok false ρ) := rfl
def c3K2 (s1 s2 s3 : D → D → Option Sl) (fc fd : Ev) (x1 : D) (x : Option (Oc Sl)) : Option (Oc Bool) := bdD x fun d ρ => c3m2 s2 s3 fc fd d ρ (s1 x1 d)
@[simp] theorem c3K2_sh {d : D} {ρ : Rho} (s1 s2 s3 : D → D → Option Sl) (fc fd : Ev) (x1 : D) : c3K2 s1 s2 s3 fc fd x1 (some (.ok (.sh d) ρ)) = c3m2 s2 s3 fc fd d ρ (s1 x1 d) := rfl
def c3K1 (s1 s2 s3 : D → D → Option Sl) (fb fc fd : Ev) (x : Option (Oc Sl)) : Option (Oc Bool) := bdD x fun d ρ => c3K2 s1 s2 s3 fc fd d (fb ρ)
@[simp] theorem c3K1_sh {d : D} {ρ : Rho} (s1 s2 s3 : D → D → Option Sl) (fb fc fd : Ev) : c3K1 s1 s2 s3 fb fc fd (some (.ok (.sh d) ρ)) = c3K2 s1 s2 s3 fc fd d (fb ρ) := rfl
@[simp] theorem ap_ch3 {s1 s2 s3 : D → D → Option Sl} {fd : Ev} : cCh3 s1 s2 s3 fa fb fc fd ρ = c3K1 s1 s2 s3 fb fc fd (fa ρ) := by
  unfold cCh3 c3K1; congr 1; funext x ρ1; unfold c3K2; congr 1; funext y ρ2
  rcases s1 x y with _ | r
  · rfl
  cases r <;> try rfl
  rename_i d; cases d <;> try rfl
  rename_i b; cases b
  · rfl
  show (bdD (fc ρ2) _) = c3K3 s2 s3 fd y (fc ρ2)
  unfold c3K3; congr 1; funext z ρ3
  rcases s2 y z with _ | r
  · rfl
  cases r <;> try rfl
  rename_i d; cases d <;> try rfl
  rename_i b; cases b
  · rfl
  show (bdD (fd ρ3) _) = c3K4 s3 z (fd ρ3)
  unfold c3K4; congr 1
def rgVK (ρ : Rho) : List D → Option (Oc Sl)
  | [.int j] => if rngOk j then some (.ok (.rg 0 j) ρ) else none
  | _ => none
@[simp] theorem rgVK_1 {j : Int} : rgVK ρ [.int j] = if rngOk j then some (.ok (.rg 0 j) ρ) else none := rfl
def rgVK1 (x : Option (Oc (List D))) : Option (Oc Sl) := bdO x fun a ρ => rgVK ρ a
@[simp] theorem rgVK1_ok {a : List D} {ρ : Rho} : rgVK1 (some (.ok a ρ)) = rgVK ρ a := rfl
@[simp] theorem ap_rgV : cRgV fs ρ = rgVK1 (fs ρ) := by
  unfold cRgV rgVK1; congr 1
def itNK (fa : Ev) (ρ : Rho) : Option Sl → Option (Oc (List D))
  | some (.rg lo hi) => if rngOk lo && rngOk hi then some (.ok (rngD lo (hi - lo).toNat) ρ) else none
  | _ => cIt fa ρ
@[simp] theorem itNK_rg {lo hi : Int} : itNK fa ρ (some (.rg lo hi)) = if rngOk lo && rngOk hi then some (.ok (rngD lo (hi - lo).toNat) ρ) else none := rfl
@[simp] theorem itNK_sh : itNK fa ρ (some (.sh d)) = cIt fa ρ := rfl
@[simp] theorem itNK_ow : itNK fa ρ (some (.ow ds)) = cIt fa ρ := rfl
@[simp] theorem ap_itN : cItN i fa ρ = itNK fa ρ ρ[i]? := by
  unfold cItN itNK
  rcases ρ[i]? with _ | s
  · rfl
  · cases s <;> rfl
def rg3K (ρ : Rho) : List D → Option (Oc (List D))
  | [.int i, .int j, .int k] => if k = -1 ∧ (rngOk i && rngOk j) = true then some (.ok (rngDn i (i - j).toNat) ρ) else none
  | _ => none
@[simp] theorem rg3K_3 {i j k : Int} : rg3K ρ [.int i, .int j, .int k] = if k = -1 ∧ (rngOk i && rngOk j) = true then some (.ok (rngDn i (i - j).toNat) ρ) else none := rfl
def rg3K1 (x : Option (Oc (List D))) : Option (Oc (List D)) := bdO x fun a ρ => rg3K ρ a
@[simp] theorem rg3K1_ok {a : List D} {ρ : Rho} : rg3K1 (some (.ok a ρ)) = rg3K ρ a := rfl
@[simp] theorem ap_cRng3 : cRng3 fs ρ = rg3K1 (fs ρ) := by
  unfold cRng3 rg3K1; congr 1
def trK (ρ : Rho) : D → Option (Oc Sl)
  | .int j => if rngOk j then some (.ok (.sh (.tuple (rngD 0 j.toNat))) ρ) else none
  | _ => none
@[simp] theorem trK_int {j : Int} : trK ρ (.int j) = if rngOk j then some (.ok (.sh (.tuple (rngD 0 j.toNat))) ρ) else none := rfl
def tupRgK (x : Option (Oc Sl)) : Option (Oc Sl) := bdD x fun d ρ => trK ρ d
@[simp] theorem tupRgK_sh : tupRgK (some (.ok (.sh d) ρ)) = trK ρ d := rfl
@[simp] theorem ap_tupRg : cTupRg fa ρ = tupRgK (fa ρ) := by
  unfold cTupRg tupRgK; congr 1
def cntK2 (ns : List Int) (ρ : Rho) : D → Option (Oc Sl)
  | .int k => some (.ok (.sh (.int (ns.count k : Nat))) ρ)
  | _ => none
@[simp] theorem cntK2_int {ns : List Int} {k : Int} : cntK2 ns ρ (.int k) = some (.ok (.sh (.int (ns.count k : Nat))) ρ) := rfl
def cntK3 (ns : List Int) (x : Option (Oc Sl)) : Option (Oc Sl) := bdD x fun d ρ => cntK2 ns ρ d
@[simp] theorem cntK3_sh {ns : List Int} : cntK3 ns (some (.ok (.sh d) ρ)) = cntK2 ns ρ d := rfl
def cntK (fe : Ev) (ρ : Rho) : Option (List Int) → Option (Oc Sl)
  | some ns => cntK3 ns (fe ρ)
  | none => none
@[simp] theorem cntK_some {fe : Ev} {ns : List Int} : cntK fe ρ (some ns) = cntK3 ns (fe ρ) := rfl
def cntL (fe : Ev) (ρ : Rho) : D → Option (Oc Sl)
  | .list ds => cntK fe ρ (intsOf ds)
  | _ => none
@[simp] theorem cntL_list {fe : Ev} : cntL fe ρ (.list ds) = cntK fe ρ (intsOf ds) := rfl
def countK (fe : Ev) (x : Option (Oc Sl)) : Option (Oc Sl) := bdD x fun d ρ => cntL fe ρ d
@[simp] theorem countK_sh {fe : Ev} : countK fe (some (.ok (.sh d) ρ)) = cntL fe ρ d := rfl
@[simp] theorem countK_ow {fe : Ev} : countK fe (some (.ok (.ow ds) ρ)) = cntL fe ρ (.list ds) := rfl
@[simp] theorem ap_count {fe : Ev} : cCount fa fe ρ = countK fe (fa ρ) := by
  unfold cCount countK; congr 1
def srtK (x : Option (Oc Sl)) : Option (Oc Sl) := bdD x fun d ρ => srtD ρ d
@[simp] theorem srtK_sh : srtK (some (.ok (.sh d) ρ)) = srtD ρ d := rfl
@[simp] theorem srtK_ow : srtK (some (.ok (.ow ds) ρ)) = srtD ρ (.list ds) := rfl
end
end Rk
set_option Elab.async false
set_option linter.all false
set_option maxRecDepth 100000
set_option maxHeartbeats 4000000
namespace Rk
open PySem PySem.Spec PyProof.Rows L2
def nextB : Ev := defSem true 2 5 (sSeq (sIf (cT (cBin sEq (cIxN 0 (cK (.int 1))) (cK (.int 0)))) (sSeq (sSet 3 (cIxN 0 (cK (.int 2)))) (sSeq (sSet 4 (cBin sAdd (cK (.int 7)) (cName 3))) (sSeq (sIf (cT (cBin (sCmp fun i j => decide (i < j)) (cName 3) (cCall sLen (cA1 (cIxN 0 (cK (.int 0))) cA0)))) (sSeq (sSet 4 (cCall sAbs (cA1 (cBin sIx (cIxN 0 (cK (.int 0))) (cName 3)) cA0))) sNil) sNil) (sSeq (sIf (cT (cBin (sCmp fun i j => decide (i < j)) (cName 4) (cBin sPow (cK (.int 10)) (cK (.int 18))))) (sSeq (sSet 4 (cBin sMod (cCall sInt (cA1 (cBin sAdd (cBin sAdd (cBin sMul (cName 4) (cK (.int 48271))) (cBin sMul (cName 3) (cK (.int 69621)))) (cK (.int 11))) cA0)) (cK (.int 2147483647)))) (sSeq (sSet 4 (cBin sAdd (cBin sMul (cBin sMod (cCall sInt (cA1 (cBin sAdd (cBin sMul (cName 4) (cK (.int 16807))) (cK (.int 13))) cA0)) (cK (.int 2147483647))) (cK (.int 65537))) (cName 4))) sNil)) sNil) (sSeq (sPut 0 (cName 4) (cK (.int 1))) (sSeq (sPut 0 (cBin sAdd (cName 3) (cK (.int 1))) (cK (.int 2))) sNil)))))) sNil) (sSeq (sSet 2 (cBin sMod (cCall sInt (cA1 (cIxN 0 (cK (.int 1))) cA0)) (cName 1))) (sSeq (sPut 0 (cBin sDiv (cIxN 0 (cK (.int 1))) (cName 1)) (cK (.int 1))) (sSeq (sRet (cName 2)) sNil))))
/-- a stream -/
def Strm (w : List D) : Prop := ∃ (ns : List Int) (c k : Int), 0 ≤ k ∧ w = [.list (ns.map .int), .int c, .int k]
theorem strm_new (ns : List Int) : Strm [.list (ns.map .int), .int 0, .int 0] := ⟨ns, 0, 0, by omega, rfl⟩
theorem nxt_c {ns : List Int} {c k m : Int} (hk : 0 ≤ k) (hm : 0 < m) (hm2 : m < 1073741824) (hc : c ≠ 0) :
    nextB [.ow [.list (ns.map .int), .int c, .int k], .sh (.int m)] = some (.ok (.sh (.int (c % m))) [.ow [.list (ns.map .int), .int (c / m), .int k], .sh (.int m)]) := by
  unfold nextB
  have e : (c == 0) = false := by simp [hc]
  simp [e, hm, hm2, ixN_nn]
  done
theorem nxt_0 {ns : List Int} {k m : Int} (hk : 0 ≤ k) (hm : 0 < m) (hm2 : m < 1073741824) :
    ∃ c : Int, nextB [.ow [.list (ns.map .int), .int 0, .int k], .sh (.int m)] = some (.ok (.sh (.int (c % m))) [.ow [.list (ns.map .int), .int (c / m), .int (k + 1)], .sh (.int m)]) := by
  unfold nextB
  by_cases h : k < ns.length
  · have hl : k.toNat < ns.length := by omega
    obtain ⟨v, hv⟩ : ∃ v, ns[k.toNat]'hl = v := ⟨_, rfl⟩
    by_cases h2 : (if v < 0 then -v else v) < 1000000000000000000
    · refine ⟨(((if v < 0 then -v else v) * 48271 + k * 69621 + 11) % 2147483647 * 16807 + 13) % 2147483647 * 65537 + ((if v < 0 then -v else v) * 48271 + k * 69621 + 11) % 2147483647, ?_⟩
      simp [hm, hm2, ixN_nn, h, hk, hv, h2]
    · refine ⟨if v < 0 then -v else v, ?_⟩
      simp [hm, hm2, ixN_nn, h, hk, hv, h2]
  · by_cases h2 : 7 + k < 1000000000000000000
    · refine ⟨(((7 + k) * 48271 + k * 69621 + 11) % 2147483647 * 16807 + 13) % 2147483647 * 65537 + ((7 + k) * 48271 + k * 69621 + 11) % 2147483647, ?_⟩
      simp [hm, hm2, ixN_nn, h, hk, h2]
    · refine ⟨7 + k, ?_⟩
      simp [hm, hm2, ixN_nn, h, hk, h2]
/-- a digit below m -/
theorem nxt {w : List D} (hw : Strm w) (m : Int) (hm : 0 < m) (hm2 : m < 1073741824) : ∃ (d : Int) (w' : List D), nextB [.ow w, .sh (.int m)] = some (.ok (.sh (.int d)) [.ow w', .sh (.int m)]) ∧ Strm w' ∧ 0 ≤ d ∧ d < m := by
  obtain ⟨ns, c, k, hk, rfl⟩ := hw
  by_cases hc : c = 0
  · subst hc
    obtain ⟨c, e⟩ := nxt_0 (ns := ns) hk hm hm2
    exact ⟨_, _, e, ⟨ns, _, _, by omega, rfl⟩, Int.emod_nonneg _ (by omega), Int.emod_lt_of_pos _ hm⟩
  · exact ⟨_, _, nxt_c hk hm hm2 hc, ⟨ns, _, _, hk, rfl⟩, Int.emod_nonneg _ (by omega), Int.emod_lt_of_pos _ hm⟩
end Rk
set_option linter.all false
namespace Sc
inductive Con where
  | wi (i : Nat) (l h : Int)
  | ah (a b : Nat)
deriving DecidableEq
def Con.ok (n : Nat) : Con → Prop
  | .wi i l h => i < n ∧ 1 ≤ l ∧ l ≤ h ∧ h ≤ n
  | .ah a b => a < n ∧ b < n ∧ a ≠ b
def pos (r : List Nat) (x : Nat) : Int := (r.idxOf x : Nat)
def hold (r : List Nat) : Con → Bool
  | .wi i l h => decide (l ≤ pos r i + 1) && decide (pos r i + 1 ≤ h)
  | .ah a b => decide (pos r a < pos r b)
def good (cs : List Con) (r : List Nat) : Bool := cs.all (hold r)
def IsR (n : Nat) (r : List Nat) : Prop := r.Perm (List.range n)
theorem IsR.nodup {n : Nat} {r : List Nat} (h : IsR n r) : r.Nodup := h.nodup_iff.mpr List.nodup_range
theorem IsR.mem {n : Nat} {r : List Nat} (h : IsR n r) {x : Nat} : x ∈ r ↔ x < n := (h.mem_iff).trans List.mem_range
theorem IsR.len {n : Nat} {r : List Nat} (h : IsR n r) : r.length = n := by rw [h.length_eq, List.length_range]
theorem isR_of {n : Nat} {r : List Nat} (hn : r.Nodup) (hm : ∀ x, x ∈ r ↔ x < n) : IsR n r :=
  (List.perm_ext_iff_of_nodup hn List.nodup_range).mpr fun x => (hm x).trans List.mem_range.symm
theorem isR_of_len {n : Nat} {r : List Nat} (hn : r.Nodup) (hm : ∀ x ∈ r, x < n) (hl : n ≤ r.length) : IsR n r := by
  refine isR_of hn fun x => ⟨hm x, fun hx => ?_⟩
  apply Classical.byContradiction
  intro hc
  have h1 : (x :: r).Nodup := List.nodup_cons.mpr ⟨hc, hn⟩
  have h2 : (x :: r) ⊆ List.range n := by
    intro y hy
    rcases List.mem_cons.mp hy with rfl | hy
    · exact List.mem_range.mpr hx
    · exact List.mem_range.mpr (hm y hy)
  have := h1.length_le_of_subset h2
  rw [List.length_cons, List.length_range] at this
  omega
/-- the first one with the least key -/
def best (l : Nat → Int) : List Nat → Option Nat
  | [] => none
  | x :: xs => some (xs.foldl (fun b y => if l y < l b then y else b) x)
theorem fold_best (l : Nat → Int) : ∀ (xs : List Nat) (b : Nat), (xs.foldl (fun b y => if l y < l b then y else b) b = b ∨ xs.foldl (fun b y => if l y < l b then y else b) b ∈ xs) ∧
    l (xs.foldl (fun b y => if l y < l b then y else b) b) ≤ l b ∧ (∀ y ∈ xs, l (xs.foldl (fun b y => if l y < l b then y else b) b) ≤ l y) ∧
    ((∀ y ∈ xs, b < y) → xs.Pairwise (· < ·) → (l (xs.foldl (fun b y => if l y < l b then y else b) b) < l b ∨ xs.foldl (fun b y => if l y < l b then y else b) b = b) ∧ ∀ y ∈ xs, l (xs.foldl (fun b y => if l y < l b then y else b) b) < l y ∨ xs.foldl (fun b y => if l y < l b then y else b) b ≤ y)
  | [], b => ⟨.inl rfl, Int.le_refl _, fun y h => absurd h (by simp), fun _ _ => ⟨.inr rfl, fun y h => absurd h (by simp)⟩⟩
  | x :: xs, b => by
    simp only [List.foldl_cons]
    by_cases c : l x < l b
    · rw [if_pos c]
      obtain ⟨h1, h2, h3, h4⟩ := fold_best l xs x
      refine ⟨.inr ?_, by omega, fun y hy => ?_, fun hb hp => ?_⟩
      · rcases h1 with h1 | h1
        · rw [h1]; exact List.mem_cons_self
        · exact List.mem_cons_of_mem _ h1
      · rcases List.mem_cons.mp hy with rfl | hy
        · exact h2
        · exact h3 y hy
      · obtain ⟨p1, p2⟩ := List.pairwise_cons.mp hp
        obtain ⟨q1, q2⟩ := h4 (fun y hy => p1 y hy) p2
        refine ⟨.inl (by omega), fun y hy => ?_⟩
        rcases List.mem_cons.mp hy with rfl | hy
        · rcases q1 with q1 | q1
          · exact .inl q1
          · exact .inr (by rw [q1]; exact Nat.le_refl _)
        · exact q2 y hy
    · rw [if_neg c]
      obtain ⟨h1, h2, h3, h4⟩ := fold_best l xs b
      refine ⟨?_, h2, fun y hy => ?_, fun hb hp => ?_⟩
      · rcases h1 with h1 | h1
        · exact .inl h1
        · exact .inr (List.mem_cons_of_mem _ h1)
      · rcases List.mem_cons.mp hy with rfl | hy
        · omega
        · exact h3 y hy
      · obtain ⟨p1, p2⟩ := List.pairwise_cons.mp hp
        obtain ⟨q1, q2⟩ := h4 (fun y hy => hb y (List.mem_cons_of_mem _ hy)) p2
        refine ⟨q1, fun y hy => ?_⟩
        rcases List.mem_cons.mp hy with rfl | hy
        · have := hb _ List.mem_cons_self
          rcases q1 with q1 | q1
          · exact .inl (by omega)
          · exact .inr (by rw [q1]; omega)
        · exact q2 y hy
theorem best_some {l : Nat → Int} {xs : List Nat} {x : Nat} (h : best l xs = some x) : x ∈ xs ∧ (∀ y ∈ xs, l x ≤ l y) ∧ (xs.Pairwise (· < ·) → ∀ y ∈ xs, l x < l y ∨ x ≤ y) := by
  cases xs with
  | nil => cases h
  | cons b xs =>
    cases h
    obtain ⟨h1, h2, h3, h4⟩ := fold_best l xs b
    refine ⟨?_, fun y hy => ?_, fun hp y hy => ?_⟩
    · rcases h1 with h1 | h1
      · rw [h1]; exact List.mem_cons_self
      · exact List.mem_cons_of_mem _ h1
    · rcases List.mem_cons.mp hy with rfl | hy
      · exact h2
      · exact h3 y hy
    · obtain ⟨p1, p2⟩ := List.pairwise_cons.mp hp
      obtain ⟨q1, q2⟩ := h4 p1 p2
      rcases List.mem_cons.mp hy with rfl | hy
      · rcases q1 with q1 | q1
        · exact .inl q1
        · exact .inr (by rw [q1]; exact Nat.le_refl _)
      · exact q2 y hy
theorem best_none {l : Nat → Int} {xs : List Nat} (h : best l xs = none) : xs = [] := by
  cases xs with
  | nil => rfl
  | cons _ _ => cases h
def left (n : Nat) (r : List Nat) : List Nat := (List.range n).filter fun x => !r.contains x
theorem mem_left {n : Nat} {r : List Nat} {x : Nat} : x ∈ left n r ↔ x < n ∧ x ∉ r := by simp [left]
def rdy (n : Nat) (e : Nat → Int) (r : List Nat) : List Nat := (left n r).filter fun x => decide (e x ≤ (r.length : Int) + 1)
theorem mem_rdy {n : Nat} {e : Nat → Int} {r : List Nat} {x : Nat} : x ∈ rdy n e r ↔ x < n ∧ x ∉ r ∧ e x ≤ (r.length : Int) + 1 := by simp [rdy, mem_left, and_assoc]
theorem rdy_sorted {n : Nat} {e : Nat → Int} {r : List Nat} : (rdy n e r).Pairwise (· < ·) := (List.pairwise_lt_range.filter _).filter _
/-- place by place -/
def edf (n : Nat) (e l : Nat → Int) : Nat → List Nat → Option (List Nat)
  | 0, r => some r
  | k + 1, r => match best l (rdy n e r) with
    | none => none
    | some x => edf n e l k (r ++ [x])
/-- each item within its window, the first one of the list at the place k + 1 -/
def Fe (e l : Nat → Int) : Nat → List Nat → Prop
  | _, [] => True
  | k, x :: xs => e x ≤ (k : Int) + 1 ∧ (k : Int) + 1 ≤ l x ∧ Fe e l (k + 1) xs
theorem fe_app {e l : Nat → Int} : ∀ {k : Nat} {a b : List Nat}, Fe e l k (a ++ b) ↔ Fe e l k a ∧ Fe e l (k + a.length) b
  | k, [], b => by simp [Fe]
  | k, x :: a, b => by
    have := fe_app (e := e) (l := l) (k := k + 1) (a := a) (b := b)
    simp only [List.cons_append, Fe, List.length_cons]
    rw [this, show k + 1 + a.length = k + (a.length + 1) by omega]
    constructor
    · rintro ⟨h1, h2, h3, h4⟩; exact ⟨⟨h1, h2, h3⟩, h4⟩
    · rintro ⟨⟨h1, h2, h3⟩, h4⟩; exact ⟨h1, h2, h3, h4⟩
theorem fe_at {e l : Nat → Int} : ∀ {k : Nat} {r : List Nat} {x : Nat}, Fe e l k r → x ∈ r → e x ≤ (k : Int) + pos r x + 1 ∧ (k : Int) + pos r x + 1 ≤ l x
  | k, y :: r, x, h, hx => by
    obtain ⟨h1, h2, h3⟩ := h
    by_cases c : y = x
    · subst c; simp [pos]; exact ⟨h1, h2⟩
    · have hx' : x ∈ r := (List.mem_cons.mp hx).resolve_left fun z => c z.symm
      have := fe_at h3 hx'
      have e1 : pos (y :: r) x = pos r x + 1 := by simp [pos, List.idxOf_cons, (beq_eq_false_iff_ne.mpr c : (y == x) = false)]
      rw [e1]
      push_cast at this
      omega
theorem fe_of {e l : Nat → Int} : ∀ {k : Nat} {r : List Nat}, r.Nodup → (∀ x ∈ r, e x ≤ (k : Int) + pos r x + 1 ∧ (k : Int) + pos r x + 1 ≤ l x) → Fe e l k r
  | _, [], _, _ => trivial
  | k, y :: r, hn, h => by
    obtain ⟨n1, n2⟩ := List.nodup_cons.mp hn
    have h0 := h y List.mem_cons_self
    simp [pos] at h0
    refine ⟨by omega, by omega, fe_of n2 fun x hx => ?_⟩
    have c : ¬ y = x := fun z => n1 (z ▸ hx)
    have := h x (List.mem_cons_of_mem _ hx)
    have e1 : pos (y :: r) x = pos r x + 1 := by simp [pos, List.idxOf_cons, (beq_eq_false_iff_ne.mpr c : (y == x) = false)]
    rw [e1] at this
    push_cast
    omega
theorem fe_swap {e l : Nat → Int} {k : Nat} {x y : Nat} {u v : List Nat} (h : Fe e l k (y :: (u ++ x :: v))) (hr : e x ≤ (k : Int) + 1) (hl : l x ≤ l y) : Fe e l k (x :: (u ++ y :: v)) := by
  simp only [Fe, fe_app] at h ⊢
  obtain ⟨h1, h2, h3, h4, h5, h6⟩ := h
  push_cast at h4 h5 ⊢
  exact ⟨hr, by omega, h3, by omega, by omega, h6⟩
/-- at each place stands the best one of those that can stand there -/
def Ed (n : Nat) (e l : Nat → Int) (r : List Nat) : Prop := ∀ (a b : List Nat) (y : Nat), r = a ++ y :: b → ∀ x, x < n → x ∉ a → e x ≤ (a.length : Int) + 1 → l y < l x ∨ (l y ≤ l x ∧ y ≤ x)
theorem ed_nil {n : Nat} {e l : Nat → Int} : Ed n e l [] := fun a b y h => by cases a <;> cases h
theorem ed_snoc {n : Nat} {e l : Nat → Int} {r : List Nat} {x : Nat} (h : Ed n e l r) (hb : best l (rdy n e r) = some x) : Ed n e l (r ++ [x]) := by
  intro a b y hy z hz hza hze
  rcases List.eq_nil_or_concat b with rfl | ⟨b', w, rfl⟩
  · have := List.append_inj' hy rfl
    obtain ⟨rfl, h2⟩ := this
    cases h2
    obtain ⟨_, h3, h4⟩ := best_some hb
    have hm : z ∈ rdy n e r := mem_rdy.mpr ⟨hz, hza, hze⟩
    rcases h4 rdy_sorted z hm with q | q
    · exact .inl q
    · exact .inr ⟨h3 z hm, q⟩
  · have hy' : r ++ [x] = (a ++ y :: b') ++ [w] := by rw [hy]; simp
    have := List.append_inj' hy' rfl
    exact h a b' y this.1 z hz hza hze
theorem edf_ed {n : Nat} {e l : Nat → Int} : ∀ {k : Nat} {r r' : List Nat}, edf n e l k r = some r' → Ed n e l r → Ed n e l r' ∧ r'.length = r.length + k ∧ (r.Nodup → r'.Nodup) ∧ ((∀ x ∈ r, x < n) → ∀ x ∈ r', x < n)
  | 0, r, r', h, hr => by cases h; exact ⟨hr, rfl, id, id⟩
  | k + 1, r, r', h, hr => by
    unfold edf at h
    split at h
    · cases h
    · rename_i x hb
      obtain ⟨h1, h2, h3, h4⟩ := edf_ed h (ed_snoc hr hb)
      have hm := mem_rdy.mp (best_some hb).1
      refine ⟨h1, by rw [h2, List.length_append, List.length_singleton]; omega, fun hn => h3 ?_, fun hx => h4 ?_⟩
      · rw [List.nodup_append]
        exact ⟨hn, by simp, fun a ha b hb' => by rw [List.mem_singleton.mp hb']; exact fun z => hm.2.1 (z ▸ ha)⟩
      · intro y hy
        rcases List.mem_append.mp hy with hy | hy
        · exact hx y hy
        · rw [List.mem_singleton.mp hy]; exact hm.1
theorem edf_isR {n : Nat} {e l : Nat → Int} {r : List Nat} (h : edf n e l n [] = some r) : IsR n r ∧ Ed n e l r := by
  obtain ⟨h1, h2, h3, h4⟩ := edf_ed h ed_nil
  refine ⟨isR_of_len (h3 List.nodup_nil) (h4 fun x hx => by cases hx) ?_, h1⟩
  rw [h2]; simp
/-- if any way is within the windows, this one is -/
theorem edf_goes {n : Nat} {e l : Nat → Int} : ∀ {k : Nat} {r t : List Nat}, k = t.length → IsR n (r ++ t) → Fe e l 0 (r ++ t) → ∃ r', edf n e l k r = some r' ∧ Fe e l 0 r'
  | 0, r, t, hk, _, hf => by
    have : t = [] := List.eq_nil_of_length_eq_zero hk.symm
    subst this
    rw [List.append_nil] at hf
    exact ⟨r, rfl, hf⟩
  | k + 1, r, t, hk, hp, hf => by
    cases t with
    | nil => cases hk
    | cons y t =>
    rw [List.length_cons] at hk
    obtain ⟨f1, f2⟩ := fe_app.mp hf
    have hnd := hp.nodup
    have hyr : y ∉ r := fun z => by
      rw [List.nodup_append] at hnd
      exact hnd.2.2 y z y List.mem_cons_self rfl
    have hy : y ∈ rdy n e r := by
      refine mem_rdy.mpr ⟨hp.mem.mp (by simp), hyr, ?_⟩
      have := f2.1
      rw [Nat.zero_add] at this
      exact this
    unfold edf
    cases hb : best l (rdy n e r) with
    | none => rw [best_none hb] at hy; cases hy
    | some x =>
      obtain ⟨b1, b2, _⟩ := best_some hb
      obtain ⟨x1, x2, x3⟩ := mem_rdy.mp b1
      dsimp only
      by_cases c : x = y
      · subst c
        refine edf_goes (t := t) (by omega) ?_ ?_
        · rw [List.append_assoc]; exact hp
        · rw [List.append_assoc]; exact hf
      · have hx : x ∈ r ++ y :: t := hp.mem.mpr x1
        have hxt : x ∈ t := by
          rcases List.mem_append.mp hx with q | q
          · exact absurd q x2
          · exact (List.mem_cons.mp q).resolve_left c
        obtain ⟨u, v, rfl⟩ := List.append_of_mem hxt
        refine edf_goes (t := u ++ y :: v) (by simp at hk ⊢; omega) ?_ ?_
        · refine List.Perm.trans ?_ hp
          rw [List.append_assoc]
          refine List.Perm.append_left r ?_
          show (x :: (u ++ y :: v)).Perm (y :: (u ++ x :: v))
          have p1 : (u ++ y :: v).Perm (y :: (u ++ v)) := List.perm_middle
          have p2 : (u ++ x :: v).Perm (x :: (u ++ v)) := List.perm_middle
          exact (p1.cons x).trans ((List.Perm.swap y x _).trans (p2.symm.cons y))
        · rw [List.append_assoc]
          exact fe_app.mpr ⟨f1, fe_swap f2 (by rw [Nat.zero_add]; exact x3) (b2 y hy)⟩
structure Win (n : Nat) (cs : List Con) (e l : Nat → Int) : Prop where
  stepE : ∀ a b, Con.ah a b ∈ cs → e a + 1 ≤ e b
  stepL : ∀ a b, Con.ah a b ∈ cs → l a + 1 ≤ l b
  low : ∀ i lo hi, Con.wi i lo hi ∈ cs → lo ≤ e i
  high : ∀ i lo hi, Con.wi i lo hi ∈ cs → l i ≤ hi
  fits : ∀ r, IsR n r → good cs r = true → ∀ x, x < n → e x ≤ pos r x + 1 ∧ pos r x + 1 ≤ l x
theorem good_iff {cs : List Con} {r : List Nat} : good cs r = true ↔ ∀ c ∈ cs, hold r c = true := by simp [good]
theorem idx_split {r : List Nat} {x : Nat} (h : x ∈ r) : ∃ a b, r = a ++ x :: b ∧ a.length = r.idxOf x ∧ x ∉ a := by
  induction r with
  | nil => cases h
  | cons y r ih =>
    by_cases c : y = x
    · subst c; exact ⟨[], r, rfl, by simp, by simp⟩
    · obtain ⟨a, b, h1, h2, h3⟩ := ih ((List.mem_cons.mp h).resolve_left fun z => c z.symm)
      refine ⟨y :: a, b, by rw [h1]; rfl, by simp [List.idxOf_cons, (beq_eq_false_iff_ne.mpr c : (y == x) = false), h2], ?_⟩
      intro z
      rcases List.mem_cons.mp z with z | z
      · exact c z.symm
      · exact h3 z
theorem idx_lt_of {a b : List Nat} {x y : Nat} (h : x ∈ a) : (a ++ b).idxOf x < a.length := by
  rw [List.idxOf_append, if_pos h]
  exact List.idxOf_lt_length_iff.mpr h
section
variable {n : Nat} {cs : List Con} {e l : Nat → Int}
/-- a ranking by deadlines that is within the windows is good -/
theorem edf_good (W : Win n cs e l) (hok : ∀ c ∈ cs, c.ok n) {r : List Nat} (hr : IsR n r) (hd : Ed n e l r) (hf : Fe e l 0 r) : good cs r = true := by
  refine good_iff.mpr fun c hc => ?_
  cases c with
  | wi i lo hi =>
    have hi' := (hok _ hc).1
    have := fe_at hf (hr.mem.mpr hi')
    have h1 := W.low _ _ _ hc
    have h2 := W.high _ _ _ hc
    simp only [hold, Bool.and_eq_true, decide_eq_true_eq]
    simp at this
    omega
  | ah a b =>
    obtain ⟨ha, hb, hab⟩ := hok _ hc
    simp only [hold, decide_eq_true_eq]
    obtain ⟨u, v, e1, e2, e3⟩ := idx_split (hr.mem.mpr hb)
    by_cases q : a ∈ u
    · have h1 : r.idxOf a < u.length := by rw [e1]; exact idx_lt_of (y := b) q
      show ((r.idxOf a : Nat) : Int) < (r.idxOf b : Nat)
      omega
    · exfalso
      have f := fe_at hf (hr.mem.mpr hb)
      have s1 := W.stepE _ _ hc
      have s2 := W.stepL _ _ hc
      have : pos r b = (u.length : Nat) := by show ((r.idxOf b : Nat) : Int) = _; rw [e2]
      rw [this] at f
      simp at f
      have := hd u v b e1 a ha q (by omega)
      omega
/-- the ranking by deadlines is good if any is -/
theorem edf_complete (W : Win n cs e l) (hok : ∀ c ∈ cs, c.ok n) {r : List Nat} (hr : IsR n r) (hg : good cs r = true) : ∃ r', edf n e l n [] = some r' ∧ IsR n r' ∧ good cs r' = true := by
  have hf : Fe e l 0 r := fe_of hr.nodup fun x hx => by
    have := W.fits r hr hg x (hr.mem.mp hx)
    simp
    omega
  obtain ⟨r', h1, h2⟩ := edf_goes (n := n) (e := e) (l := l) (k := n) (r := []) (t := r) hr.len.symm hr hf
  obtain ⟨h3, h4⟩ := edf_isR h1
  exact ⟨r', h1, h3, edf_good W hok h3 h4 h2⟩
end
end Sc
set_option linter.all false
namespace Sc
/-- consecutive items make steps -/
def Chn (S : List (Nat × Nat)) : List Nat → Prop
  | [] => True
  | [_] => True
  | a :: b :: r => (a, b) ∈ S ∧ Chn S (b :: r)
theorem chn_snoc {S : List (Nat × Nat)} : ∀ {c : List Nat} {a b : Nat}, Chn S (c ++ [a]) → (a, b) ∈ S → Chn S (c ++ [a, b])
  | [], a, b, _, h => ⟨h, trivial⟩
  | [x], a, b, h, h2 => ⟨h.1, h2, trivial⟩
  | x :: y :: r, a, b, h, h2 => ⟨h.1, chn_snoc (c := y :: r) h.2 h2⟩
theorem chn_of_snoc {S : List (Nat × Nat)} : ∀ {c : List Nat} {a b : Nat}, Chn S (c ++ [a, b]) → Chn S (c ++ [a]) ∧ (a, b) ∈ S
  | [], a, b, h => ⟨trivial, h.1⟩
  | [x], a, b, h => ⟨⟨h.1, trivial⟩, h.2.1⟩
  | x :: y :: r, a, b, h => by
    obtain ⟨h1, h2⟩ := chn_of_snoc (c := y :: r) h.2
    exact ⟨⟨h.1, h1⟩, h2⟩
theorem chn_app {S : List (Nat × Nat)} : ∀ {u v : List Nat}, Chn S (u ++ v) → Chn S u ∧ Chn S v
  | [], v, h => ⟨trivial, h⟩
  | [x], [], h => ⟨trivial, trivial⟩
  | [x], y :: v, h => ⟨trivial, h.2⟩
  | x :: y :: u, v, h => by
    obtain ⟨h1, h2⟩ := chn_app (u := y :: u) (v := v) h.2
    exact ⟨⟨h.1, h1⟩, h2⟩
/-- no chain comes back -/
def Acy (S : List (Nat × Nat)) : Prop := ∀ (x : Nat) (c : List Nat), ¬ Chn S (x :: (c ++ [x]))
theorem acy_nodup {S : List (Nat × Nat)} (h : Acy S) : ∀ {c : List Nat}, Chn S c → c.Nodup
  | [], _ => List.nodup_nil
  | x :: r, hc => by
    refine List.nodup_cons.mpr ⟨fun hx => ?_, acy_nodup h (chn_app (u := [x]) hc).2⟩
    obtain ⟨u, v, rfl⟩ := List.append_of_mem hx
    have : Chn S ((x :: (u ++ [x])) ++ v) := by simpa using hc
    exact h x u (chn_app this).1
def StepsIn (n : Nat) (S : List (Nat × Nat)) : Prop := ∀ p ∈ S, p.1 < n ∧ p.2 < n
theorem chn_lt {S : List (Nat × Nat)} {n : Nat} (hS : StepsIn n S) : ∀ {c : List Nat} {a : Nat}, Chn S c → 2 ≤ c.length → a ∈ c → a < n
  | [], _, _, h, _ => by simp at h
  | [x], _, _, h, _ => by simp at h
  | [x, y], a, hc, _, hm => by
    have := hS _ hc.1
    simp at hm
    rcases hm with rfl | rfl
    · exact this.1
    · exact this.2
  | x :: y :: z :: r, a, hc, _, hm => by
    rcases List.mem_cons.mp hm with rfl | hm
    · exact (hS _ hc.1).1
    · exact chn_lt hS (c := y :: z :: r) hc.2 (by simp) hm
theorem chn_len {S : List (Nat × Nat)} {n : Nat} (hS : StepsIn n S) (ha : Acy S) {c : List Nat} (hc : Chn S c) (h2 : 2 ≤ c.length) : c.length ≤ n := by
  have := (acy_nodup ha hc).length_le_of_subset (l₂ := List.range n) fun a m => List.mem_range.mpr (chn_lt hS hc h2 m)
  rwa [List.length_range] at this
def rlx (f : List Int) (p : Nat × Nat) : List Int := f.set p.2 (if f.getD p.1 0 + 1 > f.getD p.2 0 then f.getD p.1 0 + 1 else f.getD p.2 0)
def rlxs (S : List (Nat × Nat)) (f : List Int) : List Int := S.foldl rlx f
def rnds (S : List (Nat × Nat)) : Nat → List Int → List Int
  | 0, f => f
  | k + 1, f => rnds S k (rlxs S f)
theorem rnds_succ (S : List (Nat × Nat)) : ∀ (k : Nat) (f : List Int), rnds S (k + 1) f = rlxs S (rnds S k f)
  | 0, _ => rfl
  | k + 1, f => rnds_succ S k (rlxs S f)
theorem rlx_len {f : List Int} {p : Nat × Nat} : (rlx f p).length = f.length := by simp [rlx]
theorem rlxs_len : ∀ {S : List (Nat × Nat)} {f : List Int}, (rlxs S f).length = f.length
  | [], _ => rfl
  | p :: S, f => by show (rlxs S (rlx f p)).length = _; rw [rlxs_len, rlx_len]
theorem rnds_len {S : List (Nat × Nat)} : ∀ {k : Nat} {f : List Int}, (rnds S k f).length = f.length
  | 0, _ => rfl
  | k + 1, f => by show (rnds S k (rlxs S f)).length = _; rw [rnds_len, rlxs_len]
theorem getD_set {f : List Int} {i j : Nat} {v : Int} (hi : i < f.length) : (f.set i v).getD j 0 = if i = j then v else f.getD j 0 := by
  simp only [List.getD_eq_getElem?_getD, List.getElem?_set]
  by_cases c : i = j
  · subst c; simp [hi]
  · simp [c]
theorem rlx_at {f : List Int} {p : Nat × Nat} {j : Nat} (hi : p.2 < f.length) : (rlx f p).getD j 0 = if p.2 = j then (if f.getD p.1 0 + 1 > f.getD p.2 0 then f.getD p.1 0 + 1 else f.getD p.2 0) else f.getD j 0 := getD_set hi
theorem rlx_ge {f : List Int} {p : Nat × Nat} {j : Nat} (hi : p.2 < f.length) : f.getD j 0 ≤ (rlx f p).getD j 0 := by
  rw [rlx_at hi]
  by_cases c : p.2 = j
  · rw [if_pos c, ← c]; split <;> omega
  · rw [if_neg c]; exact Int.le_refl _
theorem rlxs_ge : ∀ {S : List (Nat × Nat)} {f : List Int} {j : Nat}, (∀ p ∈ S, p.2 < f.length) → f.getD j 0 ≤ (rlxs S f).getD j 0
  | [], _, _, _ => Int.le_refl _
  | p :: S, f, j, h => Int.le_trans (rlx_ge (h p List.mem_cons_self)) (rlxs_ge (S := S) (f := rlx f p) fun q hq => by rw [rlx_len]; exact h q (List.mem_cons_of_mem _ hq))
theorem rlxs_step : ∀ {S : List (Nat × Nat)} {f : List Int} {p : Nat × Nat}, (∀ p ∈ S, p.2 < f.length) → p ∈ S → f.getD p.1 0 + 1 ≤ (rlxs S f).getD p.2 0
  | [], _, _, _, h => by cases h
  | q :: S, f, p, h, hp => by
    have h' : ∀ r ∈ S, r.2 < (rlx f q).length := fun r hr => by rw [rlx_len]; exact h r (List.mem_cons_of_mem _ hr)
    rcases List.mem_cons.mp hp with rfl | hp
    · refine Int.le_trans ?_ (rlxs_ge (S := S) (f := rlx f p) h')
      rw [rlx_at (h p List.mem_cons_self), if_pos rfl]
      split <;> omega
    · have := rlxs_step (S := S) (f := rlx f q) (p := p) h' hp
      have := rlx_ge (f := f) (p := q) (j := p.1) (h q List.mem_cons_self)
      show _ ≤ (rlxs S (rlx f q)).getD p.2 0
      omega
theorem rnds_ge {S : List (Nat × Nat)} : ∀ {k : Nat} {f : List Int} {j : Nat}, (∀ p ∈ S, p.2 < f.length) → f.getD j 0 ≤ (rnds S k f).getD j 0
  | 0, _, _, _ => Int.le_refl _
  | k + 1, f, j, h => Int.le_trans (rlxs_ge h) (rnds_ge (k := k) (f := rlxs S f) fun p hp => by rw [rlxs_len]; exact h p hp)
/-- what a chain c ++ [x] gives -/
theorem rnds_chain {S : List (Nat × Nat)} {f : List Int} (h : ∀ p ∈ S, p.2 < f.length) : ∀ {k : Nat} {c : List Nat} {x y : Nat}, c.length ≤ k → Chn S (y :: (c ++ [x])) → f.getD y 0 + (c.length : Int) + 1 ≤ (rnds S (k + 1) f).getD x 0 := by
  intro k
  induction k with
  | zero =>
    intro c x y hc hch
    have : c = [] := List.eq_nil_of_length_eq_zero (by omega)
    subst this
    have := rlxs_step (S := S) (f := f) (p := (y, x)) h hch.1
    show _ ≤ (rlxs S f).getD x 0
    simpa using this
  | succ k ih =>
    intro c x y hc hch
    rw [rnds_succ]
    have hl : ∀ p ∈ S, p.2 < (rnds S (k + 1) f).length := fun p hp => by rw [rnds_len]; exact h p hp
    rcases List.eq_nil_or_concat c with rfl | ⟨c', w, rfl⟩
    · have h1 := rlxs_step (S := S) (f := rnds S (k + 1) f) (p := (y, x)) hl hch.1
      have h2 := rnds_ge (k := k + 1) (j := y) h
      dsimp only at h1
      simp only [List.length_nil]
      omega
    · have hch' : Chn S ((y :: c') ++ [w, x]) := by simpa using hch
      obtain ⟨q1, q2⟩ := chn_of_snoc hch'
      have h1 := ih (c := c') (x := w) (y := y) (by simp at hc; omega) q1
      have h2 := rlxs_step (S := S) (f := rnds S (k + 1) f) (p := (w, x)) hl q2
      simp at h1 h2 ⊢
      omega
/-- each number comes from a chain -/
def Snd (S : List (Nat × Nat)) (f g : List Int) : Prop := ∀ x, x < g.length → g.getD x 0 = f.getD x 0 ∨ ∃ y c, y < f.length ∧ Chn S (y :: (c ++ [x])) ∧ g.getD x 0 = f.getD y 0 + (c.length : Int) + 1
theorem snd_rlx {S : List (Nat × Nat)} {f g : List Int} {p : Nat × Nat} (hl : g.length = f.length) (hp : p ∈ S) (h1 : p.1 < f.length) (h2 : p.2 < f.length) (h : Snd S f g) : Snd S f (rlx g p) := by
  intro x hx
  rw [rlx_len] at hx
  rw [rlx_at (by omega)]
  by_cases c : p.2 = x
  · rw [if_pos c]
    subst c
    split
    · refine .inr ?_
      rcases h p.1 (by omega) with q | ⟨y, c, hy, q1, q2⟩
      · exact ⟨p.1, [], h1, ⟨hp, trivial⟩, by rw [q]; simp⟩
      · refine ⟨y, c ++ [p.1], hy, ?_, by rw [q2]; simp; omega⟩
        have := chn_snoc (c := y :: c) (a := p.1) (b := p.2) q1 hp
        simpa using this
    · exact h p.2 hx
  · rw [if_neg c]
    exact h x hx
theorem snd_rlxs {S0 : List (Nat × Nat)} {f : List Int} : ∀ {S : List (Nat × Nat)} {g : List Int}, g.length = f.length → (∀ p ∈ S, p ∈ S0 ∧ p.1 < f.length ∧ p.2 < f.length) → Snd S0 f g → Snd S0 f (rlxs S g)
  | [], _, _, _, h => h
  | p :: S, g, hl, hp, h => by
    obtain ⟨a, b, c⟩ := hp p List.mem_cons_self
    exact snd_rlxs (S := S) (g := rlx g p) (by rw [rlx_len, hl]) (fun q hq => hp q (List.mem_cons_of_mem _ hq)) (snd_rlx hl a b c h)
theorem snd_rnds {S : List (Nat × Nat)} {f : List Int} (hp : ∀ p ∈ S, p.1 < f.length ∧ p.2 < f.length) : ∀ {k : Nat} {g : List Int}, g.length = f.length → Snd S f g → Snd S f (rnds S k g)
  | 0, _, _, h => h
  | k + 1, g, hl, h => snd_rnds hp (k := k) (g := rlxs S g) (by rw [rlxs_len, hl]) (snd_rlxs hl (fun p m => ⟨m, hp p m⟩) h)
/-- behind as many rounds as there can be steps: the greatest number of all chains -/
structure Top (S : List (Nat × Nat)) (f g : List Int) : Prop where
  len : g.length = f.length
  base : ∀ x, x < f.length → f.getD x 0 ≤ g.getD x 0
  ge : ∀ y c x, Chn S (y :: (c ++ [x])) → f.getD y 0 + (c.length : Int) + 1 ≤ g.getD x 0
  snd : Snd S f g
theorem rnds_top {S : List (Nat × Nat)} {f : List Int} (hS : StepsIn f.length S) (ha : Acy S) : Top S f (rnds S (f.length - 1) f) := by
  have h2 : ∀ p ∈ S, p.2 < f.length := fun p hp => (hS p hp).2
  refine ⟨rnds_len, fun x _ => rnds_ge h2, fun y c x hc => ?_, snd_rnds hS rfl fun x _ => .inl rfl⟩
  have hl := chn_len hS ha hc (by simp)
  simp at hl
  obtain ⟨k, hk⟩ : ∃ k, f.length - 1 = k + 1 := ⟨f.length - 2, by omega⟩
  rw [hk]
  exact rnds_chain h2 (by omega) hc
theorem Top.step {S : List (Nat × Nat)} {f g : List Int} (T : Top S f g) {a b : Nat} (ha : a < f.length) (h : (a, b) ∈ S) : g.getD a 0 + 1 ≤ g.getD b 0 := by
  rcases T.snd a (by rw [T.len]; exact ha) with q | ⟨y, c, _, q1, q2⟩
  · rw [q]
    have := T.ge a [] b ⟨h, trivial⟩
    simpa using this
  · have hc := chn_snoc (c := y :: c) (a := a) (b := b) q1 h
    have := T.ge y (c ++ [a]) b (by simpa using hc)
    rw [List.length_append, List.length_singleton] at this
    push_cast at this
    omega
theorem chn_pos {S : List (Nat × Nat)} {r : List Nat} (h : ∀ p ∈ S, pos r p.1 < pos r p.2) : ∀ {c : List Nat} {x y : Nat}, Chn S (y :: (c ++ [x])) → pos r y + (c.length : Int) + 1 ≤ pos r x
  | [], x, y, hc => by have := h _ hc.1; simp at this ⊢; omega
  | z :: c, x, y, hc => by
    have h1 := h _ hc.1
    have h2 := chn_pos h (c := c) (x := x) (y := z) hc.2
    simp at h1 ⊢
    omega
theorem acy_of_pos {S : List (Nat × Nat)} {r : List Nat} (h : ∀ p ∈ S, pos r p.1 < pos r p.2) : Acy S := fun x c hc => by
  have := chn_pos h hc
  omega
def stepsOf (cs : List Con) : List (Nat × Nat) := cs.filterMap fun c => match c with
  | .ah a b => some (a, b)
  | .wi .. => none
theorem mem_steps {cs : List Con} {a b : Nat} : (a, b) ∈ stepsOf cs ↔ Con.ah a b ∈ cs := by
  unfold stepsOf
  rw [List.mem_filterMap]
  constructor
  · rintro ⟨c, hc, e⟩
    cases c with
    | wi i l h => cases e
    | ah x y => cases e; exact hc
  · intro h
    exact ⟨_, h, rfl⟩
def lows (cs : List Con) (i : Nat) : List Int := cs.filterMap fun c => match c with
  | .wi j l _ => if j = i then some l else none
  | .ah .. => none
def highs (cs : List Con) (i : Nat) : List Int := cs.filterMap fun c => match c with
  | .wi j _ h => if j = i then some h else none
  | .ah .. => none
theorem mem_lows {cs : List Con} {i : Nat} {l : Int} : l ∈ lows cs i ↔ ∃ h, Con.wi i l h ∈ cs := by
  unfold lows
  rw [List.mem_filterMap]
  constructor
  · rintro ⟨c, hc, e⟩
    cases c with
    | ah x y => cases e
    | wi j l' h =>
      dsimp only at e
      split at e
      · rename_i q; subst q; cases e; exact ⟨h, hc⟩
      · cases e
  · rintro ⟨h, hc⟩
    exact ⟨_, hc, by simp⟩
theorem mem_highs {cs : List Con} {i : Nat} {h : Int} : h ∈ highs cs i ↔ ∃ l, Con.wi i l h ∈ cs := by
  unfold highs
  rw [List.mem_filterMap]
  constructor
  · rintro ⟨c, hc, e⟩
    cases c with
    | ah x y => cases e
    | wi j l' h =>
      dsimp only at e
      split at e
      · rename_i q; subst q; cases e; exact ⟨_, hc⟩
      · cases e
  · rintro ⟨l, hc⟩
    exact ⟨_, hc, by simp⟩
def mxF : Int → List Int → Int
  | m, [] => m
  | m, x :: r => mxF (if x > m then x else m) r
def mnF : Int → List Int → Int
  | m, [] => m
  | m, x :: r => mnF (if x < m then x else m) r
def mxD (d : Int) : List Int → Int
  | [] => d
  | x :: r => mxF x r
def mnD (d : Int) : List Int → Int
  | [] => d
  | x :: r => mnF x r
theorem mxF_spec : ∀ (m : Int) (r : List Int), (mxF m r = m ∨ mxF m r ∈ r) ∧ m ≤ mxF m r ∧ ∀ y ∈ r, y ≤ mxF m r
  | m, [] => ⟨.inl rfl, Int.le_refl _, fun y h => by cases h⟩
  | m, x :: r => by
    obtain ⟨h1, h2, h3⟩ := mxF_spec (if x > m then x else m) r
    simp only [mxF]
    by_cases c : x > m
    · rw [if_pos c] at *
      refine ⟨.inr ?_, by omega, fun y hy => ?_⟩
      · rcases h1 with h1 | h1
        · rw [h1]; exact List.mem_cons_self
        · exact List.mem_cons_of_mem _ h1
      · rcases List.mem_cons.mp hy with e | hy
        · subst e; exact h2
        · exact h3 y hy
    · rw [if_neg c] at *
      refine ⟨?_, h2, fun y hy => ?_⟩
      · rcases h1 with h1 | h1
        · exact .inl h1
        · exact .inr (List.mem_cons_of_mem _ h1)
      · rcases List.mem_cons.mp hy with e | hy
        · subst e; omega
        · exact h3 y hy
theorem mnF_neg : ∀ (m : Int) (r : List Int), mnF m r = - mxF (-m) (r.map (- ·))
  | m, [] => by simp [mnF, mxF]
  | m, x :: r => by
    simp only [mnF, mxF, List.map_cons]
    rw [mnF_neg]
    congr 2
    split <;> split <;> omega
theorem mxD_spec (d : Int) (l : List Int) : (l = [] ∧ mxD d l = d) ∨ (mxD d l ∈ l ∧ ∀ y ∈ l, y ≤ mxD d l) := by
  cases l with
  | nil => exact .inl ⟨rfl, rfl⟩
  | cons x r =>
    obtain ⟨h1, h2, h3⟩ := mxF_spec x r
    refine .inr ⟨?_, fun y hy => ?_⟩
    · show mxF x r ∈ x :: r
      rcases h1 with h1 | h1
      · rw [h1]; exact List.mem_cons_self
      · exact List.mem_cons_of_mem _ h1
    · rcases List.mem_cons.mp hy with rfl | hy
      · exact h2
      · exact h3 y hy
theorem mnD_neg (d : Int) (l : List Int) : mnD d l = - mxD (-d) (l.map (- ·)) := by
  cases l with
  | nil => simp [mnD, mxD]
  | cons x r => exact mnF_neg x r
theorem mnD_spec (d : Int) (l : List Int) : (l = [] ∧ mnD d l = d) ∨ (mnD d l ∈ l ∧ ∀ y ∈ l, mnD d l ≤ y) := by
  have h := mxD_spec (-d) (l.map (- ·))
  rw [mnD_neg]
  rcases h with ⟨h1, h2⟩ | ⟨h1, h2⟩
  · exact .inl ⟨by simpa using h1, by rw [h2]; omega⟩
  · refine .inr ⟨?_, fun y hy => ?_⟩
    · obtain ⟨z, hz, e⟩ := List.mem_map.mp h1
      rw [← e]
      simpa using hz
    · have := h2 (-y) (List.mem_map.mpr ⟨y, hy, rfl⟩)
      omega
def lowG (cs : List Con) (i : Nat) : Int := mxD 1 (lows cs i)
def highG (n : Nat) (cs : List Con) (i : Nat) : Int := mnD n (highs cs i)
def lows0 (n : Nat) (cs : List Con) : List Int := (List.range n).map (lowG cs)
def highs0 (n : Nat) (cs : List Con) : List Int := (List.range n).map (highG n cs)
/-- the relaxing of latest places -/
def rlL (f : List Int) (p : Nat × Nat) : List Int := f.set p.1 (if f.getD p.2 0 - 1 < f.getD p.1 0 then f.getD p.2 0 - 1 else f.getD p.1 0)
def rlLs (S : List (Nat × Nat)) (f : List Int) : List Int := S.foldl rlL f
def rnL (S : List (Nat × Nat)) : Nat → List Int → List Int
  | 0, f => f
  | k + 1, f => rnL S k (rlLs S f)
def flip (S : List (Nat × Nat)) : List (Nat × Nat) := S.map fun p => (p.2, p.1)
def neg (f : List Int) : List Int := f.map (- ·)
theorem neg_neg (f : List Int) : neg (neg f) = f := by
  unfold neg
  rw [List.map_map]
  exact (List.map_congr_left fun a _ => Int.neg_neg a).trans (List.map_id f)
theorem neg_at (f : List Int) (i : Nat) : (neg f).getD i 0 = - f.getD i 0 := by
  unfold neg
  simp only [List.getD_eq_getElem?_getD, List.getElem?_map]
  cases f[i]? <;> simp
theorem rlL_eq (f : List Int) (p : Nat × Nat) : rlL f p = neg (rlx (neg f) (p.2, p.1)) := by
  unfold rlL rlx
  rw [neg_at, neg_at]
  have : (neg ((neg f).set p.1 (if -f.getD p.2 0 + 1 > -f.getD p.1 0 then -f.getD p.2 0 + 1 else -f.getD p.1 0))) = (neg (neg f)).set p.1 (-(if -f.getD p.2 0 + 1 > -f.getD p.1 0 then -f.getD p.2 0 + 1 else -f.getD p.1 0)) := by
    unfold neg
    rw [List.map_set]
  rw [this, neg_neg]
  congr 1
  split <;> split <;> omega
theorem rlLs_eq : ∀ (S : List (Nat × Nat)) (f : List Int), rlLs S f = neg (rlxs (flip S) (neg f))
  | [], f => (neg_neg f).symm
  | p :: S, f => by
    show rlLs S (rlL f p) = _
    rw [rlLs_eq S, rlL_eq, neg_neg]
    rfl
theorem rnL_eq (S : List (Nat × Nat)) : ∀ (k : Nat) (f : List Int), rnL S k f = neg (rnds (flip S) k (neg f))
  | 0, f => (neg_neg f).symm
  | k + 1, f => by
    show rnL S k (rlLs S f) = _
    rw [rnL_eq S k, rlLs_eq, neg_neg]
    rfl
def earl (n : Nat) (cs : List Con) : List Int := rnds (stepsOf cs) (n - 1) (lows0 n cs)
def late (n : Nat) (cs : List Con) : List Int := rnL (stepsOf cs) (n - 1) (highs0 n cs)
theorem mem_flip {S : List (Nat × Nat)} {a b : Nat} : (a, b) ∈ flip S ↔ (b, a) ∈ S := by
  unfold flip
  rw [List.mem_map]
  constructor
  · rintro ⟨⟨x, y⟩, h, e⟩; cases e; exact h
  · intro h; exact ⟨_, h, rfl⟩
theorem chn_rev {S : List (Nat × Nat)} : ∀ {c : List Nat}, Chn S c → Chn (flip S) c.reverse
  | [], _ => trivial
  | [_], _ => trivial
  | a :: b :: r, h => by
    have := chn_rev (c := b :: r) h.2
    simp only [List.reverse_cons, List.append_assoc] at this ⊢
    have h2 := chn_snoc (c := r.reverse) (a := b) (b := a) this (mem_flip.mpr h.1)
    simpa using h2
theorem flip_flip (S : List (Nat × Nat)) : flip (flip S) = S := by
  unfold flip
  rw [List.map_map]
  exact (List.map_congr_left fun a _ => rfl).trans (List.map_id S)
theorem acy_flip {S : List (Nat × Nat)} (h : Acy S) : Acy (flip S) := fun x c hc => by
  have := chn_rev hc
  rw [flip_flip] at this
  refine h x c.reverse ?_
  simpa using this
theorem lows0_at {n : Nat} {cs : List Con} {i : Nat} (h : i < n) : (lows0 n cs).getD i 0 = lowG cs i := by simp [lows0, h]
theorem highs0_at {n : Nat} {cs : List Con} {i : Nat} (h : i < n) : (highs0 n cs).getD i 0 = highG n cs i := by simp [highs0, h]
theorem lowG_ge {cs : List Con} {i : Nat} {l h : Int} (hc : Con.wi i l h ∈ cs) : l ≤ lowG cs i := by
  rcases mxD_spec 1 (lows cs i) with ⟨q, _⟩ | ⟨_, q⟩
  · have := mem_lows.mpr ⟨h, hc⟩
    rw [q] at this; cases this
  · exact q l (mem_lows.mpr ⟨h, hc⟩)
theorem highG_le {n : Nat} {cs : List Con} {i : Nat} {l h : Int} (hc : Con.wi i l h ∈ cs) : highG n cs i ≤ h := by
  rcases mnD_spec n (highs cs i) with ⟨q, _⟩ | ⟨_, q⟩
  · have := mem_highs.mpr ⟨l, hc⟩
    rw [q] at this; cases this
  · exact q h (mem_highs.mpr ⟨l, hc⟩)
section
variable {n : Nat} {cs : List Con}
theorem steps_in (hok : ∀ c ∈ cs, c.ok n) : StepsIn n (stepsOf cs) := fun ⟨a, b⟩ hp => by
  obtain ⟨h1, h2, _⟩ := hok _ (mem_steps.mp hp)
  exact ⟨h1, h2⟩
theorem flip_in (hok : ∀ c ∈ cs, c.ok n) : StepsIn n (flip (stepsOf cs)) := fun ⟨a, b⟩ hp => by
  obtain ⟨h1, h2⟩ := steps_in hok _ (mem_flip.mp hp)
  exact ⟨h2, h1⟩
theorem earl_top (hok : ∀ c ∈ cs, c.ok n) (ha : Acy (stepsOf cs)) : Top (stepsOf cs) (lows0 n cs) (earl n cs) := by
  have e : (lows0 n cs).length = n := by simp [lows0]
  have := rnds_top (S := stepsOf cs) (f := lows0 n cs) (by rw [e]; exact steps_in hok) ha
  rw [e] at this
  exact this
theorem late_top (hok : ∀ c ∈ cs, c.ok n) (ha : Acy (stepsOf cs)) : Top (flip (stepsOf cs)) (neg (highs0 n cs)) (neg (late n cs)) := by
  have e : (neg (highs0 n cs)).length = n := by simp [highs0, neg]
  have := rnds_top (S := flip (stepsOf cs)) (f := neg (highs0 n cs)) (by rw [e]; exact flip_in hok) (acy_flip ha)
  rw [e] at this
  unfold late
  rw [rnL_eq, neg_neg]
  exact this
def eF (n : Nat) (cs : List Con) (x : Nat) : Int := (earl n cs).getD x 0
def lF (n : Nat) (cs : List Con) (x : Nat) : Int := (late n cs).getD x 0
theorem good_steps {r : List Nat} (hg : good cs r = true) : ∀ p ∈ stepsOf cs, pos r p.1 < pos r p.2 := fun ⟨a, b⟩ hp => by
  have := good_iff.mp hg _ (mem_steps.mp hp)
  simpa [hold] using this
theorem good_low {r : List Nat} (hg : good cs r = true) (x : Nat) : lowG cs x ≤ pos r x + 1 := by
  rcases mxD_spec 1 (lows cs x) with ⟨_, q⟩ | ⟨q, _⟩
  · unfold lowG; rw [q]; unfold pos; omega
  · obtain ⟨h, hc⟩ := mem_lows.mp q
    have := good_iff.mp hg _ hc
    simp [hold] at this
    exact this.1
theorem good_high {r : List Nat} (hr : IsR n r) (hg : good cs r = true) {x : Nat} (hx : x < n) : pos r x + 1 ≤ highG n cs x := by
  rcases mnD_spec n (highs cs x) with ⟨_, q⟩ | ⟨q, _⟩
  · unfold highG; rw [q]
    have := List.idxOf_lt_length_iff.mpr (hr.mem.mpr hx)
    rw [hr.len] at this
    unfold pos; omega
  · obtain ⟨l, hc⟩ := mem_highs.mp q
    have := good_iff.mp hg _ hc
    simp [hold] at this
    exact this.2
/-- the windows are what they are to be -/
theorem win_of (hok : ∀ c ∈ cs, c.ok n) (ha : Acy (stepsOf cs)) : Win n cs (eF n cs) (lF n cs) := by
  have TE := earl_top hok ha
  have TL := late_top hok ha
  have l1 : (lows0 n cs).length = n := by simp [lows0]
  have l2 : (neg (highs0 n cs)).length = n := by simp [highs0, neg]
  refine ⟨fun a b h => ?_, fun a b h => ?_, fun i lo hi h => ?_, fun i lo hi h => ?_, fun r hr hg x hx => ⟨?_, ?_⟩⟩
  · exact TE.step (by rw [l1]; exact (hok _ h).1) (mem_steps.mpr h)
  · have := TL.step (a := b) (b := a) (by rw [l2]; exact (hok _ h).2.1) (mem_flip.mpr (mem_steps.mpr h))
    rw [neg_at, neg_at] at this
    unfold lF
    omega
  · have hi' := (hok _ h).1
    have := TE.base i (by rw [l1]; exact hi')
    rw [lows0_at hi'] at this
    exact Int.le_trans (lowG_ge h) this
  · have hi' := (hok _ h).1
    have := TL.base i (by rw [l2]; exact hi')
    rw [neg_at, neg_at, highs0_at hi'] at this
    have h2 := highG_le (n := n) h
    unfold lF
    omega
  · unfold eF
    rcases TE.snd x (by rw [TE.len, l1]; exact hx) with q | ⟨y, c, hy, q1, q2⟩
    · rw [q, lows0_at hx]
      exact good_low hg x
    · rw [q2]
      rw [l1] at hy
      rw [lows0_at hy]
      have := chn_pos (good_steps hg) q1
      have := good_low hg y
      omega
  · unfold lF
    have : (neg (late n cs)).getD x 0 ≤ - (pos r x + 1) := by
      rcases TL.snd x (by rw [TL.len, l2]; exact hx) with q | ⟨y, c, hy, q1, q2⟩
      · rw [q, neg_at, highs0_at hx]
        have := good_high hr hg hx
        omega
      · rw [q2]
        rw [l2] at hy
        rw [neg_at, highs0_at hy]
        have h1 := chn_rev q1
        rw [flip_flip] at h1
        have h2 := chn_pos (good_steps hg) (c := c.reverse) (x := y) (y := x) (by simpa using h1)
        have := good_high hr hg hy
        simp at h2
        omega
    rw [neg_at] at this
    omega
/-- found by deadlines, or there is none -/
def byD (n : Nat) (cs : List Con) : Option (List Nat) := match edf n (eF n cs) (lF n cs) n [] with
  | some r => if good cs r then some r else none
  | none => none
theorem byD_some {r : List Nat} (h : byD n cs = some r) : IsR n r ∧ good cs r = true ∧ edf n (eF n cs) (lF n cs) n [] = some r := by
  unfold byD at h
  split at h
  · rename_i r' q
    split at h
    · cases h; rename_i g
      exact ⟨(edf_isR q).1, g, q⟩
    · cases h
  · cases h
theorem byD_ex (hok : ∀ c ∈ cs, c.ok n) (ha : Acy (stepsOf cs)) {r : List Nat} (hr : IsR n r) (hg : good cs r = true) : ∃ r', byD n cs = some r' := by
  obtain ⟨r', h1, h2, h3⟩ := edf_complete (win_of hok ha) hok hr hg
  refine ⟨r', ?_⟩
  unfold byD
  rw [h1]
  simp [h3]
theorem acy_of_good {r : List Nat} (hg : good cs r = true) : Acy (stepsOf cs) := acy_of_pos (good_steps hg)
end
end Sc
set_option Elab.async false
set_option linter.all false
set_option maxRecDepth 100000
set_option maxHeartbeats 1000000
namespace Lb
open PySem PySem.Spec PyProof.Rows L2 Rk Sc
abbrev iD (x : Nat) : D := .int (x : Int)
def cD : Con → D
  | .wi i l h => .tuple [.str "within", .int i, .int l, .int h]
  | .ah a b => .tuple [.str "ahead", .int a, .int b]
def csD (cs : List Con) : D := .tuple (cs.map cD)
def pD (n : Nat) (cs : List Con) : D := .tuple [.int n, csD cs]
def rD (r : List Nat) : D := .tuple (r.map iD)
structure Pb (n : Nat) (cs : List Con) : Prop where
  n1 : 1 ≤ n
  n7 : n ≤ 7
  ok : ∀ c ∈ cs, c.ok n
  len : cs.length ≤ 100
theorem lay_wi : (PyData.str "within").canLay0 = true := by decide +kernel
theorem lay_ah : (PyData.str "ahead").canLay0 = true := by decide +kernel
@[simp] theorem s_aw : ((Str.ofString "ahead") == (Str.ofString "within")) = false := by decide +kernel
@[simp] theorem s_wa : ((Str.ofString "within") == (Str.ofString "ahead")) = false := by decide +kernel
@[simp] theorem ev_int {i j : Int} : PyData.eqv (.int i) (.int j) = (i == j) := rfl
@[simp] theorem ev_str {x y : Str} : PyData.eqv (.str x) (.str y) = (x == y) := rfl
@[simp] theorem ev_tup {xs ys : List D} : PyData.eqv (.tuple xs) (.tuple ys) = PyData.eqvAll xs ys := rfl
@[simp] theorem ev_list {xs ys : List D} : PyData.eqv (.list xs) (.list ys) = PyData.eqvAll xs ys := rfl
@[simp] theorem eva_nil : PyData.eqvAll [] [] = true := rfl
@[simp] theorem eva_nc {y : D} {ys : List D} : PyData.eqvAll [] (y :: ys) = false := rfl
@[simp] theorem eva_cn {y : D} {ys : List D} : PyData.eqvAll (y :: ys) [] = false := rfl
@[simp] theorem eva_cc {x y : D} {xs ys : List D} : PyData.eqvAll (x :: xs) (y :: ys) = (PyData.eqv x y && PyData.eqvAll xs ys) := rfl
@[simp] theorem ev_n {d : D} : PyData.eqv (.tuple []) .none = false := rfl
theorem eva_map {α : Type} [DecidableEq α] {enc : α → D} (h : ∀ a b, PyData.eqv (enc a) (enc b) = decide (a = b)) : ∀ (xs ys : List α), PyData.eqvAll (xs.map enc) (ys.map enc) = decide (xs = ys)
  | [], [] => by simp
  | [], y :: ys => by simp
  | x :: xs, [] => by simp
  | x :: xs, y :: ys => by
    simp only [List.map_cons, eva_cc, h, eva_map h xs ys]
    by_cases e : x = y <;> simp [e]
theorem ev_nat (a b : Nat) : PyData.eqv (iD a) (iD b) = decide (a = b) := by
  simp only [ev_int]
  rw [Bool.eq_iff_iff]; simp; omega
theorem ev_r (r q : List Nat) : PyData.eqv (rD r) (rD q) = decide (r = q) := eva_map ev_nat r q
theorem ev_c (a b : Con) : PyData.eqv (cD a) (cD b) = decide (a = b) := by
  cases a <;> cases b <;> (simp only [cD, ev_tup, eva_cc, ev_str, ev_int, eva_nil, s_aw, s_wa, Bool.false_and, beq_self_eq_true, Bool.true_and, Bool.and_true]; rw [Bool.eq_iff_iff]; simp <;> omega)
theorem any_ev {α : Type} [DecidableEq α] {enc : α → D} (h : ∀ a b, PyData.eqv (enc a) (enc b) = decide (a = b)) (xs : List α) (a : α) : ((xs.map enc).any fun z => PyData.eqv z (enc a)) = decide (a ∈ xs) := by
  rw [Bool.eq_iff_iff, List.any_eq_true, decide_eq_true_eq]
  constructor
  · rintro ⟨z, hz, e⟩
    obtain ⟨b, hb, rfl⟩ := List.mem_map.mp hz
    rw [h, decide_eq_true_eq] at e
    exact e ▸ hb
  · intro ha
    exact ⟨enc a, List.mem_map.mpr ⟨a, ha, rfl⟩, by rw [h]; simp⟩
theorem find_ev {α : Type} [DecidableEq α] {enc : α → D} (h : ∀ a b, PyData.eqv (enc a) (enc b) = decide (a = b)) : ∀ (xs : List α) (a : α), a ∈ xs → (xs.map enc).findIdx? (fun z => PyData.eqv z (enc a)) = some (xs.idxOf a)
  | [], a, ha => by cases ha
  | x :: xs, a, ha => by
    rw [List.map_cons, List.findIdx?_cons, h]
    by_cases e : x = a
    · subst e; simp
    · have := find_ev h xs a ((List.mem_cons.mp ha).resolve_left fun z => e z.symm)
      rw [this, List.idxOf_cons]
      simp [e, beq_eq_false_iff_ne.mpr e]
@[simp] theorem lay_iD (xs : List Nat) : ((xs.map iD).all fun d => d.canLay0) = true := by simp
theorem lay_rD (r : List Nat) : (rD r).canLay0 = true := by unfold rD; rw [lay_tup]; exact lay_iD r
theorem lay_cD (c : Con) : (cD c).canLay0 = true := by cases c <;> simp [cD, lay_wi, lay_ah]
theorem lay_csD (cs : List Con) : (csD cs).canLay0 = true := by
  unfold csD
  rw [lay_tup, List.all_eq_true]
  intro d hd
  obtain ⟨c, _, rfl⟩ := List.mem_map.mp hd
  exact lay_cD c
theorem lay_pD (n : Nat) (cs : List Con) : (pD n cs).canLay0 = true := by
  unfold pD
  rw [lay_tup]
  simp [lay_csD]
theorem dp_le {m : Nat} : ∀ {ds : List D}, (∀ d ∈ ds, d.depth ≤ m) → PyData.depthAll ds ≤ m
  | [], _ => Nat.zero_le _
  | d :: ds, h => by
    have h1 := h d List.mem_cons_self
    have h2 := dp_le (ds := ds) fun x hx => h x (List.mem_cons_of_mem _ hx)
    show max _ _ ≤ m
    omega
@[simp] theorem dp_int {i : Int} : PyData.depth (.int i) = 0 := by simp [PyData.depth]
@[simp] theorem dp_str {x : Str} : PyData.depth (.str x) = 0 := by simp [PyData.depth]
theorem dp_tup {ds : List D} {m : Nat} (h : ∀ d ∈ ds, d.depth ≤ m) : PyData.depth (.tuple ds) ≤ m + 1 := by
  have := dp_le h
  simp only [PyData.depth]
  omega
theorem dp_cD (c : Con) : (cD c).depth ≤ 1 := by
  cases c <;> (refine dp_tup fun d hd => ?_; simp at hd; rcases hd with rfl | rfl | rfl | rfl <;> simp)
theorem in_cs {cs : List Con} {c : Con} {d : D} (hd : d = cD c) : sIn false d (csD cs) = some (bl (decide (c ∈ cs))) := by
  subst hd
  have h1 := lay_cD c
  have h2 := lay_csD cs
  have h3 := dp_cD c
  have e : sIn false (cD c) (csD cs) = inL (cD c) (cs.map cD) false := rfl
  rw [e]
  unfold inL
  rw [show PyData.canLayAll0 (cs.map cD) = true from h2, h1, show decide ((cD c).depth ≤ 64) = true from decide_eq_true (by omega)]
  simp only [Bool.and_self, if_true, Bool.false_eq_true, if_false]
  rw [any_ev ev_c]
theorem in_nat {r : List Nat} {x : Nat} (neg : Bool) : sIn neg (.int (x : Int)) (rD r) = some (bl (if neg then !decide (x ∈ r) else decide (x ∈ r))) := by
  have h2 := lay_rD r
  have e : sIn neg (.int (x : Int)) (rD r) = inL (iD x) (r.map iD) neg := rfl
  rw [e]
  unfold inL
  rw [show PyData.canLayAll0 (r.map iD) = true from h2]
  have : ((r.map iD).any fun z => PyData.eqv z (iD x)) = decide (x ∈ r) := any_ev ev_nat r x
  simp [this]
theorem idx_nat {r : List Nat} {x : Nat} (hx : x ∈ r) (hl : r.length ≤ 1000) : idxD (r.map iD) (.int (x : Int)) = some (r.idxOf x) := by
  unfold idxD
  have h1 : PyData.canLayAll0 (r.map iD) = true := lay_rD r
  have hb : big = 16777216 := rfl
  rw [h1, if_pos (by simp; omega)]
  exact find_ev ev_nat r x hx
/-- a slot that holds nothing of its own -/
def jk : Option D → Sl
  | none => .un
  | some d => .sh d
@[simp] theorem cm_jk {o : Option D} : cmK (some (jk o)) = true := by cases o <;> rfl
theorem sFor_fold {α β : Type} {enc : α → D} {tg : EvG} {body : EvS} {step : β → α → β} (I : β → Rho → Prop) : ∀ (xs : List α) (b : β) (ρ : Rho), I b ρ →
    (∀ x ∈ xs, ∀ b ρ, I b ρ → ∃ ρ1 ρ2, tg (enc x) ρ = some ρ1 ∧ body ρ1 = some (.nx ρ2) ∧ I (step b x) ρ2) → ∃ ρ', sFor (xs.map enc) tg body ρ = some (.nx ρ') ∧ I (xs.foldl step b) ρ'
  | [], b, ρ, hI, _ => ⟨ρ, rfl, hI⟩
  | x :: xs, b, ρ, hI, h => by
    obtain ⟨ρ1, ρ2, h1, h2, h3⟩ := h x List.mem_cons_self b ρ hI
    obtain ⟨ρ', h4, h5⟩ := sFor_fold I xs _ ρ2 h3 fun y hy => h y (List.mem_cons_of_mem _ hy)
    refine ⟨ρ', ?_, h5⟩
    simp only [List.map_cons, sFor, h1, h2]
    exact h4
theorem sFor_rngA {enc : Nat → D} {tg : EvG} {body : EvS} (I : Nat → Rho → Prop) : ∀ (m k : Nat) (ρ : Rho), I k ρ →
    (∀ j, k ≤ j → j < k + m → ∀ ρ, I j ρ → ∃ ρ1 ρ2, tg (enc j) ρ = some ρ1 ∧ body ρ1 = some (.nx ρ2) ∧ I (j + 1) ρ2) → ∃ ρ', sFor ((List.range' k m).map enc) tg body ρ = some (.nx ρ') ∧ I (k + m) ρ'
  | 0, k, ρ, hI, _ => ⟨ρ, rfl, hI⟩
  | m + 1, k, ρ, hI, h => by
    obtain ⟨ρ1, ρ2, h1, h2, h3⟩ := h k (Nat.le_refl _) (by omega) ρ hI
    obtain ⟨ρ', h4, h5⟩ := sFor_rngA I m (k + 1) ρ2 h3 fun j a b => h j (by omega) (by omega)
    refine ⟨ρ', ?_, by rw [show k + (m + 1) = k + 1 + m by omega]; exact h5⟩
    rw [List.range'_succ, List.map_cons]
    simp only [sFor, h1, h2]
    exact h4
theorem sFor_rng {enc : Nat → D} {tg : EvG} {body : EvS} (I : Nat → Rho → Prop) (n : Nat) {ρ : Rho} (h0 : I 0 ρ) (h : ∀ j, j < n → ∀ ρ, I j ρ → ∃ ρ1 ρ2, tg (enc j) ρ = some ρ1 ∧ body ρ1 = some (.nx ρ2) ∧ I (j + 1) ρ2) : ∃ ρ', sFor ((List.range n).map enc) tg body ρ = some (.nx ρ') ∧ I n ρ' := by
  have := sFor_rngA (enc := enc) (tg := tg) (body := body) I n 0 ρ h0 fun j _ hj => h j (by omega)
  rw [← List.range_eq_range', Nat.zero_add] at this
  exact this
theorem lcMap {α : Type} {enc : α → D} {o : List Nat} {g : EvG} {t : EvT} {fa : Ev} {ρw : Rho} (c : α → Bool) (F : α → D) (R : α → Rho) : ∀ xs : List α, (∀ x ∈ xs, g (enc x) ρw = some (R x) ∧ t (R x) = some (.ok (c x) (R x)) ∧ (c x = true → ∃ r, fa (R x) = some (.ok r (R x)) ∧ pub r = some (F x)) ∧ wipeR (R x) o = ρw) →
    lcGo o g t fa (xs.map enc) ρw = some (.ok ((xs.filter c).map F) ρw)
  | [], _ => rfl
  | x :: xs, h => by
    obtain ⟨h1, h2, h3, h4⟩ := h x List.mem_cons_self
    have ih := lcMap c F R xs fun y m => h y (List.mem_cons_of_mem _ m)
    rw [List.map_cons]
    unfold lcGo
    cases hc : c x with
    | false =>
      rw [hc] at h2
      simp only [h1, h2, h4, List.filter_cons, hc]
      exact ih
    | true =>
      obtain ⟨r, h5, h6⟩ := h3 hc
      rw [hc] at h2
      simp only [h1, h2, h4, h5, h6, List.filter_cons, hc, ih]
      rfl
theorem lcAll {α : Type} {enc : α → D} {o : List Nat} {g : EvG} {fa : Ev} {ρw : Rho} (F : α → D) (R : α → Rho) (xs : List α) (h : ∀ x ∈ xs, g (enc x) ρw = some (R x) ∧ (∃ r, fa (R x) = some (.ok r (R x)) ∧ pub r = some (F x)) ∧ wipeR (R x) o = ρw) :
    lcGo o g yes fa (xs.map enc) ρw = some (.ok (xs.map F) ρw) := by
  have := lcMap (t := yes) (o := o) (enc := enc) (g := g) (fa := fa) (ρw := ρw) (fun _ => true) F R xs fun x hx => by
    obtain ⟨h1, h2, h3⟩ := h x hx
    exact ⟨h1, rfl, fun _ => h2, h3⟩
  rw [this, List.filter_eq_self.mpr fun _ _ => rfl]
theorem rng0 (n : Nat) : rngD 0 n = (List.range n).map iD := by
  unfold rngD
  refine List.map_congr_left fun i _ => ?_
  rw [Int.zero_add]
theorem rng1 (n : Nat) : rngD 1 n = (List.range n).map fun (i : Nat) => (.int ((i : Int) + 1) : D) := by
  unfold rngD
  refine List.map_congr_left fun i _ => ?_
  rw [Int.add_comm]
theorem rngOk_nat {n : Nat} (h : n ≤ 1000000) : rngOk (n : Int) = true := by
  unfold rngOk
  simp; omega
@[simp] theorem ix_p0 {n : Nat} {cs : List Con} : sIx (pD n cs) (.int 0) = some (.sh (.int n)) := rfl
@[simp] theorem ix_p1 {n : Nat} {cs : List Con} : sIx (pD n cs) (.int 1) = some (.sh (csD cs)) := rfl
@[simp] theorem it_cs {cs : List Con} : itD (csD cs) = some (cs.map cD) := rfl
@[simp] theorem it_r {r : List Nat} : itD (rD r) = some (r.map iD) := rfl
end Lb
set_option Elab.async false
set_option linter.all false
set_option maxRecDepth 100000
set_option maxHeartbeats 1000000
namespace Lb
open PySem PySem.Spec PyProof.Rows L2 Rk Sc
def B_check : Ev := defSem false 2 2 (sSeq (sIf (cNotT (cT (cName 0))) (sSeq (sRaise "BadValue" "name" (cA1 (cName 1) cA0)) sNil) sNil) sNil)
def B_is_integer : Ev := defSem false 3 3 (sSeq (sRet (cAndV (cIsi "int" (cName 0)) (cAndV (cNotV (cIsi "bool" (cName 0))) (cChain (sCmp fun i j => decide (i ≤ j)) (sCmp fun i j => decide (i ≤ j)) (cName 1) (cName 0) (cName 2))))) sNil)
def B_is_item (g_is_integer : Ev) : Ev := defSem false 2 2 (sSeq (sRet (cFn 3 g_is_integer (cA1 (cName 1) (cA1 (cK (.int 0)) (cA1 (cBin sSub (cName 0) (cK (.int 1))) cA0))))) sNil)
def B_is_tagged : Ev := defSem false 3 3 (sSeq (sRet (cAndV (cIsi "tuple" (cName 0)) (cAndV (cBin sEq (cLenN 0) (cName 2)) (cAndV (cIsi "str" (cIxN 0 (cK (.int 0)))) (cBin sEq (cIxN 0 (cK (.int 0))) (cName 1)))))) sNil)
def B_is_constraint (g_is_tagged : Ev) (g_is_item : Ev) (g_is_integer : Ev) : Ev := defSem false 2 2 (sSeq (sIf (cT (cFn 3 g_is_tagged (cA1 (cName 1) (cA1 (cK (.str "within")) (cA1 (cK (.int 4)) cA0))))) (sSeq (sRet (cAndV (cFn 2 g_is_item (cA1 (cName 0) (cA1 (cIxN 1 (cK (.int 1))) cA0))) (cAndV (cFn 3 g_is_integer (cA1 (cIxN 1 (cK (.int 2))) (cA1 (cK (.int 1)) (cA1 (cName 0) cA0)))) (cFn 3 g_is_integer (cA1 (cIxN 1 (cK (.int 3))) (cA1 (cIxN 1 (cK (.int 2))) (cA1 (cName 0) cA0))))))) sNil) sNil) (sSeq (sIf (cT (cFn 3 g_is_tagged (cA1 (cName 1) (cA1 (cK (.str "ahead")) (cA1 (cK (.int 3)) cA0))))) (sSeq (sRet (cAndV (cFn 2 g_is_item (cA1 (cName 0) (cA1 (cIxN 1 (cK (.int 1))) cA0))) (cAndV (cFn 2 g_is_item (cA1 (cName 0) (cA1 (cIxN 1 (cK (.int 2))) cA0))) (cBin sNe (cIxN 1 (cK (.int 1))) (cIxN 1 (cK (.int 2))))))) sNil) sNil) (sSeq (sRet (cK (.bool false))) sNil)))
def B_is_problem (g_is_integer : Ev) (g_is_constraint : Ev) : Ev := defSem false 1 4 (sSeq (sIf (cOrT (cNotT (cT (cIsi "tuple" (cName 0)))) (cT (cBin sNe (cLenN 0) (cK (.int 2))))) (sSeq (sRet (cK (.bool false))) sNil) sNil) (sSeq (sAsg (gTup' 2 (gCons' (gName' 1) (gCons' (gName' 2) gNil'))) (cName 0)) (sSeq (sIf (cOrT (cNotT (cT (cFn 3 g_is_integer (cA1 (cName 1) (cA1 (cK (.int 1)) (cA1 (cK (.int 7)) cA0)))))) (cNotT (cT (cIsi "tuple" (cName 2))))) (sSeq (sRet (cK (.bool false))) sNil) sNil) (sSeq (sRet (cAndV (cBin (sCmp fun i j => decide (i ≤ j)) (cLenN 2) (cK (.int 12))) (gGo [3] (cIt (cName 2)) (gName' 3) yes (cFn 2 g_is_constraint (cA1 (cName 1) (cA1 (cName 3) cA0))) stopF (finAll [3])))) sNil))))
def B_place_of : Ev := defSem false 2 2 (sSeq (sRet (cBin sAdd (cIndex (cName 0) (cName 1)) (cK (.int 1)))) sNil)
def B_holds (g_place_of : Ev) : Ev := defSem false 2 2 (sSeq (sIf (cT (cBin sEq (cIxN 0 (cK (.int 0))) (cK (.str "within")))) (sSeq (sRet (cChain (sCmp fun i j => decide (i ≤ j)) (sCmp fun i j => decide (i ≤ j)) (cIxN 0 (cK (.int 2))) (cFn 2 g_place_of (cA1 (cName 1) (cA1 (cIxN 0 (cK (.int 1))) cA0))) (cIxN 0 (cK (.int 3))))) sNil) sNil) (sSeq (sRet (cBin (sCmp fun i j => decide (i < j)) (cFn 2 g_place_of (cA1 (cName 1) (cA1 (cIxN 0 (cK (.int 1))) cA0))) (cFn 2 g_place_of (cA1 (cName 1) (cA1 (cIxN 0 (cK (.int 2))) cA0))))) sNil))
def B_is_good (g_holds : Ev) : Ev := defSem false 2 3 (sSeq (sRet (gGo [2] (cIt (cIxN 0 (cK (.int 1)))) (gName' 2) yes (cFn 2 g_holds (cA1 (cName 2) (cA1 (cName 1) cA0))) stopF (finAll [2]))) sNil)
def B_added : Ev := defSem false 2 2 (sSeq (sRet (cTup (cA1 (cIxN 0 (cK (.int 0))) (cA1 (cBin sAdd (cIxN 0 (cK (.int 1))) (cTup (cA1 (cName 1) cA0))) cA0)))) sNil)
def B_check_constraint (g_check : Ev) (g_is_problem : Ev) (g_is_constraint : Ev) : Ev := defSem false 2 2 (sSeq (sDrop (cFn 2 g_check (cA1 (cFn 1 g_is_problem (cA1 (cName 0) cA0)) (cA1 (cK (.str "problem")) cA0)))) (sSeq (sDrop (cFn 2 g_check (cA1 (cFn 2 g_is_constraint (cA1 (cIxN 0 (cK (.int 0))) (cA1 (cName 1) cA0))) (cA1 (cK (.str "constraint")) cA0)))) sNil))
/-- a whole number from a to b -/
def inR (v : D) (a b : Int) : Bool := match v with
  | .int i => decide (a ≤ i) && decide (i ≤ b)
  | _ => false
def tagD (v : D) (w : Str) (k : Nat) : Bool := match v with
  | .tuple (.str s :: r) => decide (r.length + 1 = k) && s == w
  | _ => false
def Is_integer (G : Ev) : Prop := ∀ (v : D) (a b : Int), G [.sh v, .sh (.int a), .sh (.int b)] = some (.ok (.sh (.bool (inR v a b))) [.sh v, .sh (.int a), .sh (.int b)])
def Is_item (G : Ev) : Prop := ∀ (v : D) (m : Int), G [.sh (.int m), .sh v] = some (.ok (.sh (.bool (inR v 0 (m - 1)))) [.sh (.int m), .sh v])
def Is_tagged (G : Ev) : Prop := ∀ (v : D) (w : Str) (k : Nat), 0 < k → v.canLay0 = true → (PyData.str w).canLay0 = true → G [.sh v, .sh (.str w), .sh (.int k)] = some (.ok (.sh (.bool (tagD v w k))) [.sh v, .sh (.str w), .sh (.int k)])
def wiD (m : Int) (v : D) : Bool := match v with
  | .tuple [.str s, a, .int l, c] => s == "within" && inR a 0 (m - 1) && inR (.int l) 1 m && inR c l m
  | _ => false
def ahD (m : Int) (v : D) : Bool := match v with
  | .tuple [.str s, .int a, .int b] => s == "ahead" && inR (.int a) 0 (m - 1) && inR (.int b) 0 (m - 1) && !(a == b)
  | _ => false
def conD (m : Int) (v : D) : Bool := wiD m v || ahD m v
def probD (v : D) : Bool := match v with
  | .tuple [.int m, .tuple cs] => decide (1 ≤ m) && decide (m ≤ 7) && decide (cs.length ≤ 12) && cs.all (conD m)
  | _ => false
def Is_constraint (G : Ev) : Prop := ∀ (v : D) (m : Int), v.canLay0 = true → G [.sh (.int m), .sh v] = some (.ok (.sh (.bool (conD m v))) [.sh (.int m), .sh v])
def Is_problem (G : Ev) : Prop := ∀ v : D, v.canLay0 = true → G [.sh v] = some (.ok (.sh (.bool (probD v))) [.sh v])
/-- an argument that is right -/
def Is_check (G : Ev) : Prop := ∀ w : D, G [.sh (.bool true), .sh w] = some (.ok (.sh .none) [.sh (.bool true), .sh w])
theorem b_is_integer : Is_integer B_is_integer := fun v a b => by
  unfold B_is_integer
  cases v <;> simp [isiD, inR]
theorem b_is_item {I : Ev} (hI : Is_integer I) : Is_item (B_is_item I) := fun v m => by
  unfold B_is_item
  simp [hI v 0 (m - 1)]
theorem b_is_tagged : Is_tagged B_is_tagged := fun v w k hk hv hw => by
  unfold B_is_tagged
  cases v with
  | tuple ds =>
    cases ds with
    | nil => simp [isiD, tagD]; omega
    | cons d ds =>
      cases d with
      | str s =>
        simp at hv
        have e : ((ds.length : Int) + 1 = k) ↔ (ds.length + 1 = k) := by omega
        simp [isiD, tagD, hv, hw, e]
      | _ => simp [isiD, tagD]
  | _ => simp [isiD, tagD]
theorem tagD_iff {v : D} {w : Str} {k : Nat} : tagD v w k = true ↔ ∃ r, v = .tuple (.str w :: r) ∧ r.length + 1 = k := by
  constructor
  · intro h
    unfold tagD at h
    split at h
    · rename_i s r
      simp at h
      exact ⟨r, by rw [h.2], h.1⟩
    · cases h
  · rintro ⟨r, rfl, e⟩
    simp [tagD, e]
theorem b_is_constraint {Tg It In : Ev} (hT : Is_tagged Tg) (hIt : Is_item It) (hIn : Is_integer In) : Is_constraint (B_is_constraint Tg It In) := fun v m hv => by
  unfold B_is_constraint
  have t1 := hT v "within" 4 (by omega) hv lay_wi
  have t2 := hT v "ahead" 3 (by omega) hv lay_ah
  have it : ∀ d : D, It [.sh (.int m), .sh d] = some (.ok (.sh (.bool (inR d 0 (m - 1)))) [.sh (.int m), .sh d]) := fun d => hIt d m
  have iN : ∀ (d : D) (a b : Int), In [.sh d, .sh (.int a), .sh (.int b)] = some (.ok (.sh (.bool (inR d a b))) [.sh d, .sh (.int a), .sh (.int b)]) := hIn
  have no : ∀ w k, tagD v w k = false → ∀ r, v = .tuple (.str w :: r) → r.length + 1 = k → False := fun w k h r e1 e2 => by
    rw [tagD_iff.mpr ⟨r, e1, e2⟩] at h; cases h
  have t1' : Tg [.sh v, .sh (.str "within"), .sh (.int 4)] = some (.ok (.sh (.bool (tagD v "within" 4))) [.sh v, .sh (.str "within"), .sh (.int 4)]) := t1
  have t2' : Tg [.sh v, .sh (.str "ahead"), .sh (.int 3)] = some (.ok (.sh (.bool (tagD v "ahead" 3))) [.sh v, .sh (.str "ahead"), .sh (.int 3)]) := t2
  cases q1 : tagD v "within" 4 with
  | true =>
    obtain ⟨r, rfl, hr⟩ := tagD_iff.mp q1
    match r, hr with
    | [a, b, c], _ =>
      cases b <;> simp [t1', q1, it, iN, conD, wiD, ahD, inR, Bool.and_assoc]
  | false =>
    cases q2 : tagD v "ahead" 3 with
    | true =>
      obtain ⟨r, rfl, hr⟩ := tagD_iff.mp q2
      match r, hr with
      | [a, b], _ =>
        cases a <;> cases b <;> simp [t1', q1, t2', q2, it, iN, conD, wiD, ahD, inR, Bool.and_assoc]
    | false =>
      have z : conD m v = false := by
        cases h : conD m v with
        | false => rfl
        | true =>
          unfold conD at h
          rw [Bool.or_eq_true] at h
          rcases h with h | h
          · unfold wiD at h
            split at h
            · simp at h
              exact (no _ _ q1 _ (by rw [h.1.1.1]) rfl).elim
            · cases h
          · unfold ahD at h
            split at h
            · simp at h
              exact (no _ _ q2 _ (by rw [h.1.1.1]) rfl).elim
            · cases h
      simp [t1', t2', q1, q2, z]
theorem b_is_problem {In Co : Ev} (hIn : Is_integer In) (hC : Is_constraint Co) : Is_problem (B_is_problem In Co) := fun v hv => by
  unfold B_is_problem
  cases v with
  | tuple ds =>
    match ds with
    | [] => simp [isiD, probD]
    | [a] => simp [isiD, probD]
    | a :: b :: c :: l =>
      have e : ((l.length : Int) + 1 + 1 + 1 == 2) = false := by rw [Bool.eq_false_iff]; simp; omega
      simp [isiD, probD, e]
    | [a, b] =>
      simp at hv
      have iN := fun d => hIn d 1 7
      cases a with
      | int m =>
        cases b with
        | tuple cs =>
          by_cases hz : cs.length ≤ 12
          · have hb : cs.length ≤ big := by have hb : big = 16777216 := rfl; omega
            have g := gAll (fa := cFn 2 Co (cA1 (cName 1) (cA1 (cName 3) cA0))) (o := [3]) (src := cIt (cName 2)) (g := gName' 3) (t := yes) (ρ := [.sh (.tuple [.int m, .tuple cs]), .sh (.int m), .sh (.tuple cs), .un]) (ds := cs) (F := conD m) (fun d => [.sh (.tuple [.int m, .tuple cs]), .sh (.int m), .sh (.tuple cs), .sh d]) (by simp [hb]) rfl rfl
              (fun d hd => ⟨rfl, rfl, by
                have hv' := hv.2
                rw [lay_tup, List.all_eq_true] at hv'
                have := hC d m (hv' d hd)
                simp [this], rfl⟩)
            have hz2 : (cs.length : Int) ≤ 12 := by omega
            have e1 : decide (m < 1) = !decide (1 ≤ m) := by rw [Bool.eq_iff_iff]; simp
            have e2 : decide (7 < m) = !decide (m ≤ 7) := by rw [Bool.eq_iff_iff]; simp
            simp [isiD, probD, iN, inR, hz, hz2, g, e1, e2]
          · have hz2 : ¬ (cs.length : Int) ≤ 12 := by omega
            simp [isiD, probD, iN, inR, hz, hz2]
        | _ => simp [isiD, probD, iN]
      | _ => simp [isiD, probD, iN, inR]
  | _ => simp [isiD, probD]
theorem b_check : Is_check B_check := fun w => by
  unfold B_check
  simp
theorem conD_ok {n : Nat} {c : Con} (h : c.ok n) : conD n (cD c) = true := by
  cases c with
  | wi i l hi =>
    obtain ⟨h1, h2, h3, h4⟩ := h
    simp [conD, wiD, ahD, cD, inR]
    omega
  | ah a b =>
    obtain ⟨h1, h2, h3⟩ := h
    simp [conD, wiD, ahD, cD, inR]
    omega
theorem probD_ok {n : Nat} {cs : List Con} (h : Pb n cs) (hl : cs.length ≤ 12) : probD (pD n cs) = true := by
  have h1 := h.n1
  have h7 := h.n7
  have : (cs.map cD).all (conD n) = true := by
    rw [List.all_eq_true]
    intro d hd
    obtain ⟨c, hc, rfl⟩ := List.mem_map.mp hd
    exact conD_ok (h.ok c hc)
  unfold pD csD probD
  simp only [this, List.length_map, Bool.and_true, Bool.and_eq_true, decide_eq_true_eq]
  omega
/-- a problem and a constraint for it pass -/
def Is_check_con (G : Ev) : Prop := ∀ (n : Nat) (cs : List Con) (c : Con), Pb n cs → cs.length ≤ 12 → c.ok n → G [.sh (pD n cs), .sh (cD c)] = some (.ok (.sh .none) [.sh (pD n cs), .sh (cD c)])
theorem b_check_constraint {Ch Pr Co : Ev} (hCh : Is_check Ch) (hP : Is_problem Pr) (hC : Is_constraint Co) : Is_check_con (B_check_constraint Ch Pr Co) := fun n cs c h hl hc => by
  unfold B_check_constraint
  have p1 := hP (pD n cs) (lay_pD n cs)
  rw [probD_ok h hl] at p1
  have c1 := hC (cD c) n (lay_cD c)
  rw [conD_ok hc] at c1
  have k1 := hCh (.str "problem")
  have k2 := hCh (.str "constraint")
  unfold pD at p1 ⊢
  simp [p1, c1, k1, k2]
def Is_place_of (G : Ev) : Prop := ∀ (r : List Nat) (x : Nat), x ∈ r → r.length ≤ 1000 → G [.sh (rD r), .sh (iD x)] = some (.ok (.sh (.int (pos r x + 1))) [.sh (rD r), .sh (iD x)])
theorem ap_index {ρ ρ1 ρ2 : Rho} {fo fe : Ev} {d y : D} {ds : List D} {j : Nat} (h1 : fo ρ = some (.ok (.sh d) ρ1)) (h2 : fe ρ1 = some (.ok (.sh y) ρ2)) (h3 : seqD d = some ds) (h4 : idxD ds y = some j) : cIndex fo fe ρ = some (.ok (.sh (.int (j : Int))) ρ2) := by
  unfold cIndex
  rw [h1]
  show (match seqD d with | none => none | some ds => bdD (fe ρ1) _) = _
  rw [h3]
  dsimp only
  rw [h2]
  show (match idxD ds y with | some j => some (Oc.ok (Sl.sh (.int (j : Int))) ρ2) | none => none) = _
  rw [h4]
theorem b_place_of : Is_place_of B_place_of := fun r x hx hl => by
  unfold B_place_of
  have e := ap_index (fo := cName 0) (fe := cName 1) (ρ := [.sh (rD r), .sh (iD x)]) (ρ1 := [.sh (rD r), .sh (iD x)]) (ρ2 := [.sh (rD r), .sh (iD x)]) (d := rD r) (y := iD x) rfl rfl rfl (idx_nat hx hl)
  simp [e, pos]
def Is_holds (G : Ev) : Prop := ∀ (n : Nat) (c : Con) (r : List Nat), c.ok n → n ≤ 7 → IsR n r → G [.sh (cD c), .sh (rD r)] = some (.ok (.sh (.bool (hold r c))) [.sh (cD c), .sh (rD r)])
theorem b_holds {P : Ev} (hP : Is_place_of P) : Is_holds (B_holds P) := fun n c r hc hn hr => by
  unfold B_holds
  have hl : r.length ≤ 1000 := by rw [hr.len]; omega
  cases c with
  | wi i l h =>
    have p := hP r i (hr.mem.mpr hc.1) hl
    simp [cD, p, lay_wi, hold]
    try (by_cases q : l ≤ pos r i + 1 <;> simp [q])
  | ah a b =>
    have p := hP r a (hr.mem.mpr hc.1) hl
    have q := hP r b (hr.mem.mpr hc.2.1) hl
    simp [cD, p, q, lay_wi, lay_ah, hold]
    try omega
def Is_is_good (G : Ev) : Prop := ∀ (n : Nat) (cs : List Con) (r : List Nat), Pb n cs → IsR n r → G [.sh (pD n cs), .sh (rD r)] = some (.ok (.sh (.bool (good cs r))) [.sh (pD n cs), .sh (rD r)])
theorem b_is_good {Ho : Ev} (hH : Is_holds Ho) : Is_is_good (B_is_good Ho) := fun n cs r h hr => by
  unfold B_is_good
  have hb : (cs.map cD).length ≤ big := by have hb : big = 16777216 := rfl; have := h.len; rw [List.length_map]; omega
  have g := gAll (fa := cFn 2 Ho (cA1 (cName 2) (cA1 (cName 1) cA0))) (o := [2]) (src := cIt (cIxN 0 (cK (.int 1)))) (g := gName' 2) (t := yes) (ρ := [.sh (pD n cs), .sh (rD r), .un]) (ds := cs.map cD) (F := fun d => match (Ho [.sh d, .sh (rD r)]) with | some (.ok (.sh (.bool b)) _) => b | _ => false) (fun d => [.sh (pD n cs), .sh (rD r), .sh d])
    (by simp [pD, csD] ; simpa using hb) rfl rfl
    (fun d hd => ⟨rfl, rfl, by
      obtain ⟨c, hc, rfl⟩ := List.mem_map.mp hd
      have := hH n c r (h.ok c hc) h.n7 hr
      simp [this], rfl⟩)
  have e : ((cs.map cD).all fun d => match (Ho [.sh d, .sh (rD r)]) with | some (.ok (.sh (.bool b)) _) => b | _ => false) = good cs r := by
    rw [List.all_map]
    unfold good
    rw [Bool.eq_iff_iff, List.all_eq_true, List.all_eq_true]
    constructor
    · intro q c hc
      have := q c hc
      simp only [Function.comp, hH n c r (h.ok c hc) h.n7 hr] at this
      exact this
    · intro q c hc
      simp only [Function.comp, hH n c r (h.ok c hc) h.n7 hr]
      exact q c hc
  rw [e] at g
  simp [g]
def Is_added (G : Ev) : Prop := ∀ (n : Nat) (cs : List Con) (c : Con), cs.length ≤ 1000 → G [.sh (pD n cs), .sh (cD c)] = some (.ok (.sh (pD n (cs ++ [c]))) [.sh (pD n cs), .sh (cD c)])
theorem b_added : Is_added B_added := fun n cs c hl => by
  unfold B_added
  have hb : big = 16777216 := rfl
  have e1 : cs.length + 1 ≤ big := by omega
  simp [pD, csD, hb]
  omega
theorem Pb.add {n : Nat} {cs : List Con} {c : Con} (h : Pb n cs) (hc : c.ok n) (hl : cs.length < 100) : Pb n (cs ++ [c]) := ⟨h.n1, h.n7, fun d hd => by
  rcases List.mem_append.mp hd with hd | hd
  · exact h.ok d hd
  · rw [List.mem_singleton.mp hd]; exact hc, by rw [List.length_append, List.length_singleton]; omega⟩
end Lb
set_option linter.all false
namespace Sc
def behL (n : Nat) (cs : List Con) (x : Nat) : List Nat := (List.range n).filter fun o => decide (Con.ah x o ∈ cs)
theorem mem_behL {n : Nat} {cs : List Con} {x o : Nat} : o ∈ behL n cs x ↔ o < n ∧ Con.ah x o ∈ cs := by simp [behL]
def lastN (c : List Nat) : Nat := c.getLastD 0
def growC (n : Nat) (cs : List Con) (L : List (List Nat)) : List (List Nat) := L.flatMap fun c => (behL n cs (lastN c)).map fun x => c ++ [x]
def lev (n : Nat) (cs : List Con) : Nat → List (List Nat)
  | 0 => (List.range n).map fun x => [x]
  | k + 1 => growC n cs (lev n cs k)
def closedB (c : List Nat) : Bool := decide (c.headD 0 = lastN c)
def clo (L : List (List Nat)) : List (List Nat) := L.filter closedB
theorem nil_or_snoc {α : Type} (l : List α) : l = [] ∨ ∃ u w, l = u ++ [w] := by
  rcases List.eq_nil_or_concat l with h | ⟨u, w, h⟩
  · exact .inl h
  · exact .inr ⟨u, w, by rw [h, List.concat_eq_append]⟩
theorem lastN_snoc (c : List Nat) (x : Nat) : lastN (c ++ [x]) = x := by simp [lastN]
section
variable {n : Nat} {cs : List Con}
theorem mem_lev (hok : ∀ c ∈ cs, c.ok n) : ∀ {m : Nat} {c : List Nat}, c ∈ lev n cs m ↔ c.length = m + 1 ∧ Chn (stepsOf cs) c ∧ ∀ x ∈ c, x < n
  | 0, c => by
    simp only [lev, List.mem_map, List.mem_range]
    constructor
    · rintro ⟨x, hx, rfl⟩
      exact ⟨rfl, trivial, fun y hy => by rw [List.mem_singleton.mp hy]; exact hx⟩
    · rintro ⟨h1, _, h3⟩
      match c, h1 with
      | [x], _ => exact ⟨x, h3 x (by simp), rfl⟩
  | m + 1, c => by
    have ih := @mem_lev hok m
    simp only [lev, growC, List.mem_flatMap, List.mem_map, mem_behL]
    constructor
    · rintro ⟨c', hc', x, ⟨hx, hah⟩, rfl⟩
      obtain ⟨h1, h2, h3⟩ := ih.mp hc'
      refine ⟨by rw [List.length_append, h1]; rfl, ?_, fun y hy => ?_⟩
      · rcases nil_or_snoc c' with rfl | ⟨u, w, rfl⟩
        · simp at h1
        · rw [lastN_snoc] at hah
          have := chn_snoc h2 (mem_steps.mpr hah)
          simpa using this
      · rcases List.mem_append.mp hy with hy | hy
        · exact h3 y hy
        · rw [List.mem_singleton.mp hy]; exact hx
    · rintro ⟨h1, h2, h3⟩
      rcases nil_or_snoc c with rfl | ⟨u, w, rfl⟩
      · simp at h1
      · have hu : u.length = m + 1 := by simpa using h1
        rcases nil_or_snoc u with rfl | ⟨v, z, rfl⟩
        · simp at hu
        · have h2' : Chn (stepsOf cs) (v ++ [z, w]) := by simpa using h2
          obtain ⟨q1, q2⟩ := chn_of_snoc h2'
          refine ⟨v ++ [z], ih.mpr ⟨hu, q1, fun y hy => h3 y (List.mem_append_left _ hy)⟩, w, ⟨h3 w (by simp), ?_⟩, by simp⟩
          rw [lastN_snoc]
          exact mem_steps.mp q2
theorem closed_iff {c : List Nat} (h : 2 ≤ c.length) : closedB c = true ↔ ∃ x u, c = x :: (u ++ [x]) := by
  unfold closedB
  rw [decide_eq_true_eq]
  constructor
  · intro e
    match c, h with
    | x :: r, h =>
      rcases nil_or_snoc r with rfl | ⟨u, w, rfl⟩
      · simp at h
      · rw [show x :: (u ++ [w]) = (x :: u) ++ [w] from rfl, lastN_snoc] at e
        simp at e
        exact ⟨x, u, by rw [e]⟩
  · rintro ⟨x, u, rfl⟩
    rw [show x :: (u ++ [x]) = (x :: u) ++ [x] from rfl, lastN_snoc]
    simp
/-- no chain of at most m steps comes back -/
def NoC (n : Nat) (cs : List Con) (m : Nat) : Prop := ∀ i, 1 ≤ i → i ≤ m → clo (lev n cs i) = []
theorem noC_chn (hok : ∀ c ∈ cs, c.ok n) {m : Nat} (h : NoC n cs m) {x : Nat} {u : List Nat} (hc : Chn (stepsOf cs) (x :: (u ++ [x]))) : m < u.length + 1 := by
  apply Classical.byContradiction
  intro hm
  have hin : ∀ y ∈ x :: (u ++ [x]), y < n := fun y hy => chn_lt (steps_in hok) hc (by simp) hy
  have hl : x :: (u ++ [x]) ∈ lev n cs (u.length + 1) := (mem_lev hok).mpr ⟨by simp, hc, hin⟩
  have := h (u.length + 1) (by omega) (by omega)
  have h2 : x :: (u ++ [x]) ∈ clo (lev n cs (u.length + 1)) := List.mem_filter.mpr ⟨hl, (closed_iff (by simp)).mpr ⟨x, u, rfl⟩⟩
  rw [this] at h2
  cases h2
theorem noC_nodup (hok : ∀ c ∈ cs, c.ok n) {m : Nat} (h : NoC n cs m) : ∀ {c : List Nat}, Chn (stepsOf cs) c → c.length ≤ m + 1 → c.Nodup
  | [], _, _ => List.nodup_nil
  | x :: r, hc, hl => by
    refine List.nodup_cons.mpr ⟨fun hx => ?_, noC_nodup hok h (chn_app (u := [x]) hc).2 (by simp at hl; omega)⟩
    obtain ⟨u, v, rfl⟩ := List.append_of_mem hx
    have hc' : Chn (stepsOf cs) ((x :: (u ++ [x])) ++ v) := by simpa using hc
    have := noC_chn hok h (chn_app hc').1
    simp at hl
    omega
theorem lev_empty (hok : ∀ c ∈ cs, c.ok n) (h : NoC n cs n) : lev n cs n = [] := by
  rcases hl : lev n cs n with _ | ⟨c, r⟩
  · rfl
  · exfalso
    obtain ⟨h1, h2, h3⟩ := (mem_lev hok (m := n) (c := c)).mp (by rw [hl]; exact List.mem_cons_self)
    have hn := noC_nodup hok h h2 (by omega)
    have := hn.length_le_of_subset (l₂ := List.range n) fun x hx => List.mem_range.mpr (h3 x hx)
    rw [List.length_range] at this
    omega
theorem acy_of_empty (hok : ∀ c ∈ cs, c.ok n) {m : Nat} (h : NoC n cs m) (he : lev n cs m = []) : Acy (stepsOf cs) := by
  intro x u hc
  have hm := noC_chn hok h hc
  have hlen : (x :: (u ++ [x])).length = u.length + 2 := by simp
  have hin : ∀ y ∈ x :: (u ++ [x]), y < n := fun y hy => chn_lt (steps_in hok) hc (by simp) hy
  have e : (x :: (u ++ [x])) = (x :: (u ++ [x])).take (m + 1) ++ (x :: (u ++ [x])).drop (m + 1) := (List.take_append_drop _ _).symm
  have hp : (x :: (u ++ [x])).take (m + 1) ∈ lev n cs m := by
    refine (mem_lev hok).mpr ⟨by rw [List.length_take, hlen]; omega, ?_, fun y hy => hin y (List.mem_of_mem_take hy)⟩
    rw [e] at hc
    exact (chn_app hc).1
  rw [he] at hp
  cases hp
/-- the told cycle -/
def Told (n : Nat) (cs : List Con) (c : List Nat) : Prop := ∃ m, NoC n cs m ∧ (clo (lev n cs (m + 1))).head? = some c
theorem told_cyc (hok : ∀ c ∈ cs, c.ok n) {c : List Nat} (h : Told n cs c) : ∃ x u, c = x :: (u ++ [x]) ∧ Chn (stepsOf cs) c := by
  obtain ⟨m, _, h2⟩ := h
  obtain ⟨q1, q2⟩ := List.mem_filter.mp (List.mem_of_mem_head? h2)
  obtain ⟨p1, p2, _⟩ := (mem_lev hok).mp q1
  obtain ⟨x, u, rfl⟩ := (closed_iff (by omega)).mp q2
  exact ⟨x, u, rfl, p2⟩
theorem told_not_acy (hok : ∀ c ∈ cs, c.ok n) {c : List Nat} (h : Told n cs c) : ¬ Acy (stepsOf cs) := fun ha => by
  obtain ⟨x, u, rfl, hc⟩ := told_cyc hok h
  exact ha x u hc
theorem flat_len {α β : Type} {f : α → List β} {k : Nat} : ∀ {l : List α}, (∀ x ∈ l, (f x).length ≤ k) → (l.flatMap f).length ≤ l.length * k
  | [], _ => by simp
  | x :: l, h => by
    rw [List.flatMap_cons, List.length_append, List.length_cons, Nat.succ_mul]
    have h1 := h x List.mem_cons_self
    have h2 := flat_len (l := l) fun y hy => h y (List.mem_cons_of_mem _ hy)
    omega
theorem lev_len : ∀ m : Nat, (lev n cs m).length ≤ n ^ (m + 1)
  | 0 => by simp [lev]
  | m + 1 => by
    have ih := lev_len m
    have : (lev n cs (m + 1)).length ≤ (lev n cs m).length * n := flat_len fun c _ => by
      rw [List.length_map]
      unfold behL
      exact Nat.le_trans (List.length_filter_le _ _) (by simp)
    rw [Nat.pow_succ]
    exact Nat.le_trans this (Nat.mul_le_mul_right n ih)
theorem lev_big (h7 : n ≤ 7) {m : Nat} (hm : m ≤ 7) : (lev n cs m).length ≤ 5764801 := by
  refine Nat.le_trans (lev_len m) ?_
  refine Nat.le_trans (Nat.pow_le_pow_left h7 _) ?_
  refine Nat.le_trans (Nat.pow_le_pow_right (by omega) (show m + 1 ≤ 8 by omega)) (by decide)
end
end Sc
set_option Elab.async false
set_option linter.all false
set_option maxRecDepth 100000
set_option maxHeartbeats 2000000
namespace Lb
open PySem PySem.Spec PyProof.Rows L2 Rk Sc
def B_behind : Ev := defSem false 2 3 (sSeq (sRet (cLc [2] (cRng1 (cA1 (cIxN 0 (cK (.int 0))) cA0)) (gName' 2) (cT (cBin (sIn false) (cTup (cA1 (cK (.str "ahead")) (cA1 (cName 1) (cA1 (cName 2) cA0)))) (cIxN 0 (cK (.int 1))))) (cName 2))) sNil)
def B_find_cycle (g_behind : Ev) : Ev := defSem false 1 6 (sSeq (sSet 1 (cLc [4] (cRng1 (cA1 (cIxN 0 (cK (.int 0))) cA0)) (gName' 4) yes (cFn 2 g_behind (cA1 (cName 0) (cA1 (cName 4) cA0))))) (sSeq (sSet 2 (cLc [4] (cRng1 (cA1 (cIxN 0 (cK (.int 0))) cA0)) (gName' 4) yes (cTup (cA1 (cName 4) cA0)))) (sSeq (sWhile wFuel (cT (cName 2)) (sSeq (sSet 2 (cLc2 [5, 4] [4] (cIt (cName 2)) (gName' 5) yes (cIt (cIxN 1 (cIxN 5 (cUn sNeg (cK (.int 1)))))) (gName' 4) yes (cBin sAdd (cName 5) (cTup (cA1 (cName 4) cA0))))) (sSeq (sSet 3 (cLc [5] (cIt (cName 2)) (gName' 5) (cT (cBin sEq (cIxN 5 (cK (.int 0))) (cIxN 5 (cUn sNeg (cK (.int 1)))))) (cName 5))) (sSeq (sIf (cT (cName 3)) (sSeq (sRet (cIxN 3 (cK (.int 0)))) sNil) sNil) sNil)))) (sSeq (sRet (cK .none)) sNil))))
abbrev lD (r : List Nat) : D := .list (r.map iD)
def Is_behind (G : Ev) : Prop := ∀ (n : Nat) (cs : List Con) (x : Nat), Pb n cs → G [.sh (pD n cs), .sh (iD x)] = some (.ok (.ow ((behL n cs x).map iD)) [.sh (pD n cs), .sh (iD x)])
theorem b_behind : Is_behind B_behind := fun n cs x h => by
  unfold B_behind
  have h7 := h.n7
  have hr : rngOk (n : Int) = true := rngOk_nat (by omega)
  have e := lcMap (enc := iD) (o := [2]) (g := gName' 2) (t := cT (cBin (sIn false) (cTup (cA1 (cK (.str "ahead")) (cA1 (cName 1) (cA1 (cName 2) cA0)))) (cIxN 0 (cK (.int 1))))) (fa := cName 2) (ρw := [.sh (pD n cs), .sh (iD x), .un]) (fun o => decide (Con.ah x o ∈ cs)) iD (fun o => [.sh (pD n cs), .sh (iD x), .sh (iD o)]) (List.range n) fun o ho => by
    refine ⟨rfl, ?_, fun _ => ⟨_, rfl, rfl⟩, rfl⟩
    have hin : sIn false (.tuple [.str "ahead", iD x, iD o]) (csD cs) = some (bl (decide (Con.ah x o ∈ cs))) := in_cs rfl
    have hb : (3 : Nat) ≤ big := by decide
    simp [pD, hb, hin]
  rw [← rng0] at e
  simp [pD] at e ⊢
  simp [hr, e]
  rfl
theorem lc2Map {α β : Type} {enc : α → D} {encb : β → D} {o o1 : List Nat} {tg tg1 : EvG} {t t1 : EvT} {src1 : EvA} {fe : Ev} {ρw : Rho} (L : α → List β) (F : α → β → D) (R ρe : α → Rho) : ∀ xs : List α,
    (∀ x ∈ xs, tg (enc x) ρw = some (R x) ∧ t (R x) = some (.ok true (R x)) ∧ src1 (R x) = some (.ok ((L x).map encb) (R x)) ∧ lcGo o1 tg1 t1 fe ((L x).map encb) (wipeR (R x) o1) = some (.ok ((L x).map (F x)) (ρe x)) ∧ wipeR (ρe x) o = ρw) →
    lcGo2 o o1 tg t src1 tg1 t1 fe (xs.map enc) ρw = some (.ok (xs.flatMap fun x => (L x).map (F x)) ρw)
  | [], _ => rfl
  | x :: xs, h => by
    obtain ⟨h1, h2, h3, h4, h5⟩ := h x List.mem_cons_self
    have ih := lc2Map L F R ρe xs fun y m => h y (List.mem_cons_of_mem _ m)
    rw [List.map_cons]
    unfold lcGo2
    simp only [h1, h2, h3, h4, h5, ih]
    rfl
def lc2K (ρ1 : Rho) (o : List Nat) : Option (Oc (List D)) → Option (Oc Sl)
  | some (.ok ys ρe) => if ys.length ≤ big then some (.ok (.ow ys) (backR ρ1 ρe o)) else none
  | _ => none
@[simp] theorem lc2K_ok {ys : List D} {o : List Nat} {ρ ρ1 : Rho} : lc2K ρ o (some (.ok ys ρ1)) = if ys.length ≤ big then some (.ok (.ow ys) (backR ρ ρ1 o)) else none := rfl
def lc2K1 (o o1 : List Nat) (g : EvG) (t : EvT) (src1 : EvA) (g1 : EvG) (t1 : EvT) (fe : Ev) (x : Option (Oc (List D))) : Option (Oc Sl) := bdO x fun a ρ => if calmO ρ o then lc2K ρ o (lcGo2 o o1 g t src1 g1 t1 fe a (wipeR ρ o)) else none
@[simp] theorem lc2K1_ok {a : (List D)} {ρ : Rho} (o o1 : List Nat) (g : EvG) (t : EvT) (src1 : EvA) (g1 : EvG) (t1 : EvT) (fe : Ev) : lc2K1 o o1 g t src1 g1 t1 fe (some (.ok a ρ)) = if calmO ρ o then lc2K ρ o (lcGo2 o o1 g t src1 g1 t1 fe a (wipeR ρ o)) else none := rfl
@[simp] theorem lc2K1_if (o o1 : List Nat) (g : EvG) (t : EvT) (src1 : EvA) (g1 : EvG) (t1 : EvT) (fe : Ev) {c : Prop} [Decidable c] {u v : Option (Oc (List D))} : lc2K1 o o1 g t src1 g1 t1 fe (if c then u else v) = if c then lc2K1 o o1 g t src1 g1 t1 fe u else lc2K1 o o1 g t src1 g1 t1 fe v := by split <;> rfl
@[simp] theorem ap_cLc2 {o o1 : List Nat} {src src1 : EvA} {g g1 : EvG} {t t1 : EvT} {fa : Ev} {ρ : Rho} : cLc2 o o1 src g t src1 g1 t1 fa ρ = lc2K1 o o1 g t src1 g1 t1 fa (src ρ) := by
  unfold cLc2 lc2K1; congr 1
/-- what find_cycle tells -/
def Is_find_cycle (G : Ev) : Prop := ∀ (n : Nat) (cs : List Con), Pb n cs → (G [.sh (pD n cs)] = some (.ok (.sh .none) [.sh (pD n cs)]) ∧ Acy (stepsOf cs)) ∨ ∃ c, G [.sh (pD n cs)] = some (.ok (.sh (rD c)) [.sh (pD n cs)]) ∧ Told n cs c
section
variable {n : Nat} {cs : List Con}
def folD (n : Nat) (cs : List Con) : List D := (List.range n).map fun x => lD (behL n cs x)
/-- chains grown by one item -/
theorem grow_ev (h : Pb n cs) (L : List (List Nat)) (hL : ∀ c ∈ L, c ≠ [] ∧ (∀ x ∈ c, x < n) ∧ c.length ≤ 20) (s2 s3 : Sl) (o4 o5 : Option D) :
    lcGo2 [5, 4] [4] (gName' 5) yes (cIt (cIxN 1 (cIxN 5 (cUn sNeg (cK (.int 1)))))) (gName' 4) yes (cBin sAdd (cName 5) (cTup (cA1 (cName 4) cA0))) (L.map rD) [.sh (pD n cs), .ow (folD n cs), s2, s3, .un, .un] = some (.ok ((growC n cs L).map rD) [.sh (pD n cs), .ow (folD n cs), s2, s3, .un, .un]) := by
  have e := lc2Map (enc := rD) (encb := iD) (o := [5, 4]) (o1 := [4]) (tg := gName' 5) (t := yes) (src1 := cIt (cIxN 1 (cIxN 5 (cUn sNeg (cK (.int 1)))))) (tg1 := gName' 4) (t1 := yes) (fe := cBin sAdd (cName 5) (cTup (cA1 (cName 4) cA0))) (ρw := [.sh (pD n cs), .ow (folD n cs), s2, s3, .un, .un])
    (fun c => behL n cs (lastN c)) (fun c x => rD (c ++ [x])) (fun c => [.sh (pD n cs), .ow (folD n cs), s2, s3, .un, .sh (rD c)]) (fun c => [.sh (pD n cs), .ow (folD n cs), s2, s3, .un, .sh (rD c)]) L fun c hc => by
    obtain ⟨h1, h2, h3⟩ := hL c hc
    refine ⟨rfl, rfl, ?_, ?_, rfl⟩
    · have hlast : (c.map iD).getLast? = some (iD (lastN c)) := by
        rw [List.getLast?_map]
        unfold lastN
        rw [List.getLastD_eq_getLast?]
        cases q : c.getLast? with
        | none => exact absurd (List.getLast?_eq_none_iff.mp q) h1
        | some x => rfl
      have hx : lastN c < n := by
        refine h2 _ ?_
        unfold lastN
        rw [List.getLastD_eq_getLast?]
        cases q : c.getLast? with
        | none => exact absurd (List.getLast?_eq_none_iff.mp q) h1
        | some x => exact List.mem_of_getLast? q
      have hf : (folD n cs)[lastN c]? = some (lD (behL n cs (lastN c))) := by
        unfold folD
        rw [List.getElem?_map, List.getElem?_range hx]
        rfl
      have hb : (behL n cs (lastN c)).length ≤ big := by
        have : (behL n cs (lastN c)).length ≤ n := by unfold behL; exact Nat.le_trans (List.length_filter_le _ _) (by simp)
        have hb : big = 16777216 := rfl
        have := h.n7
        omega
      simp [rD, hlast, hf, hb]
    · refine lcAll (enc := iD) (fun x => rD (c ++ [x])) (fun x => [.sh (pD n cs), .ow (folD n cs), s2, s3, .sh (iD x), .sh (rD c)]) _ fun x _ => ⟨rfl, ?_, rfl⟩
      have hb : big = 16777216 := rfl
      have e1 : (1 : Nat) ≤ big := by decide
      have e2 : c.length + 1 ≤ big := by omega
      exact ⟨.sh (rD (c ++ [x])), by simp [rD, e1, e2], rfl⟩
  rw [e]
  unfold growC
  rw [List.map_flatMap]
  simp only [List.map_map]
  rfl
theorem clo_ev (L : List (List Nat)) (hL : ∀ c ∈ L, c ≠ []) (s1 s2 s3 s4 : Sl) (n : Nat) (cs : List Con) :
    lcGo [5] (gName' 5) (cT (cBin sEq (cIxN 5 (cK (.int 0))) (cIxN 5 (cUn sNeg (cK (.int 1)))))) (cName 5) (L.map rD) [.sh (pD n cs), s1, s2, s3, s4, .un] = some (.ok ((clo L).map rD) [.sh (pD n cs), s1, s2, s3, s4, .un]) := by
  refine lcMap (enc := rD) closedB rD (fun c => [.sh (pD n cs), s1, s2, s3, s4, .sh (rD c)]) L fun c hc => ⟨rfl, ?_, fun _ => ⟨_, rfl, rfl⟩, rfl⟩
  have h1 := hL c hc
  have hlast : (c.map iD).getLast? = some (iD (lastN c)) := by
    rw [List.getLast?_map]
    unfold lastN
    rw [List.getLastD_eq_getLast?]
    cases q : c.getLast? with
    | none => exact absurd (List.getLast?_eq_none_iff.mp q) h1
    | some x => rfl
  have hhead : (c.map iD)[0]? = some (iD (c.headD 0)) := by
    cases c with
    | nil => exact absurd rfl h1
    | cons x r => rfl
  have e : ((c.headD 0 : Int) == (lastN c : Int)) = closedB c := by
    unfold closedB
    rw [Bool.eq_iff_iff]; simp; omega
  generalize c.headD 0 = a at hhead e
  simp [rD, hlast, hhead, e]
theorem lev_ne (hok : ∀ c ∈ cs, c.ok n) {m : Nat} : ∀ c ∈ lev n cs m, c ≠ [] ∧ (∀ x ∈ c, x < n) ∧ c.length = m + 1 := fun c hc => by
  obtain ⟨h1, _, h3⟩ := (mem_lev hok).mp hc
  refine ⟨fun z => ?_, h3, h1⟩
  rw [z] at h1
  simp at h1
def body_fc : EvS := sSeq (sSet 2 (cLc2 [5, 4] [4] (cIt (cName 2)) (gName' 5) yes (cIt (cIxN 1 (cIxN 5 (cUn sNeg (cK (.int 1)))))) (gName' 4) yes (cBin sAdd (cName 5) (cTup (cA1 (cName 4) cA0))))) (sSeq (sSet 3 (cLc [5] (cIt (cName 2)) (gName' 5) (cT (cBin sEq (cIxN 5 (cK (.int 0))) (cIxN 5 (cUn sNeg (cK (.int 1)))))) (cName 5))) (sSeq (sIf (cT (cName 3)) (sSeq (sRet (cIxN 3 (cK (.int 0)))) sNil) sNil) sNil))
/-- the loop's state at a level -/
def Fst (n : Nat) (cs : List Con) (m : Nat) (ρ : Rho) : Prop := (∃ s3, (s3 = .un ∨ ∃ ds, s3 = .ow ds ∨ s3 = .sh (.list ds)) ∧ (ρ = [.sh (pD n cs), .ow (folD n cs), .ow ((lev n cs m).map rD), s3, .un, .un] ∨ ρ = [.sh (pD n cs), .ow (folD n cs), .sh (.list ((lev n cs m).map rD)), s3, .un, .un]))
theorem step_fc (h : Pb n cs) {m : Nat} (hm : m < 7) {ρ : Rho} (hρ : Fst n cs m ρ) : (clo (lev n cs (m + 1)) = [] → ∃ ρ', body_fc ρ = some (.nx ρ') ∧ Fst n cs (m + 1) ρ') ∧ ∀ c, (clo (lev n cs (m + 1))).head? = some c → ∃ ρ', body_fc ρ = some (.rt (.sh (rD c)) ρ') := by
  have b1 := lev_big (n := n) (cs := cs) h.n7 (m := m) (by omega)
  have b2 := lev_big (n := n) (cs := cs) h.n7 (m := m + 1) (by omega)
  have hb : big = 16777216 := rfl
  have e1 : (lev n cs m).length ≤ big := by omega
  have e2 : (growC n cs (lev n cs m)).length ≤ big := by have : (lev n cs (m + 1)).length = (growC n cs (lev n cs m)).length := rfl; omega
  have hl := lev_ne (m := m) h.ok
  have hl2 := lev_ne (m := m + 1) h.ok
  obtain ⟨s3, hs3, hρ⟩ := hρ
  have hc3 : ∃ o : Option D, True := ⟨none, trivial⟩
  have g := fun s2 s3 => grow_ev h (lev n cs m) (fun c hc => ⟨(hl c hc).1, (hl c hc).2.1, by have := (hl c hc).2.2; omega⟩) s2 s3 none none
  have k := fun s1 s2 s3 s4 => clo_ev (lev n cs (m + 1)) (fun c hc => (hl2 c hc).1) s1 s2 s3 s4 n cs
  have gl : growC n cs (lev n cs m) = lev n cs (m + 1) := rfl
  constructor
  · intro hc
    refine ⟨[.sh (pD n cs), .ow (folD n cs), .sh (.list ((lev n cs (m + 1)).map rD)), .sh (.list []), .un, .un], ?_, .sh (.list []), .inr ⟨[], .inr rfl⟩, .inr rfl⟩
    rcases hρ with rfl | rfl <;> (unfold body_fc; simp [e1, e2, g, k, hc]; simp [gl, b2, hb, k, hc]; try omega)
  · intro c hc
    have hne : (clo (lev n cs (m + 1))) ≠ [] := fun z => by rw [z] at hc; cases hc
    obtain ⟨r, hr⟩ : ∃ r, clo (lev n cs (m + 1)) = c :: r := by
      cases q : clo (lev n cs (m + 1)) with
      | nil => exact absurd q hne
      | cons x r => rw [q] at hc; cases hc; exact ⟨r, rfl⟩
    refine ⟨[.sh (pD n cs), .ow (folD n cs), .sh (.list ((lev n cs (m + 1)).map rD)), .sh (.list ((c :: r).map rD)), .un, .un], ?_⟩
    rcases hρ with rfl | rfl <;> (unfold body_fc; simp [e1, e2, g, k, hr]; simp [gl, b2, hb, k, hr]; try omega)
theorem loop_fc (h : Pb n cs) : ∀ (j m fuel : Nat), m + j = n → NoC n cs m → j + 1 ≤ fuel → ∀ ρ, Fst n cs m ρ →
    (∃ ρ', sWhile fuel (cT (cName 2)) body_fc ρ = some (.nx ρ') ∧ (∃ r, ρ' = .sh (pD n cs) :: r) ∧ Acy (stepsOf cs)) ∨ ∃ c ρ', sWhile fuel (cT (cName 2)) body_fc ρ = some (.rt (.sh (rD c)) ρ') ∧ Told n cs c := by
  intro j
  induction j with
  | zero =>
    intro m fuel hm hN hf ρ hρ
    have hmn : m = n := by omega
    subst hmn
    have he := lev_empty h.ok hN
    obtain ⟨fuel, rfl⟩ : ∃ f, fuel = f + 1 := ⟨fuel - 1, by omega⟩
    obtain ⟨s3, _, hρ⟩ := hρ
    refine .inl ⟨[.sh (pD m cs), .ow (folD m cs), .sh (.list []), s3, .un, .un], ?_, ⟨_, rfl⟩, acy_of_empty h.ok hN he⟩
    rw [he] at hρ
    rcases hρ with rfl | rfl <;> (unfold sWhile; simp; rfl)
  | succ j ih =>
    intro m fuel hm hN hf ρ hρ
    obtain ⟨fuel, rfl⟩ : ∃ f, fuel = f + 1 := ⟨fuel - 1, by omega⟩
    have h7 := h.n7
    cases hl : lev n cs m with
    | nil =>
      obtain ⟨s3, _, hρ⟩ := hρ
      refine .inl ⟨[.sh (pD n cs), .ow (folD n cs), .sh (.list []), s3, .un, .un], ?_, ⟨_, rfl⟩, acy_of_empty h.ok hN hl⟩
      rw [hl] at hρ
      rcases hρ with rfl | rfl <;> (unfold sWhile; simp; rfl)
    | cons c0 cr =>
      -- the test
      have ht : ∃ ρ1, (cT (cName 2)) ρ = some (.ok true ρ1) ∧ Fst n cs m ρ1 := by
        obtain ⟨s3, h3, hρ⟩ := hρ
        refine ⟨[.sh (pD n cs), .ow (folD n cs), .sh (.list ((lev n cs m).map rD)), s3, .un, .un], ?_, s3, h3, .inr rfl⟩
        rcases hρ with rfl | rfl <;> simp [hl]
      obtain ⟨ρ1, t1, f1⟩ := ht
      obtain ⟨st1, st2⟩ := step_fc h (m := m) (by omega) f1
      have hun : ∀ o, body_fc ρ1 = some o → sWhile (fuel + 1) (cT (cName 2)) body_fc ρ = (match (some o : Option So) with
        | some (.nx ρ2) => sWhile fuel (cT (cName 2)) body_fc ρ2
        | some (.ct ρ2) => sWhile fuel (cT (cName 2)) body_fc ρ2
        | some (.bk ρ2) => some (.nx ρ2)
        | o => o) := fun o ho => by
        show bdS ((cT (cName 2)) ρ) _ = _
        rw [t1]
        show (match body_fc ρ1 with
          | some (.nx ρ2) => sWhile fuel (cT (cName 2)) body_fc ρ2
          | some (.ct ρ2) => sWhile fuel (cT (cName 2)) body_fc ρ2
          | some (.bk ρ2) => some (.nx ρ2)
          | o => o) = _
        rw [ho]
      cases hc : clo (lev n cs (m + 1)) with
      | nil =>
        obtain ⟨ρ2, b2, f2⟩ := st1 hc
        have hN' : NoC n cs (m + 1) := fun i h1 h2 => by
          by_cases q : i = m + 1
          · rw [q]; exact hc
          · exact hN i h1 (by omega)
        rw [hun _ b2]
        exact ih (m + 1) fuel (by omega) hN' (by omega) ρ2 f2
      | cons c r =>
        obtain ⟨ρ2, b2⟩ := st2 c (by rw [hc]; rfl)
        rw [hun _ b2]
        exact .inr ⟨c, ρ2, rfl, m, hN, by rw [hc]; rfl⟩
theorem b_find_cycle {Be : Ev} (hB : Is_behind Be) : Is_find_cycle (B_find_cycle Be) := fun n cs h => by
  have h7 := h.n7
  have hr : rngOk (n : Int) = true := rngOk_nat (by omega)
  have e1 := lcAll (enc := iD) (o := [4]) (g := gName' 4) (fa := cFn 2 Be (cA1 (cName 0) (cA1 (cName 4) cA0))) (ρw := [.sh (pD n cs), .un, .un, .un, .un, .un]) (fun x => lD (behL n cs x)) (fun x => [.sh (pD n cs), .un, .un, .un, .sh (iD x), .un]) (List.range n) fun x _ => ⟨rfl, ⟨.ow ((behL n cs x).map iD), by simp [hB n cs x h], rfl⟩, rfl⟩
  have e2 := lcAll (enc := iD) (o := [4]) (g := gName' 4) (fa := cTup (cA1 (cName 4) cA0)) (ρw := [.sh (pD n cs), .ow (folD n cs), .un, .un, .un, .un]) (fun x => rD [x]) (fun x => [.sh (pD n cs), .ow (folD n cs), .un, .un, .sh (iD x), .un]) (List.range n) fun x _ => ⟨rfl, ⟨.sh (rD [x]), by simp [rD, show (1 : Nat) ≤ big by decide], rfl⟩, rfl⟩
  rw [← rng0] at e1 e2
  have hlev : ((List.range n).map fun x => rD [x]) = (lev n cs 0).map rD := by
    show _ = ((List.range n).map fun x => [x]).map rD
    rw [List.map_map]
    rfl
  rw [hlev] at e2
  have lp := loop_fc h n 0 wFuel (by omega) (fun i h1 h2 => by omega) (by show n + 1 ≤ 10000; omega) [.sh (pD n cs), .ow (folD n cs), .ow ((lev n cs 0).map rD), .un, .un, .un] ⟨.un, .inl rfl, .inl rfl⟩
  have pre : ∀ K : EvS, sSeq (sSet 1 (cLc [4] (cRng1 (cA1 (cIxN 0 (cK (.int 0))) cA0)) (gName' 4) yes (cFn 2 Be (cA1 (cName 0) (cA1 (cName 4) cA0))))) (sSeq (sSet 2 (cLc [4] (cRng1 (cA1 (cIxN 0 (cK (.int 0))) cA0)) (gName' 4) yes (cTup (cA1 (cName 4) cA0)))) K) [.sh (pD n cs), .un, .un, .un, .un, .un] = K [.sh (pD n cs), .ow (folD n cs), .ow ((lev n cs 0).map rD), .un, .un, .un] := fun K => by
    have e1' : lcGo [4] (gName' 4) yes (cFn 2 Be (cA1 (cName 0) (cA1 (cName 4) cA0))) (rngD 0 n) [.sh (pD n cs), .un, .un, .un, .un, .un] = some (.ok (folD n cs) [.sh (pD n cs), .un, .un, .un, .un, .un]) := e1
    unfold pD at e1' e2 ⊢
    simp [hr, e1', e2]
  unfold B_find_cycle
  rw [ap_def]
  have as0 : ([.sh (pD n cs)] ++ List.replicate (6 - 1) Sl.un) = [.sh (pD n cs), .un, .un, .un, .un, .un] := rfl
  rw [as0, pre]
  show _ ∨ _
  rcases lp with ⟨ρ', w, ⟨r, rfl⟩, ha⟩ | ⟨c, ρ', w, ht⟩
  · refine .inl ⟨?_, ha⟩
    have w' : sWhile wFuel (cT (cName 2)) (sSeq (sSet 2 (cLc2 [5, 4] [4] (cIt (cName 2)) (gName' 5) yes (cIt (cIxN 1 (cIxN 5 (cUn sNeg (cK (.int 1)))))) (gName' 4) yes (cBin sAdd (cName 5) (cTup (cA1 (cName 4) cA0))))) (sSeq (sSet 3 (cLc [5] (cIt (cName 2)) (gName' 5) (cT (cBin sEq (cIxN 5 (cK (.int 0))) (cIxN 5 (cUn sNeg (cK (.int 1)))))) (cName 5))) (sSeq (sIf (cT (cName 3)) (sSeq (sRet (cIxN 3 (cK (.int 0)))) sNil) sNil) sNil))) [.sh (pD n cs), .ow (folD n cs), .ow ((lev n cs 0).map rD), .un, .un, .un] = _ := w
    rw [ap_seq, w']
    simp
  · refine .inr ⟨c, ?_, ht⟩
    have w' : sWhile wFuel (cT (cName 2)) (sSeq (sSet 2 (cLc2 [5, 4] [4] (cIt (cName 2)) (gName' 5) yes (cIt (cIxN 1 (cIxN 5 (cUn sNeg (cK (.int 1)))))) (gName' 4) yes (cBin sAdd (cName 5) (cTup (cA1 (cName 4) cA0))))) (sSeq (sSet 3 (cLc [5] (cIt (cName 2)) (gName' 5) (cT (cBin sEq (cIxN 5 (cK (.int 0))) (cIxN 5 (cUn sNeg (cK (.int 1)))))) (cName 5))) (sSeq (sIf (cT (cName 3)) (sSeq (sRet (cIxN 3 (cK (.int 0)))) sNil) sNil) sNil))) [.sh (pD n cs), .ow (folD n cs), .ow ((lev n cs 0).map rD), .un, .un, .un] = _ := w
    rw [ap_seq, w']
    simp
end
end Lb
set_option Elab.async false
set_option linter.all false
set_option maxRecDepth 100000
set_option maxHeartbeats 2000000
namespace Lb
open PySem PySem.Spec PyProof.Rows L2 Rk Sc
def B_given_low : Ev := defSem false 2 4 (sSeq (sSet 2 (cLc [3] (cIt (cIxN 0 (cK (.int 1)))) (gName' 3) (cAndT (cT (cBin sEq (cIxN 3 (cK (.int 0))) (cK (.str "within")))) (cT (cBin sEq (cIxN 3 (cK (.int 1))) (cName 1)))) (cIxN 3 (cK (.int 2))))) (sSeq (sRet (cKw (sDef true) (cA1 (cName 2) cA0) (cA1 (cK (.int 1)) cA0))) sNil))
def B_given_high : Ev := defSem false 2 4 (sSeq (sSet 2 (cLc [3] (cIt (cIxN 0 (cK (.int 1)))) (gName' 3) (cAndT (cT (cBin sEq (cIxN 3 (cK (.int 0))) (cK (.str "within")))) (cT (cBin sEq (cIxN 3 (cK (.int 1))) (cName 1)))) (cIxN 3 (cK (.int 3))))) (sSeq (sRet (cKw (sDef false) (cA1 (cName 2) cA0) (cA1 (cIxN 0 (cK (.int 0))) cA0))) sNil))
def B_steps_of : Ev := defSem false 1 2 (sSeq (sRet (cLc [1] (cIt (cIxN 0 (cK (.int 1)))) (gName' 1) (cT (cBin sEq (cIxN 1 (cK (.int 0))) (cK (.str "ahead")))) (cTup (cA1 (cIxN 1 (cK (.int 1))) (cA1 (cIxN 1 (cK (.int 2))) cA0))))) sNil)
def B_earliest_places (g_given_low : Ev) (g_steps_of : Ev) : Ev := defSem false 1 6 (sSeq (sSet 1 (cLc [3] (cRng1 (cA1 (cIxN 0 (cK (.int 0))) cA0)) (gName' 3) yes (cFn 2 g_given_low (cA1 (cName 0) (cA1 (cName 3) cA0))))) (sSeq (sForL (cRng1 (cA1 (cBin sSub (cIxN 0 (cK (.int 0))) (cK (.int 1))) cA0)) (gName' 2) (sSeq (sForL (cIt (cFn 1 g_steps_of (cA1 (cName 0) cA0))) (gTup' 2 (gCons' (gName' 4) (gCons' (gName' 5) gNil'))) (sSeq (sPut 1 (cCall sMax (cA1 (cIxN 1 (cName 5)) (cA1 (cBin sAdd (cIxN 1 (cName 4)) (cK (.int 1))) cA0))) (cName 5)) sNil)) sNil)) (sSeq (sRet (cName 1)) sNil)))
def B_latest_places (g_given_high : Ev) (g_steps_of : Ev) : Ev := defSem false 1 6 (sSeq (sSet 1 (cLc [3] (cRng1 (cA1 (cIxN 0 (cK (.int 0))) cA0)) (gName' 3) yes (cFn 2 g_given_high (cA1 (cName 0) (cA1 (cName 3) cA0))))) (sSeq (sForL (cRng1 (cA1 (cBin sSub (cIxN 0 (cK (.int 0))) (cK (.int 1))) cA0)) (gName' 2) (sSeq (sForL (cIt (cFn 1 g_steps_of (cA1 (cName 0) cA0))) (gTup' 2 (gCons' (gName' 4) (gCons' (gName' 5) gNil'))) (sSeq (sPut 1 (cCall sMin (cA1 (cIxN 1 (cName 4)) (cA1 (cBin sSub (cIxN 1 (cName 5)) (cK (.int 1))) cA0))) (cName 4)) sNil)) sNil)) (sSeq (sRet (cName 1)) sNil)))
theorem mx_eq : ∀ (m : Int) (r : List Int), mxF m r = maxL m r
  | m, [] => rfl
  | m, x :: r => mx_eq _ r
theorem mn_eq : ∀ (m : Int) (r : List Int), mnF m r = minL m r
  | m, [] => rfl
  | m, x :: r => mn_eq _ r
def kwK2 (sem : List D → List D → Option Sl) (xs : List D) (x : Option (Oc (List D))) : Option (Oc Sl) := bdO x fun a ρ => lift (sem xs a) ρ
@[simp] theorem kwK2_ok {sem : List D → List D → Option Sl} {xs a : List D} {ρ : Rho} : kwK2 sem xs (some (.ok a ρ)) = lift (sem xs a) ρ := rfl
def kwK1 (sem : List D → List D → Option Sl) (fk : EvA) (x : Option (Oc (List D))) : Option (Oc Sl) := bdO x fun a ρ => kwK2 sem a (fk ρ)
@[simp] theorem kwK1_ok {sem : List D → List D → Option Sl} {fk : EvA} {a : List D} {ρ : Rho} : kwK1 sem fk (some (.ok a ρ)) = kwK2 sem a (fk ρ) := rfl
@[simp] theorem ap_kw {sem : List D → List D → Option Sl} {fs fk : EvA} {ρ : Rho} : cKw sem fs fk ρ = kwK1 sem fk (fs ρ) := rfl
theorem ints_map : ∀ ns : List Int, intsOf (ns.map .int) = some ns
  | [] => rfl
  | n :: ns => by
    show (intsOf (ns.map .int)).map (n :: ·) = _
    rw [ints_map ns]
    rfl
theorem def_max (ns : List Int) (d : Int) : sDef true [.list (ns.map .int)] [.int d] = some (.sh (.int (mxD d ns))) := by
  simp only [sDef, ints_map]
  cases ns with
  | nil => rfl
  | cons n r => show some (Sl.sh (.int (maxL n r))) = some (Sl.sh (.int (mxF n r))); rw [mx_eq]
theorem def_min (ns : List Int) (d : Int) : sDef false [.list (ns.map .int)] [.int d] = some (.sh (.int (mnD d ns))) := by
  simp only [sDef, ints_map]
  cases ns with
  | nil => rfl
  | cons n r => show some (Sl.sh (.int (minL n r))) = some (Sl.sh (.int (mnF n r))); rw [mn_eq]
def isWi (i : Nat) : Con → Bool
  | .wi j _ _ => decide (j = i)
  | .ah .. => false
def lowOf : Con → Int
  | .wi _ l _ => l
  | .ah .. => 0
def highOf : Con → Int
  | .wi _ _ h => h
  | .ah .. => 0
theorem lows_eq (cs : List Con) (i : Nat) : lows cs i = (cs.filter (isWi i)).map lowOf := by
  induction cs with
  | nil => rfl
  | cons c cs ih =>
    unfold lows at ih ⊢
    cases c with
    | ah a b => simp [isWi, ih]
    | wi j l h => by_cases e : j = i <;> simp [isWi, e, ih, lowOf]
theorem highs_eq (cs : List Con) (i : Nat) : highs cs i = (cs.filter (isWi i)).map highOf := by
  induction cs with
  | nil => rfl
  | cons c cs ih =>
    unfold highs at ih ⊢
    cases c with
    | ah a b => simp [isWi, ih]
    | wi j l h => by_cases e : j = i <;> simp [isWi, e, ih, highOf]
def isAh : Con → Bool
  | .ah .. => true
  | _ => false
def stepD : Con → D
  | .ah a b => .tuple [iD a, iD b]
  | _ => .none
abbrev prD (p : Nat × Nat) : D := .tuple [iD p.1, iD p.2]
theorem steps_eq (cs : List Con) : (cs.filter isAh).map stepD = (stepsOf cs).map prD := by
  induction cs with
  | nil => rfl
  | cons c cs ih =>
    cases c with
    | wi i l h => exact ih
    | ah a b => exact congrArg (prD (a, b) :: ·) ih
def Is_given_low (G : Ev) : Prop := ∀ (n : Nat) (cs : List Con) (i : Nat), Pb n cs → G [.sh (pD n cs), .sh (iD i)] = some (.ok (.sh (.int (lowG cs i))) [.sh (pD n cs), .sh (iD i)])
def Is_given_high (G : Ev) : Prop := ∀ (n : Nat) (cs : List Con) (i : Nat), Pb n cs → G [.sh (pD n cs), .sh (iD i)] = some (.ok (.sh (.int (highG n cs i))) [.sh (pD n cs), .sh (iD i)])
def Is_steps_of (G : Ev) : Prop := ∀ (n : Nat) (cs : List Con), Pb n cs → G [.sh (pD n cs)] = some (.ok (.ow ((stepsOf cs).map prD)) [.sh (pD n cs)])
theorem csBig {n : Nat} {cs : List Con} (h : Pb n cs) : cs.length ≤ big := by have := h.len; have hb : big = 16777216 := rfl; omega
theorem b_given_low : Is_given_low B_given_low := fun n cs i h => by
  unfold B_given_low
  have hb := csBig h
  have e := lcMap (enc := cD) (o := [3]) (g := gName' 3) (t := cAndT (cT (cBin sEq (cIxN 3 (cK (.int 0))) (cK (.str "within")))) (cT (cBin sEq (cIxN 3 (cK (.int 1))) (cName 1)))) (fa := cIxN 3 (cK (.int 2))) (ρw := [.sh (pD n cs), .sh (iD i), .un, .un]) (isWi i) (fun c => .int (lowOf c)) (fun c => [.sh (pD n cs), .sh (iD i), .un, .sh (cD c)]) cs fun c hc => by
    refine ⟨rfl, ?_, fun hi => ?_, rfl⟩
    · cases c with
      | wi j l hh =>
        have e1 : ((j : Int) == (i : Int)) = decide (j = i) := by rw [Bool.eq_iff_iff]; simp; omega
        simp [cD, lay_wi, isWi, e1]
      | ah a b => simp [cD, lay_wi, lay_ah, isWi]
    · cases c with
      | wi j l hh => exact ⟨.sh (.int l), by simp [cD], rfl⟩
      | ah a b => cases hi
  have e2 : (cs.filter (isWi i)).map (fun c => (.int (lowOf c) : D)) = (lows cs i).map .int := by rw [lows_eq, List.map_map]; rfl
  rw [e2] at e
  have e3 := def_max (lows cs i) 1
  unfold pD csD at e ⊢
  simp [hb, e, e3, lowG]
theorem b_given_high : Is_given_high B_given_high := fun n cs i h => by
  unfold B_given_high
  have hb := csBig h
  have e := lcMap (enc := cD) (o := [3]) (g := gName' 3) (t := cAndT (cT (cBin sEq (cIxN 3 (cK (.int 0))) (cK (.str "within")))) (cT (cBin sEq (cIxN 3 (cK (.int 1))) (cName 1)))) (fa := cIxN 3 (cK (.int 3))) (ρw := [.sh (pD n cs), .sh (iD i), .un, .un]) (isWi i) (fun c => .int (highOf c)) (fun c => [.sh (pD n cs), .sh (iD i), .un, .sh (cD c)]) cs fun c hc => by
    refine ⟨rfl, ?_, fun hi => ?_, rfl⟩
    · cases c with
      | wi j l hh =>
        have e1 : ((j : Int) == (i : Int)) = decide (j = i) := by rw [Bool.eq_iff_iff]; simp; omega
        simp [cD, lay_wi, isWi, e1]
      | ah a b => simp [cD, lay_wi, lay_ah, isWi]
    · cases c with
      | wi j l hh => exact ⟨.sh (.int hh), by simp [cD], rfl⟩
      | ah a b => cases hi
  have e2 : (cs.filter (isWi i)).map (fun c => (.int (highOf c) : D)) = (highs cs i).map .int := by rw [highs_eq, List.map_map]; rfl
  rw [e2] at e
  have e3 := def_min (highs cs i) n
  unfold pD csD at e ⊢
  simp [hb, e, e3, highG]
theorem b_steps_of : Is_steps_of B_steps_of := fun n cs h => by
  unfold B_steps_of
  have hb := csBig h
  have e := lcMap (enc := cD) (o := [1]) (g := gName' 1) (t := cT (cBin sEq (cIxN 1 (cK (.int 0))) (cK (.str "ahead")))) (fa := cTup (cA1 (cIxN 1 (cK (.int 1))) (cA1 (cIxN 1 (cK (.int 2))) cA0))) (ρw := [.sh (pD n cs), .un]) isAh stepD (fun c => [.sh (pD n cs), .sh (cD c)]) cs fun c hc => by
    refine ⟨rfl, ?_, fun hi => ?_, rfl⟩
    · cases c <;> simp [cD, lay_wi, lay_ah, isAh]
    · cases c with
      | wi j l hh => cases hi
      | ah a b => exact ⟨.sh (.tuple [iD a, iD b]), by simp [cD, show (2 : Nat) ≤ big by decide], rfl⟩
  rw [steps_eq] at e
  unfold pD csD at e ⊢
  simp [hb, e]
def zD (f : List Int) : List D := f.map .int
@[simp] theorem zD_len (f : List Int) : (zD f).length = f.length := by simp [zD]
def Is_earliest (G : Ev) : Prop := ∀ (n : Nat) (cs : List Con), Pb n cs → G [.sh (pD n cs)] = some (.ok (.sh (.list (zD (earl n cs)))) [.sh (pD n cs)])
def Is_latest (G : Ev) : Prop := ∀ (n : Nat) (cs : List Con), Pb n cs → G [.sh (pD n cs)] = some (.ok (.sh (.list (zD (late n cs)))) [.sh (pD n cs)])
theorem rnds_fold (S : List (Nat × Nat)) : ∀ (l : List Nat) (f : List Int), l.foldl (fun f _ => rlxs S f) f = rnds S l.length f
  | [], _ => rfl
  | _ :: l, f => rnds_fold S l _
theorem rnL_fold (S : List (Nat × Nat)) : ∀ (l : List Nat) (f : List Int), l.foldl (fun f _ => rlLs S f) f = rnL S l.length f
  | [], _ => rfl
  | _ :: l, f => rnL_fold S l _
theorem zD_set (f : List Int) (i : Nat) (v : Int) : (zD f).set i (.int v) = zD (f.set i v) := by unfold zD; rw [List.map_set]
theorem zD_get {f : List Int} {i : Nat} (h : i < f.length) : (zD f)[i]? = some (.int (f.getD i 0)) := by
  unfold zD
  simp [List.getD_eq_getElem?_getD, h]
theorem mx2 (i j : Int) : sMax [.int i, .int j] = some (.sh (.int (if j > i then j else i))) := rfl
theorem mn2 (i j : Int) : sMin [.int i, .int j] = some (.sh (.int (if j < i then j else i))) := rfl
theorem rlL_len {f : List Int} {p : Nat × Nat} : (rlL f p).length = f.length := by simp [rlL]
theorem rlLs_len : ∀ {S : List (Nat × Nat)} {f : List Int}, (rlLs S f).length = f.length
  | [], _ => rfl
  | p :: S, f => by show (rlLs S (rlL f p)).length = _; rw [rlLs_len, rlL_len]
theorem b_earliest {Gl_ St : Ev} (hG : Is_given_low Gl_) (hS : Is_steps_of St) : Is_earliest (B_earliest_places Gl_ St) := fun n cs h => by
  have h7 := h.n7
  have h1 := h.n1
  have hr : rngOk (n : Int) = true := rngOk_nat (by omega)
  have hr1 : rngOk ((n : Int) - 1) = true := by have := rngOk_nat (n := n - 1) (by omega); rwa [show ((n - 1 : Nat) : Int) = (n : Int) - 1 by omega] at this
  have e1 := lcAll (enc := iD) (o := [3]) (g := gName' 3) (fa := cFn 2 Gl_ (cA1 (cName 0) (cA1 (cName 3) cA0))) (ρw := [.sh (pD n cs), .un, .un, .un, .un, .un]) (fun x => .int (lowG cs x)) (fun x => [.sh (pD n cs), .un, .un, .sh (iD x), .un, .un]) (List.range n) fun x _ => ⟨rfl, ⟨.sh (.int (lowG cs x)), by simp [hG n cs x h], rfl⟩, rfl⟩
  rw [← rng0] at e1
  have e1' : (List.range n).map (fun x => (.int (lowG cs x) : D)) = zD (lows0 n cs) := by unfold zD lows0; rw [List.map_map]; rfl
  rw [e1'] at e1
  have hsb : (stepsOf cs).length ≤ big := by
    have : (stepsOf cs).length ≤ cs.length := by unfold stepsOf; exact List.length_filterMap_le _ _
    have := csBig h
    omega
  have hin := steps_in h.ok
  have inner : ∀ (f : List Int) (o2 o4 o5 : Option D), f.length = n → ∃ o4' o5', sFor ((stepsOf cs).map prD) (gTup' 2 (gCons' (gName' 4) (gCons' (gName' 5) gNil'))) (sSeq (sPut 1 (cCall sMax (cA1 (cIxN 1 (cName 5)) (cA1 (cBin sAdd (cIxN 1 (cName 4)) (cK (.int 1))) cA0))) (cName 5)) sNil) [.sh (pD n cs), .ow (zD f), jk o2, .un, jk o4, jk o5] = some (.nx [.sh (pD n cs), .ow (zD (rlxs (stepsOf cs) f)), jk o2, .un, jk o4', jk o5']) := fun f o2 o4 o5 hf => by
    obtain ⟨ρ', w, o4', o5', rfl, _⟩ := sFor_fold (enc := prD) (tg := gTup' 2 (gCons' (gName' 4) (gCons' (gName' 5) gNil'))) (body := sSeq (sPut 1 (cCall sMax (cA1 (cIxN 1 (cName 5)) (cA1 (cBin sAdd (cIxN 1 (cName 4)) (cK (.int 1))) cA0))) (cName 5)) sNil) (step := rlx)
      (fun f ρ => ∃ o4 o5, ρ = [.sh (pD n cs), .ow (zD f), jk o2, .un, jk o4, jk o5] ∧ f.length = n) (stepsOf cs) f [.sh (pD n cs), .ow (zD f), jk o2, .un, jk o4, jk o5] ⟨o4, o5, rfl, hf⟩ fun p hp f ρ ⟨o4, o5, hρ, hf⟩ => by
        subst hρ
        obtain ⟨ha, hb⟩ := hin p hp
        refine ⟨[.sh (pD n cs), .ow (zD f), jk o2, .un, .sh (iD p.1), .sh (iD p.2)], [.sh (pD n cs), .ow (zD (rlx f p)), jk o2, .un, .sh (iD p.1), .sh (iD p.2)], rfl, ?_, some (iD p.1), some (iD p.2), rfl, by rw [rlx_len, hf]⟩
        have g1 := zD_get (f := f) (i := p.1) (by omega)
        have g2 := zD_get (f := f) (i := p.2) (by omega)
        have ix := ixN_nn (n := (zD f).length) (k := (p.2 : Int)) (by omega) (by rw [zD_len]; omega)
        rw [Int.toNat_natCast, zD_len] at ix
        simp [g1, g2, mx2, ix, zD_set, rlx]
    exact ⟨o4', o5', w⟩
  obtain ⟨ρ', w, o2, o4, o5, rfl, _⟩ := sFor_fold (enc := iD) (tg := gName' 2) (body := sSeq (sForL (cIt (cFn 1 St (cA1 (cName 0) cA0))) (gTup' 2 (gCons' (gName' 4) (gCons' (gName' 5) gNil'))) (sSeq (sPut 1 (cCall sMax (cA1 (cIxN 1 (cName 5)) (cA1 (cBin sAdd (cIxN 1 (cName 4)) (cK (.int 1))) cA0))) (cName 5)) sNil)) sNil) (step := fun f _ => rlxs (stepsOf cs) f)
    (fun f ρ => ∃ o2 o4 o5, ρ = [.sh (pD n cs), .ow (zD f), jk o2, .un, jk o4, jk o5] ∧ f.length = n) (List.range (n - 1)) (lows0 n cs) [.sh (pD n cs), .ow (zD (lows0 n cs)), .un, .un, .un, .un] ⟨none, none, none, rfl, by simp [lows0]⟩ fun x hx f ρ ⟨o2, o4, o5, hρ, hf⟩ => by
      subst hρ
      obtain ⟨o4', o5', w⟩ := inner f (some (iD x)) o4 o5 hf
      have w' : sFor ((stepsOf cs).map prD) (gTup' 2 (gCons' (gName' 4) (gCons' (gName' 5) gNil'))) (sSeq (sPut 1 (cCall sMax (cA1 (cIxN 1 (cName 5)) (cA1 (cBin sAdd (cIxN 1 (cName 4)) (cK (.int 1))) cA0))) (cName 5)) sNil) [.sh (pD n cs), .ow (zD f), .sh (iD x), .un, jk o4, jk o5] = _ := w
      refine ⟨[.sh (pD n cs), .ow (zD f), .sh (iD x), .un, jk o4, jk o5], _, rfl, ?_, some (iD x), o4', o5', rfl, by rw [rlxs_len, hf]⟩
      simp [hS n cs h, hsb, w']
  rw [← rng0, rnds_fold, List.length_range] at w
  unfold B_earliest_places
  unfold pD at e1 w ⊢
  have hn1 : ((n : Int) - 1).toNat = n - 1 := by omega
  simp [hr, e1, hr1, hn1, w, earl]
theorem b_latest {Gh St : Ev} (hG : Is_given_high Gh) (hS : Is_steps_of St) : Is_latest (B_latest_places Gh St) := fun n cs h => by
  have h7 := h.n7
  have h1 := h.n1
  have hr : rngOk (n : Int) = true := rngOk_nat (by omega)
  have hr1 : rngOk ((n : Int) - 1) = true := by have := rngOk_nat (n := n - 1) (by omega); rwa [show ((n - 1 : Nat) : Int) = (n : Int) - 1 by omega] at this
  have e1 := lcAll (enc := iD) (o := [3]) (g := gName' 3) (fa := cFn 2 Gh (cA1 (cName 0) (cA1 (cName 3) cA0))) (ρw := [.sh (pD n cs), .un, .un, .un, .un, .un]) (fun x => .int (highG n cs x)) (fun x => [.sh (pD n cs), .un, .un, .sh (iD x), .un, .un]) (List.range n) fun x _ => ⟨rfl, ⟨.sh (.int (highG n cs x)), by simp [hG n cs x h], rfl⟩, rfl⟩
  rw [← rng0] at e1
  have e1' : (List.range n).map (fun x => (.int (highG n cs x) : D)) = zD (highs0 n cs) := by unfold zD highs0; rw [List.map_map]; rfl
  rw [e1'] at e1
  have hsb : (stepsOf cs).length ≤ big := by
    have : (stepsOf cs).length ≤ cs.length := by unfold stepsOf; exact List.length_filterMap_le _ _
    have := csBig h
    omega
  have hin := steps_in h.ok
  have inner : ∀ (f : List Int) (o2 o4 o5 : Option D), f.length = n → ∃ o4' o5', sFor ((stepsOf cs).map prD) (gTup' 2 (gCons' (gName' 4) (gCons' (gName' 5) gNil'))) (sSeq (sPut 1 (cCall sMin (cA1 (cIxN 1 (cName 4)) (cA1 (cBin sSub (cIxN 1 (cName 5)) (cK (.int 1))) cA0))) (cName 4)) sNil) [.sh (pD n cs), .ow (zD f), jk o2, .un, jk o4, jk o5] = some (.nx [.sh (pD n cs), .ow (zD (rlLs (stepsOf cs) f)), jk o2, .un, jk o4', jk o5']) := fun f o2 o4 o5 hf => by
    obtain ⟨ρ', w, o4', o5', rfl, _⟩ := sFor_fold (enc := prD) (tg := gTup' 2 (gCons' (gName' 4) (gCons' (gName' 5) gNil'))) (body := sSeq (sPut 1 (cCall sMin (cA1 (cIxN 1 (cName 4)) (cA1 (cBin sSub (cIxN 1 (cName 5)) (cK (.int 1))) cA0))) (cName 4)) sNil) (step := rlL)
      (fun f ρ => ∃ o4 o5, ρ = [.sh (pD n cs), .ow (zD f), jk o2, .un, jk o4, jk o5] ∧ f.length = n) (stepsOf cs) f [.sh (pD n cs), .ow (zD f), jk o2, .un, jk o4, jk o5] ⟨o4, o5, rfl, hf⟩ fun p hp f ρ ⟨o4, o5, hρ, hf⟩ => by
        subst hρ
        obtain ⟨ha, hb⟩ := hin p hp
        refine ⟨[.sh (pD n cs), .ow (zD f), jk o2, .un, .sh (iD p.1), .sh (iD p.2)], [.sh (pD n cs), .ow (zD (rlL f p)), jk o2, .un, .sh (iD p.1), .sh (iD p.2)], rfl, ?_, some (iD p.1), some (iD p.2), rfl, by rw [rlL_len, hf]⟩
        have g1 := zD_get (f := f) (i := p.1) (by omega)
        have g2 := zD_get (f := f) (i := p.2) (by omega)
        have ix := ixN_nn (n := (zD f).length) (k := (p.1 : Int)) (by omega) (by rw [zD_len]; omega)
        rw [Int.toNat_natCast, zD_len] at ix
        simp [g1, g2, mn2, ix, zD_set, rlL]
    exact ⟨o4', o5', w⟩
  obtain ⟨ρ', w, o2, o4, o5, rfl, _⟩ := sFor_fold (enc := iD) (tg := gName' 2) (body := sSeq (sForL (cIt (cFn 1 St (cA1 (cName 0) cA0))) (gTup' 2 (gCons' (gName' 4) (gCons' (gName' 5) gNil'))) (sSeq (sPut 1 (cCall sMin (cA1 (cIxN 1 (cName 4)) (cA1 (cBin sSub (cIxN 1 (cName 5)) (cK (.int 1))) cA0))) (cName 4)) sNil)) sNil) (step := fun f _ => rlLs (stepsOf cs) f)
    (fun f ρ => ∃ o2 o4 o5, ρ = [.sh (pD n cs), .ow (zD f), jk o2, .un, jk o4, jk o5] ∧ f.length = n) (List.range (n - 1)) (highs0 n cs) [.sh (pD n cs), .ow (zD (highs0 n cs)), .un, .un, .un, .un] ⟨none, none, none, rfl, by simp [highs0]⟩ fun x hx f ρ ⟨o2, o4, o5, hρ, hf⟩ => by
      subst hρ
      obtain ⟨o4', o5', w⟩ := inner f (some (iD x)) o4 o5 hf
      have w' : sFor ((stepsOf cs).map prD) (gTup' 2 (gCons' (gName' 4) (gCons' (gName' 5) gNil'))) (sSeq (sPut 1 (cCall sMin (cA1 (cIxN 1 (cName 4)) (cA1 (cBin sSub (cIxN 1 (cName 5)) (cK (.int 1))) cA0))) (cName 4)) sNil) [.sh (pD n cs), .ow (zD f), .sh (iD x), .un, jk o4, jk o5] = _ := w
      refine ⟨[.sh (pD n cs), .ow (zD f), .sh (iD x), .un, jk o4, jk o5], _, rfl, ?_, some (iD x), o4', o5', rfl, by rw [rlLs_len, hf]⟩
      simp [hS n cs h, hsb, w']
  rw [← rng0, rnL_fold, List.length_range] at w
  unfold B_latest_places
  unfold pD at e1 w ⊢
  have hn1 : ((n : Int) - 1).toNat = n - 1 := by omega
  simp [hr, e1, hr1, hn1, w, late]
end Lb
set_option Elab.async false
set_option linter.all false
set_option maxRecDepth 100000
set_option maxHeartbeats 2000000
namespace Lb
open PySem PySem.Spec PyProof.Rows L2 Rk Sc
def B_item_for : Ev := defSem false 4 6 (sSeq (sSet 4 (cLc [5] (cIt (cName 1)) (gName' 5) (cT (cBin (sCmp fun i j => decide (i ≤ j)) (cIxN 2 (cName 5)) (cName 0))) (cName 5))) (sSeq (sRet (cMinKey 4 3)) sNil))
def B_ranking_by_deadlines (g_find_cycle : Ev) (g_earliest_places : Ev) (g_latest_places : Ev) (g_item_for : Ev) (g_is_good : Ev) : Ev := defSem false 1 8 (sSeq (sIf (cT (cBin (sIsN true) (cFn 1 g_find_cycle (cA1 (cName 0) cA0)) (cK .none))) (sSeq (sRet (cK .none)) sNil) sNil) (sSeq (sPar2 3 4 (cA1 (cFn 1 g_earliest_places (cA1 (cName 0) cA0)) (cA1 (cFn 1 g_latest_places (cA1 (cName 0) cA0)) cA0))) (sSeq (sSet 1 (cTup cA0)) (sSeq (sForL (cRng2 (cA1 (cK (.int 1)) (cA1 (cBin sAdd (cIxN 0 (cK (.int 0))) (cK (.int 1))) cA0))) (gName' 2) (sSeq (sSet 5 (cLc [7] (cRng1 (cA1 (cIxN 0 (cK (.int 0))) cA0)) (gName' 7) (cT (cBin (sIn true) (cName 7) (cName 1))) (cName 7))) (sSeq (sSet 6 (cFn 4 g_item_for (cA1 (cName 2) (cA1 (cName 5) (cA1 (cName 3) (cA1 (cName 4) cA0)))))) (sSeq (sIf (cT (cBin (sIsN false) (cName 6) (cK .none))) (sSeq (sRet (cK .none)) sNil) sNil) (sSeq (sSet 1 (cBin sAdd (cName 1) (cTup (cA1 (cName 6) cA0)))) sNil))))) (sSeq (sRet (cIf (cT (cFn 2 g_is_good (cA1 (cName 0) (cA1 (cName 1) cA0)))) (cName 1) (cK .none))) sNil)))))
def B_has_ranking (g_ranking_by_deadlines : Ev) : Ev := defSem false 1 1 (sSeq (sRet (cBin (sIsN true) (cFn 1 g_ranking_by_deadlines (cA1 (cName 0) cA0)) (cK .none))) sNil)
def optR : Option (List Nat) → D
  | none => .none
  | some r => rD r
def optI : Option Nat → D
  | none => .none
  | some x => iD x
def mkK (ρ : Rho) : Option (List Int) → Option (List Int) → Option (Oc Sl)
  | some ns, some ks => if ns.all fun n => decide (0 ≤ n) && decide (n < ks.length) then some (.ok (.sh (match ns with
      | [] => .none
      | n :: r => .int (leastK ks n r))) ρ) else none
  | _, _ => none
theorem ap_minK {i j : Nat} {ρ : Rho} {ds es : List D} (h1 : slD ρ i = some (.list ds)) (h2 : slD ρ j = some (.list es)) : cMinKey i j ρ = mkK ρ (intsOf ds) (intsOf es) := by
  unfold cMinKey
  rw [h1, h2]
  dsimp only
  cases intsOf ds <;> cases intsOf es <;> rfl
theorem least_nat (ks : List Int) : ∀ (r : List Nat) (x : Nat), leastK ks (x : Int) (r.map fun (y : Nat) => (y : Int)) = ((r.foldl (fun b y => if ks.getD y 0 < ks.getD b 0 then y else b) x : Nat) : Int)
  | [], x => rfl
  | y :: r, x => by
    unfold leastK
    simp only [List.map_cons, List.foldl_cons, Int.toNat_natCast]
    by_cases c : ks.getD y 0 < ks.getD x 0
    · rw [if_pos c, if_pos c]
      exact least_nat ks r y
    · rw [if_neg c, if_neg c]
      exact least_nat ks r x
theorem ints_nat (r : List Nat) : intsOf (r.map iD) = some (r.map fun (y : Nat) => (y : Int)) := by
  have := ints_map (r.map fun (y : Nat) => (y : Int))
  rw [List.map_map] at this
  exact this
/-- the readiest item of those left -/
def Is_item_for (G : Ev) : Prop := ∀ (p : Int) (L : List Nat) (E Lt : List Int), L.length ≤ 1000 → (∀ x ∈ L, x < E.length ∧ x < Lt.length) →
  G [.sh (.int p), .sh (lD L), .sh (.list (zD E)), .sh (.list (zD Lt))] = some (.ok (.sh (optI (best (fun x => Lt.getD x 0) (L.filter fun x => decide (E.getD x 0 ≤ p))))) [.sh (.int p), .sh (lD L), .sh (.list (zD E)), .sh (.list (zD Lt))])
theorem b_item_for : Is_item_for B_item_for := fun p L E Lt hl hx => by
  unfold B_item_for
  have hb : L.length ≤ big := by have hb : big = 16777216 := rfl; omega
  have e := lcMap (enc := iD) (o := [5]) (g := gName' 5) (t := cT (cBin (sCmp fun i j => decide (i ≤ j)) (cIxN 2 (cName 5)) (cName 0))) (fa := cName 5) (ρw := [.sh (.int p), .sh (lD L), .sh (.list (zD E)), .sh (.list (zD Lt)), .un, .un]) (fun x => decide (E.getD x 0 ≤ p)) iD (fun x => [.sh (.int p), .sh (lD L), .sh (.list (zD E)), .sh (.list (zD Lt)), .un, .sh (iD x)]) L fun x hm => by
    refine ⟨rfl, ?_, fun _ => ⟨_, rfl, rfl⟩, rfl⟩
    have g := zD_get (hx x hm).1
    simp [g]
  have mk := ap_minK (i := 4) (j := 3) (ρ := [.sh (.int p), .sh (lD L), .sh (.list (zD E)), .sh (.list (zD Lt)), .ow ((L.filter fun x => decide (E.getD x 0 ≤ p)).map iD), .un]) (ds := (L.filter fun x => decide (E.getD x 0 ≤ p)).map iD) (es := zD Lt) rfl rfl
  have hk : mkK [.sh (.int p), .sh (lD L), .sh (.list (zD E)), .sh (.list (zD Lt)), .ow ((L.filter fun x => decide (E.getD x 0 ≤ p)).map iD), .un] (intsOf ((L.filter fun x => decide (E.getD x 0 ≤ p)).map iD)) (intsOf (zD Lt)) = some (.ok (.sh (optI (best (fun x => Lt.getD x 0) (L.filter fun x => decide (E.getD x 0 ≤ p))))) [.sh (.int p), .sh (lD L), .sh (.list (zD E)), .sh (.list (zD Lt)), .ow ((L.filter fun x => decide (E.getD x 0 ≤ p)).map iD), .un]) := by
    rw [ints_nat, show intsOf (zD Lt) = some Lt from ints_map Lt]
    unfold mkK
    dsimp only
    rw [if_pos]
    · cases hf : L.filter fun x => decide (E.getD x 0 ≤ p) with
      | nil => rfl
      | cons x r =>
        simp only [List.map_cons, best, optI]
        rw [least_nat]
    · rw [List.all_eq_true]
      intro y hy
      obtain ⟨x, hx', rfl⟩ := List.mem_map.mp hy
      have := hx x (List.mem_filter.mp hx').1
      simp
      omega
  rw [hk] at mk
  unfold lD at *
  simp [hb, e]
  simp at mk
  simp [mk]
noncomputable def rbd (n : Nat) (cs : List Con) : Option (List Nat) := open Classical in if Acy (stepsOf cs) then byD n cs else none
theorem rbd_some {n : Nat} {cs : List Con} {r : List Nat} (h : rbd n cs = some r) : IsR n r ∧ good cs r = true := by
  unfold rbd at h
  split at h
  · exact ⟨(byD_some h).1, (byD_some h).2.1⟩
  · cases h
theorem rbd_ex {n : Nat} {cs : List Con} (hok : ∀ c ∈ cs, c.ok n) {r : List Nat} (hr : IsR n r) (hg : good cs r = true) : ∃ r', rbd n cs = some r' := by
  unfold rbd
  rw [if_pos (acy_of_good hg)]
  exact byD_ex hok (acy_of_good hg) hr hg
/-- some ranking is good -/
def HasR (n : Nat) (cs : List Con) : Prop := ∃ r, IsR n r ∧ good cs r = true
noncomputable def hasB (n : Nat) (cs : List Con) : Bool := open Classical in decide (HasR n cs)
theorem hasB_iff {n : Nat} {cs : List Con} : hasB n cs = true ↔ HasR n cs := by unfold hasB; simp
theorem rbd_none {n : Nat} {cs : List Con} (hok : ∀ c ∈ cs, c.ok n) : rbd n cs = none ↔ ¬ HasR n cs := by
  constructor
  · rintro h ⟨r, hr, hg⟩
    obtain ⟨r', e⟩ := rbd_ex hok hr hg
    rw [h] at e; cases e
  · intro h
    cases q : rbd n cs with
    | none => rfl
    | some r => exact absurd ⟨r, rbd_some q⟩ h
def Is_by_dead (G : Ev) : Prop := ∀ (n : Nat) (cs : List Con), Pb n cs → G [.sh (pD n cs)] = some (.ok (.sh (optR (rbd n cs))) [.sh (pD n cs)])
def Is_has_ranking (G : Ev) : Prop := ∀ (n : Nat) (cs : List Con), Pb n cs → G [.sh (pD n cs)] = some (.ok (.sh (.bool (hasB n cs))) [.sh (pD n cs)])
theorem isN_rD (r : List Nat) : isN (rD r) = false := rfl
theorem isN_iD (x : Nat) : isN (iD x) = false := rfl
theorem left_ev (n : Nat) (r : List Nat) (s0 : D) (s2 s3 s4 s5 s6 : Sl) : lcGo [7] (gName' 7) (cT (cBin (sIn true) (cName 7) (cName 1))) (cName 7) ((List.range n).map iD) [.sh s0, .sh (rD r), s2, s3, s4, s5, s6, .un] = some (.ok ((left n r).map iD) [.sh s0, .sh (rD r), s2, s3, s4, s5, s6, .un]) := by
  refine lcMap (enc := iD) (fun x => !r.contains x) iD (fun x => [.sh s0, .sh (rD r), s2, s3, s4, s5, s6, .sh (iD x)]) (List.range n) fun x _ => ⟨rfl, ?_, fun _ => ⟨_, rfl, rfl⟩, rfl⟩
  have hin := in_nat (r := r) (x := x) true
  simp only [if_true] at hin
  simp [hin]
def body_bd (It : Ev) : EvS := sSeq (sSet 5 (cLc [7] (cRng1 (cA1 (cIxN 0 (cK (.int 0))) cA0)) (gName' 7) (cT (cBin (sIn true) (cName 7) (cName 1))) (cName 7))) (sSeq (sSet 6 (cFn 4 It (cA1 (cName 2) (cA1 (cName 5) (cA1 (cName 3) (cA1 (cName 4) cA0)))))) (sSeq (sIf (cT (cBin (sIsN false) (cName 6) (cK .none))) (sSeq (sRet (cK .none)) sNil) sNil) (sSeq (sSet 1 (cBin sAdd (cName 1) (cTup (cA1 (cName 6) cA0)))) sNil)))
theorem loop_bd {It : Ev} (hI : Is_item_for It) {n : Nat} {cs : List Con} (h : Pb n cs) (E Lt : List Int) (hE : E.length = n) (hLt : Lt.length = n) : ∀ (k : Nat) (r : List Nat) (s2 s5 s6 : Option D), r.length + k ≤ 7 →
    (edf n (fun x => E.getD x 0) (fun x => Lt.getD x 0) k r = none → ∃ ρ', sFor ((List.range' r.length k).map fun (i : Nat) => (.int ((i : Int) + 1) : D)) (gName' 2) (body_bd It) [.sh (pD n cs), .sh (rD r), jk s2, .sh (.list (zD E)), .sh (.list (zD Lt)), jk s5, jk s6, .un] = some (.rt (.sh .none) ρ')) ∧
    (∀ r', edf n (fun x => E.getD x 0) (fun x => Lt.getD x 0) k r = some r' → ∃ t2 t5 t6 : Option D, sFor ((List.range' r.length k).map fun (i : Nat) => (.int ((i : Int) + 1) : D)) (gName' 2) (body_bd It) [.sh (pD n cs), .sh (rD r), jk s2, .sh (.list (zD E)), .sh (.list (zD Lt)), jk s5, jk s6, .un] = some (.nx [.sh (pD n cs), .sh (rD r'), jk t2, .sh (.list (zD E)), .sh (.list (zD Lt)), jk t5, jk t6, .un]))
  | 0, r, s2, s5, s6, _ => ⟨fun z => (by cases z), fun r' e => (by cases e; exact ⟨s2, s5, s6, rfl⟩)⟩
  | k + 1, r, s2, s5, s6, hk => by
    have h7 := h.n7
    have hr : rngOk (n : Int) = true := rngOk_nat (by omega)
    have hll : (left n r).length ≤ 1000 := by
      have : (left n r).length ≤ n := by unfold left; exact Nat.le_trans (List.length_filter_le _ _) (by simp)
      omega
    have it := hI ((r.length : Int) + 1) (left n r) E Lt hll fun x hx => by rw [hE, hLt]; exact ⟨(mem_left.mp hx).1, (mem_left.mp hx).1⟩
    have lf := left_ev n r (pD n cs) (.sh (.int ((r.length : Int) + 1))) (.sh (.list (zD E))) (.sh (.list (zD Lt))) (jk s5) (jk s6)
    rw [← rng0] at lf
    have hfil : ((left n r).filter fun x => decide (E.getD x 0 ≤ (r.length : Int) + 1)) = rdy n (fun x => E.getD x 0) r := rfl
    rw [hfil] at it
    have hb : r.length + 1 ≤ big := by have hb : big = 16777216 := rfl; omega
    have h1b : (1 : Nat) ≤ big := by decide
    have head : ∀ o : Option Nat, best (fun x => Lt.getD x 0) (rdy n (fun x => E.getD x 0) r) = o → body_bd It [.sh (pD n cs), .sh (rD r), .sh (.int ((r.length : Int) + 1)), .sh (.list (zD E)), .sh (.list (zD Lt)), jk s5, jk s6, .un] = (match o with
        | none => some (.rt (.sh .none) [.sh (pD n cs), .sh (rD r), .sh (.int ((r.length : Int) + 1)), .sh (.list (zD E)), .sh (.list (zD Lt)), .sh (lD (left n r)), .sh .none, .un])
        | some x => some (.nx [.sh (pD n cs), .sh (rD (r ++ [x])), .sh (.int ((r.length : Int) + 1)), .sh (.list (zD E)), .sh (.list (zD Lt)), .sh (lD (left n r)), .sh (iD x), .un])) := fun o ho => by
      rw [ho] at it
      unfold body_bd
      unfold pD at lf ⊢
      cases o with
      | none => simp [hr, lf, it, optI]
      | some x =>
        unfold rD at lf ⊢
        simp [hr, lf, it, optI, isN_iD, h1b, hb]
    have un : sFor ((List.range' r.length (k + 1)).map fun (i : Nat) => (.int ((i : Int) + 1) : D)) (gName' 2) (body_bd It) [.sh (pD n cs), .sh (rD r), jk s2, .sh (.list (zD E)), .sh (.list (zD Lt)), jk s5, jk s6, .un] =
        (match body_bd It [.sh (pD n cs), .sh (rD r), .sh (.int ((r.length : Int) + 1)), .sh (.list (zD E)), .sh (.list (zD Lt)), jk s5, jk s6, .un] with
          | some (.nx ρ2) => sFor ((List.range' (r.length + 1) k).map fun (i : Nat) => (.int ((i : Int) + 1) : D)) (gName' 2) (body_bd It) ρ2
          | some (.ct ρ2) => sFor ((List.range' (r.length + 1) k).map fun (i : Nat) => (.int ((i : Int) + 1) : D)) (gName' 2) (body_bd It) ρ2
          | some (.bk ρ2) => some (.nx ρ2)
          | o => o) := by
      rw [List.range'_succ, List.map_cons]
      rfl
    cases hbs : best (fun x => Lt.getD x 0) (rdy n (fun x => E.getD x 0) r) with
    | none =>
      rw [head none hbs] at un
      refine ⟨fun _ => ⟨_, un⟩, fun r' e => ?_⟩
      unfold edf at e
      rw [hbs] at e
      cases e
    | some x =>
      rw [head (some x) hbs] at un
      have ih := loop_bd hI h E Lt hE hLt k (r ++ [x]) (some (.int ((r.length : Int) + 1))) (some (lD (left n r))) (some (iD x)) (by rw [List.length_append, List.length_singleton]; omega)
      rw [List.length_append, List.length_singleton] at ih
      unfold edf
      rw [hbs]
      dsimp only
      rw [un]
      exact ih
theorem b_ranking_by_deadlines {Fc Ea La It Ig : Ev} (hF : Is_find_cycle Fc) (hE : Is_earliest Ea) (hL : Is_latest La) (hI : Is_item_for It) (hG : Is_is_good Ig) : Is_by_dead (B_ranking_by_deadlines Fc Ea La It Ig) := fun n cs h => by
  have h7 := h.n7
  have h1 := h.n1
  rcases hF n cs h with ⟨fc, ha⟩ | ⟨c, fc, ht⟩
  · have e0 : rbd n cs = byD n cs := by unfold rbd; rw [if_pos ha]
    have ea := hE n cs h
    have la := hL n cs h
    have lenE : (earl n cs).length = n := by have := (earl_top h.ok ha).len; rw [this]; simp [lows0]
    have lenL : (late n cs).length = n := by have := (late_top h.ok ha).len; simpa [neg, highs0] using this
    have hr1 : rngOk 1 = true := by decide
    have hr2 : rngOk ((n : Int) + 1) = true := by have := rngOk_nat (n := n + 1) (by omega); rwa [show ((n + 1 : Nat) : Int) = (n : Int) + 1 by omega] at this
    have rg : rngD 1 n = (List.range' ([] : List Nat).length n).map fun (i : Nat) => (.int ((i : Int) + 1) : D) := by
      rw [rng1, List.range_eq_range']
      rfl
    obtain ⟨l1, l2⟩ := loop_bd hI h (earl n cs) (late n cs) lenE lenL n [] none none none (by simp; omega)
    have hn : (((n : Int) + 1) - 1).toNat = n := by omega
    rw [← rg] at l1 l2
    have ed : edf n (fun x => (earl n cs).getD x 0) (fun x => (late n cs).getD x 0) n [] = edf n (eF n cs) (lF n cs) n [] := rfl
    rw [ed] at l1 l2
    have r0 : rD [] = .tuple [] := rfl
    rw [r0] at l1 l2
    unfold B_ranking_by_deadlines
    rw [e0]
    unfold byD
    cases q : edf n (eF n cs) (lF n cs) n [] with
    | none =>
      obtain ⟨ρ', w⟩ := l1 q
      have w' := w
      unfold body_bd at w'
      simp only [jk] at w'
      unfold pD at fc ea la w' ⊢
      simp [fc, ea, la, hr1, hr2, hn, w', optR]
    | some r =>
      obtain ⟨t2, t5, t6, w⟩ := l2 r q
      have w' := w
      unfold body_bd at w'
      simp only [jk] at w'
      have ig := hG n cs r h (edf_isR q).1
      unfold pD at fc ea la w' ig ⊢
      by_cases g : good cs r = true
      · simp [fc, ea, la, hr1, hr2, hn, w', ig, g, optR]
      · have g : good cs r = false := by simpa using g
        simp [fc, ea, la, hr1, hr2, hn, w', ig, g, optR]
  · have e0 : rbd n cs = none := by unfold rbd; rw [if_neg (told_not_acy h.ok ht)]
    unfold B_ranking_by_deadlines
    rw [e0]
    simp [fc, isN_rD, optR]
theorem b_has_ranking {Rb : Ev} (hR : Is_by_dead Rb) : Is_has_ranking (B_has_ranking Rb) := fun n cs h => by
  have r := hR n cs h
  have hn := rbd_none h.ok (n := n) (cs := cs)
  unfold B_has_ranking
  cases q : rbd n cs with
  | none =>
    rw [q] at r hn
    have : hasB n cs = false := by rw [Bool.eq_false_iff]; intro z; exact hn.mp rfl (hasB_iff.mp z)
    simp [r, optR, this]
  | some x =>
    rw [q] at r
    have : hasB n cs = true := hasB_iff.mpr ⟨x, rbd_some q⟩
    simp [r, optR, isN_rD, this]
end Lb
set_option Elab.async false
set_option linter.all false
set_option maxRecDepth 100000
set_option maxHeartbeats 2000000
namespace Lb
open PySem PySem.Spec PyProof.Rows L2 Rk Sc
def B_check_item (g_check : Ev) (g_is_problem : Ev) (g_is_item : Ev) : Ev := defSem false 2 2 (sSeq (sDrop (cFn 2 g_check (cA1 (cFn 1 g_is_problem (cA1 (cName 0) cA0)) (cA1 (cK (.str "problem")) cA0)))) (sSeq (sDrop (cFn 2 g_check (cA1 (cFn 2 g_is_item (cA1 (cIxN 0 (cK (.int 0))) (cA1 (cName 1) cA0))) (cA1 (cK (.str "item")) cA0)))) sNil))
def B_at_place (g_added : Ev) : Ev := defSem false 3 3 (sSeq (sRet (cFn 2 g_added (cA1 (cName 0) (cA1 (cTup (cA1 (cK (.str "within")) (cA1 (cName 1) (cA1 (cName 2) (cA1 (cName 2) cA0))))) cA0)))) sNil)
def Is_check_item (G : Ev) : Prop := ∀ (n : Nat) (cs : List Con) (x : Nat), Pb n cs → cs.length ≤ 12 → x < n → G [.sh (pD n cs), .sh (iD x)] = some (.ok (.sh .none) [.sh (pD n cs), .sh (iD x)])
theorem b_check_item {Ch Pr It : Ev} (hCh : Is_check Ch) (hP : Is_problem Pr) (hI : Is_item It) : Is_check_item (B_check_item Ch Pr It) := fun n cs x h hl hx => by
  unfold B_check_item
  have p1 := hP (pD n cs) (lay_pD n cs)
  rw [probD_ok h hl] at p1
  have c1 := hI (iD x) n
  have e : inR (iD x) 0 (n - 1) = true := by simp [inR]; omega
  rw [e] at c1
  have k1 := hCh (.str "problem")
  have k2 := hCh (.str "item")
  unfold pD at p1 ⊢
  simp [p1, c1, k1, k2]
theorem ix_list {ds : List D} {x : Nat} {d : D} (h : ds[x]? = some d) : sIx (.list ds) (.int (x : Int)) = some (.sh d) := by
  have hx := (List.getElem?_eq_some_iff.mp h).1
  show (atI ds (x : Int)).map Sl.sh = _
  unfold atI ixN
  simp [hx]
  exact (List.getElem?_eq_some_iff.mp h).2
def Is_at_place (G : Ev) : Prop := ∀ (n : Nat) (cs : List Con) (x : Nat) (p : Int), cs.length ≤ 1000 → G [.sh (pD n cs), .sh (iD x), .sh (.int p)] = some (.ok (.sh (pD n (cs ++ [.wi x p p]))) [.sh (pD n cs), .sh (iD x), .sh (.int p)])
theorem b_at_place {Ad : Ev} (hA : Is_added Ad) : Is_at_place (B_at_place Ad) := fun n cs x p hl => by
  unfold B_at_place
  have a : Ad [.sh (pD n cs), .sh (.tuple [.str "within", .int x, .int p, .int p])] = some (.ok (.sh (pD n (cs ++ [.wi x p p]))) [.sh (pD n cs), .sh (.tuple [.str "within", .int x, .int p, .int p])]) := hA n cs (.wi x p p) hl
  have b4 : (4 : Nat) ≤ big := by decide
  simp [a, b4]
end Lb
set_option linter.all false
namespace Sc
def rk (n : Nat) : Nat → List (List Nat)
  | 0 => [[]]
  | k + 1 => (rk n k).flatMap fun r => (left n r).map fun x => r ++ [x]
theorem mem_rk {n : Nat} : ∀ {k : Nat} {r : List Nat}, r ∈ rk n k ↔ r.length = k ∧ r.Nodup ∧ ∀ x ∈ r, x < n
  | 0, r => by
    simp only [rk, List.mem_singleton]
    constructor
    · rintro rfl; exact ⟨rfl, List.nodup_nil, fun x h => by cases h⟩
    · rintro ⟨h, _⟩; exact List.eq_nil_of_length_eq_zero h
  | k + 1, r => by
    have ih := @mem_rk n k
    simp only [rk, List.mem_flatMap, List.mem_map, mem_left]
    constructor
    · rintro ⟨q, hq, x, ⟨hx, hn⟩, rfl⟩
      obtain ⟨h1, h2, h3⟩ := ih.mp hq
      refine ⟨by rw [List.length_append, h1]; rfl, ?_, fun y hy => ?_⟩
      · rw [List.nodup_append]
        exact ⟨h2, by simp, fun a ha b hb => by rw [List.mem_singleton.mp hb]; exact fun z => hn (z ▸ ha)⟩
      · rcases List.mem_append.mp hy with hy | hy
        · exact h3 y hy
        · rw [List.mem_singleton.mp hy]; exact hx
    · rintro ⟨h1, h2, h3⟩
      rcases nil_or_snoc r with rfl | ⟨u, w, rfl⟩
      · cases h1
      · rw [List.nodup_append] at h2
        refine ⟨u, ih.mpr ⟨by simpa using h1, h2.1, fun y hy => h3 y (List.mem_append_left _ hy)⟩, w, ⟨h3 w (by simp), fun z => h2.2.2 w z w (by simp) rfl⟩, rfl⟩
theorem mem_rk_n {n : Nat} {r : List Nat} : r ∈ rk n n ↔ IsR n r := by
  rw [mem_rk]
  constructor
  · rintro ⟨h1, h2, h3⟩; exact isR_of_len h2 h3 (by omega)
  · intro h; exact ⟨h.len, h.nodup, fun x hx => h.mem.mp hx⟩
def goodsA (n : Nat) (cs : List Con) : List (List Nat) := (rk n n).filter (good cs)
theorem mem_goodsA {n : Nat} {cs : List Con} {r : List Nat} : r ∈ goodsA n cs ↔ IsR n r ∧ good cs r = true := by
  unfold goodsA
  rw [List.mem_filter, mem_rk_n]
end Sc
set_option Elab.async false
set_option linter.all false
set_option maxRecDepth 100000
set_option maxHeartbeats 2000000
namespace Lb
open PySem PySem.Spec PyProof.Rows L2 Rk Sc
def B_law_stream : Ev := defSem true 1 1 (sSeq (sRet (cLst (cA1 (cLstN 0) (cA1 (cK (.int 0)) (cA1 (cK (.int 0)) cA0))))) sNil)
def B_law_next : Ev := defSem true 2 5 (sSeq (sIf (cT (cBin sEq (cIxN 0 (cK (.int 1))) (cK (.int 0)))) (sSeq (sSet 3 (cIxN 0 (cK (.int 2)))) (sSeq (sSet 4 (cBin sAdd (cK (.int 7)) (cName 3))) (sSeq (sIf (cT (cBin (sCmp fun i j => decide (i < j)) (cName 3) (cCall sLen (cA1 (cIxN 0 (cK (.int 0))) cA0)))) (sSeq (sSet 4 (cCall sAbs (cA1 (cBin sIx (cIxN 0 (cK (.int 0))) (cName 3)) cA0))) sNil) sNil) (sSeq (sIf (cT (cBin (sCmp fun i j => decide (i < j)) (cName 4) (cBin sPow (cK (.int 10)) (cK (.int 18))))) (sSeq (sSet 4 (cBin sMod (cCall sInt (cA1 (cBin sAdd (cBin sAdd (cBin sMul (cName 4) (cK (.int 48271))) (cBin sMul (cName 3) (cK (.int 69621)))) (cK (.int 11))) cA0)) (cK (.int 2147483647)))) (sSeq (sSet 4 (cBin sAdd (cBin sMul (cBin sMod (cCall sInt (cA1 (cBin sAdd (cBin sMul (cName 4) (cK (.int 16807))) (cK (.int 13))) cA0)) (cK (.int 2147483647))) (cK (.int 65537))) (cName 4))) sNil)) sNil) (sSeq (sPut 0 (cName 4) (cK (.int 1))) (sSeq (sPut 0 (cBin sAdd (cName 3) (cK (.int 1))) (cK (.int 2))) sNil)))))) sNil) (sSeq (sSet 2 (cBin sMod (cCall sInt (cA1 (cIxN 0 (cK (.int 1))) cA0)) (cName 1))) (sSeq (sPut 0 (cBin sDiv (cIxN 0 (cK (.int 1))) (cName 1)) (cK (.int 1))) (sSeq (sRet (cName 2)) sNil))))
def Is_stream (G : Ev) : Prop := ∀ ns : List Int, G [.scr ns] = some (.ok (.ow [.list (ns.map .int), .int 0, .int 0]) [.scr ns])
theorem b_stream : Is_stream B_law_stream := fun ns => by
  unfold B_law_stream
  have hb : (3 : Nat) ≤ big := by decide
  simp [hb]
def Is_next (G : Ev) : Prop := ∀ (w : List D) (m : Nat), Strm w → 0 < m → m < 1000000 → ∃ (d : Nat) (w' : List D), G [.ow w, .sh (.int m)] = some (.ok (.sh (.int d)) [.ow w', .sh (.int m)]) ∧ Strm w' ∧ d < m
theorem b_next : Is_next B_law_next := fun w m hw h0 h1 => by
  obtain ⟨d, w', e, hw', d0, d1⟩ := nxt hw m (by omega) (by omega)
  refine ⟨d.toNat, w', ?_, hw', by omega⟩
  rw [Int.toNat_of_nonneg d0]
  exact e
/-- a comprehension that draws -/
theorem lcDraw {α β : Type} {enc : α → D} {o : List Nat} {g : EvG} {t : EvT} {fa : Ev} {F : β → D} {OK : β → Prop} (St : List D → Rho) : ∀ (xs : List α) (w : List D), Strm w →
    (∀ x ∈ xs, ∀ w, Strm w → ∃ ρ2 ρ4 r b w', g (enc x) (St w) = some ρ2 ∧ t ρ2 = some (.ok true ρ2) ∧ fa ρ2 = some (.ok r ρ4) ∧ pub r = some (F b) ∧ OK b ∧ Strm w' ∧ wipeR ρ4 o = St w') →
    ∃ (bs : List β) (w' : List D), lcGo o g t fa (xs.map enc) (St w) = some (.ok (bs.map F) (St w')) ∧ bs.length = xs.length ∧ (∀ b ∈ bs, OK b) ∧ Strm w'
  | [], w, hw, _ => ⟨[], w, rfl, rfl, fun b h => (by cases h), hw⟩
  | x :: xs, w, hw, h => by
    obtain ⟨ρ2, ρ4, r, b, w', h1, h2, h3, h4, h5, h6, h7⟩ := h x List.mem_cons_self w hw
    obtain ⟨bs, w2, e1, e2, e3, e4⟩ := lcDraw St xs w' h6 fun y hy => h y (List.mem_cons_of_mem _ hy)
    refine ⟨b :: bs, w2, ?_, by rw [List.length_cons, e2, List.length_cons], fun c hc => ?_, e4⟩
    · rw [List.map_cons]
      unfold lcGo
      simp only [h1, h2, h3, h4, h7, e1, List.map_cons]
    · rcases List.mem_cons.mp hc with rfl | hc
      · exact h5
      · exact e3 c hc
/-- a drawn constraint -/
def Is_lcon (G : Ev) : Prop := ∀ (w : List D) (n : Nat), Strm w → 1 ≤ n → n ≤ 7 → ∃ (c : Con) (w' : List D), G [.ow w, .sh (.int n)] = some (.ok (.sh (cD c)) [.ow w', .sh (.int n)]) ∧ Strm w' ∧ c.ok n
/-- a drawn problem -/
def Is_lprob (G : Ev) : Prop := ∀ (w : List D) (most many : Nat), Strm w → 1 ≤ most → most ≤ 7 → many ≤ 12 → ∃ (n : Nat) (cs : List Con) (w' : List D), G [.ow w, .sh (.int most), .sh (.int many)] = some (.ok (.sh (pD n cs)) [.ow w', .sh (.int most), .sh (.int many)]) ∧ Strm w' ∧ n ≤ most ∧ cs.length ≤ many ∧ Pb n cs
end Lb
set_option Elab.async false
set_option linter.all false
set_option maxRecDepth 100000
set_option maxHeartbeats 2000000
namespace Lb
open PySem PySem.Spec PyProof.Rows L2 Rk Sc
def B_law_constraint2 (g__law_next : Ev) : Ev := defSem true 2 4 (sSeq (sIf (cAndT (cT (cBin (sCmp fun i j => decide (j < i)) (cName 1) (cK (.int 1)))) (cT (cBin sEq (cFn1 0 2 g__law_next (cA1 (cK (.int 2)) cA0)) (cK (.int 0))))) (sSeq (sSet 3 (cFn1 0 2 g__law_next (cA1 (cName 1) cA0))) (sSeq (sRet (cTup (cA1 (cK (.str "ahead")) (cA1 (cName 3) (cA1 (cBin sMod (cBin sAdd (cBin sAdd (cName 3) (cK (.int 1))) (cFn1 0 2 g__law_next (cA1 (cBin sSub (cName 1) (cK (.int 1))) cA0))) (cName 1)) cA0))))) sNil)) sNil) (sSeq (sSet 2 (cBin sAdd (cK (.int 1)) (cFn1 0 2 g__law_next (cA1 (cName 1) cA0)))) (sSeq (sRet (cTup (cA1 (cK (.str "within")) (cA1 (cFn1 0 2 g__law_next (cA1 (cName 1) cA0)) (cA1 (cName 2) (cA1 (cBin sAdd (cName 2) (cFn1 0 2 g__law_next (cA1 (cBin sSub (cBin sAdd (cName 1) (cK (.int 1))) (cName 2)) cA0))) cA0)))))) sNil)))
def B_law_problem (g__law_next : Ev) (g__law_constraint : Ev) : Ev := defSem true 3 5 (sSeq (sSet 3 (cBin sAdd (cK (.int 1)) (cFn1 0 2 g__law_next (cA1 (cName 1) cA0)))) (sSeq (sRet (cTup (cA1 (cName 3) (cA1 (cCall sTuple (cA1 (cLc [4] (cRng1 (cA1 (cFn1 0 2 g__law_next (cA1 (cBin sAdd (cName 2) (cK (.int 1))) cA0)) cA0)) (gName' 4) yes (cFn1 0 2 g__law_constraint (cA1 (cName 3) cA0))) cA0)) cA0)))) sNil))
theorem b_lcon2 {N : Ev} (hN : Is_next N) : Is_lcon (B_law_constraint2 N) := fun w n hw h1 h7 => by
  unfold B_law_constraint2
  have b3 : (3 : Nat) ≤ big := by decide
  have b4 : (4 : Nat) ≤ big := by decide
  by_cases hn : 1 < n
  · have hn' : (1 : Int) < n := by omega
    obtain ⟨d0, w0, e0, hw0, k0⟩ := hN w 2 hw (by omega) (by omega)
    have e0' : N [.ow w, .sh (.int 2)] = some (.ok (.sh (.int d0)) [.ow w0, .sh (.int 2)]) := e0
    by_cases hd : d0 = 0
    · subst hd
      obtain ⟨a, w1, e1, hw1, k1⟩ := hN w0 n hw0 (by omega) (by omega)
      obtain ⟨b, w2, e2, hw2, k2⟩ := hN w1 (n - 1) hw1 (by omega) (by omega)
      have e2' : N [.ow w1, .sh (.int ((n : Int) - 1))] = some (.ok (.sh (.int b)) [.ow w2, .sh (.int ((n : Int) - 1))]) := by rw [show ((n - 1 : Nat) : Int) = (n : Int) - 1 by omega] at e2; exact e2
      have em : ((a : Int) + 1 + b) % n = (((a + 1 + b) % n : Nat) : Int) := by rw [Int.natCast_emod]; rfl
      have hm : (0 : Int) < n := by omega
      have hm' : 0 < n := by omega
      refine ⟨.ah a ((a + 1 + b) % n), w2, ?_, hw2, k1, Nat.mod_lt _ (by omega), ?_⟩
      · simp [hn', e0', e1, e2', cD, hm, hm', b3]
      · intro z
        by_cases q : a + 1 + b < n
        · rw [Nat.mod_eq_of_lt q] at z; omega
        · rw [Nat.mod_eq_sub_mod (by omega), Nat.mod_eq_of_lt (by omega)] at z; omega
    · obtain ⟨l, w1, e1, hw1, k1⟩ := hN w0 n hw0 (by omega) (by omega)
      obtain ⟨i, w2, e2, hw2, k2⟩ := hN w1 n hw1 (by omega) (by omega)
      obtain ⟨x, w3, e3, hw3, k3⟩ := hN w2 (n - l) hw2 (by omega) (by omega)
      have e3' : N [.ow w2, .sh (.int ((n : Int) + 1 - (1 + (l : Int))))] = some (.ok (.sh (.int x)) [.ow w3, .sh (.int ((n : Int) + 1 - (1 + (l : Int))))]) := by rw [show ((n - l : Nat) : Int) = (n : Int) + 1 - (1 + (l : Int)) by omega] at e3; exact e3
      have hd' : ((d0 : Int) == 0) = false := by rw [Bool.eq_false_iff]; simp; omega
      refine ⟨.wi i (1 + l) (1 + l + x), w3, ?_, hw3, k2, by omega, by omega, by omega⟩
      simp [hn', e0', hd', e1, e2, e3', cD, b4]
  · have : n = 1 := by omega
    subst this
    obtain ⟨l, w1, e1, hw1, k1⟩ := hN w 1 hw (by omega) (by omega)
    obtain ⟨i, w2, e2, hw2, k2⟩ := hN w1 1 hw1 (by omega) (by omega)
    obtain ⟨x, w3, e3, hw3, k3⟩ := hN w2 (1 - l) hw2 (by omega) (by omega)
    have l0 : l = 0 := by omega
    have i0 : i = 0 := by omega
    subst l0; subst i0
    refine ⟨.wi 0 1 (1 + x), w3, ?_, hw3, by omega, by omega, by omega, by omega⟩
    have e1' : N [.ow w, .sh (.int 1)] = some (.ok (.sh (.int 0)) [.ow w1, .sh (.int 1)]) := e1
    have e2' : N [.ow w1, .sh (.int 1)] = some (.ok (.sh (.int 0)) [.ow w2, .sh (.int 1)]) := e2
    have e3' : N [.ow w2, .sh (.int 1)] = some (.ok (.sh (.int x)) [.ow w3, .sh (.int 1)]) := e3
    simp [e1', e2', e3', cD, b4]
theorem b_lprob {N C : Ev} (hN : Is_next N) (hC : Is_lcon C) : Is_lprob (B_law_problem N C) := fun w most many hw h1 h7 hm => by
  unfold B_law_problem
  obtain ⟨d, w0, e0, hw0, k0⟩ := hN w most hw (by omega) (by omega)
  obtain ⟨q, w1, e1, hw1, k1⟩ := hN w0 (many + 1) hw0 (by omega) (by omega)
  have e1' : N [.ow w0, .sh (.int ((many : Int) + 1))] = some (.ok (.sh (.int q)) [.ow w1, .sh (.int ((many : Int) + 1))]) := by rw [show ((many + 1 : Nat) : Int) = (many : Int) + 1 by omega] at e1; exact e1
  obtain ⟨cs, w2, e2, l2, ok2, hw2⟩ := lcDraw (enc := iD) (o := [4]) (g := gName' 4) (t := yes) (fa := cFn1 0 2 C (cA1 (cName 3) cA0)) (F := cD) (OK := fun c => c.ok (1 + d)) (fun w => [.ow w, .sh (.int most), .sh (.int many), .sh (.int (1 + (d : Int))), .un]) (List.range q) w1 hw1 fun x _ w hw => by
    obtain ⟨c, w', e, hw', hc⟩ := hC w (1 + d) hw (by omega) (by omega)
    have e' : C [.ow w, .sh (.int (1 + (d : Int)))] = some (.ok (.sh (cD c)) [.ow w', .sh (.int (1 + (d : Int)))]) := by rw [show ((1 + d : Nat) : Int) = 1 + (d : Int) by omega] at e; exact e
    exact ⟨[.ow w, .sh (.int most), .sh (.int many), .sh (.int (1 + (d : Int))), .sh (iD x)], [.ow w', .sh (.int most), .sh (.int many), .sh (.int (1 + (d : Int))), .sh (iD x)], .sh (cD c), c, w', rfl, rfl, by simp [e'], rfl, hc, hw', rfl⟩
  rw [← rng0] at e2
  have hr : rngOk (q : Int) = true := rngOk_nat (by omega)
  have b2 : (2 : Nat) ≤ big := by decide
  rw [List.length_range] at l2
  refine ⟨1 + d, cs, w2, ?_, hw2, by omega, by omega, ⟨by omega, by omega, ok2, by omega⟩⟩
  simp [e0, e1', hr, e2, pD, csD, b2]
end Lb
set_option Elab.async false
set_option linter.all false
set_option maxRecDepth 100000
set_option maxHeartbeats 2000000
namespace Lb
open PySem PySem.Spec PyProof.Rows L2 Rk Sc
def B_negated : Ev := defSem false 2 10 (sSeq (sIf (cT (cBin sEq (cIxN 1 (cK (.int 0))) (cK (.str "ahead")))) (sSeq (sAsg (gTup' 3 (gCons' (gName' 4) (gCons' (gName' 8) (gCons' (gName' 9) gNil')))) (cName 1)) (sSeq (sRet (cTup (cA1 (cTup (cA1 (cK (.str "ahead")) (cA1 (cName 9) (cA1 (cName 8) cA0)))) cA0))) sNil)) sNil) (sSeq (sAsg (gTup' 4 (gCons' (gName' 4) (gCons' (gName' 5) (gCons' (gName' 6) (gCons' (gName' 7) gNil'))))) (cName 1)) (sSeq (sSet 2 (cIf (cT (cBin (sCmp fun i j => decide (j < i)) (cName 6) (cK (.int 1)))) (cTup (cA1 (cTup (cA1 (cK (.str "within")) (cA1 (cName 5) (cA1 (cK (.int 1)) (cA1 (cBin sSub (cName 6) (cK (.int 1))) cA0))))) cA0)) (cTup cA0))) (sSeq (sSet 3 (cIf (cT (cBin (sCmp fun i j => decide (i < j)) (cName 7) (cName 0))) (cTup (cA1 (cTup (cA1 (cK (.str "within")) (cA1 (cName 5) (cA1 (cBin sAdd (cName 7) (cK (.int 1))) (cA1 (cName 0) cA0))))) cA0)) (cTup cA0))) (sSeq (sRet (cBin sAdd (cName 2) (cName 3))) sNil)))))
def B_denials (g_negated : Ev) (g_added : Ev) : Ev := defSem false 2 3 (sSeq (sRet (cLc [2] (cIt (cFn 2 g_negated (cA1 (cIxN 0 (cK (.int 0))) (cA1 (cName 1) cA0)))) (gName' 2) yes (cFn 2 g_added (cA1 (cName 0) (cA1 (cName 2) cA0))))) sNil)
def B_find_verdict (g_has_ranking : Ev) (g_denials : Ev) (g_added : Ev) : Ev := defSem false 2 3 (sSeq (sIf (cNotT (cT (cFn 1 g_has_ranking (cA1 (cName 0) cA0)))) (sSeq (sRet (cK (.str "none"))) sNil) sNil) (sSeq (sIf (cNotT (cT (cCall sAny (cA1 (cLc [2] (cIt (cFn 2 g_denials (cA1 (cName 0) (cA1 (cName 1) cA0)))) (gName' 2) yes (cFn 1 g_has_ranking (cA1 (cName 2) cA0))) cA0)))) (sSeq (sRet (cK (.str "certain"))) sNil) sNil) (sSeq (sRet (cIf (cT (cFn 1 g_has_ranking (cA1 (cFn 2 g_added (cA1 (cName 0) (cA1 (cName 1) cA0))) cA0))) (cK (.str "open")) (cK (.str "impossible")))) sNil)))
def B_verdict (g_check_constraint : Ev) (g_find_verdict : Ev) : Ev := defSem false 2 2 (sSeq (sDrop (cFn 2 g_check_constraint (cA1 (cName 0) (cA1 (cName 1) cA0)))) (sSeq (sRet (cFn 2 g_find_verdict (cA1 (cName 0) (cA1 (cName 1) cA0)))) sNil))
def negL (n : Nat) : Con → List Con
  | .ah a b => [.ah b a]
  | .wi i l h => (if 1 < l then [.wi i 1 (l - 1)] else []) ++ (if h < n then [.wi i (h + 1) n] else [])
def tcs (cs : List Con) : D := .tuple (cs.map cD)
theorem negL_ok {n : Nat} {c : Con} (h : c.ok n) : ∀ d ∈ negL n c, d.ok n := by
  intro d hd
  cases c with
  | ah a b =>
    simp [negL] at hd
    subst hd
    exact ⟨h.2.1, h.1, fun z => h.2.2 z.symm⟩
  | wi i l hi =>
    obtain ⟨h1, h2, h3, h4⟩ := h
    unfold negL at hd
    rcases List.mem_append.mp hd with q | q
    · split at q
      · rw [List.mem_singleton.mp q]
        exact ⟨h1, by omega, by omega, by omega⟩
      · cases q
    · split at q
      · rw [List.mem_singleton.mp q]
        exact ⟨h1, by omega, by omega, by omega⟩
      · cases q
theorem pos_bd {n : Nat} {r : List Nat} (hr : IsR n r) {x : Nat} (hx : x < n) : 0 ≤ pos r x ∧ pos r x + 1 ≤ n := by
  have := List.idxOf_lt_length_iff.mpr (hr.mem.mpr hx)
  rw [hr.len] at this
  unfold pos
  omega
theorem pos_inj {n : Nat} {r : List Nat} (hr : IsR n r) {x y : Nat} (hx : x < n) (hy : y < n) (h : pos r x = pos r y) : x = y := by
  have h1 := List.idxOf_lt_length_iff.mpr (hr.mem.mpr hx)
  have h2 := List.idxOf_lt_length_iff.mpr (hr.mem.mpr hy)
  have e1 : r[r.idxOf x] = x := List.getElem_idxOf h1
  have e2 : r[r.idxOf y] = y := List.getElem_idxOf h2
  have e : r.idxOf x = r.idxOf y := by unfold pos at h; omega
  rw [← e1, ← e2]
  congr 1
/-- one of the negation holds exactly if the constraint does not -/
theorem hold_neg {n : Nat} {c : Con} (h : c.ok n) {r : List Nat} (hr : IsR n r) : (negL n c).any (hold r) = !hold r c := by
  cases c with
  | ah a b =>
    obtain ⟨h1, h2, h3⟩ := h
    have : pos r a ≠ pos r b := fun z => h3 (pos_inj hr h1 h2 z)
    simp [negL, hold]
    rw [Bool.eq_iff_iff]
    simp
    omega
  | wi i l hi =>
    obtain ⟨h1, h2, h3, h4⟩ := h
    obtain ⟨b1, b2⟩ := pos_bd hr h1
    unfold negL
    rw [Bool.eq_iff_iff]
    by_cases q1 : 1 < l <;> by_cases q2 : hi < n <;> simp [hold, q1, q2] <;> omega
noncomputable def vWord (n : Nat) (cs : List Con) (c : Con) : Str := if hasB n cs then (if (negL n c).any (fun d => hasB n (cs ++ [d])) then (if hasB n (cs ++ [c]) then "open" else "impossible") else "certain") else "none"
def Is_negated (G : Ev) : Prop := ∀ (n : Nat) (c : Con), c.ok n → G [.sh (.int n), .sh (cD c)] = some (.ok (.sh (tcs (negL n c))) [.sh (.int n), .sh (cD c)])
def Is_denials (G : Ev) : Prop := ∀ (n : Nat) (cs : List Con) (c : Con), Pb n cs → c.ok n → G [.sh (pD n cs), .sh (cD c)] = some (.ok (.ow ((negL n c).map fun d => pD n (cs ++ [d]))) [.sh (pD n cs), .sh (cD c)])
def Is_find_verdict (G : Ev) : Prop := ∀ (n : Nat) (cs : List Con) (c : Con), Pb n cs → cs.length < 100 → c.ok n → G [.sh (pD n cs), .sh (cD c)] = some (.ok (.sh (.str (vWord n cs c))) [.sh (pD n cs), .sh (cD c)])
def Is_verdict (G : Ev) : Prop := ∀ (n : Nat) (cs : List Con) (c : Con), Pb n cs → cs.length ≤ 12 → c.ok n → G [.sh (pD n cs), .sh (cD c)] = some (.ok (.sh (.str (vWord n cs c))) [.sh (pD n cs), .sh (cD c)])
theorem b_negated : Is_negated B_negated := fun n c h => by
  unfold B_negated
  have b1 : (1 : Nat) ≤ big := by decide
  have b2 : (2 : Nat) ≤ big := by decide
  have b3 : (3 : Nat) ≤ big := by decide
  have b4 : (4 : Nat) ≤ big := by decide
  cases c with
  | ah a b => simp [cD, lay_ah, lay_wi, tcs, negL, b1, b3]
  | wi i l hi => by_cases q1 : 1 < l <;> by_cases q2 : hi < n <;> simp [cD, lay_ah, lay_wi, tcs, negL, b1, b2, b3, b4, q1, q2]
theorem negL_len (n : Nat) (c : Con) : (negL n c).length ≤ 2 := by
  cases c with
  | ah a b => simp [negL]
  | wi i l h => unfold negL; rw [List.length_append]; split <;> split <;> simp
theorem b_denials {Ne Ad : Ev} (hN : Is_negated Ne) (hA : Is_added Ad) : Is_denials (B_denials Ne Ad) := fun n cs c h hc => by
  unfold B_denials
  have nb := hN n c hc
  have hb : (negL n c).length ≤ big := by have := negL_len n c; have hb : big = 16777216 := rfl; omega
  have hl := h.len
  have e := lcAll (enc := cD) (o := [2]) (g := gName' 2) (fa := cFn 2 Ad (cA1 (cName 0) (cA1 (cName 2) cA0))) (ρw := [.sh (pD n cs), .sh (cD c), .un]) (fun d => pD n (cs ++ [d])) (fun d => [.sh (pD n cs), .sh (cD c), .sh (cD d)]) (negL n c) fun d _ => ⟨rfl, ⟨.sh (pD n (cs ++ [d])), by simp [hA n cs d (by omega)], rfl⟩, rfl⟩
  unfold pD at e ⊢
  simp [nb, tcs, hb, e]
theorem any_bools {α : Type} (f : α → Bool) (xs : List α) : sAny [.list (xs.map fun x => (.bool (f x) : D))] = some (.sh (.bool (xs.any f))) := by
  have : ∀ xs : List α, blsOf (xs.map fun x => (.bool (f x) : D)) = some (xs.map f) := fun xs => by
    induction xs with
    | nil => rfl
    | cons x xs ih => show (blsOf _).map _ = _; rw [ih]; rfl
  show (blsOf _).map (fun bs => bl (bs.any id)) = _
  rw [this]
  simp [List.any_map, bl]
theorem b_find_verdict {Ha De Ad : Ev} (hH : Is_has_ranking Ha) (hD : Is_denials De) (hA : Is_added Ad) : Is_find_verdict (B_find_verdict Ha De Ad) := fun n cs c h hl hc => by
  unfold B_find_verdict
  have h0 := hH n cs h
  have hadd := hA n cs c (by omega)
  have h1 := hH n (cs ++ [c]) (h.add hc hl)
  have hd := hD n cs c h hc
  have hb : (negL n c).length ≤ big := by have := negL_len n c; have hb : big = 16777216 := rfl; omega
  have e := lcAll (enc := fun d => pD n (cs ++ [d])) (o := [2]) (g := gName' 2) (fa := cFn 1 Ha (cA1 (cName 2) cA0)) (ρw := [.sh (pD n cs), .sh (cD c), .un]) (fun d => .bool (hasB n (cs ++ [d]))) (fun d => [.sh (pD n cs), .sh (cD c), .sh (pD n (cs ++ [d]))]) (negL n c) fun d hd => ⟨rfl, ⟨.sh (.bool (hasB n (cs ++ [d]))), by simp [hH n (cs ++ [d]) (h.add (negL_ok hc d hd) hl)], rfl⟩, rfl⟩
  have an := any_bools (fun d => hasB n (cs ++ [d])) (negL n c)
  unfold vWord
  cases q0 : hasB n cs with
  | false => simp [h0, q0]
  | true =>
    cases q1 : (negL n c).any (fun d => hasB n (cs ++ [d])) with
    | false =>
      rw [q1] at an
      simp [h0, q0, hd, hb, e, an]
    | true =>
      rw [q1] at an
      cases q2 : hasB n (cs ++ [c]) <;> simp [h0, q0, hd, hb, e, an, hadd, h1, q2]
theorem b_verdict {Cc Fv : Ev} (hC : Is_check_con Cc) (hF : Is_find_verdict Fv) : Is_verdict (B_verdict Cc Fv) := fun n cs c h hl hc => by
  unfold B_verdict
  simp [hC n cs c h hl hc, hF n cs c h (by omega) hc]
end Lb
set_option Elab.async false
set_option linter.all false
set_option maxRecDepth 100000
set_option maxHeartbeats 2000000
namespace Lb
open PySem PySem.Spec PyProof.Rows L2 Rk Sc
theorem eq_wiah : sEq (.str "within") (.str "ahead") = some (bl false) := by kernel_rfl
theorem eq_ahah : sEq (.str "ahead") (.str "ahead") = some (bl true) := by kernel_rfl
/-- a ranking as a tuple or as a list -/
def IsSq (v : D) (r : List Nat) : Prop := v = rD r ∨ v = .list (r.map iD)
def Is_holds2 (G : Ev) : Prop := ∀ (n : Nat) (c : Con) (r : List Nat) (v : D), c.ok n → n ≤ 7 → IsR n r → IsSq v r → G [.sh (cD c), .sh v] = some (.ok (.sh (.bool (hold r c))) [.sh (cD c), .sh v])
theorem Is_holds2.tup {G : Ev} (h : Is_holds2 G) : Is_holds G := fun n c r hc hn hr => h n c r (rD r) hc hn hr (.inl rfl)
end Lb
set_option Elab.async false
set_option linter.all false
set_option maxRecDepth 100000
set_option maxHeartbeats 2000000
namespace Lb
open PySem PySem.Spec PyProof.Rows L2 Rk Sc
def intB : D → Bool
  | .int _ => true
  | _ => false
def Is_lint (G : Ev) : Prop := ∀ d : D, G [.sh d] = some (.ok (.sh (.bool (intB d))) [.sh d])
theorem Is_lint.i {G : Ev} (h : Is_lint G) (i : Int) : G [.sh (.int i)] = some (.ok (bl true) [.sh (.int i)]) := h (.int i)
theorem ix_tup {ds : List D} {x : Nat} {d : D} (h : ds[x]? = some d) : sIx (.tuple ds) (.int (x : Int)) = some (.sh d) := by
  have hx := (List.getElem?_eq_some_iff.mp h).1
  show (atI ds (x : Int)).map Sl.sh = _
  unfold atI ixN
  simp [hx]
  exact (List.getElem?_eq_some_iff.mp h).2
theorem eq_bool (b : Bool) : sEq (.bool b) (.bool b) = some (bl true) := by cases b <;> kernel_rfl
theorem eq_int (i : Int) : sEq (.int i) (.int i) = some (bl true) := by simp [sEq, okc]
theorem eq_str {s : Str} (h : (PyData.str s).canLay0 = true) : sEq (.str s) (.str s) = some (bl true) := by simp [sEq, okc, h]
end Lb
set_option linter.all false
namespace Sc
end Sc
set_option linter.all false
namespace Sc
end Sc
set_option Elab.async false
set_option linter.all false
set_option maxRecDepth 100000
set_option maxHeartbeats 2000000
namespace Lb
open PySem PySem.Spec PyProof.Rows L2 Rk Sc
def hdN (c : List Nat) : Nat := c.headD 0
end Lb
set_option Elab.async false
set_option linter.all false
set_option maxRecDepth 100000
set_option maxHeartbeats 2000000
namespace Lb
open PySem PySem.Spec PyProof.Rows L2 Rk Sc
def zipK2 (ρ : Rho) : Option (List D) → Option (Oc (List D))
  | some ds => some (.ok ds ρ)
  | none => none
@[simp] theorem zipK2_some {ρ : Rho} {ds : List D} : zipK2 ρ (some ds) = some (.ok ds ρ) := rfl
def zipK (x : Option (Oc (List D))) : Option (Oc (List D)) := bdO x fun xs ρ1 => zipK2 ρ1 (zipOf xs)
@[simp] theorem zipK_ok {ρ : Rho} {xs : List D} : zipK (some (.ok xs ρ)) = zipK2 ρ (zipOf xs) := rfl
@[simp] theorem ap_zip {fs : EvA} {ρ : Rho} : cZip fs ρ = zipK (fs ρ) := by
  unfold cZip zipK zipK2
  rfl
/-- the steps of a chain stand among the constraints -/
def stB (cs : List Con) (c : List Nat) : Bool := (c.zip c.tail).all fun p => decide (Con.ah p.1 p.2 ∈ cs)
def chB (cs : List Con) (c : List Nat) : Bool := !c.isEmpty && stB cs c
def cyB (cs : List Con) (c : List Nat) : Bool := chB cs c && (decide (1 < c.length) && decide (hdN c = lastN c))
theorem eq_nats (a b : Nat) : sEq (.int (a : Int)) (.int (b : Int)) = some (bl (decide (a = b))) := by
  have : ((a : Int) == (b : Int)) = decide (a = b) := by rw [Bool.eq_iff_iff]; simp; omega
  simp [sEq, okc, this]
end Lb
set_option Elab.async false
set_option linter.all false
set_option maxRecDepth 100000
set_option maxHeartbeats 2000000
namespace Lb
open PySem PySem.Spec PyProof.Rows L2 Rk Sc
def revK (x : Option (Oc Sl)) : Option (Oc Sl) := bdD x fun d ρ1 => lift (sRev d) ρ1
@[simp] theorem revK_sh {d : D} {ρ : Rho} : revK (some (.ok (.sh d) ρ)) = lift (sRev d) ρ := rfl
@[simp] theorem revK_ow {ds : List D} {ρ : Rho} : revK (some (.ok (.ow ds) ρ)) = lift (sRev (.list ds)) ρ := rfl
@[simp] theorem ap_rev {fa : Ev} {ρ : Rho} : cRev fa ρ = revK (fa ρ) := rfl
theorem r_rev (r : List Nat) : sRev (rD r) = some (.sh (rD r.reverse)) := by
  show some (Sl.sh (.tuple (r.map iD).reverse)) = _
  rw [← List.map_reverse]; rfl
def enumK2 (ρ : Rho) : D → Option (Oc (List D))
  | .list ds => if ds.length ≤ big then some (.ok (enD 0 ds) ρ) else none
  | .tuple ds => if ds.length ≤ big then some (.ok (enD 0 ds) ρ) else none
  | _ => none
@[simp] theorem enumK2_l {ρ : Rho} {ds : List D} : enumK2 ρ (.list ds) = if ds.length ≤ big then some (.ok (enD 0 ds) ρ) else none := rfl
@[simp] theorem enumK2_t {ρ : Rho} {ds : List D} : enumK2 ρ (.tuple ds) = if ds.length ≤ big then some (.ok (enD 0 ds) ρ) else none := rfl
def enumK (x : Option (Oc Sl)) : Option (Oc (List D)) := bdD x fun d ρ => enumK2 ρ d
@[simp] theorem enumK_sh {ρ : Rho} {d : D} : enumK (some (.ok (.sh d) ρ)) = enumK2 ρ d := rfl
@[simp] theorem enumK_ow {ρ : Rho} {ds : List D} : enumK (some (.ok (.ow ds) ρ)) = enumK2 ρ (.list ds) := rfl
@[simp] theorem ap_cEnum {f : Ev} {ρ : Rho} : cEnum f ρ = enumK (f ρ) := by
  unfold cEnum enumK; congr 1
def enumSK2 (k : Nat) (ρ : Rho) : D → Option (Oc (List D))
  | .tuple ds => if ds.length ≤ big then some (.ok (enD k ds) ρ) else none
  | _ => none
@[simp] theorem enumSK2_t {k : Nat} {ρ : Rho} {ds : List D} : enumSK2 k ρ (.tuple ds) = if ds.length ≤ big then some (.ok (enD k ds) ρ) else none := rfl
def enumSK (k : Nat) (x : Option (Oc Sl)) : Option (Oc (List D)) := bdD x fun d ρ => enumSK2 k ρ d
@[simp] theorem enumSK_sh {k : Nat} {ρ : Rho} {d : D} : enumSK k (some (.ok (.sh d) ρ)) = enumSK2 k ρ d := rfl
@[simp] theorem enumSK_ow {k : Nat} {ρ : Rho} {ds : List D} : enumSK k (some (.ok (.ow ds) ρ)) = enumSK2 k ρ (.list ds) := rfl
@[simp] theorem ap_cEnumS {k : Nat} {f : Ev} {ρ : Rho} : cEnumS k f ρ = enumSK k (f ρ) := by
  unfold cEnumS enumSK
  congr 1
end Lb
set_option linter.all false
namespace Sc
/-- x, then what nx names, and so on -/
def sq (nx : Nat → Nat) (x : Nat) : Nat → Nat
  | 0 => x
  | j + 1 => nx (sq nx x j)
def cl (nx : Nat → Nat) (x : Nat) : Nat → List Nat
  | 0 => [x]
  | j + 1 => sq nx x (j + 1) :: cl nx x j
section
variable {n : Nat} {cs : List Con}
def ahdL (n : Nat) (cs : List Con) (x : Nat) : List Nat := (List.range n).filter fun o => decide (Con.ah o x ∈ cs)
end
end Sc
set_option Elab.async false
set_option linter.all false
set_option maxRecDepth 100000
set_option maxHeartbeats 2000000
namespace Lb
open PySem PySem.Spec PyProof.Rows L2 Rk Sc
def B_ahead_of : Ev := defSem false 2 3 (sSeq (sRet (cLc [2] (cRng1 (cA1 (cIxN 0 (cK (.int 0))) cA0)) (gName' 2) (cT (cBin (sIn false) (cTup (cA1 (cK (.str "ahead")) (cA1 (cName 2) (cA1 (cName 1) cA0)))) (cIxN 0 (cK (.int 1))))) (cName 2))) sNil)
def Is_ahead_of (G : Ev) : Prop := ∀ (n : Nat) (cs : List Con) (x : Nat), Pb n cs → G [.sh (pD n cs), .sh (iD x)] = some (.ok (.ow ((ahdL n cs x).map iD)) [.sh (pD n cs), .sh (iD x)])
theorem b_ahead_of : Is_ahead_of B_ahead_of := fun n cs x h => by
  unfold B_ahead_of
  have h7 := h.n7
  have hb : big = 16777216 := rfl
  have hr : rngOk (n : Int) = true := rngOk_nat (by omega)
  have b3 : (3 : Nat) ≤ big := by decide
  have e := lcMap (enc := iD) (o := [2]) (g := gName' 2) (t := cT (cBin (sIn false) (cTup (cA1 (cK (.str "ahead")) (cA1 (cName 2) (cA1 (cName 1) cA0)))) (cIxN 0 (cK (.int 1))))) (fa := cName 2) (ρw := [.sh (pD n cs), .sh (iD x), .un]) (fun o => decide (Con.ah o x ∈ cs)) iD (fun o => [.sh (pD n cs), .sh (iD x), .sh (iD o)]) (List.range n) fun o _ => ⟨rfl, by
    have hin := in_cs (cs := cs) (c := .ah o x) (d := .tuple [.str "ahead", .int o, .int x]) rfl
    simp [b3, hin], fun _ => ⟨_, rfl, rfl⟩, rfl⟩
  rw [← rng0] at e
  have hl : (ahdL n cs x).length ≤ big := by
    have : (ahdL n cs x).length ≤ n := by unfold ahdL; exact Nat.le_trans (List.length_filter_le _ _) (by simp)
    omega
  have eg : (List.range n).filter (fun o => decide (Con.ah o x ∈ cs)) = ahdL n cs x := rfl
  rw [eg] at e
  simp [hr, e, hl]
theorem ne_int (a b : Int) : sNe (.int a) (.int b) = some (bl (!decide (a = b))) := by
  have : (a == b) = decide (a = b) := by rw [Bool.eq_iff_iff]; simp
  simp [sNe, okc, this]
end Lb
set_option Elab.async false
set_option linter.all false
set_option maxRecDepth 100000
set_option maxHeartbeats 4000000
namespace Lb
open PySem PySem.Spec PyProof.Rows L2 Rk Sc
end Lb
set_option Elab.async false
set_option linter.all false
set_option maxRecDepth 100000
set_option maxHeartbeats 2000000
namespace Lb
open PySem PySem.Spec PyProof.Rows L2 Rk Sc
def lowS (cs : List Con) (c : List Nat) : Int := lowG cs (hdN c) + (c.length : Int) - 1
def highS (n : Nat) (cs : List Con) (c : List Nat) : Int := highG n cs (lastN c) - ((c.length : Int) - 1)
def lowB (cs : List Con) (x : Nat) (k : Int) (c : List Nat) : Bool := chB cs c && (decide (lastN c = x) && decide (k ≤ lowS cs c))
def highB (n : Nat) (cs : List Con) (x : Nat) (k : Int) (c : List Nat) : Bool := chB cs c && (decide (hdN c = x) && decide (highS n cs c ≤ k))
theorem ne_nats (a b : Nat) : sNe (.int (a : Int)) (.int (b : Int)) = some (bl (!decide (a = b))) := by
  rw [ne_int]
  congr 3
  exact decide_eq_decide.mpr (by omega)
end Lb
set_option linter.all false
namespace Sc
def plc (lo hi : Int) : Int := if hi - lo + 1 > 0 then hi - lo + 1 else 0
/-- the items whose window lies between -/
def dueW (n : Nat) (e l : Nat → Int) (lo hi : Int) : List Nat := (List.range n).filter fun x => decide (lo ≤ e x) && decide (l x ≤ hi)
theorem mem_dueW {n : Nat} {e l : Nat → Int} {lo hi : Int} {x : Nat} : x ∈ dueW n e l lo hi ↔ x < n ∧ lo ≤ e x ∧ l x ≤ hi := by simp [dueW]
/-- the last one above c -/
theorem last_above (l : Nat → Int) (c : Int) : ∀ a : List Nat, ∃ a1 a2, a = a1 ++ a2 ∧ (∀ x ∈ a2, l x ≤ c) ∧ (a1 = [] ∨ ∃ a' z, a1 = a' ++ [z] ∧ c < l z)
  | [] => ⟨[], [], rfl, (fun x h => by cases h), .inl rfl⟩
  | x :: a => by
    obtain ⟨a1, a2, e, h1, h2⟩ := last_above l c a
    rcases h2 with rfl | ⟨a', z, rfl, hz⟩
    · by_cases q : l x ≤ c
      · refine ⟨[], x :: a2, by rw [e]; rfl, fun y hy => ?_, .inl rfl⟩
        rcases List.mem_cons.mp hy with rfl | hy
        · exact q
        · exact h1 y hy
      · exact ⟨[x], a2, by rw [e]; rfl, h1, .inr ⟨[], x, rfl, by omega⟩⟩
    · exact ⟨x :: (a' ++ [z]), a2, by rw [e]; rfl, h1, .inr ⟨x :: a', z, rfl, hz⟩⟩
def LoE (e : Nat → Int) (r : List Nat) : Prop := ∀ (a b : List Nat) (y : Nat), r = a ++ y :: b → e y ≤ (a.length : Int) + 1
theorem loE_snoc {e : Nat → Int} {r : List Nat} {x : Nat} (h : LoE e r) (hx : e x ≤ (r.length : Int) + 1) : LoE e (r ++ [x]) := fun a b y q => by
  rcases nil_or_snoc b with rfl | ⟨u, w, rfl⟩
  · have := List.append_inj' q rfl
    obtain ⟨rfl, q2⟩ := this
    injection q2 with q2 _
    subst q2
    exact hx
  · have q' : r ++ [x] = (a ++ y :: u) ++ [w] := by rw [q]; simp
    obtain ⟨q1, _⟩ := List.append_inj' q' rfl
    exact h a u y q1
theorem edf_lo {n : Nat} {e l : Nat → Int} : ∀ {k : Nat} {r r' : List Nat}, edf n e l k r = some r' → LoE e r → LoE e r'
  | 0, r, r', h, hr => by cases h; exact hr
  | k + 1, r, r', h, hr => by
    unfold edf at h
    split at h
    · cases h
    · rename_i x hb
      exact edf_lo h (loE_snoc hr (mem_rdy.mp (best_some hb).1).2.2)
/-- where the way ends: nobody is ready -/
theorem edf_gap {n : Nat} {e l : Nat → Int} : ∀ {k : Nat} {r : List Nat}, edf n e l k r = none → r.Nodup → (∀ x ∈ r, x < n) → ∃ r', r'.Nodup ∧ (∀ x ∈ r', x < n) ∧ r'.length < r.length + k ∧ rdy n e r' = []
  | 0, r, h, _, _ => by cases h
  | k + 1, r, h, hn, hx => by
    unfold edf at h
    split at h
    · rename_i hb
      exact ⟨r, hn, hx, by omega, best_none hb⟩
    · rename_i x hb
      have hm := mem_rdy.mp (best_some hb).1
      obtain ⟨r', h1, h2, h3, h4⟩ := edf_gap h (by
        rw [List.nodup_append]
        exact ⟨hn, by simp, fun a ha b hb' => by rw [List.mem_singleton.mp hb']; exact fun z => hm.2.1 (z ▸ ha)⟩) (fun y hy => by
        rcases List.mem_append.mp hy with hy | hy
        · exact hx y hy
        · rw [List.mem_singleton.mp hy]; exact hm.1)
      exact ⟨r', h1, h2, by rw [List.length_append, List.length_singleton] at h3; omega, h4⟩
def Over (n : Nat) (e l : Nat → Int) (lo hi : Int) : Prop := 1 ≤ lo ∧ lo ≤ n + 1 ∧ 0 ≤ hi ∧ hi ≤ n ∧ plc lo hi < ((dueW n e l lo hi).length : Int)
theorem sub_due {n : Nat} {e l : Nat → Int} {lo hi : Int} {S : List Nat} (hn : S.Nodup) (h : ∀ x ∈ S, x < n ∧ lo ≤ e x ∧ l x ≤ hi) : S.length ≤ (dueW n e l lo hi).length :=
  hn.length_le_of_subset fun x hx => mem_dueW.mpr (h x hx)
theorem hall {n : Nat} {e l : Nat → Int} (he : ∀ x, x < n → 1 ≤ e x) (hl : ∀ x, x < n → l x ≤ n) : (∃ r, edf n e l n [] = some r ∧ Fe e l 0 r) ∨ ∃ lo hi, Over n e l lo hi := by
  cases q : edf n e l n [] with
  | none =>
    obtain ⟨r, h1, h2, h3, h4⟩ := edf_gap q List.nodup_nil fun x hx => by cases hx
    simp at h3
    refine .inr ⟨(r.length : Int) + 2, n, by omega, by omega, by omega, by omega, ?_⟩
    have h5 := sub_due (n := n) (e := e) (l := l) (lo := (r.length : Int) + 2) (hi := n) (S := left n r) (List.nodup_range.filter _) fun x hx => by
      obtain ⟨a, b⟩ := mem_left.mp hx
      refine ⟨a, ?_, hl x a⟩
      have : ¬ x ∈ rdy n e r := by rw [h4]; simp
      rw [mem_rdy] at this
      have : ¬ e x ≤ (r.length : Int) + 1 := fun z => this ⟨a, b, z⟩
      omega
    have h6 : n ≤ r.length + (left n r).length := by
      have : (r ++ left n r).length ≥ (List.range n).length := by
        refine List.nodup_range.length_le_of_subset fun x hx => ?_
        by_cases hr : x ∈ r
        · exact List.mem_append_left _ hr
        · exact List.mem_append_right _ (mem_left.mpr ⟨List.mem_range.mp hx, hr⟩)
      rw [List.length_append, List.length_range] at this
      exact this
    unfold plc
    split <;> omega
  | some r =>
    by_cases hf : Fe e l 0 r
    · exact .inl ⟨r, rfl, hf⟩
    · right
      obtain ⟨hR, hE⟩ := edf_isR q
      have hLo := edf_lo q (fun a b y z => by cases a <;> cases z)
      have nd := hR.nodup
      obtain ⟨a, y, b, e1, e2⟩ : ∃ a y b, r = a ++ y :: b ∧ l y < (a.length : Int) + 1 := by
        refine Classical.byContradiction fun hno => hf (fe_of nd fun x hx => ?_)
        obtain ⟨a, b, e1, e2, _⟩ := idx_split hx
        have g1 := hLo a b x e1
        have g2 : ¬ l x < (a.length : Int) + 1 := fun z => hno ⟨a, x, b, e1, z⟩
        unfold pos
        omega
      obtain ⟨a1, a2, ea, hA2, hA1⟩ := last_above l (l y) a
      have sub : ∀ x ∈ a2 ++ [y], x < n ∧ (a1.length : Int) + 1 ≤ e x ∧ l x ≤ l y := fun x hx => by
        have hxr : x ∈ r := by
          rw [e1, ea]
          rcases List.mem_append.mp hx with h | h
          · simp [h]
          · rw [List.mem_singleton.mp h]; simp
        have hxn := hR.mem.mp hxr
        have hxl : l x ≤ l y := by
          rcases List.mem_append.mp hx with h | h
          · exact hA2 x h
          · rw [List.mem_singleton.mp h]; exact Int.le_refl _
        refine ⟨hxn, ?_, hxl⟩
        rcases hA1 with rfl | ⟨a', z, rfl, hz⟩
        · have := he x hxn
          simp
          omega
        · have er : r = a' ++ z :: (a2 ++ y :: b) := by rw [e1, ea]; simp
          have hxa : x ∉ a' := fun hm => by
            rw [er] at nd
            have hx2 : x ∈ z :: (a2 ++ y :: b) := by
              rcases List.mem_append.mp hx with h | h
              · simp [h]
              · rw [List.mem_singleton.mp h]; simp
            exact (List.nodup_append.mp nd).2.2 x hm x hx2 rfl
          have := hE a' (a2 ++ y :: b) z er x hxn hxa
          rw [List.length_append, List.length_singleton]
          by_cases w : e x ≤ (a'.length : Int) + 1
          · have := this w
            omega
          · omega
      have ndS : (a2 ++ [y]).Nodup := by
        rw [e1, ea] at nd
        have : (a1 ++ ((a2 ++ [y]) ++ b)).Nodup := by simpa using nd
        exact (List.nodup_append.mp (List.nodup_append.mp this).2.1).1
      have hlen : r.length = n := hR.len
      have hl2 : a.length = a1.length + a2.length := by rw [ea, List.length_append]
      have hl3 : a.length + 1 ≤ n := by rw [← hlen, e1, List.length_append, List.length_cons]; omega
      by_cases w : 0 ≤ l y
      · refine ⟨(a1.length : Int) + 1, l y, by omega, by omega, w, by omega, ?_⟩
        have h5 := sub_due (n := n) (e := e) (l := l) (lo := (a1.length : Int) + 1) (hi := l y) ndS sub
        rw [List.length_append, List.length_singleton] at h5
        unfold plc
        split <;> omega
      · refine ⟨(a1.length : Int) + 1, 0, by omega, by omega, by omega, by omega, ?_⟩
        have h5 := sub_due (n := n) (e := e) (l := l) (lo := (a1.length : Int) + 1) (hi := 0) ndS fun x hx => ⟨(sub x hx).1, (sub x hx).2.1, by have := (sub x hx).2.2; omega⟩
        rw [List.length_append, List.length_singleton] at h5
        unfold plc
        split <;> omega
end Sc
set_option Elab.async false
set_option linter.all false
set_option maxRecDepth 100000
set_option maxHeartbeats 2000000
namespace Lb
open PySem PySem.Spec PyProof.Rows L2 Rk Sc
end Lb
set_option Elab.async false
set_option linter.all false
set_option maxRecDepth 100000
set_option maxHeartbeats 2000000
namespace Lb
open PySem PySem.Spec PyProof.Rows L2 Rk Sc
def natD : D → Nat
  | .int i => i.toNat
  | _ => 0
def asC (n : Nat) (v : D) : Option (List Nat) := match v with
  | .tuple ds => if ds.all (fun d => inR d 0 ((n : Int) - 1)) then some (ds.map natD) else none
  | _ => none
def lowV (n : Nat) (cs : List Con) (x : Nat) (k : Int) (v : D) : Bool := match asC n v with
  | some c => lowB cs x k c
  | none => false
def highV (n : Nat) (cs : List Con) (x : Nat) (k : Int) (v : D) : Bool := match asC n v with
  | some c => highB n cs x k c
  | none => false
def cycV (n : Nat) (cs : List Con) (v : D) : Bool := match asC n v with
  | some c => cyB cs c
  | none => false
def rowV (n : Nat) (cs : List Con) (lo hi : Int) (v : D) : Bool := match v with
  | .tuple [a, b, c] => inR a 0 ((n : Int) - 1) && (lowV n cs (natD a) lo b && highV n cs (natD a) hi c)
  | _ => false
def ascI (xs : List Int) : Bool := (xs.zip xs.tail).all fun p => decide (p.1 < p.2)
def fstI (v : D) : Int := match v with
  | .tuple (.int i :: _) => i
  | _ => 0
def overV (n : Nat) (cs : List Con) (l h rows : D) : Bool := inR l (-20) 20 && (inR h (-20) 20 && match l, h, rows with
  | .int lo, .int hi, .tuple rs => decide (plc lo hi < (rs.length : Int)) && (rs.all (rowV n cs lo hi) && ascI (rs.map fstI))
  | _, _, _ => false)
def ctrV (n : Nat) (cs : List Con) (v : D) : Bool := match v with
  | .tuple [.str s, a] => s == "cycle" && cycV n cs a
  | .tuple [.str s, l, h, rows] => s == "overfull" && overV n cs l h rows
  | _ => false
end Lb
set_option Elab.async false
set_option linter.all false
set_option maxRecDepth 100000
set_option maxHeartbeats 2000000
namespace Lb
open PySem PySem.Spec PyProof.Rows L2 Rk Sc
end Lb
set_option Elab.async false
set_option linter.all false
set_option maxRecDepth 100000
set_option maxHeartbeats 2000000
namespace Lb
open PySem PySem.Spec PyProof.Rows L2 Rk Sc
theorem ddI_le : ∀ l : List Int, (ddI l).length ≤ l.length
  | [] => Nat.le_refl _
  | x :: xs => by
    have := ddI_le xs
    unfold ddI
    split
    · rw [List.length_cons]; omega
    · rw [List.length_cons, List.length_cons]; omega
theorem ddI_nodup : ∀ l : List Int, (ddI l).length = l.length ↔ l.Nodup
  | [] => by simp [ddI]
  | x :: xs => by
    have h1 := ddI_le xs
    have ih := ddI_nodup xs
    unfold ddI
    rw [List.nodup_cons]
    split
    · rename_i h
      rw [List.length_cons]
      exact ⟨fun z => by omega, fun z => absurd h z.1⟩
    · rename_i h
      rw [List.length_cons, List.length_cons]
      exact ⟨fun z => ⟨h, ih.mp (by omega)⟩, fun z => by have := ih.mpr z.2; omega⟩
theorem ints_iD (c : List Nat) : intsOf (c.map iD) = some (c.map fun (x : Nat) => (x : Int)) := by
  induction c with
  | nil => rfl
  | cons x c ih =>
    show (intsOf (c.map iD)).map ((x : Int) :: ·) = _
    rw [ih]
    rfl
end Lb
set_option linter.all false
set_option maxRecDepth 100000
namespace Sc
variable {n : Nat} {cs : List Con}
def ahs (n : Nat) (cs : List Con) (x : Nat) : List Nat := (List.range n).filter fun y => decide (Con.ah y x ∈ cs)
theorem mem_ahs {x y : Nat} : y ∈ ahs n cs x ↔ y < n ∧ Con.ah y x ∈ cs := by simp [ahs]
/-- an item can come behind these -/
def okAt (n : Nat) (cs : List Con) (a : List Nat) (x : Nat) : Bool := (decide (lowG cs x ≤ (a.length : Int) + 1) && decide ((a.length : Int) + 1 ≤ highG n cs x)) && (ahs n cs x).all fun y => decide (y ∈ a)
theorem okAt_iff {a : List Nat} {x : Nat} : okAt n cs a x = true ↔ lowG cs x ≤ (a.length : Int) + 1 ∧ (a.length : Int) + 1 ≤ highG n cs x ∧ ∀ y, y < n → Con.ah y x ∈ cs → y ∈ a := by
  unfold okAt
  simp only [Bool.and_eq_true, decide_eq_true_eq, List.all_eq_true, mem_ahs, and_assoc]
  constructor
  · rintro ⟨h1, h2, h3⟩
    exact ⟨h1, h2, fun y a b => h3 y ⟨a, b⟩⟩
  · rintro ⟨h1, h2, h3⟩
    exact ⟨h1, h2, fun y ⟨a, b⟩ => h3 y a b⟩
def goesB (n : Nat) (cs : List Con) : List Nat → List Nat → Bool
  | _, [] => true
  | a, x :: t => okAt n cs a x && goesB n cs (a ++ [x]) t
theorem goesB_iff : ∀ {t a : List Nat}, goesB n cs a t = true ↔ ∀ u x v, t = u ++ x :: v → okAt n cs (a ++ u) x = true
  | [], a => ⟨fun _ u x v e => (by cases u <;> cases e), fun _ => rfl⟩
  | y :: t, a => by
    have ih := @goesB_iff t (a ++ [y])
    show (okAt n cs a y && goesB n cs (a ++ [y]) t) = true ↔ _
    rw [Bool.and_eq_true, ih]
    constructor
    · rintro ⟨h1, h2⟩ u x v e
      cases u with
      | nil => cases e; rw [List.append_nil]; exact h1
      | cons z u =>
        cases e
        have := h2 u x v rfl
        rwa [List.append_assoc] at this
    · intro h
      refine ⟨by have := h [] y t rfl; rwa [List.append_nil] at this, fun u x v e => ?_⟩
      have := h (y :: u) x v (by rw [e]; rfl)
      rw [List.append_assoc]
      exact this
theorem idx_app {u v : List Nat} {x : Nat} (h : x ∉ u) : (u ++ x :: v).idxOf x = u.length := by
  rw [List.idxOf_append, if_neg h, List.idxOf_cons_self, Nat.zero_add]
theorem goes_good (hok : ∀ c ∈ cs, c.ok n) {r : List Nat} (hr : IsR n r) : goesB n cs [] r = good cs r := by
  rw [Bool.eq_iff_iff, goesB_iff]
  constructor
  · intro h
    rw [good_iff]
    intro c hc
    have ok := hok c hc
    cases c with
    | wi i l hh =>
      obtain ⟨a, b, e, la, na⟩ := idx_split (hr.mem.mpr ok.1)
      obtain ⟨h1, h2, _⟩ := okAt_iff.mp (h a i b e)
      rw [List.nil_append, la] at h1 h2
      have k1 := lowG_ge hc
      have k2 := highG_le (n := n) hc
      unfold hold pos
      rw [Bool.and_eq_true, decide_eq_true_eq, decide_eq_true_eq]
      omega
    | ah x y =>
      obtain ⟨a, b, e, la, na⟩ := idx_split (hr.mem.mpr ok.2.1)
      obtain ⟨_, _, h3⟩ := okAt_iff.mp (h a y b e)
      have m := h3 x ok.1 hc
      rw [List.nil_append] at m
      have lt : r.idxOf x < a.length := by rw [e]; exact idx_lt_of (y := y) m
      unfold hold pos
      rw [decide_eq_true_eq]
      omega
  · intro hg u x v e
    rw [List.nil_append]
    have nd := hr.nodup
    rw [e] at nd
    have nu : x ∉ u := fun z => (List.nodup_append.mp nd).2.2 x z x List.mem_cons_self rfl
    have hx : x < n := hr.mem.mp (by rw [e]; simp)
    have pe : r.idxOf x = u.length := by rw [e]; exact idx_app nu
    refine okAt_iff.mpr ⟨?_, ?_, fun y hy hc => ?_⟩
    · have := good_low hg x
      unfold pos at this
      omega
    · have := good_high hr hg hx
      unfold pos at this
      omega
    · have := good_iff.mp hg _ hc
      unfold hold pos at this
      rw [decide_eq_true_eq, pe] at this
      by_cases z : y ∈ u
      · exact z
      · rw [e, List.idxOf_append, if_neg z] at this
        omega
def cm (n : Nat) (cs : List Con) (a : List Nat) : List Nat := (left n a).filter (okAt n cs a)
theorem mem_cm {a : List Nat} {x : Nat} : x ∈ cm n cs a ↔ x < n ∧ x ∉ a ∧ okAt n cs a x = true := by
  unfold cm
  rw [List.mem_filter, mem_left, and_assoc]
def G (n : Nat) (cs : List Con) : Nat → List Nat → List (List Nat)
  | 0, a => [a]
  | k + 1, a => (cm n cs a).flatMap fun x => G n cs k (a ++ [x])
def rkF (n : Nat) : Nat → List Nat → List (List Nat)
  | 0, a => [a]
  | k + 1, a => (left n a).flatMap fun x => rkF n k (a ++ [x])
theorem flat_assoc {α β γ : Type} (f : α → List β) (g : β → List γ) : ∀ l : List α, (l.flatMap f).flatMap g = l.flatMap fun x => (f x).flatMap g
  | [] => rfl
  | a :: l => by rw [List.flatMap_cons, List.flatMap_append, flat_assoc f g l, List.flatMap_cons]
theorem rkF_snoc : ∀ (k : Nat) (a : List Nat), rkF n (k + 1) a = (rkF n k a).flatMap fun r => (left n r).map fun x => r ++ [x]
  | 0, a => by
    show ((left n a).flatMap fun x => [a ++ [x]]) = [a].flatMap _
    rw [List.flatMap_cons, List.flatMap_nil, List.append_nil]
    have : ∀ l : List Nat, (l.flatMap fun x => [a ++ [x]]) = l.map fun x => a ++ [x] := fun l => by
      induction l with
      | nil => rfl
      | cons y l ih => rw [List.flatMap_cons, ih]; rfl
    exact this _
  | k + 1, a => by
    show ((left n a).flatMap fun x => rkF n (k + 1) (a ++ [x])) = ((left n a).flatMap fun x => rkF n k (a ++ [x])).flatMap _
    rw [flat_assoc]
    congr 1
    funext x
    exact rkF_snoc k (a ++ [x])
theorem rk_front : ∀ k : Nat, rk n k = rkF n k []
  | 0 => rfl
  | k + 1 => by
    rw [rkF_snoc, ← rk_front k]
    rfl
theorem rkF_pre : ∀ {k : Nat} {a r : List Nat}, r ∈ rkF n k a → ∃ t, r = a ++ t ∧ t.length = k
  | 0, a, r, h => ⟨[], by rw [List.append_nil]; exact List.mem_singleton.mp h, rfl⟩
  | k + 1, a, r, h => by
    obtain ⟨x, hx, hr⟩ := List.mem_flatMap.mp h
    obtain ⟨t, e, l⟩ := rkF_pre hr
    exact ⟨x :: t, by rw [e, List.append_assoc]; rfl, by rw [List.length_cons, l]⟩
theorem flat_if {α β : Type} (p : α → Bool) (f : α → List β) : ∀ l : List α, (l.flatMap fun x => if p x then f x else []) = (l.filter p).flatMap f
  | [] => rfl
  | a :: l => by
    rw [List.flatMap_cons, flat_if p f l, List.filter_cons]
    cases p a <;> simp
theorem rkF_good : ∀ (k : Nat) (a : List Nat), (rkF n k a).filter (fun r => goesB n cs a (r.drop a.length)) = G n cs k a
  | 0, a => by
    show [a].filter _ = [a]
    rw [List.filter_cons, List.drop_length]
    rfl
  | k + 1, a => by
    show ((left n a).flatMap fun x => rkF n k (a ++ [x])).filter _ = (cm n cs a).flatMap fun x => G n cs k (a ++ [x])
    unfold cm
    rw [List.filter_flatMap, ← flat_if]
    congr 1
    funext x
    rw [← rkF_good k (a ++ [x])]
    have key : ∀ r ∈ rkF n k (a ++ [x]), goesB n cs a (r.drop a.length) = (okAt n cs a x && goesB n cs (a ++ [x]) (r.drop (a ++ [x]).length)) := fun r hr => by
      obtain ⟨t, rfl, _⟩ := rkF_pre hr
      rw [List.drop_left, List.append_assoc, List.drop_left]
      rfl
    rw [List.filter_congr key]
    cases okAt n cs a x with
    | true => rfl
    | false => exact List.filter_eq_nil_iff.mpr fun r _ => by simp
theorem goods_G (hok : ∀ c ∈ cs, c.ok n) : goodsA n cs = G n cs n [] := by
  rw [← rkF_good, ← rk_front]
  unfold goodsA
  refine List.filter_congr fun r hr => ?_
  rw [← goes_good hok (mem_rk_n.mp hr)]
  rfl
theorem goods_nodup {n : Nat} {cs : List Con} : (goodsA n cs).Nodup := by
  have : ∀ k, (rk n k).Nodup := fun k => by
    induction k with
    | zero => exact List.nodup_cons.mpr ⟨by simp, List.nodup_nil⟩
    | succ k ih =>
      show ((rk n k).flatMap fun r => (left n r).map fun x => r ++ [x]).Nodup
      unfold List.Nodup
      rw [List.pairwise_flatMap]
      refine ⟨fun r _ => ?_, List.Pairwise.imp (fun {r q} (hne : r ≠ q) => ?_) ih⟩
      · refine List.Pairwise.map _ (fun a b (h : a < b) e => ?_) (List.pairwise_lt_range.filter _)
        have := (List.append_inj_right' e rfl)
        cases this
        omega
      · intro x hx y hy z
        subst z
        obtain ⟨u, _, rfl⟩ := List.mem_map.mp hx
        obtain ⟨v, _, e⟩ := List.mem_map.mp hy
        exact hne (List.append_inj_left' e rfl).symm
  exact (this n).filter _
def cN (n : Nat) (cs : List Con) (k : Nat) (a : List Nat) : Nat := (G n cs k a).length
theorem len_flat {α β : Type} (f : α → List β) (l : List α) : (l.flatMap f).length = (l.map fun x => (f x).length).sum := by
  induction l with
  | nil => rfl
  | cons a l ih => rw [List.flatMap_cons, List.length_append, ih, List.map_cons, List.sum_cons]
theorem cN_succ (k : Nat) (a : List Nat) : cN n cs (k + 1) a = ((cm n cs a).map fun x => cN n cs k (a ++ [x])).sum := len_flat _ _
theorem cm_perm {a b : List Nat} (h : a.Perm b) : cm n cs a = cm n cs b := by
  have l : left n a = left n b := by
    unfold left
    refine List.filter_congr fun x _ => ?_
    rw [Bool.eq_iff_iff]
    simp [h.mem_iff]
  unfold cm
  rw [l]
  refine List.filter_congr fun x _ => ?_
  unfold okAt
  rw [h.length_eq]
  congr 1
  rw [Bool.eq_iff_iff, List.all_eq_true, List.all_eq_true]
  simp [h.mem_iff]
theorem cN_perm : ∀ (k : Nat) {a b : List Nat}, a.Perm b → cN n cs k a = cN n cs k b
  | 0, _, _, _ => rfl
  | k + 1, a, b, h => by
    rw [cN_succ, cN_succ, cm_perm h]
    congr 1
    refine List.map_congr_left fun x _ => ?_
    exact cN_perm k (h.append_right _)
def mk (a : List Nat) : Nat := (a.map fun x => 2 ^ x).sum
theorem mk_snoc (a : List Nat) (x : Nat) : mk (a ++ [x]) = mk a + 2 ^ x := by simp [mk]
theorem bit_tab : ∀ m, m < 128 → ∀ y, y < 7 → m.testBit y = false → m + 2 ^ y < 128 ∧ m &&& 2 ^ y = 0 ∧ ∀ z, z < 7 → (m + 2 ^ y).testBit z = (m.testBit z || decide (z = y)) := by decide +kernel
theorem mk_spec : ∀ {a : List Nat}, a.Nodup → (∀ x ∈ a, x < 7) → mk a < 128 ∧ ∀ z, z < 7 → (mk a).testBit z = decide (z ∈ a)
  | [], _, _ => ⟨by decide, fun z _ => by simp [mk]⟩
  | y :: a, nd, lt => by
    obtain ⟨h1, h2⟩ := List.nodup_cons.mp nd
    obtain ⟨b1, b2⟩ := mk_spec h2 fun x hx => lt x (List.mem_cons_of_mem _ hx)
    have y7 := lt y List.mem_cons_self
    have e : mk (y :: a) = mk a + 2 ^ y := by simp [mk, Nat.add_comm]
    obtain ⟨c1, _, c3⟩ := bit_tab _ b1 y y7 (by rw [b2 y y7]; simp [h1])
    refine ⟨by rw [e]; exact c1, fun z hz => ?_⟩
    rw [e, c3 z hz, b2 z hz, Bool.eq_iff_iff]
    simp [or_comm]
def its (n b : Nat) : List Nat := (List.range n).filter fun x => b.testBit x
theorem mem_its {b x : Nat} : x ∈ its n b ↔ x < n ∧ b.testBit x = true := by simp [its]
theorem its_nodup {b : Nat} : (its n b).Nodup := List.nodup_range.filter _
theorem its_mk (h7 : n ≤ 7) {a : List Nat} (nd : a.Nodup) (lt : ∀ x ∈ a, x < n) : (its n (mk a)).Perm a := by
  obtain ⟨_, b2⟩ := mk_spec nd fun x hx => Nat.lt_of_lt_of_le (lt x hx) h7
  refine (List.perm_ext_iff_of_nodup its_nodup nd).mpr fun x => ?_
  rw [mem_its]
  constructor
  · rintro ⟨h1, h2⟩
    rw [b2 x (by omega)] at h2
    exact of_decide_eq_true h2
  · intro hx
    have := lt x hx
    exact ⟨this, by rw [b2 x (by omega)]; exact decide_eq_true hx⟩
theorem mk_tab : ∀ b, b < 128 → ∀ n, n ≤ 7 → b < 2 ^ n → mk (its n b) = b ∧ ((its n b).length = n ↔ b = 2 ^ n - 1) ∧ (its n b).length ≤ n := by decide +kernel
theorem pow7 (h7 : n ≤ 7) : 2 ^ n ≤ 128 := by
  have : 2 ^ n ≤ 2 ^ 7 := Nat.pow_le_pow_right (by omega) h7
  omega
/-- how many good rankings have the items of the set at their beginning, in some sequence that is given -/
def cT (n : Nat) (cs : List Con) (b : Nat) : Nat := cN n cs (n - (its n b).length) (its n b)
theorem cT_mk (h7 : n ≤ 7) {a : List Nat} (nd : a.Nodup) (lt : ∀ x ∈ a, x < n) : cT n cs (mk a) = cN n cs (n - a.length) a := by
  have p := its_mk h7 nd lt
  unfold cT
  rw [p.length_eq]
  exact cN_perm _ p
theorem cT_full (h7 : n ≤ 7) : cT n cs (2 ^ n - 1) = 1 := by
  have p := pow7 h7
  have p1 : 0 < 2 ^ n := Nat.two_pow_pos n
  obtain ⟨_, h2, _⟩ := mk_tab (2 ^ n - 1) (by omega) n h7 (by omega)
  unfold cT
  rw [h2.mpr rfl, Nat.sub_self]
  rfl
theorem cT_step (h7 : n ≤ 7) {b : Nat} (hb : b < 2 ^ n - 1) : cT n cs b = ((cm n cs (its n b)).map fun x => cT n cs (b + 2 ^ x)).sum := by
  have p := pow7 h7
  obtain ⟨h1, h2, h3⟩ := mk_tab b (by omega) n h7 (by omega)
  have hl : (its n b).length ≠ n := fun z => by have := h2.mp z; omega
  obtain ⟨k, hk⟩ : ∃ k, n - (its n b).length = k + 1 := ⟨n - (its n b).length - 1, by omega⟩
  have e : cT n cs b = cN n cs (k + 1) (its n b) := by unfold cT; rw [hk]
  rw [e, cN_succ]
  congr 1
  refine List.map_congr_left fun x hx => ?_
  obtain ⟨x1, x2, _⟩ := mem_cm.mp hx
  have nd : (its n b ++ [x]).Nodup := by
    rw [List.nodup_append]
    exact ⟨its_nodup, by simp, fun a ha c hc => by rw [List.mem_singleton.mp hc]; exact fun z => x2 (z ▸ ha)⟩
  have lt : ∀ y ∈ its n b ++ [x], y < n := fun y hy => by
    rcases List.mem_append.mp hy with hy | hy
    · exact (mem_its.mp hy).1
    · rw [List.mem_singleton.mp hy]; exact x1
  have := cT_mk (cs := cs) h7 nd lt
  rw [mk_snoc, h1, List.length_append, List.length_singleton] at this
  rw [this]
  congr 1
  omega
theorem cT_0 (h : n ≤ 7) : cT n cs 0 = (G n cs n []).length := by
  have := cT_mk (n := n) (cs := cs) h (a := []) List.nodup_nil (by simp)
  exact this
theorem bits_up (h7 : n ≤ 7) {b x : Nat} (hb : b < 2 ^ n) (hx : x < n) (hn : x ∉ its n b) : b + 2 ^ x < 2 ^ n ∧ b < b + 2 ^ x ∧ b &&& 2 ^ x = 0 := by
  have p := pow7 h7
  have f : b.testBit x = false := by
    cases q : b.testBit x with
    | false => rfl
    | true => exact absurd (mem_its.mpr ⟨hx, q⟩) hn
  obtain ⟨_, c2, _⟩ := bit_tab b (by omega) x (by omega) f
  have tab : ∀ m, m < 128 → ∀ n, n ≤ 7 → ∀ y, y < n → m < 2 ^ n → m.testBit y = false → m + 2 ^ y < 2 ^ n := by decide +kernel
  exact ⟨tab b (by omega) n h7 x hx hb f, by have := Nat.two_pow_pos x; omega, c2⟩
end Sc
set_option linter.all false
set_option maxRecDepth 100000
namespace Sc
end Sc
set_option Elab.async false
set_option linter.all false
set_option maxRecDepth 100000
set_option maxHeartbeats 4000000
namespace Lb
open PySem PySem.Spec PyProof.Rows L2 Rk Sc
def B_set_of : Ev := defSem false 1 2 (sSeq (sRet (cCall sSum (cA1 (cLc [1] (cIt (cName 0)) (gName' 1) yes (cBin sShl (cK (.int 1)) (cName 1))) cA0))) sNil)
def B_set_of_ce1 : Ev := (cBin sShl (cK (.int 1)) (cName 1))
theorem B_set_of_n : B_set_of = defSem false 1 2 (sSeq (sRet (cCall sSum (cA1 (cLc [1] (cIt (cName 0)) (gName' 1) yes B_set_of_ce1) cA0))) sNil) := rfl
def B_items_of : Ev := defSem false 2 3 (sSeq (sRet (cLc [2] (cRng1 (cA1 (cName 1) cA0)) (gName' 2) (cT (cBin sEq (cBin sBand (cBin sShr (cName 0) (cName 2)) (cK (.int 1))) (cK (.int 1)))) (cName 2))) sNil)
def B_items_of_ct1 : EvT := (cT (cBin sEq (cBin sBand (cBin sShr (cName 0) (cName 2)) (cK (.int 1))) (cK (.int 1))))
theorem B_items_of_n : B_items_of = defSem false 2 3 (sSeq (sRet (cLc [2] (cRng1 (cA1 (cName 1) cA0)) (gName' 2) B_items_of_ct1 (cName 2))) sNil) := rfl
def B_needs_of (g_given_low : Ev) (g_given_high : Ev) (g_set_of : Ev) (g_ahead_of : Ev) : Ev := defSem false 1 3 (sSeq (sSet 1 (cRgV (cA1 (cIxN 0 (cK (.int 0))) cA0))) (sSeq (sRet (cLc [2] (cItN 1 (cName 1)) (gName' 2) yes (cTup (cA1 (cFn 2 g_given_low (cA1 (cName 0) (cA1 (cName 2) cA0))) (cA1 (cFn 2 g_given_high (cA1 (cName 0) (cA1 (cName 2) cA0))) (cA1 (cFn 1 g_set_of (cA1 (cFn 2 g_ahead_of (cA1 (cName 0) (cA1 (cName 2) cA0))) cA0)) cA0)))))) sNil))
def B_needs_of_ce1 (g_given_low : Ev) (g_given_high : Ev) (g_set_of : Ev) (g_ahead_of : Ev) : Ev := (cTup (cA1 (cFn 2 g_given_low (cA1 (cName 0) (cA1 (cName 2) cA0))) (cA1 (cFn 2 g_given_high (cA1 (cName 0) (cA1 (cName 2) cA0))) (cA1 (cFn 1 g_set_of (cA1 (cFn 2 g_ahead_of (cA1 (cName 0) (cA1 (cName 2) cA0))) cA0)) cA0))))
theorem B_needs_of_n (g_given_low : Ev) (g_given_high : Ev) (g_set_of : Ev) (g_ahead_of : Ev) : B_needs_of g_given_low g_given_high g_set_of g_ahead_of = defSem false 1 3 (sSeq (sSet 1 (cRgV (cA1 (cIxN 0 (cK (.int 0))) cA0))) (sSeq (sRet (cLc [2] (cItN 1 (cName 1)) (gName' 2) yes (B_needs_of_ce1 g_given_low g_given_high g_set_of g_ahead_of))) sNil)) := rfl
def B_can_come : Ev := defSem false 3 6 (sSeq (sAsg (gTup' 3 (gCons' (gName' 3) (gCons' (gName' 4) (gCons' (gName' 5) gNil')))) (cName 0)) (sSeq (sRet (cAndV (cChain (sCmp fun i j => decide (i ≤ j)) (sCmp fun i j => decide (i ≤ j)) (cName 3) (cName 2) (cName 4)) (cBin sEq (cBin sBand (cName 5) (cName 1)) (cName 5)))) sNil))
theorem B_can_come_n : B_can_come = defSem false 3 6 (sSeq (sAsg (gTup' 3 (gCons' (gName' 3) (gCons' (gName' 4) (gCons' (gName' 5) gNil')))) (cName 0)) (sSeq (sRet (cAndV (cChain (sCmp fun i j => decide (i ≤ j)) (sCmp fun i j => decide (i ≤ j)) (cName 3) (cName 2) (cName 4)) (cBin sEq (cBin sBand (cName 5) (cName 1)) (cName 5)))) sNil)) := rfl
def B_counts_of (g_items_of : Ev) (g_can_come : Ev) : Ev := defSem false 1 9 (sSeq (sSet 1 (cLenN 0)) (sSeq (sSet 2 (cBin sSub (cBin sShl (cK (.int 1)) (cName 1)) (cK (.int 1)))) (sSeq (sSet 3 (cBin sAdd (cBin sMul (cLst (cA1 (cK (.int 0)) cA0)) (cName 2)) (cLst (cA1 (cK (.int 1)) cA0)))) (sSeq (sForL (cRng3 (cA1 (cBin sSub (cName 2) (cK (.int 1))) (cA1 (cUn sNeg (cK (.int 1))) (cA1 (cUn sNeg (cK (.int 1))) cA0)))) (gName' 4) (sSeq (sSet 5 (cFn 2 g_items_of (cA1 (cName 4) (cA1 (cName 1) cA0)))) (sSeq (sSet 6 (cBin sAdd (cLenN 5) (cK (.int 1)))) (sSeq (sSet 7 (cLc [8] (cRng1 (cA1 (cName 1) cA0)) (gName' 8) (cAndT (cT (cBin (sIn true) (cName 8) (cName 5))) (cT (cFn 3 g_can_come (cA1 (cIxN 0 (cName 8)) (cA1 (cName 4) (cA1 (cName 6) cA0)))))) (cName 8))) (sSeq (sPut 3 (cCall sSum (cA1 (cLc [8] (cIt (cName 7)) (gName' 8) yes (cIxN 3 (cBin sBor (cName 4) (cBin sShl (cK (.int 1)) (cName 8))))) cA0)) (cName 4)) sNil))))) (sSeq (sRet (cName 3)) sNil)))))
def B_counts_of_ce1 : Ev := (cIxN 3 (cBin sBor (cName 4) (cBin sShl (cK (.int 1)) (cName 8))))
def B_counts_of_ct1 (g_can_come : Ev) : EvT := (cAndT (cT (cBin (sIn true) (cName 8) (cName 5))) (cT (cFn 3 g_can_come (cA1 (cIxN 0 (cName 8)) (cA1 (cName 4) (cA1 (cName 6) cA0))))))
def B_counts_of_f1 (g_items_of : Ev) (g_can_come : Ev) : EvS := (sSeq (sSet 5 (cFn 2 g_items_of (cA1 (cName 4) (cA1 (cName 1) cA0)))) (sSeq (sSet 6 (cBin sAdd (cLenN 5) (cK (.int 1)))) (sSeq (sSet 7 (cLc [8] (cRng1 (cA1 (cName 1) cA0)) (gName' 8) (B_counts_of_ct1 g_can_come) (cName 8))) (sSeq (sPut 3 (cCall sSum (cA1 (cLc [8] (cIt (cName 7)) (gName' 8) yes B_counts_of_ce1) cA0)) (cName 4)) sNil))))
theorem B_counts_of_n (g_items_of : Ev) (g_can_come : Ev) : B_counts_of g_items_of g_can_come = defSem false 1 9 (sSeq (sSet 1 (cLenN 0)) (sSeq (sSet 2 (cBin sSub (cBin sShl (cK (.int 1)) (cName 1)) (cK (.int 1)))) (sSeq (sSet 3 (cBin sAdd (cBin sMul (cLst (cA1 (cK (.int 0)) cA0)) (cName 2)) (cLst (cA1 (cK (.int 1)) cA0)))) (sSeq (sForL (cRng3 (cA1 (cBin sSub (cName 2) (cK (.int 1))) (cA1 (cUn sNeg (cK (.int 1))) (cA1 (cUn sNeg (cK (.int 1))) cA0)))) (gName' 4) (B_counts_of_f1 g_items_of g_can_come)) (sSeq (sRet (cName 3)) sNil))))) := rfl
def B_count_all (g_counts_of : Ev) (g_needs_of : Ev) : Ev := defSem false 1 1 (sSeq (sRet (cBin sIx (cFn 1 g_counts_of (cA1 (cFn 1 g_needs_of (cA1 (cName 0) cA0)) cA0)) (cK (.int 0)))) sNil)
theorem B_count_all_n (g_counts_of : Ev) (g_needs_of : Ev) : B_count_all g_counts_of g_needs_of = defSem false 1 1 (sSeq (sRet (cBin sIx (cFn 1 g_counts_of (cA1 (cFn 1 g_needs_of (cA1 (cName 0) cA0)) cA0)) (cK (.int 0)))) sNil) := rfl
/-- a comprehension with a test, with an invariant -/
theorem lcMapO {α : Type} {enc : α → D} {o : List Nat} {g : EvG} {t : EvT} {fa : Ev} (c : α → Bool) (F : α → D) (I : Rho → Prop) : ∀ (xs : List α) (ρ : Rho), I ρ →
    (∀ x ∈ xs, ∀ ρ, I ρ → ∃ ρ1 ρ2, g (enc x) ρ = some ρ1 ∧ t ρ1 = some (.ok (c x) ρ2) ∧ (c x = true → ∃ r ρ3, fa ρ2 = some (.ok r ρ3) ∧ pub r = some (F x) ∧ I (wipeR ρ3 o)) ∧ (c x = false → I (wipeR ρ2 o))) →
    ∃ ρ', lcGo o g t fa (xs.map enc) ρ = some (.ok ((xs.filter c).map F) ρ') ∧ I ρ'
  | [], ρ, hI, _ => ⟨ρ, rfl, hI⟩
  | x :: xs, ρ, hI, h => by
    obtain ⟨ρ1, ρ2, h1, h2, h3, h4⟩ := h x List.mem_cons_self ρ hI
    rw [List.map_cons]
    unfold lcGo
    cases hc : c x with
    | false =>
      rw [hc] at h2
      obtain ⟨ρ', e, hI'⟩ := lcMapO c F I xs _ (h4 hc) fun y hy => h y (List.mem_cons_of_mem _ hy)
      refine ⟨ρ', ?_, hI'⟩
      simp only [h1, h2, List.filter_cons, hc]
      exact e
    | true =>
      rw [hc] at h2
      obtain ⟨r, ρ3, h5, h6, h7⟩ := h3 hc
      obtain ⟨ρ', e, hI'⟩ := lcMapO c F I xs _ h7 fun y hy => h y (List.mem_cons_of_mem _ hy)
      refine ⟨ρ', ?_, hI'⟩
      simp only [h1, h2, h5, h6, List.filter_cons, hc, e]
      rfl
theorem ints_cast (l : List Nat) : intsOf (l.map iD) = some (l.map fun (x : Nat) => (x : Int)) := ints_iD l
theorem sum_cast : ∀ l : List Nat, (l.map fun (x : Nat) => (x : Int)).sum = ((l.sum : Nat) : Int)
  | [] => rfl
  | a :: l => by rw [List.map_cons, List.sum_cons, sum_cast l, List.sum_cons]; omega
theorem s_sum (l : List Nat) : sSum [.list (l.map iD)] = some (.sh (.int (l.sum : Nat))) := by
  show (intsOf (l.map iD)).map (fun ns => Sl.sh (.int ns.sum)) = _
  rw [ints_cast]
  show some (Sl.sh (.int (l.map fun (x : Nat) => (x : Int)).sum)) = _
  rw [sum_cast]
@[simp] theorem sto_rg {a b : Int} : storable (.rg a b) = true := rfl
def Seq (d : D) (r : List Nat) : Prop := d = .list (r.map iD) ∨ d = rD r
def Is_set_of (G : Ev) : Prop := ∀ (r : List Nat) (d : D), Seq d r → r.length ≤ 1000 → (∀ x ∈ r, x < 1000) → G [.sh d] = some (.ok (.sh (.int (mk r : Nat))) [.sh d])
theorem shl1 {x : Nat} (h : x < 1000) : sShl (.int 1) (iD x) = some (.sh (.int ((2 ^ x : Nat) : Int))) := by
  show (if _ then some (Sl.sh (.int (1 * 2 ^ ((x : Int).toNat)))) else none) = _
  rw [if_pos ⟨by omega, by omega, by decide⟩]
  simp
theorem b_set_of : Is_set_of B_set_of := fun r d hd hl hx => by
  rw [B_set_of_n]
  have hbig : big = 16777216 := rfl
  have e := lcAll (enc := iD) (o := [1]) (g := gName' 1) (fa := B_set_of_ce1) (ρw := [.sh d, .un]) (fun x => iD (2 ^ x)) (fun x => [.sh d, .sh (iD x)]) r fun x hxr => ⟨rfl, by
    have := shl1 (hx x hxr)
    unfold B_set_of_ce1
    simp [this], rfl⟩
  have ez : (r.map fun x => iD (2 ^ x)) = (r.map fun x => 2 ^ x).map iD := by rw [List.map_map]; rfl
  rw [ez] at e
  have s := s_sum (r.map fun x => 2 ^ x)
  have em : (r.map fun x => 2 ^ x).sum = mk r := rfl
  rw [em] at s
  have hi : itD d = some (r.map iD) := by rcases hd with rfl | rfl <;> rfl
  have hb : (r.map iD).length ≤ big := by rw [List.length_map]; omega
  generalize (r.map fun x => 2 ^ x).map iD = PP at *
  generalize r.map iD = RR at *
  simp [hi, hb, e, s]
theorem shr_nat (b x : Nat) : sShr (.int b) (iD x) = some (.sh (.int ((b / 2 ^ x : Nat) : Int))) := by
  show (if (0 : Int) ≤ (x : Int) then some (Sl.sh (.int ((b : Int) / 2 ^ ((x : Int).toNat)))) else none) = _
  rw [if_pos (by omega)]
  simp
theorem band_nat (a b : Nat) : sBand (.int a) (.int b) = some (.sh (.int ((a &&& b : Nat) : Int))) := by
  show some (Sl.sh (.int (Builtin.bitAnd a b))) = _
  rw [bitAnd_pp (by omega) (by omega)]
  simp
theorem bor_nat {a b : Nat} (h : a &&& b = 0) : sBor (.int a) (.int b) = some (.sh (.int ((a + b : Nat) : Int))) := by
  show some (Sl.sh (.int (Builtin.bitOr a b))) = _
  rw [bitOr_and, bitAnd_pp (by omega) (by omega)]
  simp [h]
def Is_items_of (G : Ev) : Prop := ∀ (b n : Nat), n ≤ 7 → G [.sh (.int b), .sh (.int n)] = some (.ok (.ow ((its n b).map iD)) [.sh (.int b), .sh (.int n)])
theorem b_items_of : Is_items_of B_items_of := fun b n h7 => by
  rw [B_items_of_n]
  have hbig : big = 16777216 := rfl
  have hr : rngOk (n : Int) = true := rngOk_nat (by omega)
  have e := lcMap (enc := iD) (o := [2]) (g := gName' 2) (t := B_items_of_ct1) (fa := cName 2) (ρw := [.sh (.int b), .sh (.int n), .un]) (fun x => b.testBit x) iD (fun x => [.sh (.int b), .sh (.int n), .sh (iD x)]) (List.range n) fun x _ => ⟨rfl, by
    have h1 := shr_nat b x
    have h2 := band_nat (b / 2 ^ x) 1
    have h3 := eq_nats ((b / 2 ^ x) &&& 1) 1
    have h4 : decide ((b / 2 ^ x) &&& 1 = 1) = b.testBit x := by
      rw [Nat.testBit_eq_decide_div_mod_eq, Nat.and_one_is_mod]
    rw [h4] at h3
    have c1 : ((1 : Nat) : Int) = 1 := rfl
    rw [c1] at h2 h3
    unfold B_items_of_ct1
    generalize ((b / 2 ^ x &&& 1 : Nat) : Int) = Z at *
    generalize ((b / 2 ^ x : Nat) : Int) = Y at *
    simp [h1, h2, h3], fun _ => ⟨.sh (iD x), by simp, rfl⟩, rfl⟩
  have ei : (List.range n).filter (fun x => b.testBit x) = its n b := rfl
  rw [ei] at e
  rw [← rng0] at e
  generalize (its n b).map iD = II at *
  simp [hr, e]
def needD (n : Nat) (cs : List Con) (x : Nat) : D := .tuple [.int (lowG cs x), .int (highG n cs x), .int (mk (ahs n cs x) : Nat)]
def needsD (n : Nat) (cs : List Con) : D := .list ((List.range n).map (needD n cs))
theorem ahs_eq (n : Nat) (cs : List Con) (x : Nat) : ahdL n cs x = ahs n cs x := rfl
theorem ahs_lt {n : Nat} {cs : List Con} {x y : Nat} (h : y ∈ ahs n cs x) : y < n := (mem_ahs.mp h).1
theorem ahs_nd {n : Nat} {cs : List Con} {x : Nat} : (ahs n cs x).Nodup := List.nodup_range.filter _
theorem ahs_len {n : Nat} {cs : List Con} {x : Nat} : (ahs n cs x).length ≤ n := by
  have := List.length_filter_le (fun y => decide (Con.ah y x ∈ cs)) (List.range n)
  rwa [List.length_range] at this
def Is_needs_of (G : Ev) : Prop := ∀ (n : Nat) (cs : List Con), Pb n cs → cs.length ≤ 1000 → G [.sh (pD n cs)] = some (.ok (.ow ((List.range n).map (needD n cs))) [.sh (pD n cs)])
theorem b_needs_of {Gl Gh So Ah : Ev} (hL : Is_given_low Gl) (hH : Is_given_high Gh) (hS : Is_set_of So) (hA : Is_ahead_of Ah) : Is_needs_of (B_needs_of Gl Gh So Ah) := fun n cs h hl => by
  rw [B_needs_of_n]
  have h7 := h.n7
  have hbig : big = 16777216 := rfl
  have hr : rngOk (n : Int) = true := rngOk_nat (by omega)
  have hr0 : rngOk 0 = true := rfl
  have i0 : sIx (pD n cs) (.int 0) = some (.sh (.int n)) := rfl
  have b3 : (3 : Nat) ≤ big := by decide
  have e := lcAll (enc := iD) (o := [2]) (g := gName' 2) (fa := B_needs_of_ce1 Gl Gh So Ah) (ρw := [.sh (pD n cs), .rg 0 n, .un]) (needD n cs) (fun x => [.sh (pD n cs), .rg 0 n, .sh (iD x)]) (List.range n) fun x hx => ⟨rfl, by
    have hx := List.mem_range.mp hx
    have h1 := hL n cs x h
    have h2 := hH n cs x h
    have h3 := hA n cs x h
    have al := ahs_len (n := n) (cs := cs) (x := x)
    have h4 := hS (ahs n cs x) (.list ((ahs n cs x).map iD)) (.inl rfl) (by omega) (fun y hy => by have := ahs_lt hy; omega)
    rw [ahs_eq] at h3
    unfold B_needs_of_ce1 needD
    generalize (ahs n cs x).map iD = AA at *
    simp [h1, h2, h3, h4, b3], rfl⟩
  have e0 : rngD 0 n = (List.range n).map iD := rng0 n
  rw [← e0] at e
  have en : ((n : Int) - 0).toNat = n := by simp
  generalize (List.range n).map (needD n cs) = NN at *
  simp [i0, hr, hr0, en, e]
def canB (n : Nat) (cs : List Con) (x b : Nat) (p : Int) : Bool := (decide (lowG cs x ≤ p) && decide (p ≤ highG n cs x)) && decide (mk (ahs n cs x) &&& b = mk (ahs n cs x))
def Is_can_come (G : Ev) : Prop := ∀ (n : Nat) (cs : List Con) (x b : Nat) (p : Int), G [.sh (needD n cs x), .sh (.int b), .sh (.int p)] = some (.ok (.sh (.bool (canB n cs x b p))) [.sh (needD n cs x), .sh (.int b), .sh (.int p)])
theorem b_can_come : Is_can_come B_can_come := fun n cs x b p => by
  rw [B_can_come_n]
  unfold needD canB
  have h1 := band_nat (mk (ahs n cs x)) b
  have h2 := eq_nats (mk (ahs n cs x) &&& b) (mk (ahs n cs x))
  by_cases c1 : lowG cs x ≤ p <;> by_cases c2 : p ≤ highG n cs x <;> simp [c1, c2, h1, h2]
theorem sub_bits {n : Nat} (h7 : n ≤ 7) {a : List Nat} (nd : a.Nodup) (lt : ∀ x ∈ a, x < n) (b : Nat) : mk a &&& b = mk a ↔ ∀ y ∈ a, b.testBit y = true := by
  obtain ⟨b1, b2⟩ := mk_spec nd fun x hx => Nat.lt_of_lt_of_le (lt x hx) h7
  constructor
  · intro e y hy
    have hy7 : y < 7 := by have := lt y hy; omega
    have := congrArg (fun m => m.testBit y) e
    simp only [Nat.testBit_and, b2 y hy7, decide_eq_true hy, Bool.true_and] at this
    exact this
  · intro h
    refine Nat.eq_of_testBit_eq fun i => ?_
    rw [Nat.testBit_and]
    by_cases hi : i < 7
    · rw [b2 i hi]
      by_cases m : i ∈ a
      · rw [h i m]; simp
      · rw [decide_eq_false m]; rfl
    · have : (mk a).testBit i = false := Nat.testBit_lt_two_pow (Nat.lt_of_lt_of_le b1 (by
        have : 2 ^ 7 ≤ 2 ^ i := Nat.pow_le_pow_right (by omega) (by omega)
        omega))
      rw [this]
      rfl
theorem can_at {n : Nat} {cs : List Con} (h7 : n ≤ 7) {a : List Nat} (nd : a.Nodup) (lt : ∀ x ∈ a, x < n) (x : Nat) : canB n cs x (mk a) ((a.length : Int) + 1) = okAt n cs a x := by
  unfold canB okAt
  congr 1
  obtain ⟨_, b2⟩ := mk_spec nd fun y hy => Nat.lt_of_lt_of_le (lt y hy) h7
  rw [Bool.eq_iff_iff, decide_eq_true_eq, List.all_eq_true, sub_bits h7 ahs_nd fun y hy => ahs_lt hy]
  refine forall_congr' fun y => forall_congr' fun hy => ?_
  rw [b2 y (by have := ahs_lt hy; omega)]
theorem can_its {n : Nat} {cs : List Con} (h7 : n ≤ 7) {b : Nat} (hb : b < 2 ^ n) (x : Nat) : canB n cs x b (((its n b).length : Int) + 1) = okAt n cs (its n b) x := by
  have p := pow7 h7
  have := can_at (cs := cs) h7 (a := its n b) its_nodup (fun y hy => (mem_its.mp hy).1) x
  rwa [(mk_tab b (by omega) n h7 hb).1] at this
def tabD (n : Nat) (cs : List Con) (t : Nat) : List D := (List.range (2 ^ n)).map fun b => if 2 ^ n - 1 - t ≤ b then iD (cT n cs b) else iD 0
def cntD (n : Nat) (cs : List Con) : List D := (List.range (2 ^ n)).map fun b => iD (cT n cs b)
theorem tab_at {n : Nat} {cs : List Con} {t b : Nat} (hb : b < 2 ^ n) (h : 2 ^ n - 1 - t ≤ b) : (tabD n cs t)[b]? = some (iD (cT n cs b)) := by
  unfold tabD
  rw [List.getElem?_map, List.getElem?_range hb, Option.map_some, if_pos h]
theorem tab_set {n : Nat} {cs : List Con} {t : Nat} (ht : t < 2 ^ n - 1) : (tabD n cs t).set (2 ^ n - 1 - 1 - t) (iD (cT n cs (2 ^ n - 1 - 1 - t))) = tabD n cs (t + 1) := by
  refine List.ext_getElem? fun b => ?_
  rw [List.getElem?_set]
  unfold tabD
  rw [List.length_map, List.length_range]
  by_cases e : 2 ^ n - 1 - 1 - t = b
  · subst e
    rw [if_pos rfl, if_pos (by omega), List.getElem?_map, List.getElem?_range (by omega)]
    simp
    omega
  · rw [if_neg e, List.getElem?_map, List.getElem?_map]
    by_cases hb : b < 2 ^ n
    · rw [List.getElem?_range hb]
      simp only [Option.map_some]
      by_cases c : 2 ^ n - 1 - t ≤ b
      · rw [if_pos c, if_pos (by omega)]
      · rw [if_neg c, if_neg (by omega)]
    · rw [List.getElem?_eq_none (by simp; omega)]
      rfl
theorem tab_0 {n : Nat} {cs : List Con} (h7 : n ≤ 7) : tabD n cs 0 = List.replicate (2 ^ n - 1) (iD 0) ++ [iD 1] := by
  have p : 0 < 2 ^ n := Nat.two_pow_pos n
  unfold tabD
  conv => lhs; rw [show 2 ^ n = (2 ^ n - 1) + 1 by omega]
  rw [List.range_succ, List.map_append, List.map_singleton]
  congr 1
  · refine List.ext_getElem? fun b => ?_
    rw [List.getElem?_map, List.getElem?_replicate]
    by_cases hb : b < 2 ^ n - 1
    · rw [List.getElem?_range hb, if_pos hb]
      simp
      omega
    · rw [List.getElem?_eq_none (by simp; omega), if_neg hb]
      rfl
  · rw [cT_full h7, if_pos (by omega)]
theorem tab_end {n : Nat} {cs : List Con} : tabD n cs (2 ^ n - 1) = cntD n cs := by
  unfold tabD cntD
  refine List.map_congr_left fun b _ => ?_
  rw [if_pos (by omega)]
theorem tab_len {n : Nat} {cs : List Con} {t : Nat} : (tabD n cs t).length = 2 ^ n := by simp [tabD]
def ShS (s : Sl) (ds : List D) : Prop := s = .ow ds ∨ s = .sh (.list ds)
theorem f1_cts {Io Cc : Ev} (hI : Is_items_of Io) (hC : Is_can_come Cc) {n : Nat} {cs : List Con} (h7 : n ≤ 7) {t : Nat} (ht : t < 2 ^ n - 1) (sF s5 s6 s7 : Sl) : ∃ t5 t6 t7, B_counts_of_f1 Io Cc [.sh (needsD n cs), .sh (.int n), sF, .ow (tabD n cs t), .sh (iD (2 ^ n - 1 - 1 - t)), s5, s6, s7, .un] =
    some (.nx [.sh (needsD n cs), .sh (.int n), sF, .ow (tabD n cs (t + 1)), .sh (iD (2 ^ n - 1 - 1 - t)), t5, t6, t7, .un]) := by
  have hbig : big = 16777216 := rfl
  have p7 := pow7 h7
  have hr : rngOk (n : Int) = true := rngOk_nat (by omega)
  generalize hb : 2 ^ n - 1 - 1 - t = b
  have hbn : b < 2 ^ n - 1 := by omega
  have i1 := hI b n h7
  have tl := (mk_tab b (by omega) n h7 (by omega)).2.2
  obtain ⟨ρ', w1, s, hs, hρ⟩ := lcMapO (enc := iD) (o := [8]) (g := gName' 8) (t := B_counts_of_ct1 Cc) (fa := cName 8) (fun x => !decide (x ∈ its n b) && okAt n cs (its n b) x) iD
    (fun ρ => ∃ s, ShS s ((its n b).map iD) ∧ ρ = [.sh (needsD n cs), .sh (.int n), sF, .ow (tabD n cs t), .sh (iD b), s, .sh (.int (((its n b).length : Int) + 1)), s7, .un]) (List.range n) [.sh (needsD n cs), .sh (.int n), sF, .ow (tabD n cs t), .sh (iD b), .ow ((its n b).map iD), .sh (.int (((its n b).length : Int) + 1)), s7, .un] ⟨_, .inl rfl, rfl⟩ fun x hx ρ ⟨s, hs, hρ⟩ => by
      subst hρ
      have hx := List.mem_range.mp hx
      have hin : sIn true (iD x) (.list ((its n b).map iD)) = some (bl (!decide (x ∈ its n b))) := in_nat (r := its n b) (x := x) true
      have hix : sIx (needsD n cs) (iD x) = some (.sh (needD n cs x)) := by
        unfold needsD
        exact ix_list (by rw [List.getElem?_map, List.getElem?_range hx]; rfl)
      have hcc := hC n cs x b (((its n b).length : Int) + 1)
      rw [can_its h7 (by omega)] at hcc
      refine ⟨[.sh (needsD n cs), .sh (.int n), sF, .ow (tabD n cs t), .sh (iD b), s, .sh (.int (((its n b).length : Int) + 1)), s7, .sh (iD x)], [.sh (needsD n cs), .sh (.int n), sF, .ow (tabD n cs t), .sh (iD b), .sh (.list ((its n b).map iD)), .sh (.int (((its n b).length : Int) + 1)), s7, .sh (iD x)], rfl, ?_, fun _ => ⟨.sh (iD x), _, by simp; rfl, rfl, _, .inr rfl, rfl⟩, fun _ => ⟨_, .inr rfl, rfl⟩⟩
      unfold B_counts_of_ct1
      generalize (its n b).map iD = II at *
      rcases hs with rfl | rfl <;> by_cases c : x ∈ its n b <;> simp [hin, c, hix, hcc]
  subst hρ
  have ef : ((List.range n).filter fun x => !decide (x ∈ its n b) && okAt n cs (its n b) x) = cm n cs (its n b) := by
    unfold cm left
    rw [List.filter_filter]
    refine List.filter_congr fun x _ => ?_
    simp [Bool.and_comm]
  rw [ef] at w1
  have cl : (cm n cs (its n b)).length ≤ n := by
    have h1 : (cm n cs (its n b)).length ≤ (left n (its n b)).length := List.length_filter_le _ _
    have h2 : (left n (its n b)).length ≤ (List.range n).length := List.length_filter_le _ _
    rw [List.length_range] at h2
    omega
  have w2 := lcAll (enc := iD) (o := [8]) (g := gName' 8) (fa := B_counts_of_ce1) (ρw := [.sh (needsD n cs), .sh (.int n), sF, .ow (tabD n cs t), .sh (iD b), s, .sh (.int (((its n b).length : Int) + 1)), .sh (.list ((cm n cs (its n b)).map iD)), .un]) (fun x => iD (cT n cs (b + 2 ^ x))) (fun x => [.sh (needsD n cs), .sh (.int n), sF, .ow (tabD n cs t), .sh (iD b), s, .sh (.int (((its n b).length : Int) + 1)), .sh (.list ((cm n cs (its n b)).map iD)), .sh (iD x)]) (cm n cs (its n b)) fun x hx => ⟨rfl, by
    obtain ⟨x1, x2, x3⟩ := mem_cm.mp hx
    obtain ⟨u1, u2, u3⟩ := bits_up h7 (b := b) (by omega) x1 x2
    have h1 := shl1 (x := x) (by omega)
    have h2 := bor_nat (a := b) (b := 2 ^ x) u3
    have h3 := tab_at (n := n) (cs := cs) (t := t) (b := b + 2 ^ x) u1 (by omega)
    have h4 : sIx (.list (tabD n cs t)) (.int ((b + 2 ^ x : Nat) : Int)) = some (.sh (iD (cT n cs (b + 2 ^ x)))) := ix_list h3
    unfold B_counts_of_ce1
    generalize tabD n cs t = TT at *
    generalize ((b + 2 ^ x : Nat) : Int) = BB at *
    generalize ((2 ^ x : Nat) : Int) = CC at *
    simp [h1, h2, h4], rfl⟩
  have ez : ((cm n cs (its n b)).map fun x => iD (cT n cs (b + 2 ^ x))) = ((cm n cs (its n b)).map fun x => cT n cs (b + 2 ^ x)).map iD := by rw [List.map_map]; rfl
  rw [ez] at w2
  have sm := s_sum ((cm n cs (its n b)).map fun x => cT n cs (b + 2 ^ x))
  rw [← cT_step h7 hbn] at sm
  have st : (tabD n cs t).set b (iD (cT n cs b)) = tabD n cs (t + 1) := by
    have := tab_set (cs := cs) ht
    rwa [hb] at this
  have tl2 := tab_len (n := n) (cs := cs) (t := t)
  have px : ixN (tabD n cs t).length (b : Int) = some b := by
    rw [ixN_nn (by omega) (by rw [tl2]; omega)]
    simp
  have c8 : ((cm n cs (its n b)).map iD).length ≤ big := by rw [List.length_map]; omega
  have e0 : (List.range n).map iD = rngD 0 n := (rng0 n).symm
  rw [e0] at w1
  have il : ((its n b).map iD).length = (its n b).length := List.length_map ..
  refine ⟨s, .sh (.int (((its n b).length : Int) + 1)), .sh (.list ((cm n cs (its n b)).map iD)), ?_⟩
  unfold B_counts_of_f1
  generalize tabD n cs (t + 1) = T2 at *
  generalize tabD n cs t = TT at *
  generalize ((cm n cs (its n b)).map fun x => cT n cs (b + 2 ^ x)).map iD = SS at *
  generalize (cm n cs (its n b)).map iD = MM at *
  generalize (its n b).map iD = II at *
  rcases hs with rfl | rfl <;> simp [i1, il, hr, w1, c8, w2, sm, px, st]
theorem mul_l (xs : List D) (k : Int) : sMul (.list xs) (.int k) = if k < 1000000 ∧ -1000000 < k ∧ xs.length * k.toNat ≤ big then some (.ow (List.replicate k.toNat xs).flatten) else none := rfl
theorem rng_ok2 {m : Nat} (h : m ≤ 1000) : (rngOk ((m : Int) - 1) && rngOk (-1)) = true := by
  unfold rngOk
  rw [Bool.and_eq_true, decide_eq_true_eq, decide_eq_true_eq]
  omega
theorem rep_0 {m : Nat} (h : m ≤ 1000) : sMul (.list [.int 0]) (.int (m : Int)) = some (.ow (List.replicate m (iD 0))) := by
  rw [mul_l, if_pos ⟨by omega, by omega, by have hbig : big = 16777216 := rfl; simp; omega⟩, Int.toNat_natCast]
  congr 2
  clear h
  induction m with
  | zero => rfl
  | succ m ih => rw [List.replicate_succ, List.replicate_succ, List.flatten_cons, ih]; rfl
theorem app_1 {m : Nat} (h : m ≤ 1000) : sAdd (.list (List.replicate m (iD 0))) (.list [.int 1]) = some (.ow (List.replicate m (iD 0) ++ [iD 1])) := by
  have hbig : big = 16777216 := rfl
  exact if_pos (by simp; omega)
def Is_counts_of (G : Ev) : Prop := ∀ (n : Nat) (cs : List Con), 1 ≤ n → n ≤ 7 → G [.sh (needsD n cs)] = some (.ok (.sh (.list (cntD n cs))) [.sh (needsD n cs)])
theorem b_counts_of {Io Cc : Ev} (hI : Is_items_of Io) (hC : Is_can_come Cc) : Is_counts_of (B_counts_of Io Cc) := fun n cs h1 h7 => by
  rw [B_counts_of_n]
  have hbig : big = 16777216 := rfl
  have p7 := pow7 h7
  have p1 : 0 < 2 ^ n := Nat.two_pow_pos n
  have ef : ((2 ^ n : Nat) : Int) - 1 = ((2 ^ n - 1 : Nat) : Int) := by omega
  obtain ⟨sF, hsF⟩ : ∃ sF : Sl, sF = .sh (.int (((2 ^ n : Nat) : Int) - 1)) := ⟨_, rfl⟩
  obtain ⟨ρ', w, s4, s5, s6, s7, hρ⟩ := sFor_rng (enc := fun (t : Nat) => (.int (((2 ^ n : Nat) : Int) - 1 - 1 + (t : Int) * -1) : D)) (tg := gName' 4) (body := B_counts_of_f1 Io Cc)
    (fun t ρ => ∃ s4 s5 s6 s7, ρ = [.sh (needsD n cs), .sh (.int n), sF, .ow (tabD n cs t), s4, s5, s6, s7, .un]) (2 ^ n - 1) (ρ := [.sh (needsD n cs), .sh (.int n), sF, .ow (tabD n cs 0), .un, .un, .un, .un, .un]) ⟨.un, .un, .un, .un, rfl⟩ fun t ht ρ ⟨s4, s5, s6, s7, hρ⟩ => by
      subst hρ
      obtain ⟨t5, t6, t7, e⟩ := f1_cts hI hC (cs := cs) h7 ht sF s5 s6 s7
      have ei : (((2 ^ n : Nat) : Int) - 1 - 1 + (t : Int) * -1) = ((2 ^ n - 1 - 1 - t : Nat) : Int) := by omega
      refine ⟨[.sh (needsD n cs), .sh (.int n), sF, .ow (tabD n cs t), .sh (iD (2 ^ n - 1 - 1 - t)), s5, s6, s7, .un], _, ?_, e, _, _, _, _, rfl⟩
      rw [ei]
      rfl
  subst hρ hsF
  rw [tab_end] at w
  have er : rngDn (((2 ^ n : Nat) : Int) - 1 - 1) (2 ^ n - 1) = (List.range (2 ^ n - 1)).map fun (t : Nat) => (.int (((2 ^ n : Nat) : Int) - 1 - 1 + (t : Int) * -1) : D) := rfl
  rw [← er] at w
  have nl : lenD (needsD n cs) = some n := by simp [needsD]
  have s1 := shl1 (x := n) (by omega)
  have m1 := rep_0 (m := 2 ^ n - 1) (by omega)
  have a1 := app_1 (m := 2 ^ n - 1) (by omega)
  rw [← tab_0 (cs := cs) h7] at a1
  rw [← ef] at m1
  have r1 : (rngOk (((2 ^ n : Nat) : Int) - 1 - 1) && rngOk (-1)) = true := by rw [ef]; exact rng_ok2 (by omega)
  have r3 : (((2 ^ n : Nat) : Int) - 1).toNat = 2 ^ n - 1 := by omega
  have b1 : (1 : Nat) ≤ big := by decide
  generalize cntD n cs = CD at *
  generalize tabD n cs 0 = T0 at *
  generalize List.replicate (2 ^ n - 1) (iD 0) = RP at *
  generalize ((2 ^ n : Nat) : Int) = PP at *
  have eL : rngDn (PP - 1 - 1) (PP.toNat - 1) = rngDn (PP - 1 - 1) (2 ^ n - 1) := by rw [show PP.toNat - 1 = 2 ^ n - 1 by omega]
  generalize hLL : rngDn (PP - 1 - 1) (2 ^ n - 1) = LL at *
  simp [nl, s1, b1, m1, a1, r1, eL, w]
end Lb
set_option Elab.async false
set_option linter.all false
set_option maxRecDepth 100000
set_option maxHeartbeats 4000000
namespace Lb
open PySem PySem.Spec PyProof.Rows L2 Rk Sc
def Is_count_all (G : Ev) : Prop := ∀ (n : Nat) (cs : List Con), Pb n cs → cs.length ≤ 1000 → G [.sh (pD n cs)] = some (.ok (.sh (iD (goodsA n cs).length)) [.sh (pD n cs)])
theorem b_count_all {Ct Ne : Ev} (hC : Is_counts_of Ct) (hN : Is_needs_of Ne) : Is_count_all (B_count_all Ct Ne) := fun n cs h hl => by
  rw [B_count_all_n]
  have n1 := hN n cs h hl
  have c1 := hC n cs h.n1 h.n7
  have i1 : sIx (.list (cntD n cs)) (.int 0) = some (.sh (iD (goodsA n cs).length)) := by
    have : (cntD n cs)[0]? = some (iD (cT n cs 0)) := by
      unfold cntD
      rw [List.getElem?_map, List.getElem?_range (Nat.two_pow_pos n)]
      rfl
    have := ix_list this
    rw [cT_0 h.n7, ← goods_G h.ok] at this
    exact this
  unfold needsD at c1
  generalize cntD n cs = CD at *
  generalize (List.range n).map (needD n cs) = NN at *
  simp [n1, c1, i1]
structure Beg (n : Nat) (a : List Nat) : Prop where
  nd : a.Nodup
  lt : ∀ x ∈ a, x < n
theorem Beg.len {n : Nat} {a : List Nat} (h : Beg n a) : a.length ≤ n := by
  have := h.nd.length_le_of_subset (l₂ := List.range n) fun x hx => List.mem_range.mpr (h.lt x hx)
  rwa [List.length_range] at this
theorem Beg.take {n : Nat} {a : List Nat} (h : Beg n a) (k : Nat) : Beg n (a.take k) := ⟨h.nd.sublist (List.take_sublist k a), fun x hx => h.lt x (List.mem_of_mem_take hx)⟩
end Lb
set_option Elab.async false
set_option linter.all false
set_option maxRecDepth 100000
set_option maxHeartbeats 4000000
namespace Lb
open PySem PySem.Spec PyProof.Rows L2 Rk Sc
def dueW (g : List (List Nat)) (c : Con) : Str := if g.isEmpty then "none" else if g.all (fun r => hold r c) then "certain" else if g.any (fun r => hold r c) then "open" else "impossible"
theorem good_snoc {cs : List Con} {c : Con} {r : List Nat} : good (cs ++ [c]) r = (good cs r && hold r c) := by simp [good]
theorem has_goods {n : Nat} {cs : List Con} : HasR n cs ↔ goodsA n cs ≠ [] := by
  constructor
  · rintro ⟨r, hr, hg⟩ e
    have := mem_goodsA.mpr ⟨hr, hg⟩
    rw [e] at this
    cases this
  · intro h
    cases q : goodsA n cs with
    | nil => exact absurd q h
    | cons r l => exact ⟨r, mem_goodsA.mp (by rw [q]; exact List.mem_cons_self)⟩
theorem has_snoc {n : Nat} {cs : List Con} {c : Con} : HasR n (cs ++ [c]) ↔ (goodsA n cs).any (fun r => hold r c) = true := by
  rw [List.any_eq_true]
  constructor
  · rintro ⟨r, hr, hg⟩
    rw [good_snoc, Bool.and_eq_true] at hg
    exact ⟨r, mem_goodsA.mpr ⟨hr, hg.1⟩, hg.2⟩
  · rintro ⟨r, hm, hh⟩
    obtain ⟨h1, h2⟩ := mem_goodsA.mp hm
    exact ⟨r, h1, by rw [good_snoc, h2, hh]; rfl⟩
theorem word_due {n : Nat} {cs : List Con} {c : Con} (hc : c.ok n) : vWord n cs c = dueW (goodsA n cs) c := by
  unfold vWord dueW
  have h1 : hasB n cs = !(goodsA n cs).isEmpty := by
    rw [Bool.eq_iff_iff, hasB_iff, has_goods]
    simp
  have h2 : hasB n (cs ++ [c]) = (goodsA n cs).any (fun r => hold r c) := by rw [Bool.eq_iff_iff, hasB_iff, has_snoc]
  have h3 : (negL n c).any (fun d => hasB n (cs ++ [d])) = !(goodsA n cs).all (fun r => hold r c) := by
    rw [Bool.eq_iff_iff, List.any_eq_true, Bool.not_eq_true', Bool.eq_false_iff, Ne, List.all_eq_true]
    constructor
    · rintro ⟨d, hd, hh⟩ hall
      rw [hasB_iff, has_snoc, List.any_eq_true] at hh
      obtain ⟨r, hr, hh⟩ := hh
      have := hold_neg hc (mem_goodsA.mp hr).1
      rw [hall r hr] at this
      have : (negL n c).any (hold r) = true := List.any_eq_true.mpr ⟨d, hd, hh⟩
      simp_all
    · intro hne
      have : ∃ r ∈ goodsA n cs, ¬ hold r c = true := by
        apply Classical.byContradiction
        intro hno
        exact hne fun r hr => Classical.byContradiction fun z => hno ⟨r, hr, z⟩
      obtain ⟨r, hr, hh⟩ := this
      have hn := hold_neg hc (mem_goodsA.mp hr).1
      rw [show hold r c = false by simpa using hh] at hn
      obtain ⟨d, hd, hd2⟩ := List.any_eq_true.mp (hn.trans rfl)
      exact ⟨d, hd, by rw [hasB_iff, has_snoc, List.any_eq_true]; exact ⟨r, hr, hd2⟩⟩
  rw [h1, h2, h3]
  cases (goodsA n cs).isEmpty <;> cases (goodsA n cs).all (fun r => hold r c) <;> cases (goodsA n cs).any (fun r => hold r c) <;> simp
end Lb
set_option linter.all false
namespace Sc
end Sc
set_option Elab.async false
set_option linter.all false
set_option maxRecDepth 100000
set_option maxHeartbeats 4000000
namespace Lb
open PySem PySem.Spec PyProof.Rows L2 Rk Sc
end Lb
set_option Elab.async false
set_option linter.all false
set_option maxRecDepth 100000
set_option maxHeartbeats 4000000
namespace Lb
open PySem PySem.Spec PyProof.Rows L2 Rk Sc
theorem ne_same (r : List Nat) : sNe (rD r) (rD r) = some (bl false) := by
  have hd : PyData.depth (rD r) ≤ 1 := dp_tup fun d hd => by
    obtain ⟨x, _, rfl⟩ := List.mem_map.mp hd
    simp
  have hk : okc (rD r) (rD r) = true := by
    unfold okc
    rw [lay_rD]
    simp
    omega
  unfold sNe
  rw [if_pos hk, ev_r]
  simp
end Lb
set_option Elab.async false
set_option linter.all false
set_option maxRecDepth 100000
set_option maxHeartbeats 4000000
namespace Lb
open PySem PySem.Spec PyProof.Rows L2 Rk Sc
def vE (cs : List Con) (c : List Nat) : Int := lowG cs (hdN c) + c.length - 1
end Lb
set_option Elab.async false
set_option linter.all false
set_option maxRecDepth 100000
set_option maxHeartbeats 2000000
namespace Lb
open PySem PySem.Spec PyProof.Rows L2 Rk Sc
section
variable {n : Nat} {cs : List Con}
def clsB (c : List Nat) : Bool := decide (1 < c.length) && decide (hdN c = lastN c)
end
end Lb
set_option Elab.async false
set_option linter.all false
set_option maxRecDepth 100000
set_option maxHeartbeats 2000000
namespace Lb
open PySem PySem.Spec PyProof.Rows L2 Rk Sc
end Lb
set_option Elab.async false
set_option linter.all false
set_option maxRecDepth 100000
set_option maxHeartbeats 4000000
namespace Lb
open PySem PySem.Spec PyProof.Rows L2 Rk Sc
end Lb
set_option Elab.async false
set_option linter.all false
set_option maxRecDepth 100000
set_option maxHeartbeats 4000000
namespace Lb
open PySem PySem.Spec PyProof.Rows L2 Rk Sc
def ringC : List Con := [.ah 0 1, .ah 1 0]
def z1 : List Nat := [0, 1, 0, 1, 0, 1, 0, 1, 0, 1, 0, 1, 0, 1, 0, 1, 0, 1, 0, 1]
def z2 : List Nat := [1, 0, 1, 0, 1, 0, 1, 0, 1, 0, 1, 0, 1, 0, 1, 0, 1, 0, 1, 0]
def z3 : List Nat := [0, 1, 0, 1, 0, 1, 0, 1, 0, 1, 0, 1, 0, 1, 0, 1, 0, 1, 0, 1, 0, 1, 0, 1]
def vR (lo hi : Int) (a b : D) : D := .tuple [.str "overfull", .int lo, .int hi, .tuple [.tuple [.int 0, a, b]]]
theorem r1 : ctrV 2 ringC (vR 21 20 (rD (z1 ++ [0])) (rD [0])) = false := by decide +kernel
theorem r2 : ctrV 2 ringC (vR 20 19 (rD z2) (rD [0])) = true := by decide +kernel
theorem r3 : ctrV 2 ringC (vR (-20) (-21) (rD [0]) (rD z3)) = false := by decide +kernel
theorem r4 : ctrV 2 ringC (vR (-19) (-20) (rD [0]) (rD z3)) = true := by decide +kernel
end Lb
set_option Elab.async false
set_option linter.all false
set_option maxRecDepth 100000
set_option maxHeartbeats 2000000
namespace Lb
open PySem PySem.Spec PyProof.Rows L2 Rk Sc
end Lb
set_option Elab.async false
set_option linter.all false
set_option maxRecDepth 100000
set_option maxHeartbeats 4000000
namespace Lb
open PySem PySem.Spec PyProof.Rows L2 Rk Sc
end Lb
set_option Elab.async false
set_option linter.all false
set_option maxRecDepth 100000
set_option maxHeartbeats 4000000
namespace Lb
open PySem PySem.Spec PyProof.Rows L2 Rk Sc
end Lb
set_option Elab.async false
set_option linter.all false
set_option maxRecDepth 100000
set_option maxHeartbeats 4000000
namespace Lb
open PySem PySem.Spec PyProof.Rows L2 Rk Sc
end Lb
set_option Elab.async false
set_option linter.all false
set_option maxRecDepth 100000
set_option maxHeartbeats 2000000
namespace Rk
open PySem PySem.Spec PyProof.Rows L2
section
variable {ρ ρ1 : Rho} {c : Str} {fs : Fs} {f h : EvS} {fb : Ev}
@[simp] theorem fnK_ex : fnK ρ (some (.ex c fs ρ1)) = some (.ex c fs ρ) := rfl
@[simp] theorem dropK_ex : dropK (some (.ex c fs ρ)) = some (.ex c fs ρ) := rfl
@[simp] theorem retK_ex : retK (some (.ex c fs ρ)) = some (.ex c fs ρ) := rfl
@[simp] theorem setK_ex {i : Nat} : setK i (some (.ex c fs ρ)) = some (.ex c fs ρ) := rfl
@[simp] theorem ifSK_ex : ifSK f h (some (.ex c fs ρ)) = some (.ex c fs ρ) := rfl
@[simp] theorem binK_ex {s : D → D → Option Sl} : binK s fb (some (.ex c fs ρ)) = some (.ex c fs ρ) := rfl
def raK (c f : Str) : Option (Oc (List D)) → Option So
  | some (.ok [.str z] ρ1) => if z.length ≤ 1000 then some (.ex c [(f, .str z)] ρ1) else none
  | some (.ex c fs ρ1) => some (.ex c fs ρ1)
  | _ => none
@[simp] theorem raK_ok {f z : Str} : raK c f (some (.ok [.str z] ρ)) = if z.length ≤ 1000 then some (.ex c [(f, .str z)] ρ) else none := rfl
@[simp] theorem ap_raise {f : Str} {fs : EvA} : sRaise c f fs ρ = raK c f (fs ρ) := by
  unfold sRaise raK
  rcases fs ρ with _ | o
  · rfl
  · cases o with
    | ok ds ρ1 => 
      match ds with
      | [] => rfl
      | [x] => cases x <;> rfl
      | x :: y :: z => cases x <;> rfl
    | ex c fs ρ1 => rfl
def tryK (cs : List (Str × Str)) (hs : List (List Str × Hs)) : Option So → Option So
  | some (.ex c fs ρ1) => if kno cs c fs = true then pickH hs c fs ρ1 else none
  | o => o
@[simp] theorem ap_try {cs : List (Str × Str)} {hs : List (List Str × Hs)} : sTry cs hs f ρ = tryK cs hs (f ρ) := by
  unfold sTry tryK
  rcases f ρ with _ | o
  · rfl
  · cases o <;> rfl
@[simp] theorem tryK_nx {cs : List (Str × Str)} {hs : List (List Str × Hs)} : tryK cs hs (some (.nx ρ)) = some (.nx ρ) := rfl
@[simp] theorem tryK_rt {cs : List (Str × Str)} {hs : List (List Str × Hs)} {r : Sl} : tryK cs hs (some (.rt r ρ)) = some (.rt r ρ) := rfl
@[simp] theorem tryK_ex {cs : List (Str × Str)} {hs : List (List Str × Hs)} : tryK cs hs (some (.ex c fs ρ)) = if kno cs c fs = true then pickH hs c fs ρ else none := rfl
@[simp] theorem tryK_if {cs : List (Str × Str)} {hs : List (List Str × Hs)} {p : Prop} [Decidable p] {u v : Option So} : tryK cs hs (if p then u else v) = if p then tryK cs hs u else tryK cs hs v := by split <;> rfl
@[simp] theorem kno_one {cs : List (Str × Str)} {f : Str} {d : D} : kno cs c [(f, d)] = decide ((c, f) ∈ cs) := rfl
@[simp] theorem pickH_nil : pickH [] c fs ρ = some (.ex c fs ρ) := rfl
@[simp] theorem pickH_cons {l : List Str} {h : Hs} {r : List (List Str × Hs)} : pickH ((l, h) :: r) c fs ρ = if c ∈ l then h c fs ρ else pickH r c fs ρ := rfl
def hrK (ρ : Rho) : Option Sl → Option So
  | some v => some (.rt v ρ)
  | none => none
@[simp] theorem ap_hRet {r : Rt} : hRet r c fs ρ = hrK ρ (r fs) := by
  unfold hRet hrK
  rcases r fs with _ | v <;> rfl
@[simp] theorem hrK_some {v : Sl} : hrK ρ (some v) = some (.rt v ρ) := rfl
@[simp] theorem pF_one {f f0 : Str} {d : D} : pF f [(f0, d)] = if f = f0 then some d else none := rfl
@[simp] theorem pC_ap {s : Str} : pC s fs = some (.str s) := rfl
@[simp] theorem hOne_ap {p : Pt} : hOne p fs = (p fs).map .sh := rfl
def apK (d : D) : Option (List D) → Option (List D)
  | some ds => some (d :: ds)
  | none => none
@[simp] theorem apK_some {d : D} {ds : List D} : apK d (some ds) = some (d :: ds) := rfl
def apK1 (ps : List Pt) (fs : Fs) : Option D → Option (List D)
  | some d => apK d (allP ps fs)
  | none => none
@[simp] theorem apK1_some {ps : List Pt} {d : D} : apK1 ps fs (some d) = apK d (allP ps fs) := rfl
@[simp] theorem allP_nil : allP [] fs = some [] := rfl
@[simp] theorem allP_cons {p : Pt} {ps : List Pt} : allP (p :: ps) fs = apK1 ps fs (p fs) := by
  show (match p fs, allP ps fs with | some d, some ds => some (d :: ds) | _, _ => none) = _
  unfold apK1 apK
  rcases p fs with _ | d <;> rcases allP ps fs with _ | ds <;> rfl
def hlK (ds : Option (List D)) : Option Sl := match ds with
  | some ds => if ds.length ≤ big then some (.ow ds) else none
  | none => none
def htK (ds : Option (List D)) : Option Sl := match ds with
  | some ds => if ds.length ≤ big then some (.sh (.tuple ds)) else none
  | none => none
@[simp] theorem hLst_ap {ps : List Pt} : hLst ps fs = hlK (allP ps fs) := rfl
@[simp] theorem hTup_ap {ps : List Pt} : hTup ps fs = htK (allP ps fs) := rfl
@[simp] theorem hlK_some {ds : List D} : hlK (some ds) = if ds.length ≤ big then some (.ow ds) else none := rfl
@[simp] theorem htK_some {ds : List D} : htK (some ds) = if ds.length ≤ big then some (.sh (.tuple ds)) else none := rfl
end
end Rk
namespace Lb
open PySem PySem.Spec PyProof.Rows L2 Rk Sc
theorem k4 {k : Nat} (h : k < 4) : k = 0 ∨ k = 1 ∨ k = 2 ∨ k = 3 := by omega
end Lb
set_option Elab.async false
set_option linter.all false
set_option maxRecDepth 100000
set_option maxHeartbeats 4000000
namespace Lb
open PySem PySem.Spec PyProof.Rows L2 Rk Sc
end Lb
set_option Elab.async false
set_option linter.all false
set_option maxRecDepth 100000
set_option maxHeartbeats 4000000
namespace Lb
open PySem PySem.Spec PyProof.Rows L2 Rk Sc
theorem k5 {k : Nat} (h : k < 5) : k = 0 ∨ k = 1 ∨ k = 2 ∨ k = 3 ∨ k = 4 := by omega
end Lb
set_option Elab.async false
set_option linter.all false
set_option maxRecDepth 100000
set_option maxHeartbeats 4000000
namespace Lb
open PySem PySem.Spec PyProof.Rows L2 Rk Sc
def B_count_rankings (g_check : Ev) (g_is_problem : Ev) (g_count_all : Ev) : Ev := defSem false 1 1 (sSeq (sDrop (cFn 2 g_check (cA1 (cFn 1 g_is_problem (cA1 (cName 0) cA0)) (cA1 (cK (.str "problem")) cA0)))) (sSeq (sRet (cFn 1 g_count_all (cA1 (cName 0) cA0))) sNil))
theorem B_count_rankings_n (g_check : Ev) (g_is_problem : Ev) (g_count_all : Ev) : B_count_rankings g_check g_is_problem g_count_all = defSem false 1 1 (sSeq (sDrop (cFn 2 g_check (cA1 (cFn 1 g_is_problem (cA1 (cName 0) cA0)) (cA1 (cK (.str "problem")) cA0)))) (sSeq (sRet (cFn 1 g_count_all (cA1 (cName 0) cA0))) sNil)) := rfl
def B_place_counts (g_check_item : Ev) (g_count_all : Ev) (g_at_place : Ev) : Ev := defSem false 2 3 (sSeq (sDrop (cFn 2 g_check_item (cA1 (cName 0) (cA1 (cName 1) cA0)))) (sSeq (sRet (cCall sTuple (cA1 (cLc [2] (cRng2 (cA1 (cK (.int 1)) (cA1 (cBin sAdd (cIxN 0 (cK (.int 0))) (cK (.int 1))) cA0))) (gName' 2) yes (cFn 1 g_count_all (cA1 (cFn 3 g_at_place (cA1 (cName 0) (cA1 (cName 1) (cA1 (cName 2) cA0)))) cA0))) cA0))) sNil))
def B_place_counts_ce1 (g_count_all : Ev) (g_at_place : Ev) : Ev := (cFn 1 g_count_all (cA1 (cFn 3 g_at_place (cA1 (cName 0) (cA1 (cName 1) (cA1 (cName 2) cA0)))) cA0))
theorem B_place_counts_n (g_check_item : Ev) (g_count_all : Ev) (g_at_place : Ev) : B_place_counts g_check_item g_count_all g_at_place = defSem false 2 3 (sSeq (sDrop (cFn 2 g_check_item (cA1 (cName 0) (cA1 (cName 1) cA0)))) (sSeq (sRet (cCall sTuple (cA1 (cLc [2] (cRng2 (cA1 (cK (.int 1)) (cA1 (cBin sAdd (cIxN 0 (cK (.int 0))) (cK (.int 1))) cA0))) (gName' 2) yes (B_place_counts_ce1 g_count_all g_at_place)) cA0))) sNil)) := rfl
def Is_count_rk (G : Ev) : Prop := ∀ (n : Nat) (cs : List Con), Pb n cs → cs.length ≤ 12 → G [.sh (pD n cs)] = some (.ok (.sh (iD (goodsA n cs).length)) [.sh (pD n cs)])
theorem b_count_rk {Ch Pr Ca : Ev} (hCh : Is_check Ch) (hP : Is_problem Pr) (hA : Is_count_all Ca) : Is_count_rk (B_count_rankings Ch Pr Ca) := fun n cs h hl => by
  rw [B_count_rankings_n]
  have p1 := hP (pD n cs) (lay_pD n cs)
  rw [probD_ok h hl] at p1
  have k1 := hCh (.str "problem")
  have a := hA n cs h (by omega)
  simp [p1, k1, a]
def plD (n : Nat) (cs : List Con) (x : Nat) : List D := (List.range n).map fun p => iD (goodsA n (cs ++ [.wi x ((p : Int) + 1) ((p : Int) + 1)])).length
def Is_plc (G : Ev) : Prop := ∀ (n : Nat) (cs : List Con) (x : Nat), Pb n cs → cs.length ≤ 12 → x < n → G [.sh (pD n cs), .sh (iD x)] = some (.ok (.sh (.tuple (plD n cs x))) [.sh (pD n cs), .sh (iD x)])
theorem b_plc {Ci Ca Ap : Ev} (hC : Is_check_item Ci) (hA : Is_count_all Ca) (hP : Is_at_place Ap) : Is_plc (B_place_counts Ci Ca Ap) := fun n cs x h hl hx => by
  rw [B_place_counts_n]
  have hbig : big = 16777216 := rfl
  have h7 := h.n7
  have c := hC n cs x h hl hx
  have hr : (rngOk 1 && rngOk ((n : Int) + 1)) = true := by
    unfold rngOk
    rw [Bool.and_eq_true, decide_eq_true_eq, decide_eq_true_eq]
    omega
  have i0 : sIx (pD n cs) (.int 0) = some (.sh (.int n)) := rfl
  have e := lcAll (enc := fun i : Nat => (.int ((i : Int) + 1) : D)) (o := [2]) (g := gName' 2) (fa := B_place_counts_ce1 Ca Ap) (ρw := [.sh (pD n cs), .sh (iD x), .un]) (fun p => iD (goodsA n (cs ++ [.wi x ((p : Int) + 1) ((p : Int) + 1)])).length) (fun p => [.sh (pD n cs), .sh (iD x), .sh (.int ((p : Int) + 1))]) (List.range n) fun p hp => ⟨rfl, by
    have hp := List.mem_range.mp hp
    have a1 := hP n cs x ((p : Int) + 1) (by omega)
    have a2 := hA n (cs ++ [.wi x ((p : Int) + 1) ((p : Int) + 1)]) (h.add (c := .wi x ((p : Int) + 1) ((p : Int) + 1)) ⟨hx, by omega, by omega, by omega⟩ (by omega)) (by simp; omega)
    unfold B_place_counts_ce1
    generalize pD n (cs ++ [.wi x ((p : Int) + 1) ((p : Int) + 1)]) = P2 at *
    simp [a1, a2], rfl⟩
  have er := (rng1 n).symm
  have ep : ((List.range n).map fun p => iD (goodsA n (cs ++ [.wi x ((p : Int) + 1) ((p : Int) + 1)])).length) = plD n cs x := rfl
  rw [er, ep] at e
  have en : ((n : Int) + 1 - 1).toNat = n := by omega
  generalize plD n cs x = PL at *
  have ep2 : sTuple [.list PL] = some (.sh (.tuple PL)) := rfl
  simp [c, i0, hr, e, ep2]
end Lb
set_option Elab.async false
set_option linter.all false
set_option maxRecDepth 100000
set_option maxHeartbeats 4000000
namespace Lb
open PySem PySem.Spec PyProof.Rows L2 Rk Sc
end Lb
set_option Elab.async false
set_option linter.all false
set_option maxRecDepth 100000
set_option maxHeartbeats 4000000
namespace Lb
open PySem PySem.Spec PyProof.Rows L2 Rk Sc
end Lb
set_option Elab.async false
set_option linter.all false
set_option maxRecDepth 100000
set_option maxHeartbeats 4000000
namespace Lb
open PySem PySem.Spec PyProof.Rows L2 Rk Sc
end Lb
set_option Elab.async false
set_option linter.all false
set_option maxRecDepth 100000
set_option maxHeartbeats 4000000
namespace Lb
open PySem PySem.Spec PyProof.Rows L2 Rk Sc
end Lb
set_option Elab.async false
set_option linter.all false
set_option maxRecDepth 100000
set_option maxHeartbeats 4000000
namespace Lb
open PySem PySem.Spec PyProof.Rows L2 Rk Sc
inductive W4 where
  | no | im | ce | op
  deriving DecidableEq
def wS : W4 → Str
  | .no => "none"
  | .im => "impossible"
  | .ce => "certain"
  | .op => "open"
def w4 (g : List (List Nat)) (c : Con) : W4 := if g.isEmpty then .no else if g.all (fun r => hold r c) then .ce else if g.any (fun r => hold r c) then .op else .im
theorem dueW_4 (g : List (List Nat)) (c : Con) : dueW g c = wS (w4 g c) := by
  unfold dueW w4
  split
  · rfl
  · split
    · rfl
    · split <;> rfl
@[simp] theorem eq4 (a b : W4) : sEq (.str (wS a)) (.str (wS b)) = some (bl (decide (a = b))) := by cases a <;> cases b <;> kernel_rfl
@[simp] theorem ne4 (a b : W4) : sNe (.str (wS a)) (.str (wS b)) = some (bl (decide (a ≠ b))) := by cases a <;> cases b <;> kernel_rfl
@[simp] theorem in4 (a b c : W4) : sIn false (.str (wS a)) (.list [.str (wS b), .str (wS c)]) = some (bl (decide (a = b ∨ a = c))) := by cases a <;> cases b <;> cases c <;> kernel_rfl
@[simp] theorem nin4 (a b c : W4) : sIn true (.str (wS a)) (.list [.str (wS b), .str (wS c)]) = some (bl (!decide (a = b ∨ a = c))) := by cases a <;> cases b <;> cases c <;> kernel_rfl
def not4 : W4 → W4
  | .ce => .im
  | .im => .ce
  | x => x
def pairs12 : List (Str × Str) := [("certain", "impossible"), ("impossible", "certain"), ("open", "open"), ("none", "none")]
@[simp] theorem dct4 (a : W4) : sDct pairs12 (wS a) = some (wS (not4 a)) := by cases a <;> kernel_rfl
section
variable {n : Nat} {cs : List Con} {m c : Con}
theorem goods_snoc : goodsA n (cs ++ [m]) = (goodsA n cs).filter fun r => hold r m := by
  unfold goodsA
  rw [List.filter_filter]
  congr 1
  funext r
  rw [good_snoc, Bool.and_comm]
theorem w4_no {g : List (List Nat)} : w4 g c = .no ↔ g = [] := by
  unfold w4
  cases g with
  | nil => simp
  | cons r g => simp only [List.isEmpty_cons]; split; · rename_i h; cases h
                split <;> (try split) <;> simp
theorem w4_ce {g : List (List Nat)} : w4 g c = .ce ↔ g ≠ [] ∧ ∀ r ∈ g, hold r c = true := by
  unfold w4
  cases g with
  | nil => simp
  | cons r g =>
    simp only [List.isEmpty_cons, Bool.false_eq_true, if_false]
    split
    · rename_i h; simp only [List.all_eq_true] at h; exact ⟨fun _ => ⟨by simp, h⟩, fun _ => rfl⟩
    · rename_i h; simp only [List.all_eq_true] at h
      refine ⟨fun q => ?_, fun q => absurd q.2 h⟩
      split at q <;> cases q
end
end Lb
set_option Elab.async false
set_option linter.all false
set_option maxRecDepth 100000
set_option maxHeartbeats 4000000
namespace Lb
open PySem PySem.Spec PyProof.Rows L2 Rk Sc
section
variable {n : Nat} {cs : List Con} {ns : List Int}
def FD (n : Nat) (cs : List Con) (x : Nat) : List Nat := (goodsA n cs).map fun r => r.idxOf x
theorem FD_count (x p : Nat) : (FD n cs x).count p = (goodsA n (cs ++ [.wi x ((p : Int) + 1) ((p : Int) + 1)])).length := by
  rw [goods_snoc, ← List.countP_eq_length_filter, FD, List.count_eq_countP, List.countP_map]
  congr 1
  funext r
  show (r.idxOf x == p) = (decide ((p : Int) + 1 ≤ (r.idxOf x : Nat) + 1) && decide (((r.idxOf x : Nat) : Int) + 1 ≤ (p : Int) + 1))
  rw [Bool.eq_iff_iff, beq_iff_eq, Bool.and_eq_true, decide_eq_true_eq, decide_eq_true_eq]
  omega
theorem plD_r (x : Nat) : PyData.tuple (plD n cs x) = rD ((List.range n).map fun p => (FD n cs x).count p) := by
  unfold plD rD
  rw [List.map_map]
  congr 1
  refine List.map_congr_left fun p _ => ?_
  show _ = iD ((FD n cs x).count p)
  rw [FD_count]
end
end Lb
set_option Elab.async false
set_option linter.all false
namespace Sc
variable {n : Nat} {cs : List Con}
theorem idx_inj {f : Nat → Nat} : ∀ {l : List Nat} {x : Nat}, (∀ y ∈ l, f y = f x → y = x) → x ∈ l → (l.map f).idxOf (f x) = l.idxOf x
  | [], x, _, h => by cases h
  | y :: l, x, hi, h => by
    rw [List.map_cons, List.idxOf_cons, List.idxOf_cons]
    by_cases e : y = x
    · subst e; simp
    · have ne : ¬ f y = f x := fun z => e (hi y List.mem_cons_self z)
      have h' : x ∈ l := (List.mem_cons.mp h).resolve_left fun z => e z.symm
      rw [(beq_eq_false_iff_ne.mpr ne : (f y == f x) = false), (beq_eq_false_iff_ne.mpr e : (y == x) = false), idx_inj (fun z hz => hi z (List.mem_cons_of_mem _ hz)) h']
/-- a renaming of the items -/
structure Rn (n : Nat) (f : Nat → Nat) : Prop where
  lt : ∀ x, x < n → f x < n
  inj : ∀ x y, x < n → y < n → f x = f y → x = y
def reC (f : Nat → Nat) : Con → Con
  | .wi i l h => .wi (f i) l h
  | .ah a b => .ah (f a) (f b)
theorem Rn.isR {f : Nat → Nat} (F : Rn n f) {r : List Nat} (R : IsR n r) : IsR n (r.map f) := by
  refine isR_of_len ?_ (fun x hx => ?_) (by rw [List.length_map, R.len]; exact Nat.le_refl _)
  · refine List.Pairwise.map f (S := fun a b => a ≠ b) (R := fun a b => a ≠ b ∧ a < n ∧ b < n) (fun a b h e => h.1 (F.inj a b h.2.1 h.2.2 e)) ?_
    exact R.nodup.imp_of_mem fun ha hb h => ⟨h, R.mem.mp ha, R.mem.mp hb⟩
  · obtain ⟨y, hy, rfl⟩ := List.mem_map.mp hx
    exact F.lt y (R.mem.mp hy)
theorem Rn.ok {f : Nat → Nat} (F : Rn n f) {c : Con} (h : c.ok n) : (reC f c).ok n := by
  cases c with
  | wi i l hi => exact ⟨F.lt i h.1, h.2⟩
  | ah a b => exact ⟨F.lt a h.1, F.lt b h.2.1, fun e => h.2.2 (F.inj a b h.1 h.2.1 e)⟩
theorem Rn.pos {f : Nat → Nat} (F : Rn n f) {r : List Nat} (R : IsR n r) {x : Nat} (hx : x < n) : pos (r.map f) (f x) = pos r x := by
  unfold Sc.pos
  rw [idx_inj (fun y hy e => F.inj y x (R.mem.mp hy) hx e) (R.mem.mpr hx)]
theorem Rn.hold {f : Nat → Nat} (F : Rn n f) {r : List Nat} (R : IsR n r) {c : Con} (h : c.ok n) : hold (r.map f) (reC f c) = hold r c := by
  cases c with
  | wi i l hi =>
    show (decide (l ≤ Sc.pos (r.map f) (f i) + 1) && decide (Sc.pos (r.map f) (f i) + 1 ≤ hi)) = _
    rw [F.pos R h.1]
    rfl
  | ah a b =>
    show decide (Sc.pos (r.map f) (f a) < Sc.pos (r.map f) (f b)) = _
    rw [F.pos R h.1, F.pos R h.2.1]
    rfl
theorem Rn.good {f : Nat → Nat} (F : Rn n f) {r : List Nat} (R : IsR n r) (hok : ∀ c ∈ cs, c.ok n) (g : good cs r = true) : good (cs.map (reC f)) (r.map f) = true := by
  unfold Sc.good at *
  rw [List.all_eq_true] at *
  intro c hc
  obtain ⟨d, hd, rfl⟩ := List.mem_map.mp hc
  rw [F.hold R (hok d hd)]
  exact g d hd
theorem sub_len {α : Type} {l m : List α} (h : l.Nodup) (s : ∀ x ∈ l, x ∈ m) : l.length ≤ m.length := h.length_le_of_subset s
theorem Rn.le {f : Nat → Nat} (F : Rn n f) (hok : ∀ c ∈ cs, c.ok n) : (goodsA n cs).length ≤ (goodsA n (cs.map (reC f))).length := by
  rw [← List.length_map (f := List.map f)]
  refine sub_len ?_ fun q hq => ?_
  · refine List.Pairwise.map (List.map f) (S := fun a b => a ≠ b) (R := fun a b => a ≠ b ∧ IsR n a ∧ IsR n b) (fun a b h e => h.1 ?_) ?_
    · have l : a.length = b.length := h.2.1.len.trans h.2.2.len.symm
      refine List.ext_getElem l fun i h1 h2 => ?_
      have := congrArg (fun l => l[i]?) e
      simp only [List.getElem?_map, List.getElem?_eq_getElem h1, List.getElem?_eq_getElem h2, Option.map_some] at this
      exact F.inj _ _ (h.2.1.mem.mp (List.getElem_mem h1)) (h.2.2.mem.mp (List.getElem_mem h2)) (Option.some.inj this)
    · exact goods_nodup.imp_of_mem fun ha hb h => ⟨h, (mem_goodsA.mp ha).1, (mem_goodsA.mp hb).1⟩
  · obtain ⟨r, hr, rfl⟩ := List.mem_map.mp hq
    obtain ⟨R, g⟩ := mem_goodsA.mp hr
    exact mem_goodsA.mpr ⟨F.isR R, F.good R hok g⟩
def inv (n : Nat) (f : Nat → Nat) (y : Nat) : Nat := ((List.range n).map f).idxOf y
theorem Rn.inv {f : Nat → Nat} (F : Rn n f) : Rn n (Sc.inv n f) ∧ ∀ x, x < n → Sc.inv n f (f x) = x := by
  have P : IsR n ((List.range n).map f) := F.isR (List.Perm.refl _)
  refine ⟨⟨fun y hy => ?_, fun y z hy hz e => ?_⟩, fun x hx => ?_⟩
  · have := List.idxOf_lt_length_of_mem (P.mem.mpr hy)
    rwa [P.len] at this
  · have h1 := List.idxOf_lt_length_of_mem (P.mem.mpr hy)
    have h2 := List.idxOf_lt_length_of_mem (P.mem.mpr hz)
    have e1 := List.getElem_idxOf h1
    have e2 := List.getElem_idxOf h2
    rw [← e1, ← e2]
    congr 1
  · unfold Sc.inv
    rw [idx_inj (fun y hy e => F.inj y x (List.mem_range.mp hy) hx e) (List.mem_range.mpr hx)]
    have := (List.nodup_range (n := n)).idxOf_getElem x (by simpa using hx)
    rwa [List.getElem_range] at this
theorem Rn.len {f : Nat → Nat} (F : Rn n f) (hok : ∀ c ∈ cs, c.ok n) : (goodsA n (cs.map (reC f))).length = (goodsA n cs).length := by
  obtain ⟨G, gf⟩ := F.inv
  have h1 := F.le (cs := cs) hok
  have h2 := G.le (cs := cs.map (reC f)) fun c hc => by
    obtain ⟨d, hd, rfl⟩ := List.mem_map.mp hc
    exact F.ok (hok d hd)
  have e : (cs.map (reC f)).map (reC (Sc.inv n f)) = cs := by
    rw [List.map_map]
    refine (List.map_congr_left fun c hc => ?_).trans (List.map_id _)
    have := hok c hc
    cases c with
    | wi i l hi => show Con.wi (Sc.inv n f (f i)) l hi = _; rw [gf i this.1]; rfl
    | ah a b => show Con.ah (Sc.inv n f (f a)) (Sc.inv n f (f b)) = _; rw [gf a this.1, gf b this.2.1]; rfl
  rw [e] at h2
  omega
def tuC (n : Nat) : Con → Con
  | .wi i l h => .wi i ((n : Int) + 1 - h) ((n : Int) + 1 - l)
  | .ah a b => .ah b a
theorem tu_tu (c : Con) : tuC n (tuC n c) = c := by
  cases c with
  | wi i l h =>
    show Con.wi i ((n : Int) + 1 - ((n : Int) + 1 - l)) ((n : Int) + 1 - ((n : Int) + 1 - h)) = _
    congr 1 <;> omega
  | ah a b => rfl
theorem tu_ok {c : Con} (h : c.ok n) : (tuC n c).ok n := by
  cases c with
  | wi i l hi =>
    obtain ⟨h1, h2, h3, h4⟩ := h
    exact ⟨h1, by omega, by omega, by omega⟩
  | ah a b => exact ⟨h.2.1, h.1, fun e => h.2.2 e.symm⟩
theorem rev_isR {r : List Nat} (R : IsR n r) : IsR n r.reverse := (List.reverse_perm r).trans R
theorem rev_pos {r : List Nat} (R : IsR n r) {x : Nat} (hx : x < n) : pos r.reverse x = (n : Int) - 1 - pos r x := by
  have h1 := List.idxOf_lt_length_of_mem (R.mem.mpr hx)
  have e1 := List.getElem_idxOf h1
  have h2 : r.length - 1 - r.idxOf x < r.reverse.length := by rw [List.length_reverse]; omega
  have e2 : r.reverse[r.length - 1 - r.idxOf x] = x := by
    rw [List.getElem_reverse]
    have : r.length - 1 - (r.length - 1 - r.idxOf x) = r.idxOf x := by omega
    simp only [this]
    exact e1
  have := (rev_isR R).nodup.idxOf_getElem _ h2
  rw [e2] at this
  unfold pos
  rw [this, R.len]
  rw [R.len] at h1
  omega
theorem tu_hold {r : List Nat} (R : IsR n r) {c : Con} (h : c.ok n) : hold r.reverse (tuC n c) = hold r c := by
  cases c with
  | wi i l hi =>
    show (decide ((n : Int) + 1 - hi ≤ pos r.reverse i + 1) && decide (pos r.reverse i + 1 ≤ (n : Int) + 1 - l)) = (decide (l ≤ pos r i + 1) && decide (pos r i + 1 ≤ hi))
    rw [rev_pos R h.1, Bool.eq_iff_iff]
    simp only [Bool.and_eq_true, decide_eq_true_eq]
    omega
  | ah a b =>
    show decide (pos r.reverse b < pos r.reverse a) = decide (pos r a < pos r b)
    rw [rev_pos R h.1, rev_pos R h.2.1, decide_eq_decide]
    omega
theorem tu_le (hok : ∀ c ∈ cs, c.ok n) : (goodsA n cs).length ≤ (goodsA n (cs.map (tuC n))).length := by
  rw [← List.length_map (f := List.reverse)]
  refine sub_len ?_ fun q hq => ?_
  · refine List.Pairwise.map List.reverse (S := fun a b => a ≠ b) (R := fun a b => a ≠ b) (fun a b h e => h ?_) goods_nodup
    have := congrArg List.reverse e
    simpa using this
  · obtain ⟨r, hr, rfl⟩ := List.mem_map.mp hq
    obtain ⟨R, g⟩ := mem_goodsA.mp hr
    refine mem_goodsA.mpr ⟨rev_isR R, ?_⟩
    unfold good at *
    rw [List.all_eq_true] at *
    intro c hc
    obtain ⟨d, hd, rfl⟩ := List.mem_map.mp hc
    rw [tu_hold R (hok d hd)]
    exact g d hd
theorem tu_len (hok : ∀ c ∈ cs, c.ok n) : (goodsA n (cs.map (tuC n))).length = (goodsA n cs).length := by
  have h1 := tu_le hok
  have h2 := tu_le (cs := cs.map (tuC n)) fun c hc => by
    obtain ⟨d, hd, rfl⟩ := List.mem_map.mp hc
    exact tu_ok (hok d hd)
  have e : (cs.map (tuC n)).map (tuC n) = cs := by
    rw [List.map_map]
    exact (List.map_congr_left fun c _ => tu_tu c).trans (List.map_id _)
  rw [e] at h2
  omega
theorem goods_same {ds : List Con} (h : ∀ c, c ∈ ds ↔ c ∈ cs) : goodsA n ds = goodsA n cs := by
  unfold goodsA
  congr 1
  funext r
  unfold good
  rw [Bool.eq_iff_iff, List.all_eq_true, List.all_eq_true]
  exact ⟨fun z c hc => z c ((h c).mpr hc), fun z c hc => z c ((h c).mp hc)⟩
end Sc
set_option Elab.async false
set_option linter.all false
set_option maxRecDepth 100000
set_option maxHeartbeats 4000000
namespace Lb
open PySem PySem.Spec PyProof.Rows L2 Rk Sc
def B_law_renamed2 : Ev := defSem false 2 2 (sSeq (sIf (cT (cBin sEq (cIxN 0 (cK (.int 0))) (cK (.str "ahead")))) (sSeq (sRet (cTup (cA1 (cK (.str "ahead")) (cA1 (cIxN 1 (cIxN 0 (cK (.int 1)))) (cA1 (cIxN 1 (cIxN 0 (cK (.int 2)))) cA0))))) sNil) sNil) (sSeq (sRet (cTup (cA1 (cK (.str "within")) (cA1 (cIxN 1 (cIxN 0 (cK (.int 1)))) (cA1 (cIxN 0 (cK (.int 2))) (cA1 (cIxN 0 (cK (.int 3))) cA0)))))) sNil))
theorem B_law_renamed2_n : B_law_renamed2 = defSem false 2 2 (sSeq (sIf (cT (cBin sEq (cIxN 0 (cK (.int 0))) (cK (.str "ahead")))) (sSeq (sRet (cTup (cA1 (cK (.str "ahead")) (cA1 (cIxN 1 (cIxN 0 (cK (.int 1)))) (cA1 (cIxN 1 (cIxN 0 (cK (.int 2)))) cA0))))) sNil) sNil) (sSeq (sRet (cTup (cA1 (cK (.str "within")) (cA1 (cIxN 1 (cIxN 0 (cK (.int 1)))) (cA1 (cIxN 0 (cK (.int 2))) (cA1 (cIxN 0 (cK (.int 3))) cA0)))))) sNil)) := rfl
def B_law_turned3 : Ev := defSem false 2 2 (sSeq (sIf (cT (cBin sEq (cIxN 0 (cK (.int 0))) (cK (.str "ahead")))) (sSeq (sRet (cTup (cA1 (cK (.str "ahead")) (cA1 (cIxN 0 (cK (.int 2))) (cA1 (cIxN 0 (cK (.int 1))) cA0))))) sNil) sNil) (sSeq (sRet (cTup (cA1 (cK (.str "within")) (cA1 (cIxN 0 (cK (.int 1))) (cA1 (cBin sSub (cBin sAdd (cName 1) (cK (.int 1))) (cIxN 0 (cK (.int 3)))) (cA1 (cBin sSub (cBin sAdd (cName 1) (cK (.int 1))) (cIxN 0 (cK (.int 2)))) cA0)))))) sNil))
theorem B_law_turned3_n : B_law_turned3 = defSem false 2 2 (sSeq (sIf (cT (cBin sEq (cIxN 0 (cK (.int 0))) (cK (.str "ahead")))) (sSeq (sRet (cTup (cA1 (cK (.str "ahead")) (cA1 (cIxN 0 (cK (.int 2))) (cA1 (cIxN 0 (cK (.int 1))) cA0))))) sNil) sNil) (sSeq (sRet (cTup (cA1 (cK (.str "within")) (cA1 (cIxN 0 (cK (.int 1))) (cA1 (cBin sSub (cBin sAdd (cName 1) (cK (.int 1))) (cIxN 0 (cK (.int 3)))) (cA1 (cBin sSub (cBin sAdd (cName 1) (cK (.int 1))) (cIxN 0 (cK (.int 2)))) cA0)))))) sNil)) := rfl
def B_law31 (g__law_stream : Ev) (g__law_problem : Ev) (g_count_rankings : Ev) (g__law_next : Ev) (g__law_renamed : Ev) (g__law_turned : Ev) (g_place_counts : Ev) (g__law_constraint : Ev) (g_verdict : Ev) : Ev := defSem true 1 15 (sSeq (sSet 1 (cFn1 0 1 g__law_stream cA0)) (sSeq (sSet 2 (cFn1 1 3 g__law_problem (cA1 (cK (.int 5)) (cA1 (cK (.int 6)) cA0)))) (sSeq (sAsg (gTup' 2 (gCons' (gName' 11) (gCons' (gName' 12) gNil'))) (cName 2)) (sSeq (sSet 3 (cFn 1 g_count_rankings (cA1 (cName 2) cA0))) (sSeq (sSet 4 (cLstRg (cName 11))) (sSeq (sSet 5 (cLc [8] (cRng1 (cA1 (cName 11) cA0)) (gName' 8) yes (cPop 4 (cFn1 1 2 g__law_next (cA1 (cLenN 4) cA0))))) (sSeq (sSet 6 (cTup (cA1 (cName 11) (cA1 (cCall sTuple (cA1 (cLc [14] (cIt (cName 12)) (gName' 14) yes (cFn 2 g__law_renamed (cA1 (cName 14) (cA1 (cName 5) cA0)))) cA0)) cA0)))) (sSeq (sSet 7 (cLst (cA1 (cName 6) (cA1 (cTup (cA1 (cName 11) (cA1 (cBin sAdd (cRev (cName 12)) (cSl (cName 12) none (some (cK (.int 1))))) cA0))) (cA1 (cTup (cA1 (cName 11) (cA1 (cCall sTuple (cA1 (cLc [14] (cIt (cName 12)) (gName' 14) yes (cFn 2 g__law_turned (cA1 (cName 14) (cA1 (cName 11) cA0)))) cA0)) cA0))) cA0))))) (sSeq (sIf (cT (cCall sAny (cA1 (cLc [13] (cIt (cName 7)) (gName' 13) yes (cBin sNe (cFn 1 g_count_rankings (cA1 (cName 13) cA0)) (cName 3))) cA0))) (sSeq (sRet (cK (.bool false))) sNil) sNil) (sSeq (sSet 8 (cFn1 1 2 g__law_next (cA1 (cName 11) cA0))) (sSeq (sIf (cOrT (cT (cBin sNe (cFn 2 g_place_counts (cA1 (cName 6) (cA1 (cIxN 5 (cName 8)) cA0))) (cFn 2 g_place_counts (cA1 (cName 2) (cA1 (cName 8) cA0))))) (cT (cBin sNe (cFn 2 g_place_counts (cA1 (cIxN 7 (cK (.int 2))) (cA1 (cName 8) cA0))) (cRev (cFn 2 g_place_counts (cA1 (cName 2) (cA1 (cName 8) cA0))))))) (sSeq (sRet (cK (.bool false))) sNil) sNil) (sSeq (sSet 9 (cFn1 1 2 g__law_constraint (cA1 (cName 11) cA0))) (sSeq (sSet 10 (cFn 1 g_count_rankings (cA1 (cTup (cA1 (cName 11) (cA1 (cBin sAdd (cName 12) (cTup (cA1 (cName 9) cA0))) cA0))) cA0))) (sSeq (sRet (cAndV (cBin (sCmp fun i j => decide (i ≤ j)) (cName 10) (cName 3)) (cBin sEq (cBin sEq (cName 10) (cName 3)) (cBin (sIn false) (cFn 2 g_verdict (cA1 (cName 2) (cA1 (cName 9) cA0))) (cLst (cA1 (cK (.str "certain")) (cA1 (cK (.str "none")) cA0))))))) sNil))))))))))))))
def B_law31_ce1 (g_count_rankings : Ev) : Ev := (cBin sNe (cFn 1 g_count_rankings (cA1 (cName 13) cA0)) (cName 3))
def B_law31_ce2 (g__law_turned : Ev) : Ev := (cFn 2 g__law_turned (cA1 (cName 14) (cA1 (cName 11) cA0)))
def B_law31_ce3 (g__law_renamed : Ev) : Ev := (cFn 2 g__law_renamed (cA1 (cName 14) (cA1 (cName 5) cA0)))
def B_law31_ce4 (g__law_next : Ev) : Ev := (cPop 4 (cFn1 1 2 g__law_next (cA1 (cLenN 4) cA0)))
theorem B_law31_n (g__law_stream : Ev) (g__law_problem : Ev) (g_count_rankings : Ev) (g__law_next : Ev) (g__law_renamed : Ev) (g__law_turned : Ev) (g_place_counts : Ev) (g__law_constraint : Ev) (g_verdict : Ev) : B_law31 g__law_stream g__law_problem g_count_rankings g__law_next g__law_renamed g__law_turned g_place_counts g__law_constraint g_verdict = defSem true 1 15 (sSeq (sSet 1 (cFn1 0 1 g__law_stream cA0)) (sSeq (sSet 2 (cFn1 1 3 g__law_problem (cA1 (cK (.int 5)) (cA1 (cK (.int 6)) cA0)))) (sSeq (sAsg (gTup' 2 (gCons' (gName' 11) (gCons' (gName' 12) gNil'))) (cName 2)) (sSeq (sSet 3 (cFn 1 g_count_rankings (cA1 (cName 2) cA0))) (sSeq (sSet 4 (cLstRg (cName 11))) (sSeq (sSet 5 (cLc [8] (cRng1 (cA1 (cName 11) cA0)) (gName' 8) yes (B_law31_ce4 g__law_next))) (sSeq (sSet 6 (cTup (cA1 (cName 11) (cA1 (cCall sTuple (cA1 (cLc [14] (cIt (cName 12)) (gName' 14) yes (B_law31_ce3 g__law_renamed)) cA0)) cA0)))) (sSeq (sSet 7 (cLst (cA1 (cName 6) (cA1 (cTup (cA1 (cName 11) (cA1 (cBin sAdd (cRev (cName 12)) (cSl (cName 12) none (some (cK (.int 1))))) cA0))) (cA1 (cTup (cA1 (cName 11) (cA1 (cCall sTuple (cA1 (cLc [14] (cIt (cName 12)) (gName' 14) yes (B_law31_ce2 g__law_turned)) cA0)) cA0))) cA0))))) (sSeq (sIf (cT (cCall sAny (cA1 (cLc [13] (cIt (cName 7)) (gName' 13) yes (B_law31_ce1 g_count_rankings)) cA0))) (sSeq (sRet (cK (.bool false))) sNil) sNil) (sSeq (sSet 8 (cFn1 1 2 g__law_next (cA1 (cName 11) cA0))) (sSeq (sIf (cOrT (cT (cBin sNe (cFn 2 g_place_counts (cA1 (cName 6) (cA1 (cIxN 5 (cName 8)) cA0))) (cFn 2 g_place_counts (cA1 (cName 2) (cA1 (cName 8) cA0))))) (cT (cBin sNe (cFn 2 g_place_counts (cA1 (cIxN 7 (cK (.int 2))) (cA1 (cName 8) cA0))) (cRev (cFn 2 g_place_counts (cA1 (cName 2) (cA1 (cName 8) cA0))))))) (sSeq (sRet (cK (.bool false))) sNil) sNil) (sSeq (sSet 9 (cFn1 1 2 g__law_constraint (cA1 (cName 11) cA0))) (sSeq (sSet 10 (cFn 1 g_count_rankings (cA1 (cTup (cA1 (cName 11) (cA1 (cBin sAdd (cName 12) (cTup (cA1 (cName 9) cA0))) cA0))) cA0))) (sSeq (sRet (cAndV (cBin (sCmp fun i j => decide (i ≤ j)) (cName 10) (cName 3)) (cBin sEq (cBin sEq (cName 10) (cName 3)) (cBin (sIn false) (cFn 2 g_verdict (cA1 (cName 2) (cA1 (cName 9) cA0))) (cLst (cA1 (cK (.str "certain")) (cA1 (cK (.str "none")) cA0))))))) sNil)))))))))))))) := rfl
/-- a comprehension that changes what stands beside it -/
theorem lcStep {α β σ : Type} {enc : α → D} {o : List Nat} {g : EvG} {t : EvT} {fa : Ev} {F : β → D} (St : σ → Rho) (Inv : List β → σ → Prop) : ∀ (xs : List α) (bs0 : List β) (s : σ), Inv bs0 s →
    (∀ x ∈ xs, ∀ bs s, bs.length < bs0.length + xs.length → Inv bs s → ∃ ρ2 ρ4 r b s', g (enc x) (St s) = some ρ2 ∧ t ρ2 = some (.ok true ρ2) ∧ fa ρ2 = some (.ok r ρ4) ∧ pub r = some (F b) ∧ Inv (bs ++ [b]) s' ∧ wipeR ρ4 o = St s') →
    ∃ (bs : List β) (s' : σ), lcGo o g t fa (xs.map enc) (St s) = some (.ok (bs.map F) (St s')) ∧ bs.length = xs.length ∧ Inv (bs0 ++ bs) s'
  | [], bs0, s, h, _ => ⟨[], s, rfl, rfl, by rw [List.append_nil]; exact h⟩
  | x :: xs, bs0, s, h, k => by
    obtain ⟨ρ2, ρ4, r, b, s1, h1, h2, h3, h4, h5, h6⟩ := k x List.mem_cons_self bs0 s (by simp) h
    obtain ⟨bs, s', e1, e2, e3⟩ := lcStep St Inv xs (bs0 ++ [b]) s1 h5 fun y hy bs s hb hi => k y (List.mem_cons_of_mem _ hy) bs s (by simp at hb ⊢; omega) hi
    refine ⟨b :: bs, s', ?_, by simp [e2], by rw [List.append_assoc] at e3; exact e3⟩
    rw [List.map_cons]
    unfold lcGo
    simp only [h1, h2, h3, h4, h6, e1]
    rfl
def Is_lren (G : Ev) : Prop := ∀ (n : Nat) (c : Con) (od : List Nat), c.ok n → od.length = n → G [.sh (cD c), .sh (.list (od.map iD))] = some (.ok (.sh (cD (reC (fun x => od.getD x 0) c))) [.sh (cD c), .sh (.list (od.map iD))])
theorem b_lren2 : Is_lren B_law_renamed2 := fun n c od hc hl => by
  rw [B_law_renamed2_n]
  have ix : ∀ x, x < n → sIx (.list (od.map iD)) (iD x) = some (.sh (iD (od.getD x 0))) := fun x hx => ix_list (by
    rw [List.getElem?_map, List.getElem?_eq_getElem (by omega), List.getD_eq_getElem?_getD, List.getElem?_eq_getElem (by omega)]; rfl)
  have b3 : (3 : Nat) ≤ big := by decide
  have b4 : (4 : Nat) ≤ big := by decide
  cases c with
  | wi i l h =>
    have i1 := ix i hc.1
    have q : sEq (.str "within") (.str "ahead") = some (bl false) := eq_wiah
    unfold reC
    generalize od.map iD = OD at *
    simp [cD, q, i1, b4]
  | ah a b =>
    have i1 := ix a hc.1
    have i2 := ix b hc.2.1
    have q : sEq (.str "ahead") (.str "ahead") = some (bl true) := eq_ahah
    unfold reC
    generalize od.map iD = OD at *
    simp [cD, q, i1, i2, b3]
def Is_ltu3 (G : Ev) : Prop := ∀ (n : Nat) (c : Con), G [.sh (cD c), .sh (iD n)] = some (.ok (.sh (cD (tuC n c))) [.sh (cD c), .sh (iD n)])
theorem b_ltu3 : Is_ltu3 B_law_turned3 := fun n c => by
  rw [B_law_turned3_n]
  have b3 : (3 : Nat) ≤ big := by decide
  have b4 : (4 : Nat) ≤ big := by decide
  cases c with
  | wi i l h =>
    have q : sEq (.str "within") (.str "ahead") = some (bl false) := eq_wiah
    simp [cD, q, b4, tuC]
  | ah a b =>
    have q : sEq (.str "ahead") (.str "ahead") = some (bl true) := eq_ahah
    simp [cD, q, b3, tuC]
theorem erase_perm : ∀ (L : List Nat) (d : Nat) (h : d < L.length), (L[d] :: L.eraseIdx d).Perm L
  | [], d, h => by cases h
  | x :: L, 0, _ => List.Perm.refl _
  | x :: L, d + 1, h => by
    have := erase_perm L d (by simpa using h)
    exact (List.Perm.swap x _ _).trans (this.cons x)
section
variable {n : Nat} {cs : List Con} {ns : List Int}
theorem order41 {Nx : Ev} (hN : Is_next Nx) (h7 : n ≤ 7) {w : List D} (hw : Strm w) : ∃ (od : List Nat) (w' : List D), IsR n od ∧ Strm w' ∧
    lcGo [8] (gName' 8) yes (B_law31_ce4 Nx) ((List.range n).map iD) [.scr ns, .ow w, .sh (pD n cs), .sh (iD (goodsA n cs).length), .ow ((List.range n).map iD), .un, .un, .un, .un, .un, .un, .sh (iD n), .sh (csD cs), .un, .un] = some (.ok (od.map iD) [.scr ns, .ow w', .sh (pD n cs), .sh (iD (goodsA n cs).length), .ow [], .un, .un, .un, .un, .un, .un, .sh (iD n), .sh (csD cs), .un, .un]) := by
  have hbig : big = 16777216 := rfl
  obtain ⟨od, ⟨w', L⟩, e, l, hw', hp⟩ := lcStep (enc := iD) (o := [8]) (g := gName' 8) (t := yes) (fa := B_law31_ce4 Nx) (F := iD) (fun s : List D × List Nat => [.scr ns, .ow s.1, .sh (pD n cs), .sh (iD (goodsA n cs).length), .ow (s.2.map iD), .un, .un, .un, .un, .un, .un, .sh (iD n), .sh (csD cs), .un, .un]) (fun bs s => Strm s.1 ∧ IsR n (bs ++ s.2)) (List.range n) [] (w, List.range n) ⟨hw, List.Perm.refl _⟩ fun x hx bs ⟨w, L⟩ hb ⟨hw, hp⟩ => by
    have hl := hp.len
    rw [List.length_append] at hl
    simp only [List.length_nil, Nat.zero_add, List.length_range] at hb
    obtain ⟨d, w1, e0, hw1, hd⟩ := hN w L.length hw (by dsimp only at *; omega) (by dsimp only at *; omega)
    refine ⟨[.scr ns, .ow w, .sh (pD n cs), .sh (iD (goodsA n cs).length), .ow (L.map iD), .un, .un, .un, .sh (iD x), .un, .un, .sh (iD n), .sh (csD cs), .un, .un], [.scr ns, .ow w1, .sh (pD n cs), .sh (iD (goodsA n cs).length), .ow ((L.eraseIdx d).map iD), .un, .un, .un, .sh (iD x), .un, .un, .sh (iD n), .sh (csD cs), .un, .un], .sh (iD L[d]), L[d], (w1, L.eraseIdx d), rfl, rfl, ?_, rfl, ⟨hw1, ?_⟩, rfl⟩
    · have lm : (L.map iD).length = L.length := List.length_map ..
      have g1 : (L.map iD)[d]? = some (iD L[d]) := by rw [List.getElem?_map, List.getElem?_eq_getElem hd]; rfl
      have g2 := eraseIdx_map' iD L d
      have lb : L.length ≤ big := by dsimp only at *; omega
      unfold B_law31_ce4
      rw [← g2]
      generalize iD L[d] = LD at *
      generalize L.map iD = LM at *
      simp [lm, e0, hd, lb]
      exact Option.some.inj ((List.getElem?_eq_getElem (by omega)).symm.trans g1)
    · refine List.Perm.trans ?_ hp
      rw [List.append_assoc]
      exact (erase_perm L d hd).append_left bs
  rw [List.nil_append] at hp
  have hl := hp.len
  rw [List.length_append, l, List.length_range] at hl
  dsimp only at *
  have L0 : L = [] := List.length_eq_zero_iff.mp (by omega)
  subst L0
  rw [List.append_nil] at hp
  exact ⟨od, w', hp, hw', e⟩
theorem rn_of {od : List Nat} (R : IsR n od) : Rn n (fun x => od.getD x 0) := by
  have g : ∀ x (h : x < n), od.getD x 0 = od[x]'(by rw [R.len]; exact h) := fun x h => by
    rw [List.getD_eq_getElem?_getD, List.getElem?_eq_getElem (by rw [R.len]; exact h)]; rfl
  refine ⟨fun x hx => ?_, fun x y hx hy e => ?_⟩
  · show od.getD x 0 < n
    rw [g x hx]
    exact R.mem.mp (List.getElem_mem _)
  · have e' : od.getD x 0 = od.getD y 0 := e
    rw [g x hx, g y hy] at e'
    have h1 := R.nodup.idxOf_getElem x (by rw [R.len]; exact hx)
    have h2 := R.nodup.idxOf_getElem y (by rw [R.len]; exact hy)
    rw [← h1, ← h2, e']
theorem pl_ren {f : Nat → Nat} (F : Rn n f) (hok : ∀ c ∈ cs, c.ok n) {x : Nat} (hx : x < n) : plD n (cs.map (reC f)) (f x) = plD n cs x := by
  unfold plD
  refine List.map_congr_left fun p hp => ?_
  have hp := List.mem_range.mp hp
  have e : cs.map (reC f) ++ [Con.wi (f x) ((p : Int) + 1) ((p : Int) + 1)] = (cs ++ [Con.wi x ((p : Int) + 1) ((p : Int) + 1)]).map (reC f) := by rw [List.map_append]; rfl
  rw [e, F.len]
  intro c hc
  rcases List.mem_append.mp hc with hc | hc
  · exact hok c hc
  · rw [List.mem_singleton.mp hc]
    exact ⟨hx, by omega, by omega, by omega⟩
theorem pl_tu (hok : ∀ c ∈ cs, c.ok n) {x : Nat} (hx : x < n) : plD n (cs.map (tuC n)) x = (plD n cs x).reverse := by
  have l1 : (plD n (cs.map (tuC n)) x).length = n := by simp [plD]
  have l2 : (plD n cs x).length = n := by simp [plD]
  have gt : ∀ (ds : List Con) (p : Nat), p < n → (plD n ds x)[p]? = some (iD (goodsA n (ds ++ [.wi x ((p : Int) + 1) ((p : Int) + 1)])).length) := fun ds p hp => by
    unfold plD
    rw [List.getElem?_map, List.getElem?_range hp]
    rfl
  refine List.ext_getElem? fun p => ?_
  refine if h1 : p < n then ?_ else (by rw [List.getElem?_eq_none (by omega), List.getElem?_eq_none (by rw [List.length_reverse]; omega)])
  rw [List.getElem?_reverse (by omega), l2, gt _ p h1, gt _ (n - 1 - p) (by omega)]
  have e : cs.map (tuC n) ++ [Con.wi x ((p : Int) + 1) ((p : Int) + 1)] = (cs ++ [Con.wi x (((n - 1 - p : Nat) : Int) + 1) (((n - 1 - p : Nat) : Int) + 1)]).map (tuC n) := by
    rw [List.map_append]
    congr 1
    show _ = [Con.wi x ((n : Int) + 1 - (((n - 1 - p : Nat) : Int) + 1)) ((n : Int) + 1 - (((n - 1 - p : Nat) : Int) + 1))]
    congr 2 <;> omega
  rw [e, tu_len]
  intro c hc
  rcases List.mem_append.mp hc with hc | hc
  · exact hok c hc
  · rw [List.mem_singleton.mp hc]
    exact ⟨hx, by omega, by omega, by omega⟩
theorem ren41 {Re : Ev} (hR : Is_lren Re) (hok : ∀ c ∈ cs, c.ok n) {od : List Nat} (hl : od.length = n) (w : List D) (o8 : Sl) : ∃ s, ShS s (od.map iD) ∧
    lcGo [14] (gName' 14) yes (B_law31_ce3 Re) (cs.map cD) [.scr ns, .ow w, .sh (pD n cs), .sh (iD (goodsA n cs).length), .ow [], .ow (od.map iD), .un, .un, o8, .un, .un, .sh (iD n), .sh (csD cs), .un, .un] = some (.ok ((cs.map (reC fun x => od.getD x 0)).map cD) [.scr ns, .ow w, .sh (pD n cs), .sh (iD (goodsA n cs).length), .ow [], s, .un, .un, o8, .un, .un, .sh (iD n), .sh (csD cs), .un, .un]) := by
  obtain ⟨ρ', w2, s, hs, hρ⟩ := lcMapO (enc := cD) (o := [14]) (g := gName' 14) (t := yes) (fa := B_law31_ce3 Re) (fun _ => true) (fun c => cD (reC (fun x => od.getD x 0) c)) (fun ρ => ∃ s, ShS s (od.map iD) ∧ ρ = [.scr ns, .ow w, .sh (pD n cs), .sh (iD (goodsA n cs).length), .ow [], s, .un, .un, o8, .un, .un, .sh (iD n), .sh (csD cs), .un, .un]) cs [.scr ns, .ow w, .sh (pD n cs), .sh (iD (goodsA n cs).length), .ow [], .ow (od.map iD), .un, .un, o8, .un, .un, .sh (iD n), .sh (csD cs), .un, .un] ⟨_, .inl rfl, rfl⟩ fun c hc ρ ⟨s, hs, hρ⟩ => by
    subst hρ
    refine ⟨[.scr ns, .ow w, .sh (pD n cs), .sh (iD (goodsA n cs).length), .ow [], s, .un, .un, o8, .un, .un, .sh (iD n), .sh (csD cs), .un, .sh (cD c)], [.scr ns, .ow w, .sh (pD n cs), .sh (iD (goodsA n cs).length), .ow [], s, .un, .un, o8, .un, .un, .sh (iD n), .sh (csD cs), .un, .sh (cD c)], rfl, rfl, fun _ => ⟨.sh (cD (reC (fun x => od.getD x 0) c)), [.scr ns, .ow w, .sh (pD n cs), .sh (iD (goodsA n cs).length), .ow [], .sh (.list (od.map iD)), .un, .un, o8, .un, .un, .sh (iD n), .sh (csD cs), .un, .sh (cD c)], ?_, rfl, _, .inr rfl, rfl⟩, fun z => by cases z⟩
    have e := hR n c od (hok c hc) hl
    unfold B_law31_ce3
    generalize od.map iD = OD at *
    rcases hs with rfl | rfl <;> simp [e]
  subst hρ
  have fe : (cs.filter fun _ => true) = cs := List.filter_eq_self.mpr fun _ _ => rfl
  rw [fe] at w2
  refine ⟨s, hs, ?_⟩
  rw [List.map_map]
  exact w2
theorem tur41 {Tu : Ev} (hT : Is_ltu3 Tu) (w : List D) (s5 s6 s8 : Sl) :
    lcGo [14] (gName' 14) yes (B_law31_ce2 Tu) (cs.map cD) [.scr ns, .ow w, .sh (pD n cs), .sh (iD (goodsA n cs).length), .ow [], s5, s6, .un, s8, .un, .un, .sh (iD n), .sh (csD cs), .un, .un] = some (.ok ((cs.map (tuC n)).map cD) [.scr ns, .ow w, .sh (pD n cs), .sh (iD (goodsA n cs).length), .ow [], s5, s6, .un, s8, .un, .un, .sh (iD n), .sh (csD cs), .un, .un]) := by
  have := lcAll (enc := cD) (o := [14]) (g := gName' 14) (fa := B_law31_ce2 Tu) (ρw := [.scr ns, .ow w, .sh (pD n cs), .sh (iD (goodsA n cs).length), .ow [], s5, s6, .un, s8, .un, .un, .sh (iD n), .sh (csD cs), .un, .un]) (fun c => cD (tuC n c)) (fun c => [.scr ns, .ow w, .sh (pD n cs), .sh (iD (goodsA n cs).length), .ow [], s5, s6, .un, s8, .un, .un, .sh (iD n), .sh (csD cs), .un, .sh (cD c)]) cs fun c hc => ⟨rfl, ⟨.sh (cD (tuC n c)), by
    have e := hT n c
    unfold B_law31_ce2
    simp [e], rfl⟩, rfl⟩
  rw [this, List.map_map]
  rfl
theorem way41 {Cr : Ev} (hC : Is_count_rk Cr) {L : List (List Con)} (hL : ∀ ds ∈ L, Pb n ds ∧ ds.length ≤ 12 ∧ (goodsA n ds).length = (goodsA n cs).length) (w : List D) (s5 s6 s7 s8 : Sl) :
    lcGo [13] (gName' 13) yes (B_law31_ce1 Cr) (L.map (pD n)) [.scr ns, .ow w, .sh (pD n cs), .sh (iD (goodsA n cs).length), .ow [], s5, s6, s7, s8, .un, .un, .sh (iD n), .sh (csD cs), .un, .un] = some (.ok (L.map fun _ => (.bool false : D)) [.scr ns, .ow w, .sh (pD n cs), .sh (iD (goodsA n cs).length), .ow [], s5, s6, s7, s8, .un, .un, .sh (iD n), .sh (csD cs), .un, .un]) :=
  lcAll (enc := pD n) (o := [13]) (g := gName' 13) (fa := B_law31_ce1 Cr) (ρw := [.scr ns, .ow w, .sh (pD n cs), .sh (iD (goodsA n cs).length), .ow [], s5, s6, s7, s8, .un, .un, .sh (iD n), .sh (csD cs), .un, .un]) (fun _ => .bool false) (fun ds => [.scr ns, .ow w, .sh (pD n cs), .sh (iD (goodsA n cs).length), .ow [], s5, s6, s7, s8, .un, .un, .sh (iD n), .sh (csD cs), .sh (pD n ds), .un]) L fun ds hd => ⟨rfl, ⟨.sh (.bool false), by
    obtain ⟨p, l, e⟩ := hL ds hd
    have c := hC n ds p l
    rw [e] at c
    have n1 : sNe (iD (goodsA n cs).length) (iD (goodsA n cs).length) = some (bl false) := (ne_nats _ _).trans (by simp)
    unfold B_law31_ce1
    generalize iD (goodsA n cs).length = GL at *
    generalize pD n ds = P2 at *
    simp [c, n1], rfl⟩, rfl⟩
theorem fit41 {g : List (List Nat)} {c : Con} : ((g.filter fun r => hold r c).length = g.length) ↔ (w4 g c = .ce ∨ w4 g c = .no) := by
  rw [w4_ce, w4_no]
  constructor
  · intro h
    by_cases q : g = []
    · exact .inr q
    · exact .inl ⟨q, List.length_filter_eq_length_iff.mp h⟩
  · rintro (⟨_, h⟩ | h)
    · exact List.length_filter_eq_length_iff.mpr h
    · rw [h]; rfl
end
theorem b_law41 {St Pr Cr Nx Re Tu Pc Lc Ve : Ev} (hS : Is_stream St) (hP : Is_lprob Pr) (hC : Is_count_rk Cr) (hN : Is_next Nx) (hRe : Is_lren Re) (hTu : Is_ltu3 Tu) (hPc : Is_plc Pc) (hLc : Is_lcon Lc) (hV : Is_verdict Ve) (ns : List Int) : ∃ ρ, B_law31 St Pr Cr Nx Re Tu Pc Lc Ve [.scr ns] = some (.ok (bl true) ρ) := by
  obtain ⟨n, cs, w1, e1, hw1, n5, cl, pb⟩ := hP _ 5 6 (strm_new ns) (by omega) (by omega) (by omega)
  have e1' : Pr [.ow [.list (ns.map .int), .int 0, .int 0], .sh (.int 5), .sh (.int 6)] = some (.ok (.sh (pD n cs)) [.ow w1, .sh (.int 5), .sh (.int 6)]) := e1
  have hbig : big = 16777216 := rfl
  have h7 := pb.n7
  have h1 := pb.n1
  have s0 := hS ns
  have c0 := hC n cs pb (by omega)
  have hr := rngOk_nat (n := n) (by omega)
  have rn : rngD 0 n = (List.range n).map iD := rng0 n
  have rl : ((List.range n).map iD).length ≤ big := by simp; omega
  obtain ⟨od, w2, R, hw2, o1⟩ := order41 (cs := cs) (ns := ns) hN h7 hw1
  have F := rn_of R
  obtain ⟨s5, hs5, o2⟩ := ren41 (ns := ns) hRe pb.ok R.len w2 .un
  have cb : (cs.map cD).length ≤ big := by rw [List.length_map]; omega
  obtain ⟨f, hf⟩ : ∃ f : Nat → Nat, f = fun x => od.getD x 0 := ⟨_, rfl⟩
  rw [← hf] at F o2
  have o3 := tur41 (n := n) (cs := cs) (ns := ns) hTu w2 s5 (.sh (pD n (cs.map (reC f)))) .un
  have ok2 : ∀ c ∈ cs.reverse ++ cs.take 1, c.ok n := fun c hc => by
    rcases List.mem_append.mp hc with hc | hc
    · exact pb.ok c (List.mem_reverse.mp hc)
    · exact pb.ok c (List.mem_of_mem_take hc)
  have ok1 : ∀ c ∈ cs.map (reC f), c.ok n := fun c hc => by
    obtain ⟨d, hd, rfl⟩ := List.mem_map.mp hc
    exact F.ok (pb.ok d hd)
  have ok3 : ∀ c ∈ cs.map (tuC n), c.ok n := fun c hc => by
    obtain ⟨d, hd, rfl⟩ := List.mem_map.mp hc
    exact tu_ok (pb.ok d hd)
  have pb1 : Pb n (cs.map (reC f)) := ⟨h1, h7, ok1, by rw [List.length_map]; omega⟩
  have tk1 : (cs.take 1).length ≤ 1 := by rw [List.length_take]; omega
  have pb2 : Pb n (cs.reverse ++ cs.take 1) := ⟨h1, h7, ok2, by rw [List.length_append, List.length_reverse]; omega⟩
  have pb3 : Pb n (cs.map (tuC n)) := ⟨h1, h7, ok3, by rw [List.length_map]; omega⟩
  have sm2 : goodsA n (cs.reverse ++ cs.take 1) = goodsA n cs := goods_same fun c => by
    rw [List.mem_append, List.mem_reverse]
    exact ⟨fun h => h.elim id List.mem_of_mem_take, .inl⟩
  have o4 := way41 (n := n) (cs := cs) (ns := ns) hC (L := [cs.map (reC f), cs.reverse ++ cs.take 1, cs.map (tuC n)]) (fun ds hd => by
    simp only [List.mem_cons, List.not_mem_nil, or_false] at hd
    rcases hd with rfl | rfl | rfl
    · exact ⟨pb1, by rw [List.length_map]; omega, F.len pb.ok⟩
    · exact ⟨pb2, by rw [List.length_append, List.length_reverse]; omega, by rw [sm2]⟩
    · exact ⟨pb3, by rw [List.length_map]; omega, tu_len pb.ok⟩) w2 s5 (.sh (pD n (cs.map (reC f)))) (.sh (.list [pD n (cs.map (reC f)), pD n (cs.reverse ++ cs.take 1), pD n (cs.map (tuC n))])) .un
  have an : sAny [.list [.bool false, .bool false, .bool false]] = some (.sh (.bool false)) := rfl
  obtain ⟨x, w3, e3', hw3, hx⟩ := hN w2 n hw2 (by omega) (by omega)
  have e3 : Nx [.ow w2, .sh (iD n)] = some (.ok (.sh (iD x)) [.ow w3, .sh (iD n)]) := e3'
  clear e3'
  have fx : f x < n := F.lt x hx
  have ix : sIx (.list (od.map iD)) (iD x) = some (.sh (iD (f x))) := ix_list (by
    have : x < od.length := by rw [R.len]; exact hx
    rw [List.getElem?_map, List.getElem?_eq_getElem this, hf]
    show some (iD od[x]) = some (iD (od.getD x 0))
    rw [List.getD_eq_getElem?_getD, List.getElem?_eq_getElem this]; rfl)
  have q1 := hPc n _ (f x) pb1 (by rw [List.length_map]; omega) fx
  have q2 := hPc n cs x pb (by omega) hx
  have q3 := hPc n _ x pb3 (by rw [List.length_map]; omega) hx
  rw [pl_ren F pb.ok hx] at q1
  rw [pl_tu pb.ok hx] at q3
  have pr := plD_r (n := n) (cs := cs) x
  obtain ⟨PL, hPL⟩ : ∃ l : List Nat, l = (List.range n).map fun p => (FD n cs x).count p := ⟨_, rfl⟩
  rw [← hPL] at pr
  have pr2 : PyData.tuple (plD n cs x).reverse = rD PL.reverse := by
    have : plD n cs x = PL.map iD := PyData.tuple.inj pr
    rw [this, ← List.map_reverse]; rfl
  rw [pr] at q1 q2
  rw [pr2] at q3
  have rv := r_rev PL
  have n1 := ne_same PL
  have n2 := ne_same PL.reverse
  obtain ⟨m, w4_, e4', hw4, hm⟩ := hLc w3 n hw3 (by omega) (by omega)
  have e4 : Lc [.ow w3, .sh (iD n)] = some (.ok (.sh (cD m)) [.ow w4_, .sh (iD n)]) := e4'
  clear e4'
  have pb4 : Pb n (cs ++ [m]) := ⟨h1, h7, fun c hc => by
    rcases List.mem_append.mp hc with hc | hc
    · exact pb.ok c hc
    · rw [List.mem_singleton.mp hc]; exact hm, by rw [List.length_append, List.length_singleton]; omega⟩
  have c4 := hC n (cs ++ [m]) pb4 (by rw [List.length_append, List.length_singleton]; omega)
  have v4 := hV n cs m pb (by omega) hm
  rw [word_due hm, dueW_4] at v4
  rw [goods_snoc] at c4
  have ft := fit41 (g := goodsA n cs) (c := m)
  have le := List.length_filter_le (fun r => hold r m) (goodsA n cs)
  have cle : sCmp (fun i j => decide (i ≤ j)) (iD ((goodsA n cs).filter fun r => hold r m).length) (iD (goodsA n cs).length) = some (bl true) := by
    show some (bl (decide ((((goodsA n cs).filter fun r => hold r m).length : Int) ≤ ((goodsA n cs).length : Int)))) = _
    rw [decide_eq_true (by omega)]
  have ceq : sEq (iD ((goodsA n cs).filter fun r => hold r m).length) (iD (goodsA n cs).length) = some (bl (decide (w4 (goodsA n cs) m = .ce ∨ w4 (goodsA n cs) m = .no))) := by
    refine (eq_nats _ _).trans ?_
    congr 2
    rw [decide_eq_decide]
    exact ft
  have cin : sIn false (.str (wS (w4 (goodsA n cs) m))) (.list [.str "certain", .str "none"]) = some (bl (decide (w4 (goodsA n cs) m = .ce ∨ w4 (goodsA n cs) m = .no))) := in4 _ .ce .no
  have cc : ∀ b : Bool, sEq (.bool b) (.bool b) = some (bl true) := fun b => by cases b <;> kernel_rfl
  have cc' := cc (decide (w4 (goodsA n cs) m = .ce ∨ w4 (goodsA n cs) m = .no))
  have b1 : (1 : Nat) ≤ big := by decide
  have b2 : (2 : Nat) ≤ big := by decide
  have b3 : (3 : Nat) ≤ big := by decide
  have pe : ∀ ds : List Con, pD n ds = .tuple [iD n, .tuple (ds.map cD)] := fun _ => rfl
  have ad2 : sAdd (.tuple (cs.map cD).reverse) (.tuple ((cs.map cD).take 1)) = some (.sh (.tuple ((cs.reverse ++ cs.take 1).map cD))) := by
    have : sAdd (.tuple (cs.map cD).reverse) (.tuple ((cs.map cD).take 1)) = if (cs.map cD).reverse.length + ((cs.map cD).take 1).length ≤ big then some (.sh (.tuple ((cs.map cD).reverse ++ (cs.map cD).take 1))) else none := rfl
    rw [this, if_pos (by rw [List.length_reverse, List.length_map, List.length_take]; omega), List.map_append, List.map_reverse, List.map_take]
  have ad4 : sAdd (.tuple (cs.map cD)) (.tuple [cD m]) = some (.sh (.tuple ((cs ++ [m]).map cD))) := by
    have : sAdd (.tuple (cs.map cD)) (.tuple [cD m]) = if (cs.map cD).length + [cD m].length ≤ big then some (.sh (.tuple (cs.map cD ++ [cD m]))) else none := rfl
    rw [this, if_pos (by rw [List.length_map, List.length_singleton]; omega), List.map_append]; rfl
  have srv : sRev (.tuple (cs.map cD)) = some (.sh (.tuple (cs.map cD).reverse)) := rfl
  have lr : ((cs.map (reC f)).map cD).length ≤ big := by simp; omega
  have lt : ((cs.map (tuC n)).map cD).length ≤ big := by simp; omega
  have ce : csD cs = .tuple (cs.map cD) := rfl
  simp only [pe, ce, List.map_cons, List.map_nil] at e1' c0 o1 o2 o3 o4 q1 q2 q3 c4 v4
  refine ⟨[.scr ns], ?_⟩
  rw [B_law31_n]
  clear le ft hPL pr pr2 tk1 sm2 ok1 ok2 ok3 hf cc F R
  generalize decide (w4 (goodsA n cs) m = .ce ∨ w4 (goodsA n cs) m = .no) = WB at *
  generalize PyData.str (wS (w4 (goodsA n cs) m)) = WS at *
  generalize iD ((goodsA n cs).filter fun r => hold r m).length = GF at *
  generalize iD (goodsA n cs).length = GL at *
  generalize (cs.map (reC f)).map cD = C1 at *
  generalize (cs.reverse ++ cs.take 1).map cD = C2 at *
  generalize (cs.map (tuC n)).map cD = C3 at *
  generalize (cs ++ [m]).map cD = C4 at *
  generalize cs.map cD = CD at *
  generalize rD PL.reverse = PR at *
  generalize rD PL = PP at *
  generalize (List.range n).map iD = RM at *
  generalize od.map iD = OD at *
  rcases hs5 with rfl | rfl <;> simp [s0, e1', c0, hr, rn, rl, o1, cb, o2, b1, b2, b3, lr, srv, ad2, o3, lt, o4, an, e3, ix, q1, q2, n1, q3, rv, n2, e4, ad4, c4, cle, ceq, v4, cin, cc']
end Lb
set_option maxHeartbeats 0
namespace T
open PySem PySem.Spec PyProof.Rows L2 Rk
def top (i : Nat) : Stmt := PySem.Challenge.pw_rankswithin_k41_whole_problems_in_other.main.body.getD i (.Pass ⟨0, 0, 0, 0⟩)
def s_check : Src := ⟨"check", ["right", "name"], 2, false, false, false, [], top 4⟩
def s_is_integer : Src := ⟨"is_integer", ["value", "least", "most"], 3, false, false, false, [], top 5⟩
def s_is_item : Src := ⟨"is_item", ["items", "value"], 2, false, false, false, [], top 6⟩
def s_is_tagged : Src := ⟨"is_tagged", ["value", "word", "size"], 3, false, false, false, [], top 7⟩
def s_is_constraint : Src := ⟨"is_constraint", ["items", "value"], 2, false, false, false, [], top 11⟩
def s_is_problem : Src := ⟨"is_problem", ["value", "items", "constraints", "one"], 1, false, true, false, [], top 12⟩
def s_place_of : Src := ⟨"place_of", ["ranking", "item"], 2, false, false, false, [], top 13⟩
def s_holds : Src := ⟨"holds", ["constraint", "ranking"], 2, false, false, false, [], top 14⟩
def s_is_good : Src := ⟨"is_good", ["problem", "ranking", "constraint"], 2, false, true, false, [], top 15⟩
def s_added : Src := ⟨"added", ["problem", "constraint"], 2, false, false, false, [], top 16⟩
def s_check_item : Src := ⟨"check_item", ["problem", "item"], 2, false, false, false, [], top 17⟩
def s_check_constraint : Src := ⟨"check_constraint", ["problem", "constraint"], 2, false, false, false, [], top 18⟩
def s_ahead_of : Src := ⟨"ahead_of", ["problem", "item", "one"], 2, false, false, false, [], top 20⟩
def s_behind : Src := ⟨"behind", ["problem", "item", "other"], 2, false, false, false, [], top 21⟩
def s_find_cycle : Src := ⟨"find_cycle", ["problem", "following", "chains", "closed", "item", "chain"], 1, false, false, false, [], top 22⟩
def s_given_low : Src := ⟨"given_low", ["problem", "item", "lows", "one"], 2, false, false, false, [], top 24⟩
def s_given_high : Src := ⟨"given_high", ["problem", "item", "highs", "one"], 2, false, false, false, [], top 25⟩
def s_steps_of : Src := ⟨"steps_of", ["problem", "one"], 1, false, false, false, [], top 26⟩
def s_earliest_places : Src := ⟨"earliest_places", ["problem", "found", "_", "item", "one", "other"], 1, false, false, false, [], top 27⟩
def s_latest_places : Src := ⟨"latest_places", ["problem", "found", "_", "item", "one", "other"], 1, false, false, false, [], top 28⟩
def s_set_of : Src := ⟨"set_of", ["items", "item"], 1, false, false, false, [], top 30⟩
def s_items_of : Src := ⟨"items_of", ["chosen", "items", "item"], 2, false, false, false, [], top 31⟩
def s_needs_of : Src := ⟨"needs_of", ["problem", "items", "item"], 1, false, false, false, ["items"], top 32⟩
def s_can_come : Src := ⟨"can_come", ["need", "before", "place", "low", "high", "ahead"], 3, false, false, false, [], top 33⟩
def s_counts_of : Src := ⟨"counts_of", ["needs", "items", "full", "counts", "before", "inside", "place", "coming", "item"], 1, false, false, false, [], top 34⟩
def s_count_all : Src := ⟨"count_all", ["problem"], 1, false, false, false, [], top 35⟩
def s_count_rankings : Src := ⟨"count_rankings", ["problem"], 1, false, false, false, [], top 36⟩
def s_item_for : Src := ⟨"item_for", ["place", "left", "earliest", "latest", "ready", "item"], 4, false, false, true, [], top 38⟩
def s_ranking_by_deadlines : Src := ⟨"ranking_by_deadlines", ["problem", "ranking", "place", "earliest", "latest", "left", "item", "one"], 1, false, false, false, [], top 39⟩
def s_has_ranking : Src := ⟨"has_ranking", ["problem"], 1, false, false, false, [], top 40⟩
def s_at_place : Src := ⟨"at_place", ["problem", "item", "place"], 3, false, false, false, [], top 41⟩
def s_place_counts : Src := ⟨"place_counts", ["problem", "item", "place"], 2, false, false, false, [], top 43⟩
def s_negated : Src := ⟨"negated", ["items", "constraint", "below", "above", "_", "item", "low", "high", "one", "other"], 2, false, false, false, [], top 45⟩
def s_denials : Src := ⟨"denials", ["problem", "constraint", "one"], 2, false, false, false, [], top 46⟩
def s_find_verdict : Src := ⟨"find_verdict", ["problem", "constraint", "denial"], 2, false, false, false, [], top 47⟩
def s_verdict : Src := ⟨"verdict", ["problem", "constraint"], 2, false, false, false, [], top 48⟩
def s__law_stream : Src := ⟨"_law_stream", ["script"], 1, true, false, false, [], top 50⟩
def s__law_next : Src := ⟨"_law_next", ["stream", "many", "digit", "k", "cell"], 2, true, false, false, [], top 51⟩
def s__law_is_integer : Src := ⟨"_law_is_integer", ["actual"], 1, false, false, false, [], top 52⟩
def s__law_constraint : Src := ⟨"_law_constraint", ["stream", "items", "low", "one"], 2, true, false, false, [], top 53⟩
def s__law_problem : Src := ⟨"_law_problem", ["stream", "most", "many", "items", "k"], 3, true, false, false, [], top 54⟩
def s__law_rankings : Src := ⟨"_law_rankings", ["items", "rows", "turn", "longer", "row", "item"], 1, false, false, false, [], top 55⟩
def s__law_holds : Src := ⟨"_law_holds", ["constraint", "ranking"], 2, false, false, false, [], top 56⟩
def s__law_good : Src := ⟨"_law_good", ["problem", "rows", "constraint", "row"], 1, false, false, false, [], top 57⟩
def s__law_renamed : Src := ⟨"_law_renamed", ["constraint", "order"], 2, false, false, false, [], top 58⟩
def s__law_turned : Src := ⟨"_law_turned", ["constraint", "items"], 2, false, false, false, [], top 59⟩
def s_law : Src := ⟨"law", ["script", "stream", "problem", "many", "left", "order", "renamed", "ways", "item", "more", "told", "items", "constraints", "way", "one"], 1, true, false, false, [], top 60⟩
def p : Prg := ⟨[s_check, s_is_integer, s_is_item, s_is_tagged, s_is_constraint, s_is_problem, s_place_of, s_holds, s_is_good, s_added, s_check_item, s_check_constraint, s_ahead_of, s_behind, s_find_cycle, s_given_low, s_given_high, s_steps_of, s_earliest_places, s_latest_places, s_set_of, s_items_of, s_needs_of, s_can_come, s_counts_of, s_count_all, s_count_rankings, s_item_for, s_ranking_by_deadlines, s_has_ranking, s_at_place, s_place_counts, s_negated, s_denials, s_find_verdict, s_verdict, s__law_stream, s__law_next, s__law_is_integer, s__law_constraint, s__law_problem, s__law_rankings, s__law_holds, s__law_good, s__law_renamed, s__law_turned, s_law], [("MOST_ITEMS", 7), ("MOST_CONSTRAINTS", 12)], ["isinstance", "int", "bool", "tuple", "str", "len", "all", "range", "max", "min", "sum", "any", "list", "abs"], [("BadValue", "name")], [("RankError", ["BadValue"]), ("BadValue", ["BadValue"])], PySem.Challenge.pw_rankswithin_k41_whole_problems_in_other.main.file⟩
open Lb
def S_check (n : Nat) : Ev := s_check.df.sem (p.pg n)
def S_is_integer (n : Nat) : Ev := s_is_integer.df.sem (p.pg n)
def S_is_item (n : Nat) : Ev := s_is_item.df.sem (p.pg n)
def S_is_tagged (n : Nat) : Ev := s_is_tagged.df.sem (p.pg n)
def S_is_constraint (n : Nat) : Ev := s_is_constraint.df.sem (p.pg n)
def S_is_problem (n : Nat) : Ev := s_is_problem.df.sem (p.pg n)
def S_place_of (n : Nat) : Ev := s_place_of.df.sem (p.pg n)
def S_holds (n : Nat) : Ev := s_holds.df.sem (p.pg n)
def S_is_good (n : Nat) : Ev := s_is_good.df.sem (p.pg n)
def S_added (n : Nat) : Ev := s_added.df.sem (p.pg n)
def S_check_item (n : Nat) : Ev := s_check_item.df.sem (p.pg n)
def S_check_constraint (n : Nat) : Ev := s_check_constraint.df.sem (p.pg n)
def S_ahead_of (n : Nat) : Ev := s_ahead_of.df.sem (p.pg n)
def S_behind (n : Nat) : Ev := s_behind.df.sem (p.pg n)
def S_find_cycle (n : Nat) : Ev := s_find_cycle.df.sem (p.pg n)
def S_given_low (n : Nat) : Ev := s_given_low.df.sem (p.pg n)
def S_given_high (n : Nat) : Ev := s_given_high.df.sem (p.pg n)
def S_steps_of (n : Nat) : Ev := s_steps_of.df.sem (p.pg n)
def S_earliest_places (n : Nat) : Ev := s_earliest_places.df.sem (p.pg n)
def S_latest_places (n : Nat) : Ev := s_latest_places.df.sem (p.pg n)
def S_set_of (n : Nat) : Ev := s_set_of.df.sem (p.pg n)
def S_items_of (n : Nat) : Ev := s_items_of.df.sem (p.pg n)
def S_needs_of (n : Nat) : Ev := s_needs_of.df.sem (p.pg n)
def S_can_come (n : Nat) : Ev := s_can_come.df.sem (p.pg n)
def S_counts_of (n : Nat) : Ev := s_counts_of.df.sem (p.pg n)
def S_count_all (n : Nat) : Ev := s_count_all.df.sem (p.pg n)
def S_count_rankings (n : Nat) : Ev := s_count_rankings.df.sem (p.pg n)
def S_item_for (n : Nat) : Ev := s_item_for.df.sem (p.pg n)
def S_ranking_by_deadlines (n : Nat) : Ev := s_ranking_by_deadlines.df.sem (p.pg n)
def S_has_ranking (n : Nat) : Ev := s_has_ranking.df.sem (p.pg n)
def S_at_place (n : Nat) : Ev := s_at_place.df.sem (p.pg n)
def S_place_counts (n : Nat) : Ev := s_place_counts.df.sem (p.pg n)
def S_negated (n : Nat) : Ev := s_negated.df.sem (p.pg n)
def S_denials (n : Nat) : Ev := s_denials.df.sem (p.pg n)
def S_find_verdict (n : Nat) : Ev := s_find_verdict.df.sem (p.pg n)
def S_verdict (n : Nat) : Ev := s_verdict.df.sem (p.pg n)
def S__law_stream (n : Nat) : Ev := s__law_stream.df.sem (p.pg n)
def S__law_next (n : Nat) : Ev := s__law_next.df.sem (p.pg n)
def S__law_constraint (n : Nat) : Ev := s__law_constraint.df.sem (p.pg n)
def S__law_problem (n : Nat) : Ev := s__law_problem.df.sem (p.pg n)
def S__law_renamed (n : Nat) : Ev := s__law_renamed.df.sem (p.pg n)
def S__law_turned (n : Nat) : Ev := s__law_turned.df.sem (p.pg n)
def S_law (n : Nat) : Ev := s_law.df.sem (p.pg n)
theorem r_check (n : Nat) : S_check (n + 1) = B_check := by kernel_rfl
theorem r_is_integer (n : Nat) : S_is_integer (n + 1) = B_is_integer := by kernel_rfl
theorem r_is_item (n : Nat) : S_is_item (n + 1) = B_is_item (S_is_integer n) := by kernel_rfl
theorem r_is_tagged (n : Nat) : S_is_tagged (n + 1) = B_is_tagged := by kernel_rfl
theorem r_is_constraint (n : Nat) : S_is_constraint (n + 1) = B_is_constraint (S_is_tagged n) (S_is_item n) (S_is_integer n) := by kernel_rfl
theorem r_is_problem (n : Nat) : S_is_problem (n + 1) = B_is_problem (S_is_integer n) (S_is_constraint n) := by kernel_rfl
theorem r_place_of (n : Nat) : S_place_of (n + 1) = B_place_of := by kernel_rfl
theorem r_holds (n : Nat) : S_holds (n + 1) = B_holds (S_place_of n) := by kernel_rfl
theorem r_is_good (n : Nat) : S_is_good (n + 1) = B_is_good (S_holds n) := by kernel_rfl
theorem r_added (n : Nat) : S_added (n + 1) = B_added := by kernel_rfl
theorem r_check_item (n : Nat) : S_check_item (n + 1) = B_check_item (S_check n) (S_is_problem n) (S_is_item n) := by kernel_rfl
theorem r_check_constraint (n : Nat) : S_check_constraint (n + 1) = B_check_constraint (S_check n) (S_is_problem n) (S_is_constraint n) := by kernel_rfl
theorem r_ahead_of (n : Nat) : S_ahead_of (n + 1) = B_ahead_of := by kernel_rfl
theorem r_behind (n : Nat) : S_behind (n + 1) = B_behind := by kernel_rfl
theorem r_find_cycle (n : Nat) : S_find_cycle (n + 1) = B_find_cycle (S_behind n) := by kernel_rfl
theorem r_given_low (n : Nat) : S_given_low (n + 1) = B_given_low := by kernel_rfl
theorem r_given_high (n : Nat) : S_given_high (n + 1) = B_given_high := by kernel_rfl
theorem r_steps_of (n : Nat) : S_steps_of (n + 1) = B_steps_of := by kernel_rfl
theorem r_earliest_places (n : Nat) : S_earliest_places (n + 1) = B_earliest_places (S_given_low n) (S_steps_of n) := by kernel_rfl
theorem r_latest_places (n : Nat) : S_latest_places (n + 1) = B_latest_places (S_given_high n) (S_steps_of n) := by kernel_rfl
theorem r_set_of (n : Nat) : S_set_of (n + 1) = B_set_of := by kernel_rfl
theorem r_items_of (n : Nat) : S_items_of (n + 1) = B_items_of := by kernel_rfl
theorem r_needs_of (n : Nat) : S_needs_of (n + 1) = B_needs_of (S_given_low n) (S_given_high n) (S_set_of n) (S_ahead_of n) := by kernel_rfl
theorem r_can_come (n : Nat) : S_can_come (n + 1) = B_can_come := by kernel_rfl
theorem r_counts_of (n : Nat) : S_counts_of (n + 1) = B_counts_of (S_items_of n) (S_can_come n) := by kernel_rfl
theorem r_count_all (n : Nat) : S_count_all (n + 1) = B_count_all (S_counts_of n) (S_needs_of n) := by kernel_rfl
theorem r_count_rankings (n : Nat) : S_count_rankings (n + 1) = B_count_rankings (S_check n) (S_is_problem n) (S_count_all n) := by kernel_rfl
theorem r_item_for (n : Nat) : S_item_for (n + 1) = B_item_for := by kernel_rfl
theorem r_ranking_by_deadlines (n : Nat) : S_ranking_by_deadlines (n + 1) = B_ranking_by_deadlines (S_find_cycle n) (S_earliest_places n) (S_latest_places n) (S_item_for n) (S_is_good n) := by kernel_rfl
theorem r_has_ranking (n : Nat) : S_has_ranking (n + 1) = B_has_ranking (S_ranking_by_deadlines n) := by kernel_rfl
theorem r_at_place (n : Nat) : S_at_place (n + 1) = B_at_place (S_added n) := by kernel_rfl
theorem r_place_counts (n : Nat) : S_place_counts (n + 1) = B_place_counts (S_check_item n) (S_count_all n) (S_at_place n) := by kernel_rfl
theorem r_negated (n : Nat) : S_negated (n + 1) = B_negated := by kernel_rfl
theorem r_denials (n : Nat) : S_denials (n + 1) = B_denials (S_negated n) (S_added n) := by kernel_rfl
theorem r_find_verdict (n : Nat) : S_find_verdict (n + 1) = B_find_verdict (S_has_ranking n) (S_denials n) (S_added n) := by kernel_rfl
theorem r_verdict (n : Nat) : S_verdict (n + 1) = B_verdict (S_check_constraint n) (S_find_verdict n) := by kernel_rfl
theorem r__law_stream (n : Nat) : S__law_stream (n + 1) = B_law_stream := by kernel_rfl
theorem r__law_next (n : Nat) : S__law_next (n + 1) = B_law_next := by kernel_rfl
theorem r__law_constraint (n : Nat) : S__law_constraint (n + 1) = B_law_constraint2 (S__law_next n) := by kernel_rfl
theorem r__law_problem (n : Nat) : S__law_problem (n + 1) = B_law_problem (S__law_next n) (S__law_constraint n) := by kernel_rfl
theorem r__law_renamed (n : Nat) : S__law_renamed (n + 1) = B_law_renamed2 := by kernel_rfl
theorem r__law_turned (n : Nat) : S__law_turned (n + 1) = B_law_turned3 := by kernel_rfl
theorem r_law (n : Nat) : S_law (n + 1) = B_law31 (S__law_stream n) (S__law_problem n) (S_count_rankings n) (S__law_next n) (S__law_renamed n) (S__law_turned n) (S_place_counts n) (S__law_constraint n) (S_verdict n) := by kernel_rfl
theorem h_check : ∀ m, 1 ≤ m → Is_check (S_check m) := fun m h => by
  obtain ⟨m, rfl⟩ : ∃ j, m = j + 1 := ⟨m - 1, by omega⟩
  rw [r_check]
  exact b_check
theorem h_is_integer : ∀ m, 1 ≤ m → Is_integer (S_is_integer m) := fun m h => by
  obtain ⟨m, rfl⟩ : ∃ j, m = j + 1 := ⟨m - 1, by omega⟩
  rw [r_is_integer]
  exact b_is_integer
theorem h_is_item : ∀ m, 2 ≤ m → Is_item (S_is_item m) := fun m h => by
  obtain ⟨m, rfl⟩ : ∃ j, m = j + 1 := ⟨m - 1, by omega⟩
  rw [r_is_item]
  exact b_is_item (h_is_integer m (by omega))
theorem h_is_tagged : ∀ m, 1 ≤ m → Is_tagged (S_is_tagged m) := fun m h => by
  obtain ⟨m, rfl⟩ : ∃ j, m = j + 1 := ⟨m - 1, by omega⟩
  rw [r_is_tagged]
  exact b_is_tagged
theorem h_is_constraint : ∀ m, 3 ≤ m → Is_constraint (S_is_constraint m) := fun m h => by
  obtain ⟨m, rfl⟩ : ∃ j, m = j + 1 := ⟨m - 1, by omega⟩
  rw [r_is_constraint]
  exact b_is_constraint (h_is_tagged m (by omega)) (h_is_item m (by omega)) (h_is_integer m (by omega))
theorem h_is_problem : ∀ m, 4 ≤ m → Is_problem (S_is_problem m) := fun m h => by
  obtain ⟨m, rfl⟩ : ∃ j, m = j + 1 := ⟨m - 1, by omega⟩
  rw [r_is_problem]
  exact b_is_problem (h_is_integer m (by omega)) (h_is_constraint m (by omega))
theorem h_place_of : ∀ m, 1 ≤ m → Is_place_of (S_place_of m) := fun m h => by
  obtain ⟨m, rfl⟩ : ∃ j, m = j + 1 := ⟨m - 1, by omega⟩
  rw [r_place_of]
  exact b_place_of
theorem h_holds : ∀ m, 2 ≤ m → Is_holds (S_holds m) := fun m h => by
  obtain ⟨m, rfl⟩ : ∃ j, m = j + 1 := ⟨m - 1, by omega⟩
  rw [r_holds]
  exact b_holds (h_place_of m (by omega))
theorem h_is_good : ∀ m, 3 ≤ m → Is_is_good (S_is_good m) := fun m h => by
  obtain ⟨m, rfl⟩ : ∃ j, m = j + 1 := ⟨m - 1, by omega⟩
  rw [r_is_good]
  exact b_is_good (h_holds m (by omega))
theorem h_added : ∀ m, 1 ≤ m → Is_added (S_added m) := fun m h => by
  obtain ⟨m, rfl⟩ : ∃ j, m = j + 1 := ⟨m - 1, by omega⟩
  rw [r_added]
  exact b_added
theorem h_check_item : ∀ m, 5 ≤ m → Is_check_item (S_check_item m) := fun m h => by
  obtain ⟨m, rfl⟩ : ∃ j, m = j + 1 := ⟨m - 1, by omega⟩
  rw [r_check_item]
  exact b_check_item (h_check m (by omega)) (h_is_problem m (by omega)) (h_is_item m (by omega))
theorem h_check_constraint : ∀ m, 5 ≤ m → Is_check_con (S_check_constraint m) := fun m h => by
  obtain ⟨m, rfl⟩ : ∃ j, m = j + 1 := ⟨m - 1, by omega⟩
  rw [r_check_constraint]
  exact b_check_constraint (h_check m (by omega)) (h_is_problem m (by omega)) (h_is_constraint m (by omega))
theorem h_ahead_of : ∀ m, 1 ≤ m → Is_ahead_of (S_ahead_of m) := fun m h => by
  obtain ⟨m, rfl⟩ : ∃ j, m = j + 1 := ⟨m - 1, by omega⟩
  rw [r_ahead_of]
  exact b_ahead_of
theorem h_behind : ∀ m, 1 ≤ m → Is_behind (S_behind m) := fun m h => by
  obtain ⟨m, rfl⟩ : ∃ j, m = j + 1 := ⟨m - 1, by omega⟩
  rw [r_behind]
  exact b_behind
theorem h_find_cycle : ∀ m, 2 ≤ m → Is_find_cycle (S_find_cycle m) := fun m h => by
  obtain ⟨m, rfl⟩ : ∃ j, m = j + 1 := ⟨m - 1, by omega⟩
  rw [r_find_cycle]
  exact b_find_cycle (h_behind m (by omega))
theorem h_given_low : ∀ m, 1 ≤ m → Is_given_low (S_given_low m) := fun m h => by
  obtain ⟨m, rfl⟩ : ∃ j, m = j + 1 := ⟨m - 1, by omega⟩
  rw [r_given_low]
  exact b_given_low
theorem h_given_high : ∀ m, 1 ≤ m → Is_given_high (S_given_high m) := fun m h => by
  obtain ⟨m, rfl⟩ : ∃ j, m = j + 1 := ⟨m - 1, by omega⟩
  rw [r_given_high]
  exact b_given_high
theorem h_steps_of : ∀ m, 1 ≤ m → Is_steps_of (S_steps_of m) := fun m h => by
  obtain ⟨m, rfl⟩ : ∃ j, m = j + 1 := ⟨m - 1, by omega⟩
  rw [r_steps_of]
  exact b_steps_of
theorem h_earliest_places : ∀ m, 2 ≤ m → Is_earliest (S_earliest_places m) := fun m h => by
  obtain ⟨m, rfl⟩ : ∃ j, m = j + 1 := ⟨m - 1, by omega⟩
  rw [r_earliest_places]
  exact b_earliest (h_given_low m (by omega)) (h_steps_of m (by omega))
theorem h_latest_places : ∀ m, 2 ≤ m → Is_latest (S_latest_places m) := fun m h => by
  obtain ⟨m, rfl⟩ : ∃ j, m = j + 1 := ⟨m - 1, by omega⟩
  rw [r_latest_places]
  exact b_latest (h_given_high m (by omega)) (h_steps_of m (by omega))
theorem h_set_of : ∀ m, 1 ≤ m → Is_set_of (S_set_of m) := fun m h => by
  obtain ⟨m, rfl⟩ : ∃ j, m = j + 1 := ⟨m - 1, by omega⟩
  rw [r_set_of]
  exact b_set_of
theorem h_items_of : ∀ m, 1 ≤ m → Is_items_of (S_items_of m) := fun m h => by
  obtain ⟨m, rfl⟩ : ∃ j, m = j + 1 := ⟨m - 1, by omega⟩
  rw [r_items_of]
  exact b_items_of
theorem h_needs_of : ∀ m, 2 ≤ m → Is_needs_of (S_needs_of m) := fun m h => by
  obtain ⟨m, rfl⟩ : ∃ j, m = j + 1 := ⟨m - 1, by omega⟩
  rw [r_needs_of]
  exact b_needs_of (h_given_low m (by omega)) (h_given_high m (by omega)) (h_set_of m (by omega)) (h_ahead_of m (by omega))
theorem h_can_come : ∀ m, 1 ≤ m → Is_can_come (S_can_come m) := fun m h => by
  obtain ⟨m, rfl⟩ : ∃ j, m = j + 1 := ⟨m - 1, by omega⟩
  rw [r_can_come]
  exact b_can_come
theorem h_counts_of : ∀ m, 2 ≤ m → Is_counts_of (S_counts_of m) := fun m h => by
  obtain ⟨m, rfl⟩ : ∃ j, m = j + 1 := ⟨m - 1, by omega⟩
  rw [r_counts_of]
  exact b_counts_of (h_items_of m (by omega)) (h_can_come m (by omega))
theorem h_count_all : ∀ m, 3 ≤ m → Is_count_all (S_count_all m) := fun m h => by
  obtain ⟨m, rfl⟩ : ∃ j, m = j + 1 := ⟨m - 1, by omega⟩
  rw [r_count_all]
  exact b_count_all (h_counts_of m (by omega)) (h_needs_of m (by omega))
theorem h_count_rankings : ∀ m, 5 ≤ m → Is_count_rk (S_count_rankings m) := fun m h => by
  obtain ⟨m, rfl⟩ : ∃ j, m = j + 1 := ⟨m - 1, by omega⟩
  rw [r_count_rankings]
  exact b_count_rk (h_check m (by omega)) (h_is_problem m (by omega)) (h_count_all m (by omega))
theorem h_item_for : ∀ m, 1 ≤ m → Is_item_for (S_item_for m) := fun m h => by
  obtain ⟨m, rfl⟩ : ∃ j, m = j + 1 := ⟨m - 1, by omega⟩
  rw [r_item_for]
  exact b_item_for
theorem h_ranking_by_deadlines : ∀ m, 4 ≤ m → Is_by_dead (S_ranking_by_deadlines m) := fun m h => by
  obtain ⟨m, rfl⟩ : ∃ j, m = j + 1 := ⟨m - 1, by omega⟩
  rw [r_ranking_by_deadlines]
  exact b_ranking_by_deadlines (h_find_cycle m (by omega)) (h_earliest_places m (by omega)) (h_latest_places m (by omega)) (h_item_for m (by omega)) (h_is_good m (by omega))
theorem h_has_ranking : ∀ m, 5 ≤ m → Is_has_ranking (S_has_ranking m) := fun m h => by
  obtain ⟨m, rfl⟩ : ∃ j, m = j + 1 := ⟨m - 1, by omega⟩
  rw [r_has_ranking]
  exact b_has_ranking (h_ranking_by_deadlines m (by omega))
theorem h_at_place : ∀ m, 2 ≤ m → Is_at_place (S_at_place m) := fun m h => by
  obtain ⟨m, rfl⟩ : ∃ j, m = j + 1 := ⟨m - 1, by omega⟩
  rw [r_at_place]
  exact b_at_place (h_added m (by omega))
theorem h_place_counts : ∀ m, 6 ≤ m → Is_plc (S_place_counts m) := fun m h => by
  obtain ⟨m, rfl⟩ : ∃ j, m = j + 1 := ⟨m - 1, by omega⟩
  rw [r_place_counts]
  exact b_plc (h_check_item m (by omega)) (h_count_all m (by omega)) (h_at_place m (by omega))
theorem h_negated : ∀ m, 1 ≤ m → Is_negated (S_negated m) := fun m h => by
  obtain ⟨m, rfl⟩ : ∃ j, m = j + 1 := ⟨m - 1, by omega⟩
  rw [r_negated]
  exact b_negated
theorem h_denials : ∀ m, 2 ≤ m → Is_denials (S_denials m) := fun m h => by
  obtain ⟨m, rfl⟩ : ∃ j, m = j + 1 := ⟨m - 1, by omega⟩
  rw [r_denials]
  exact b_denials (h_negated m (by omega)) (h_added m (by omega))
theorem h_find_verdict : ∀ m, 6 ≤ m → Is_find_verdict (S_find_verdict m) := fun m h => by
  obtain ⟨m, rfl⟩ : ∃ j, m = j + 1 := ⟨m - 1, by omega⟩
  rw [r_find_verdict]
  exact b_find_verdict (h_has_ranking m (by omega)) (h_denials m (by omega)) (h_added m (by omega))
theorem h_verdict : ∀ m, 7 ≤ m → Is_verdict (S_verdict m) := fun m h => by
  obtain ⟨m, rfl⟩ : ∃ j, m = j + 1 := ⟨m - 1, by omega⟩
  rw [r_verdict]
  exact b_verdict (h_check_constraint m (by omega)) (h_find_verdict m (by omega))
theorem h__law_stream : ∀ m, 1 ≤ m → Is_stream (S__law_stream m) := fun m h => by
  obtain ⟨m, rfl⟩ : ∃ j, m = j + 1 := ⟨m - 1, by omega⟩
  rw [r__law_stream]
  exact b_stream
theorem h__law_next : ∀ m, 1 ≤ m → Is_next (S__law_next m) := fun m h => by
  obtain ⟨m, rfl⟩ : ∃ j, m = j + 1 := ⟨m - 1, by omega⟩
  rw [r__law_next]
  exact b_next
theorem h__law_constraint : ∀ m, 2 ≤ m → Is_lcon (S__law_constraint m) := fun m h => by
  obtain ⟨m, rfl⟩ : ∃ j, m = j + 1 := ⟨m - 1, by omega⟩
  rw [r__law_constraint]
  exact b_lcon2 (h__law_next m (by omega))
theorem h__law_problem : ∀ m, 3 ≤ m → Is_lprob (S__law_problem m) := fun m h => by
  obtain ⟨m, rfl⟩ : ∃ j, m = j + 1 := ⟨m - 1, by omega⟩
  rw [r__law_problem]
  exact b_lprob (h__law_next m (by omega)) (h__law_constraint m (by omega))
theorem h__law_renamed : ∀ m, 1 ≤ m → Is_lren (S__law_renamed m) := fun m h => by
  obtain ⟨m, rfl⟩ : ∃ j, m = j + 1 := ⟨m - 1, by omega⟩
  rw [r__law_renamed]
  exact b_lren2
theorem h__law_turned : ∀ m, 1 ≤ m → Is_ltu3 (S__law_turned m) := fun m h => by
  obtain ⟨m, rfl⟩ : ∃ j, m = j + 1 := ⟨m - 1, by omega⟩
  rw [r__law_turned]
  exact b_ltu3
theorem hlaw (ns : List Int) (hl : ns.length ≤ 63) (hb : ∀ z ∈ ns, Builtin.Int.intBits z ≤ 1048576) : ∃ ρ, s_law.df.sem (p.pg 8) [.scr ns] = some (.ok (bl true) ρ) := by
  show ∃ ρ, S_law 8 [.scr ns] = _
  rw [r_law 7]
  exact b_law41 (h__law_stream 7 (by decide)) (h__law_problem 7 (by decide)) (h_count_rankings 7 (by decide)) (h__law_next 7 (by decide)) (h__law_renamed 7 (by decide)) (h__law_turned 7 (by decide)) (h_place_counts 7 (by decide)) (h__law_constraint 7 (by decide)) (h_verdict 7 (by decide)) ns
end T
namespace T
open PySem PySem.Spec PyProof.Rows L2 Rk
theorem p_ok : p.defs.all Src.ok = true := by decide +kernel
theorem bd_check : s_check.Bnd := fun kV doc pm an cdv ct us hl => match us, hl with | [_, _], _ => by kernel_rfl
theorem bd_is_integer : s_is_integer.Bnd := fun kV doc pm an cdv ct us hl => match us, hl with | [_, _, _], _ => by kernel_rfl
theorem bd_is_item : s_is_item.Bnd := fun kV doc pm an cdv ct us hl => match us, hl with | [_, _], _ => by kernel_rfl
theorem bd_is_tagged : s_is_tagged.Bnd := fun kV doc pm an cdv ct us hl => match us, hl with | [_, _, _], _ => by kernel_rfl
theorem bd_is_constraint : s_is_constraint.Bnd := fun kV doc pm an cdv ct us hl => match us, hl with | [_, _], _ => by kernel_rfl
theorem bd_is_problem : s_is_problem.Bnd := fun kV doc pm an cdv ct us hl => match us, hl with | [_], _ => by kernel_rfl
theorem bd_place_of : s_place_of.Bnd := fun kV doc pm an cdv ct us hl => match us, hl with | [_, _], _ => by kernel_rfl
theorem bd_holds : s_holds.Bnd := fun kV doc pm an cdv ct us hl => match us, hl with | [_, _], _ => by kernel_rfl
theorem bd_is_good : s_is_good.Bnd := fun kV doc pm an cdv ct us hl => match us, hl with | [_, _], _ => by kernel_rfl
theorem bd_added : s_added.Bnd := fun kV doc pm an cdv ct us hl => match us, hl with | [_, _], _ => by kernel_rfl
theorem bd_check_item : s_check_item.Bnd := fun kV doc pm an cdv ct us hl => match us, hl with | [_, _], _ => by kernel_rfl
theorem bd_check_constraint : s_check_constraint.Bnd := fun kV doc pm an cdv ct us hl => match us, hl with | [_, _], _ => by kernel_rfl
theorem bd_ahead_of : s_ahead_of.Bnd := fun kV doc pm an cdv ct us hl => match us, hl with | [_, _], _ => by kernel_rfl
theorem bd_behind : s_behind.Bnd := fun kV doc pm an cdv ct us hl => match us, hl with | [_, _], _ => by kernel_rfl
theorem bd_find_cycle : s_find_cycle.Bnd := fun kV doc pm an cdv ct us hl => match us, hl with | [_], _ => by kernel_rfl
theorem bd_given_low : s_given_low.Bnd := fun kV doc pm an cdv ct us hl => match us, hl with | [_, _], _ => by kernel_rfl
theorem bd_given_high : s_given_high.Bnd := fun kV doc pm an cdv ct us hl => match us, hl with | [_, _], _ => by kernel_rfl
theorem bd_steps_of : s_steps_of.Bnd := fun kV doc pm an cdv ct us hl => match us, hl with | [_], _ => by kernel_rfl
theorem bd_earliest_places : s_earliest_places.Bnd := fun kV doc pm an cdv ct us hl => match us, hl with | [_], _ => by kernel_rfl
theorem bd_latest_places : s_latest_places.Bnd := fun kV doc pm an cdv ct us hl => match us, hl with | [_], _ => by kernel_rfl
theorem bd_set_of : s_set_of.Bnd := fun kV doc pm an cdv ct us hl => match us, hl with | [_], _ => by kernel_rfl
theorem bd_items_of : s_items_of.Bnd := fun kV doc pm an cdv ct us hl => match us, hl with | [_, _], _ => by kernel_rfl
theorem bd_needs_of : s_needs_of.Bnd := fun kV doc pm an cdv ct us hl => match us, hl with | [_], _ => by kernel_rfl
theorem bd_can_come : s_can_come.Bnd := fun kV doc pm an cdv ct us hl => match us, hl with | [_, _, _], _ => by kernel_rfl
theorem bd_counts_of : s_counts_of.Bnd := fun kV doc pm an cdv ct us hl => match us, hl with | [_], _ => by kernel_rfl
theorem bd_count_all : s_count_all.Bnd := fun kV doc pm an cdv ct us hl => match us, hl with | [_], _ => by kernel_rfl
theorem bd_count_rankings : s_count_rankings.Bnd := fun kV doc pm an cdv ct us hl => match us, hl with | [_], _ => by kernel_rfl
theorem bd_item_for : s_item_for.Bnd := fun kV doc pm an cdv ct us hl => match us, hl with | [_, _, _, _], _ => by kernel_rfl
theorem bd_ranking_by_deadlines : s_ranking_by_deadlines.Bnd := fun kV doc pm an cdv ct us hl => match us, hl with | [_], _ => by kernel_rfl
theorem bd_has_ranking : s_has_ranking.Bnd := fun kV doc pm an cdv ct us hl => match us, hl with | [_], _ => by kernel_rfl
theorem bd_at_place : s_at_place.Bnd := fun kV doc pm an cdv ct us hl => match us, hl with | [_, _, _], _ => by kernel_rfl
theorem bd_place_counts : s_place_counts.Bnd := fun kV doc pm an cdv ct us hl => match us, hl with | [_, _], _ => by kernel_rfl
theorem bd_negated : s_negated.Bnd := fun kV doc pm an cdv ct us hl => match us, hl with | [_, _], _ => by kernel_rfl
theorem bd_denials : s_denials.Bnd := fun kV doc pm an cdv ct us hl => match us, hl with | [_, _], _ => by kernel_rfl
theorem bd_find_verdict : s_find_verdict.Bnd := fun kV doc pm an cdv ct us hl => match us, hl with | [_, _], _ => by kernel_rfl
theorem bd_verdict : s_verdict.Bnd := fun kV doc pm an cdv ct us hl => match us, hl with | [_, _], _ => by kernel_rfl
theorem bd__law_stream : s__law_stream.Bnd := fun kV doc pm an cdv ct us hl => match us, hl with | [_], _ => by kernel_rfl
theorem bd__law_next : s__law_next.Bnd := fun kV doc pm an cdv ct us hl => match us, hl with | [_, _], _ => by kernel_rfl
theorem bd__law_is_integer : s__law_is_integer.Bnd := fun kV doc pm an cdv ct us hl => match us, hl with | [_], _ => by kernel_rfl
theorem bd__law_constraint : s__law_constraint.Bnd := fun kV doc pm an cdv ct us hl => match us, hl with | [_, _], _ => by kernel_rfl
theorem bd__law_problem : s__law_problem.Bnd := fun kV doc pm an cdv ct us hl => match us, hl with | [_, _, _], _ => by kernel_rfl
theorem bd__law_rankings : s__law_rankings.Bnd := fun kV doc pm an cdv ct us hl => match us, hl with | [_], _ => by kernel_rfl
theorem bd__law_holds : s__law_holds.Bnd := fun kV doc pm an cdv ct us hl => match us, hl with | [_, _], _ => by kernel_rfl
theorem bd__law_good : s__law_good.Bnd := fun kV doc pm an cdv ct us hl => match us, hl with | [_], _ => by kernel_rfl
theorem bd__law_renamed : s__law_renamed.Bnd := fun kV doc pm an cdv ct us hl => match us, hl with | [_, _], _ => by kernel_rfl
theorem bd__law_turned : s__law_turned.Bnd := fun kV doc pm an cdv ct us hl => match us, hl with | [_, _], _ => by kernel_rfl
theorem bd_law : s_law.Bnd := fun kV doc pm an cdv ct us hl => match us, hl with | [_], _ => by kernel_rfl
theorem p_bnd : ∀ s ∈ p.defs, s.Bnd := by
  intro s hs
  simp only [p, List.mem_cons, List.not_mem_nil, or_false] at hs
  rcases hs with rfl | rfl | rfl | rfl | rfl | rfl | rfl | rfl | rfl | rfl | rfl | rfl | rfl | rfl | rfl | rfl | rfl | rfl | rfl | rfl | rfl | rfl | rfl | rfl | rfl | rfl | rfl | rfl | rfl | rfl | rfl | rfl | rfl | rfl | rfl | rfl | rfl | rfl | rfl | rfl | rfl | rfl | rfl | rfl | rfl | rfl | rfl
  · exact bd_check
  · exact bd_is_integer
  · exact bd_is_item
  · exact bd_is_tagged
  · exact bd_is_constraint
  · exact bd_is_problem
  · exact bd_place_of
  · exact bd_holds
  · exact bd_is_good
  · exact bd_added
  · exact bd_check_item
  · exact bd_check_constraint
  · exact bd_ahead_of
  · exact bd_behind
  · exact bd_find_cycle
  · exact bd_given_low
  · exact bd_given_high
  · exact bd_steps_of
  · exact bd_earliest_places
  · exact bd_latest_places
  · exact bd_set_of
  · exact bd_items_of
  · exact bd_needs_of
  · exact bd_can_come
  · exact bd_counts_of
  · exact bd_count_all
  · exact bd_count_rankings
  · exact bd_item_for
  · exact bd_ranking_by_deadlines
  · exact bd_has_ranking
  · exact bd_at_place
  · exact bd_place_counts
  · exact bd_negated
  · exact bd_denials
  · exact bd_find_verdict
  · exact bd_verdict
  · exact bd__law_stream
  · exact bd__law_next
  · exact bd__law_is_integer
  · exact bd__law_constraint
  · exact bd__law_problem
  · exact bd__law_rankings
  · exact bd__law_holds
  · exact bd__law_good
  · exact bd__law_renamed
  · exact bd__law_turned
  · exact bd_law
def loose : List PySem.Str := (["RankError", "BadValue", "check", "is_integer", "is_item", "is_tagged", "MOST_ITEMS", "MOST_CONSTRAINTS", "is_constraint", "is_problem", "place_of", "holds", "is_good", "added", "check_item", "check_constraint", "ahead_of", "behind", "find_cycle", "given_low", "given_high", "steps_of", "earliest_places", "latest_places", "set_of", "items_of", "needs_of", "can_come", "counts_of", "count_all"] : List PySem.Str) ++ (["count_rankings", "item_for", "ranking_by_deadlines", "has_ranking", "at_place", "place_counts", "negated", "denials", "find_verdict", "verdict", "_law_stream", "_law_next", "_law_is_integer", "_law_constraint", "_law_problem", "_law_rankings", "_law_holds", "_law_good", "_law_renamed", "_law_turned"] : List PySem.Str)
abbrev R : PySem.W.OpenRow := PySem.W.OpenLaw.row PySem.Challenge.rw_rankswithin_k41_whole_problems_in_other
abbrev hk : PySem.W.Hook := Rk.hookY 4 p.fa p.fn p.tf (Rk.exB p)
def ob (s : PySem.W.SharedT) : He.AlX := Rk.obsY 4 p.fa p.fn p.tf (Rk.exB p) (HandSHeadRun.getT s)
theorem ob_eq (s : PySem.W.SharedT) : ob s = hk.obs s.abs := Rk.obsY_eq (HandSHeadRun.getT_eq s)
theorem run (w : World) : HandSHeadRun.RunEq R (PySem.W.view R.prog [60]) hk ob 4000 loose w := by
  intro os
  kernel_rfl
end T
open PySem PySem.W PySem.Calls PyProof.Rows
theorem PySem.Challenge.cw_rankswithin_k41_whole_problems_in_other_holds : PySem.Challenge.rw_rankswithin_k41_whole_problems_in_other.Holds := by
  w_on; o_law
  refine HandSHeadRun.head_any (r := OpenLaw.row PySem.Challenge.rw_rankswithin_k41_whole_problems_in_other) (q := view (OpenLaw.row PySem.Challenge.rw_rankswithin_k41_whole_problems_in_other).prog [60]) (H := T.hk) (ob := T.ob) (M := 4000) (loose := T.loose) (d := HandSHeadRun.topDef (OpenLaw.row PySem.Challenge.rw_rankswithin_k41_whole_problems_in_other).prog 60) (kwd := []) T.ob_eq
    (by kernel_rfl) (fun s => by kernel_rfl) T.run (by kernel_rfl) (by kernel_rfl) (by kernel_rfl) (by rfl) (by first | assumption | decide +kernel) (by decide +kernel) ⟨rfl, rfl, rfl, rfl, rfl, by decide +kernel⟩ ?hw ?hc
  case hw => w_witness2
  case hc =>
    refine LamX.walk_ofTsE (l := PySem.Challenge.rw_rankswithin_k41_whole_problems_in_other) (n := 63) (k := 2 * 8 + 2) (x := "script") (CX := L2.CX PySem.Challenge.rw_rankswithin_k41_whole_problems_in_other.prog) rfl (by decide) (by kernel_rfl) ⟨rfl, by decide, by decide⟩ ?F (fun w H s e s' z => by obtain ⟨_, _, _, _, _, _, _, _, _, _, _, _, q⟩ := z; exact q)
    case F =>
      intro w mg fa h ⟨K, X, c⟩ G hmg
      exact ⟨K, X, Rk.rk_end 8 (by kernel_rfl) (by kernel_rfl) X G c T.p_ok T.p_bnd (s := T.s_law) (by simp [T.p]) rfl hmg T.hlaw⟩
