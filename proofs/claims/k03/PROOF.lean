import PyProof.Rows.All
import Wide.All
import OpenK.AllK
import Wide.FinOn
import HandS.Base
import HandS.Call
import HandS.List
import HandS.Words
import HandS.Exc
import HandS.ExcOwn
import HandS.Comp
import HandS.Wide
import HandS.WideBits
import HandS.IsInst
import HandS.WordsExc
import HandS.TryOnly
import HandS.Iter
import HandS.Zip
import HandS.Flow
import HandS.Text
import HandS.More
import HandS.Replace
import HandS.ExcIs
import HandS.ExcField
import HandS.ExcInit
import HandS.TupAny
import HandS.EndBits
import PySem.Challenge.RW_oneline_k03_frames_cut_anyhow
set_option Elab.async false
set_option linter.all false
set_option maxRecDepth 100000
set_option maxHeartbeats 4000000
namespace Z
open PySem PySem.Spec L2

/-- a value as the mirror holds it: trees where nothing is written, numbers of the mirror's own objects where it is -/
inductive LV where
  | non | bl (b : Bool) | int (i : Int) | str (x : Str) | ref (n : Nat) | loc (i : Nat)
  | tup (vs : List LV) | lst (vs : List LV) | rdl (vs : List LV) | ins (c : Str) (ns : List Str) (vs : List LV)
/-- the mirror's own objects -/
inductive LO where
  | lst (vs : List LV) | ins (c : Str) (ns : List Str) (vs : List LV) | dic (ks : List Key) (vs : List LV)
abbrev LH := List LO
/-- a slot of a frame: nothing, a value, an object that this frame alone holds -/
inductive Sl where
  | no | val (v : LV) | own (o : LO)
abbrev SL := List Sl

def Sub (F F' : Hp) : Prop := ∀ a o, F a = some o → F' a = some o
theorem Sub.refl (F : Hp) : Sub F F := fun _ _ h => h
theorem Sub.trans {F G H : Hp} (a : Sub F G) (b : Sub G H) : Sub F H := fun x o h => b x o (a x o h)

section
variable (K : PySem.W.Frag) (mg : Str → Option Value)
mutual
inductive R0 (F : Hp) (ι : List Addr) : LV → V → Prop
  | non : R0 F ι .non .non
  | bl {b : Bool} : R0 F ι (.bl b) (.bl b)
  | int {i : Int} : R0 F ι (.int i) (.int i)
  | str {x : Str} : R0 F ι (.str x) (.str x)
  | ref {n : Nat} {a : Addr} : ι[n]? = some a → R0 F ι (.ref n) (.ref a)
  | tup {a : Addr} {vs : List LV} {us : List V} : SqT K F a us → Rs0 F ι vs us → R0 F ι (.tup vs) (.ref a)
  | lst {a : Addr} {vs : List LV} {us : List V} : F a = some (.lst us) → Rs0 F ι vs us → R0 F ι (.lst vs) (.ref a)
  | rdl {a : Addr} {vs : List LV} {us : List V} : SqL K F a us → Rs0 F ι vs us → R0 F ι (.rdl vs) (.ref a)
  | ins {a C dx : Addr} {c : Str} {ns : List Str} {vs : List LV} {us : List V} : mg c = some (.ref C) → F a = some (.ins C dx (ns.zip us)) → ns.length = us.length → Rs0 F ι vs us → R0 F ι (.ins c ns vs) (.ref a)
inductive Rs0 (F : Hp) (ι : List Addr) : List LV → List V → Prop
  | nil : Rs0 F ι [] []
  | cons {v : LV} {u : V} {vs : List LV} {us : List V} : R0 F ι v u → Rs0 F ι vs us → Rs0 F ι (v :: vs) (u :: us)
end
end

structure Ext (F : Hp) (ι : List Addr) (F' : Hp) (ι' : List Addr) : Prop where
  sub : Sub F F'
  pre : ∀ (n : Nat) (a : Addr), ι[n]? = some a → ι'[n]? = some a
theorem Ext.refl (F : Hp) (ι : List Addr) : Ext F ι F ι := ⟨Sub.refl F, fun _ _ h => h⟩
theorem Ext.trans {F F1 F2 : Hp} {ι ι1 ι2 : List Addr} (a : Ext F ι F1 ι1) (b : Ext F1 ι1 F2 ι2) : Ext F ι F2 ι2 := ⟨a.sub.trans b.sub, fun n x h => b.pre n x (a.pre n x h)⟩

section
variable {K : PySem.W.Frag} {mg : Str → Option Value} {F F' G G' H H' : Hp} {ι ι' : List Addr}
theorem Sub.sqT {a : Addr} {us : List V} (s : Sub F F') (h : SqT K F a us) : SqT K F' a us := by
  rcases h with (h | ⟨o, h⟩) | h
  · exact .inl (.inl (s _ _ h))
  · exact .inl (.inr ⟨o, s _ _ h⟩)
  · exact .inr h
theorem Sub.sqL {a : Addr} {us : List V} (s : Sub F F') (h : SqL K F a us) : SqL K F' a us := by
  rcases h with (h | ⟨o, h⟩) | h
  · exact .inl (.inl (s _ _ h))
  · exact .inl (.inr ⟨o, s _ _ h⟩)
  · exact .inr h
mutual
theorem R0.mono (e : Ext F ι F' ι') : ∀ {v : LV} {u : V}, R0 K mg F ι v u → R0 K mg F' ι' v u
  | _, _, .non => .non
  | _, _, .bl => .bl
  | _, _, .int => .int
  | _, _, .str => .str
  | _, _, .ref h => .ref (e.pre _ _ h)
  | _, _, .tup h r => .tup (e.sub.sqT h) (Rs0.mono e r)
  | _, _, .lst h r => .lst (e.sub _ _ h) (Rs0.mono e r)
  | _, _, .rdl h r => .rdl (e.sub.sqL h) (Rs0.mono e r)
  | _, _, .ins h1 h2 h3 r => .ins h1 (e.sub _ _ h2) h3 (Rs0.mono e r)
theorem Rs0.mono (e : Ext F ι F' ι') : ∀ {vs : List LV} {us : List V}, Rs0 K mg F ι vs us → Rs0 K mg F' ι' vs us
  | _, _, .nil => .nil
  | _, _, .cons h r => .cons (R0.mono e h) (Rs0.mono e r)
end
theorem Rs0.length {F : Hp} {ι : List Addr} : ∀ {vs : List LV} {us : List V}, Rs0 K mg F ι vs us → vs.length = us.length
  | _, _, .nil => rfl
  | _, _, .cons _ r => congrArg (· + 1) (Rs0.length r)
theorem Rs0.append {F : Hp} {ι : List Addr} : ∀ {vs ws : List LV} {us xs : List V}, Rs0 K mg F ι vs us → Rs0 K mg F ι ws xs → Rs0 K mg F ι (vs ++ ws) (us ++ xs)
  | _, _, _, _, .nil, s => s
  | _, _, _, _, .cons h r, s => .cons h (Rs0.append r s)
theorem Rs0.get : ∀ {vs : List LV} {us : List V} {i : Nat} {v : LV}, Rs0 K mg F ι vs us → vs[i]? = some v → ∃ u, us[i]? = some u ∧ R0 K mg F ι v u
  | _, _, 0, _, .cons h _, e => by cases (Option.some.inj e); exact ⟨_, rfl, h⟩
  | _, _, i + 1, v, .cons _ r, e => Rs0.get (i := i) r e
theorem Rs0.drop : ∀ {vs : List LV} {us : List V} (n : Nat), Rs0 K mg F ι vs us → Rs0 K mg F ι (vs.drop n) (us.drop n)
  | _, _, 0, r => r
  | _, _, _ + 1, .nil => .nil
  | _, _, n + 1, .cons _ t => Rs0.drop n t
theorem Rs0.take : ∀ {vs : List LV} {us : List V} (n : Nat), Rs0 K mg F ι vs us → Rs0 K mg F ι (vs.take n) (us.take n)
  | _, _, 0, _ => .nil
  | _, _, _ + 1, .nil => .nil
  | _, _, n + 1, .cons r t => .cons r (Rs0.take n t)
theorem Rs0.set {v : LV} {u : V} (h : R0 K mg F ι v u) : ∀ {vs : List LV} {us : List V} (i : Nat), Rs0 K mg F ι vs us → Rs0 K mg F ι (vs.set i v) (us.set i u)
  | _, _, _, .nil => .nil
  | _, _, 0, .cons _ t => .cons h t
  | _, _, i + 1, .cons q t => .cons q (Rs0.set h i t)
theorem Rs0.eraseIdx : ∀ {vs : List LV} {us : List V} (i : Nat), Rs0 K mg F ι vs us → Rs0 K mg F ι (vs.eraseIdx i) (us.eraseIdx i)
  | _, _, _, .nil => .nil
  | _, _, 0, .cons _ t => t
  | _, _, i + 1, .cons q t => .cons q (Rs0.eraseIdx i t)

end
end Z
namespace Z
open PySem PySem.Spec L2

section
variable (K : PySem.W.Frag) (mg : Str → Option Value)
/-- an object of the mirror's stands at a -/
inductive RO (F : Hp) (ι : List Addr) (H : Hp) (a : Addr) : LO → Prop
  | lst {vs : List LV} {us : List V} : H a = some (.lst us) → Rs0 K mg F ι vs us → RO F ι H a (.lst vs)
  | ins {c : Str} {ns : List Str} {vs : List LV} {C dx : Addr} {us : List V} : mg c = some (.ref C) → H a = some (.ins C dx (ns.zip us)) → ns.length = us.length → Rs0 K mg F ι vs us → RO F ι H a (.ins c ns vs)
  | dic {ks : List Key} {vs : List LV} {us : List V} : H a = some (.dK (ks.zip us)) → ks.length = us.length → Rs0 K mg F ι vs us → RO F ι H a (.dic ks vs)
/-- the heap holds the mirror's: G what others hold and nobody here writes, F what nobody writes any more, ι where the mirror's objects stand -/
structure Rep (G F : Hp) (ι : List Addr) (L : LH) (H : Hp) : Prop where
  f : Sub F H
  g : Sub G H
  gf : ∀ a o, G a = some o → F a = none
  len : ι.length = L.length
  inj : ∀ (n m : Nat) (a : Addr), ι[n]? = some a → ι[m]? = some a → n = m
  nf : ∀ (n : Nat) (a : Addr), ι[n]? = some a → F a = none ∧ G a = none
  obj : ∀ (n : Nat) (a : Addr) (o : LO), ι[n]? = some a → L[n]? = some o → RO K mg F ι H a o
/-- the frame's slots -/
structure VR (G F : Hp) (ι : List Addr) (σl : SL) (σ : St) : Prop where
  len : σl.length = σ.length
  val : ∀ (i : Nat) (v : LV), σl[i]? = some (.val v) → ∃ u, σ[i]? = some (some u) ∧ R0 K mg F ι v u
  own : ∀ (i : Nat) (o : LO), σl[i]? = some (.own o) → ∃ a, σ[i]? = some (some (.ref a)) ∧ RO K mg F ι G a o
/-- a value on its way: one that may be kept, or the list of a slot -/
inductive RV (σ : St) (F : Hp) (ι : List Addr) : LV → V → Prop
  | r0 {v : LV} {u : V} : R0 K mg F ι v u → RV σ F ι v u
  | loc {i : Nat} {a : Addr} : σ[i]? = some (some (.ref a)) → RV σ F ι (.loc i) (.ref a)
abbrev RVs (σ : St) (F : Hp) (ι : List Addr) : List LV → List V → Prop := Paired (RV K mg σ F ι)
/-- an exception's own dict -/
def RX (F : Hp) (ι : List Addr) (d : Option Addr) (ns : List Str) (vs : List LV) : Prop := match ns with
  | [] => d = none
  | ns => ∃ dx us, d = some dx ∧ F dx = some (.xd (ns.zip us)) ∧ ns.length = us.length ∧ Rs0 K mg F ι vs us
end

/-- what comes of a piece of the program -/
inductive O (α : Type) where
  | ok (a : α) (L : LH) | er (c : Str) (ns : List Str) (vs : List LV) (L : LH) | no
def O.bind {α β : Type} (o : O α) (k : α → LH → O β) : O β := match o with
  | .ok a L => k a L
  | .er c ns vs L => .er c ns vs L
  | .no => .no
inductive SO where
  | nx (σ : SL) (L : LH) | rt (v : LV) (L : LH) | bk (σ : SL) (L : LH) | ct (σ : SL) (L : LH) | er (c : Str) (ns : List Str) (vs : List LV) (σ : SL) (L : LH) | no
def lift {α : Type} (o : O α) (σ : SL) (k : α → LH → SO) : SO := match o with
  | .ok a L => k a L
  | .er c ns vs L => .er c ns vs σ L
  | .no => .no
abbrev ME := SL → LH → O LV
abbrev MT := SL → LH → O Bool
abbrev MA := SL → LH → O (List LV)
abbrev MS := SL → LH → SO
def clean : LV → Bool
  | .loc _ => false
  | _ => true

section
variable (K : PySem.W.Frag) (mg : Str → Option Value)
def Pst {α : Type} (G F : Hp) (ι : List Addr) (o : O α) (p : α → Hp → List Addr → LH → Hp → Prop) (x : XK) : Prop := match o with
  | .ok a L' => ∀ F' ι' H', Ext F ι F' ι' → Rep K mg G F' ι' L' H' → p a F' ι' L' H'
  | .er c ns vs L' => ∀ F' ι' H' C d, Ext F ι F' ι' → Rep K mg G F' ι' L' H' → mg c = some (.ref C) → RX K mg F' ι' d ns vs → x (.ref C) d H'
  | .no => False
/-- a frame's state: GO holds the lists of its slots, too -/
structure SR (GO G F : Hp) (ι : List Addr) (L : LH) (σl : SL) (σ : St) (H : Hp) : Prop where
  sub : Sub G GO
  rep : Rep K mg GO F ι L H
  vr : VR K mg GO F ι σl σ
  fr : ∀ (i : Nat) (vs : LO) (a : Addr), σl[i]? = some (.own vs) → σ[i]? = some (some (.ref a)) → G a = none
  dis : ∀ (i j : Nat) (vs ws : LO) (a : Addr), σl[i]? = some (.own vs) → σl[j]? = some (.own ws) → σ[i]? = some (some (.ref a)) → σ[j]? = some (some (.ref a)) → i = j
def SRep (G F : Hp) (ι : List Addr) (L : LH) (σl : SL) (σ : St) (H : Hp) : Prop := ∃ GO, SR K mg GO G F ι L σl σ H
def PstS (G F : Hp) (ι : List Addr) (o : SO) (D : Ends) (W : WX) : Prop := match o with
  | .nx σl' L' => ∀ F' ι' H' σ', Ext F ι F' ι' → SRep K mg G F' ι' L' σl' σ' H' → D.nx σ' H'
  | .rt v L' => ∀ F' ι' H' u, Ext F ι F' ι' → Rep K mg G F' ι' L' H' → R0 K mg F' ι' v u → D.rt u H'
  | .bk σl' L' => ∀ F' ι' H' σ', Ext F ι F' ι' → SRep K mg G F' ι' L' σl' σ' H' → D.bk σ' H'
  | .ct σl' L' => ∀ F' ι' H' σ', Ext F ι F' ι' → SRep K mg G F' ι' L' σl' σ' H' → D.ct σ' H'
  | .er c ns vs σl' L' => ∀ F' ι' H' σ' C d, Ext F ι F' ι' → SRep K mg G F' ι' L' σl' σ' H' → mg c = some (.ref C) → RX K mg F' ι' d ns vs → W (.ref C) d σ' H'
  | .no => False
def SimE (W : WX) (t : TE) (m : ME) : Prop := ∀ (G F : Hp) (ι : List Addr) (L : LH) (H : Hp) (σl : SL) (σ : St) (Q : VK), Rep K mg G F ι L H → VR K mg G F ι σl σ →
  Pst K mg G F ι (m σl L) (fun v F' ι' L' H' => ∀ u, RV K mg σ F' ι' v u → Q u H') (fun c d H' => W c d σ H') → t σ H Q
def SimT (W : WX) (t : TT) (m : MT) : Prop := ∀ (G F : Hp) (ι : List Addr) (L : LH) (H : Hp) (σl : SL) (σ : St) (Q : Bool → Hp → Prop), Rep K mg G F ι L H → VR K mg G F ι σl σ →
  Pst K mg G F ι (m σl L) (fun b F' ι' L' H' => Q b H') (fun c d H' => W c d σ H') → t σ H Q
def SimA (W : WX) (t : TA) (m : MA) : Prop := ∀ (G F : Hp) (ι : List Addr) (L : LH) (H : Hp) (σl : SL) (σ : St) (Q : List V → Hp → Prop), Rep K mg G F ι L H → VR K mg G F ι σl σ →
  Pst K mg G F ι (m σl L) (fun vs F' ι' L' H' => ∀ us, RVs K mg σ F' ι' vs us → Q us H') (fun c d H' => W c d σ H') → t σ H Q
/-- a new list that nobody holds yet -/
def SimN (W : WX) (t : TE) (m : MA) : Prop := ∀ (G F : Hp) (ι : List Addr) (L : LH) (H : Hp) (σl : SL) (σ : St) (Q : VK), Rep K mg G F ι L H → VR K mg G F ι σl σ →
  Pst K mg G F ι (m σl L) (fun vs F' ι' L' H' => ∀ p us, H' p = some (.lst us) → G p = none → F' p = none → (∀ n : Nat, ι'[n]? ≠ some p) → Rs0 K mg F' ι' vs us → Q (.ref p) H') (fun c d H' => W c d σ H') → t σ H Q
def SimS (W : WX) (t : TS) (m : MS) : Prop := ∀ (G F : Hp) (ι : List Addr) (L : LH) (σl : SL) (σ : St) (H : Hp) (D : Ends), SRep K mg G F ι L σl σ H → PstS K mg G F ι (m σl L) D W → t D σ H
/-- a def's promise by its mirror -/
def spM (n : Nat) (m : List LV → LH → O LV) : Sp := fun vs H Q E => ∃ G F ι L args, args.length = n ∧ Rep K mg G F ι L H ∧ Rs0 K mg F ι args vs ∧
  Pst K mg G F ι (m args L) (fun v F' ι' L' H' => ∀ u, R0 K mg F' ι' v u → Q u H') E
end

section
variable {K : PySem.W.Frag} {mg : Str → Option Value} {G GO F F' H H' : Hp} {ι ι' : List Addr} {L L' : LH} {σ σ' : St} {σl σl' : SL} {W : WX} {x : XK} {α β : Type}
theorem RV.mono (e : Ext F ι F' ι') {v : LV} {u : V} (h : RV K mg σ F ι v u) : RV K mg σ F' ι' v u := by
  cases h with
  | r0 h => exact .r0 (h.mono e)
  | loc h => exact .loc h
theorem RV.clean {v : LV} {u : V} (h : RV K mg σ F ι v u) (c : clean v = true) : R0 K mg F ι v u := by
  cases h with
  | r0 h => exact h
  | loc h => cases c
theorem RVs.mono (e : Ext F ι F' ι') : ∀ {vs : List LV} {us : List V}, RVs K mg σ F ι vs us → RVs K mg σ F' ι' vs us
  | _, _, .nil => .nil
  | _, _, .cons h r => .cons (RV.mono e h) (RVs.mono e r)
theorem RVs.clean : ∀ {vs : List LV} {us : List V}, RVs K mg σ F ι vs us → vs.all Z.clean = true → Rs0 K mg F ι vs us
  | _, _, .nil, _ => .nil
  | _, _, .cons h r, c => by
    rw [List.all_cons, Bool.and_eq_true] at c
    exact .cons (RV.clean h c.1) (RVs.clean r c.2)
theorem RO.mono {a : Addr} {o : LO} (e : Ext F ι F' ι') (h : RO K mg F ι H a o) (k : ∀ u, H a = some u → H' a = some u) : RO K mg F' ι' H' a o := by
  cases h with
  | lst h r => exact .lst (k _ h) (r.mono e)
  | ins h1 h2 h3 r => exact .ins h1 (k _ h2) h3 (r.mono e)
  | dic h1 h2 r => exact .dic (k _ h1) h2 (r.mono e)
theorem VR.mono (e : Ext F ι F' ι') (h : VR K mg G F ι σl σ) : VR K mg G F' ι' σl σ :=
  ⟨h.len, fun i v q => let ⟨u, a, b⟩ := h.val i v q; ⟨u, a, b.mono e⟩, fun i o q => let ⟨a, b, c⟩ := h.own i o q; ⟨a, b, c.mono e fun _ z => z⟩⟩
theorem RO.there {a : Addr} {o : LO} (h : RO K mg F ι H a o) : ∃ u, H a = some u := by
  cases h with
  | lst h r => exact ⟨_, h⟩
  | ins h1 h2 h3 r => exact ⟨_, h2⟩
  | dic h1 h2 r => exact ⟨_, h1⟩
theorem Pst.ext {o : O α} {p : α → Hp → List Addr → LH → Hp → Prop} (e : Ext F ι F' ι') (h : Pst K mg G F ι o p x) : Pst K mg G F' ι' o p x := by
  cases o with
  | ok a L => exact fun F2 ι2 H2 e2 r => h F2 ι2 H2 (e.trans e2) r
  | er c ns vs L => exact fun F2 ι2 H2 C d e2 r => h F2 ι2 H2 C d (e.trans e2) r
  | no => exact h
theorem Pst.imp {o : O α} {p p' : α → Hp → List Addr → LH → Hp → Prop} (h : Pst K mg G F ι o p x) (k : ∀ a F' ι' L' H', Ext F ι F' ι' → Rep K mg G F' ι' L' H' → p a F' ι' L' H' → p' a F' ι' L' H') : Pst K mg G F ι o p' x := by
  cases o with
  | ok a L => exact fun F2 ι2 H2 e2 r => k _ _ _ _ _ e2 r (h F2 ι2 H2 e2 r)
  | er c ns vs L => exact h
  | no => exact h
theorem Pst.bind {o : O α} {f : α → LH → O β} {p : β → Hp → List Addr → LH → Hp → Prop} (h : Pst K mg G F ι (o.bind f) p x) :
    Pst K mg G F ι o (fun a F' ι' L' H' => Pst K mg G F' ι' (f a L') p x) x := by
  cases o with
  | ok a L => exact fun F2 ι2 H2 e2 r => Pst.ext e2 h
  | er c ns vs L => exact h
  | no => exact h
theorem Pst.ok {a : α} {L : LH} {p : α → Hp → List Addr → LH → Hp → Prop} (h : Pst K mg G F ι (.ok a L) p x) (r : Rep K mg G F ι L H) : p a F ι L H := h F ι H (Ext.refl F ι) r
theorem PstS.ext {o : SO} {D : Ends} (e : Ext F ι F' ι') (h : PstS K mg G F ι o D W) : PstS K mg G F' ι' o D W := by
  cases o with
  | nx s L => exact fun F2 ι2 H2 σ2 e2 r => h F2 ι2 H2 σ2 (e.trans e2) r
  | bk s L => exact fun F2 ι2 H2 σ2 e2 r => h F2 ι2 H2 σ2 (e.trans e2) r
  | ct s L => exact fun F2 ι2 H2 σ2 e2 r => h F2 ι2 H2 σ2 (e.trans e2) r
  | rt v L => exact fun F2 ι2 H2 u e2 r => h F2 ι2 H2 u (e.trans e2) r
  | er c ns vs s L => exact fun F2 ι2 H2 σ2 C d e2 r => h F2 ι2 H2 σ2 C d (e.trans e2) r
  | no => exact h
theorem SR.ext (s : SR K mg GO G F ι L σl σ H) (e : Ext F ι F' ι') (r : Rep K mg GO F' ι' L' H') : SR K mg GO G F' ι' L' σl σ H' := ⟨s.sub, r, s.vr.mono e, s.fr, s.dis⟩
theorem PstS.lift {o : O α} {f : α → LH → SO} {D : Ends} (s : SR K mg GO G F ι L σl σ H) (h : PstS K mg G F ι (Z.lift o σl f) D W) :
    Pst K mg GO F ι o (fun a F' ι' L' H' => PstS K mg G F' ι' (f a L') D W) (fun c d H' => W c d σ H') := by
  cases o with
  | ok a L => exact fun F2 ι2 H2 e2 r => PstS.ext e2 h
  | er c ns vs L => exact fun F2 ι2 H2 C d e2 r m q => h F2 ι2 H2 σ C d e2 ⟨GO, s.ext e2 r⟩ m q
  | no => exact h
theorem Rep.sub {G' : Hp} (r : Rep K mg GO F ι L H) (s : Sub G' GO) : Rep K mg G' F ι L H :=
  ⟨r.f, fun a o q => r.g a o (s a o q), fun a o q => r.gf a o (s a o q), r.len, r.inj, fun n a q => ⟨(r.nf n a q).1, by
    cases e : G' a with
    | none => rfl
    | some o =>
      have z := (r.nf n a q).2
      rw [s a o e] at z
      cases z⟩, r.obj⟩
theorem Rep.there (r : Rep K mg G F ι L H) {n : Nat} {a : Addr} (h : ι[n]? = some a) : ∃ u, H a = some u := by
  have hl : n < ι.length := (List.getElem?_eq_some_iff.mp h).1
  rw [r.len] at hl
  exact (r.obj n a _ h (List.getElem?_eq_getElem hl)).there
theorem Rep.fresh (r : Rep K mg G F ι L H) {p : Addr} (h : H p = none) : F p = none ∧ G p = none ∧ ∀ n : Nat, ι[n]? ≠ some p := by
  refine ⟨?_, ?_, fun n q => ?_⟩
  · cases e : F p with
    | none => rfl
    | some o => rw [r.f p o e] at h; cases h
  · cases e : G p with
    | none => rfl
    | some o => rw [r.g p o e] at h; cases h
  · obtain ⟨u, e⟩ := r.there q
    rw [e] at h; cases h
/-- an address that the mirror does not know of is written -/
theorem Rep.put (r : Rep K mg G F ι L H) {p : Addr} {o : HO} (h1 : F p = none) (h2 : G p = none) (h3 : ∀ n : Nat, ι[n]? ≠ some p) : Rep K mg G F ι L (upd H p o) := by
  refine ⟨fun a u q => ?_, fun a u q => ?_, r.gf, r.len, r.inj, r.nf, fun n a u q1 q2 => (r.obj n a u q1 q2).mono (Ext.refl F ι) fun u' q => ?_⟩
  · rw [upd_ne (fun z => by rw [z, h1] at q; cases q)]
    exact r.f a u q
  · rw [upd_ne (fun z => by rw [z, h2] at q; cases q)]
    exact r.g a u q
  · rw [upd_ne (fun z => h3 n (by rw [← z]; exact q1))]
    exact q
theorem Rep.new (r : Rep K mg G F ι L H) {p : Addr} {o : HO} (h : H p = none) : Rep K mg G F ι L (upd H p o) := let ⟨a, b, c⟩ := r.fresh h; r.put a b c
/-- what nobody holds is frozen -/
theorem Rep.freeze (r : Rep K mg G F ι L H) {p : Addr} {o : HO} (h : H p = some o) (h1 : F p = none) (h2 : G p = none) (h3 : ∀ n : Nat, ι[n]? ≠ some p) : Rep K mg G (upd F p o) ι L H ∧ Ext F ι (upd F p o) ι := by
  have e : Ext F ι (upd F p o) ι := ⟨fun a u q => by rw [upd_ne (fun z => by rw [z, h1] at q; cases q)]; exact q, fun _ _ q => q⟩
  refine ⟨⟨fun a u q => ?_, r.g, fun a u q => ?_, r.len, r.inj, fun n a q => ⟨?_, (r.nf n a q).2⟩, fun n a u q1 q2 => (r.obj n a u q1 q2).mono e fun _ q => q⟩, e⟩
  · by_cases z : a = p
    · rw [z, upd_same] at q; cases q; rw [z]; exact h
    · rw [upd_ne z] at q; exact r.f a u q
  · rw [upd_ne (fun z => by rw [z, h2] at q; cases q)]
    exact r.gf a u q
  · rw [upd_ne (fun z => h3 n (by rw [← z]; exact q))]
    exact (r.nf n a q).1
/-- .. or given to the mirror -/
theorem Rep.alloc (r : Rep K mg G F ι L H) {p : Addr} {o : LO} (h1 : F p = none) (h2 : G p = none) (h3 : ∀ n : Nat, ι[n]? ≠ some p) (ho : ∀ ι', Ext F ι F ι' → RO K mg F ι' H p o) : Rep K mg G F (ι ++ [p]) (L ++ [o]) H ∧ Ext F ι F (ι ++ [p]) := by
  have e : Ext F ι F (ι ++ [p]) := ⟨Sub.refl F, fun n a q => by rw [List.getElem?_append_left (List.getElem?_eq_some_iff.mp q).1]; exact q⟩
  have at_ : ∀ (n : Nat) (a : Addr), (ι ++ [p])[n]? = some a → (n < ι.length ∧ ι[n]? = some a) ∨ (n = ι.length ∧ a = p) := fun n a q => by
    by_cases hn : n < ι.length
    · rw [List.getElem?_append_left hn] at q
      exact .inl ⟨hn, q⟩
    · rw [List.getElem?_append_right (Nat.le_of_not_lt hn)] at q
      have hz : n - ι.length = 0 := by
        have := (List.getElem?_eq_some_iff.mp q).1
        simpa using this
      rw [hz] at q
      exact .inr ⟨by omega, (Option.some.inj q).symm⟩
  refine ⟨⟨r.f, r.g, r.gf, by simp [r.len], fun n m a q1 q2 => ?_, fun n a q => ?_, fun n a u q1 q2 => ?_⟩, e⟩
  · rcases at_ n a q1 with ⟨n1, q1⟩ | ⟨n1, q1⟩ <;> rcases at_ m a q2 with ⟨n2, q2⟩ | ⟨n2, q2⟩
    · exact r.inj n m a q1 q2
    · exact absurd (q2 ▸ q1) (h3 n)
    · exact absurd (q1 ▸ q2) (h3 m)
    · omega
  · rcases at_ n a q with ⟨n1, q1⟩ | ⟨n1, q1⟩
    · exact r.nf n a q1
    · rw [q1]; exact ⟨h1, h2⟩
  · rcases at_ n a q1 with ⟨n1, q3⟩ | ⟨n1, q3⟩
    · rw [List.getElem?_append_left (by rw [← r.len]; exact n1)] at q2
      exact (r.obj n a u q3 q2).mono e fun _ q => q
    · subst n1
      rw [q3]
      rw [r.len, List.getElem?_append_right (Nat.le_refl _), Nat.sub_self] at q2
      cases Option.some.inj q2
      exact ho _ e
/-- an object of the mirror's is written -/
theorem Rep.write (r : Rep K mg G F ι L H) {n : Nat} {p : Addr} {o : LO} {u : HO} (h : ι[n]? = some p) (ho : RO K mg F ι (upd H p u) p o) : Rep K mg G F ι (L.set n o) (upd H p u) := by
  have hn := r.nf n p h
  refine ⟨fun a v q => ?_, fun a v q => ?_, r.gf, by simp [r.len], r.inj, r.nf, fun m a v q1 q2 => ?_⟩
  · rw [upd_ne (fun z => by rw [z, hn.1] at q; cases q)]
    exact r.f a v q
  · rw [upd_ne (fun z => by rw [z, hn.2] at q; cases q)]
    exact r.g a v q
  · by_cases z : m = n
    · subst z
      rw [h] at q1
      cases Option.some.inj q1
      have hl : m < L.length := by rw [← r.len]; exact (List.getElem?_eq_some_iff.mp h).1
      rw [List.getElem?_set_self hl] at q2
      cases Option.some.inj q2
      exact ho
    · rw [List.getElem?_set_ne (Ne.symm z)] at q2
      refine (r.obj m a v q1 q2).mono (Ext.refl F ι) fun w q => ?_
      rw [upd_ne (fun y => z (r.inj m n p (by rw [← y]; exact q1) h))]
      exact q
end
end Z
namespace Z
open PySem PySem.Spec L2

/-! ### words -/
def JE (X : Cx) (W : WX) (e : Expr) (m : ME) : Prop := ∃ t, PE X e t ∧ SimE X.K X.mg W t m
def JT (X : Cx) (W : WX) (e : Expr) (m : MT) : Prop := ∃ t, PT X e t ∧ SimT X.K X.mg W t m
def JW (X : Cx) (W : WX) (e : Expr) (m : MT) : Prop := ∃ t, PW X e t ∧ SimT X.K X.mg W t m
def JA (X : Cx) (W : WX) (es : List Expr) (m : MA) : Prop := ∃ t, PA X es t ∧ SimA X.K X.mg W t m
def JN (X : Cx) (W : WX) (e : Expr) (m : MA) : Prop := ∃ t, PE X e t ∧ SimN X.K X.mg W t m
def JS (X : Cx) (W : WX) (s : Stmt) (m : MS) : Prop := ∃ t, PS X s t ∧ SimS X.K X.mg W t m
def JSs (X : Cx) (W : WX) (s : List Stmt) (m : MS) : Prop := ∃ t, PSs X s t ∧ SimS X.K X.mg W t m

/-! ### the mirror's pieces -/
def eVar (i : Nat) : ME := fun σ L => match σ[i]? with
  | some (.val v) => .ok v L
  | some (.own _) => .ok (.loc i) L
  | _ => .no
def eC (v : LV) : ME := fun _ L => .ok v L
def seqL (σ : SL) (L : LH) : LV → Option (List LV)
  | .lst vs => some vs
  | .rdl vs => some vs
  | .ref n => match L[n]? with
    | some (.lst vs) => some vs
    | _ => none
  | .loc i => match σ[i]? with
    | some (.own (.lst vs)) => some vs
    | _ => none
  | _ => none
/-- .. that may be copied by + and extend -/
def seqM (σ : SL) (L : LH) : LV → Option (List LV)
  | .rdl _ => none
  | v => seqL σ L v
def aNil : MA := fun _ L => .ok [] L
def aCons (m : ME) (r : MA) : MA := fun σ L => (m σ L).bind fun v L1 => (r σ L1).bind fun vs L2 => .ok (v :: vs) L2
/-- two operands -/
def e2 (f : LV → LV → SL → LH → O LV) (ma mb : ME) : ME := fun σ L => (ma σ L).bind fun x L1 => (mb σ L1).bind fun y L2 => f x y σ L2
def e1 (f : LV → SL → LH → O LV) (ma : ME) : ME := fun σ L => (ma σ L).bind fun x L1 => f x σ L1
def eA (f : List LV → SL → LH → O LV) (ma : MA) : ME := fun σ L => (ma σ L).bind fun x L1 => f x σ L1

section
variable {X : Cx} {W : WX} {K : PySem.W.Frag} {mg : Str → Option Value} {G F H : Hp} {ι : List Addr} {L : LH} {σ : St} {σl : SL}

theorem sim_var {i : Nat} : SimE K mg W (tVar i) (eVar i) := by
  intro G F ι L H σl σ Q r vr h
  unfold eVar at h
  split at h
  · rename_i v e
    obtain ⟨u, h1, h2⟩ := vr.val i v e
    exact ⟨u, h1, h.ok r u (.r0 h2)⟩
  · rename_i vs e
    obtain ⟨a, h1, h2⟩ := vr.own i vs e
    exact ⟨.ref a, h1, h.ok r _ (.loc h1)⟩
  · exact h.elim
theorem sim_c {v : LV} {u : V} (hv : ∀ F ι, R0 K mg F ι v u) : SimE K mg W (tC u) (eC v) := by
  intro G F ι L H σl σ Q r vr h
  exact h.ok r u (.r0 (hv F ι))
theorem je_var (i : Nat) {x : Str} {pos : Pos} (hN : X.N[i]? = some x := by rfl) (hv : Vis X.env.scope x := by first | exact Or.inl rfl | exact Or.inr (Or.inl rfl) | exact Or.inr (Or.inr rfl)) (hd : (x == ("__debug__" : Str)) = false := by decide)
    (hcd : (x == ("__classdict__" : Str)) = false := by decide) : JE X W (.Name x pos) (eVar i) := ⟨_, pe_var hN hv hd hcd, sim_var⟩
theorem je_int {i : Int} {j pos} : JE X W (.Constant (.int i) j pos) (eC (.int i)) := ⟨_, pe_int, sim_c fun _ _ => .int⟩
theorem je_str {i : Str} {j pos} : JE X W (.Constant (.str i) j pos) (eC (.str i)) := ⟨_, pe_str, sim_c fun _ _ => .str⟩
theorem je_bl {i : Bool} {j pos} : JE X W (.Constant (.bool i) j pos) (eC (.bl i)) := ⟨_, pe_bl, sim_c fun _ _ => .bl⟩
theorem je_non {j pos} : JE X W (.Constant .none j pos) (eC .non) := ⟨_, pe_non, sim_c fun _ _ => .non⟩
/-- a module's int, text, .. -/
theorem je_glob {x : Str} {v : LV} {w : V} {u : Value} {pos : Pos} (hg : Gl X x) (hm : X.mg x = some u) (r : RelV w u) (hv : ∀ F ι, R0 X.K X.mg F ι v w) (hd : (x == ("__debug__" : Str)) = false := by decide) : JE X W (.Name x pos) (eC v) :=
  ⟨_, pe_glob hg hm r hd, sim_c hv⟩

/-! ### reading lists -/
theorem seqL_ok {v : LV} {u : V} {vs : List LV} (r : Rep K mg G F ι L H) (vr : VR K mg G F ι σl σ) (hv : RV K mg σ F ι v u) (h : seqL σl L v = some vs) : ∃ a us, u = .ref a ∧ SqL K H a us ∧ Rs0 K mg F ι vs us := by
  unfold seqL at h
  split at h
  · cases h
    cases hv with
    | r0 hv =>
      cases hv with
      | lst h1 h2 => exact ⟨_, _, rfl, .of (r.f _ _ h1), h2⟩
  · cases h
    cases hv with
    | r0 hv =>
      cases hv with
      | rdl h1 h2 => exact ⟨_, _, rfl, Sub.sqL r.f h1, h2⟩
  · rename_i n
    split at h
    · rename_i ws e
      cases h
      cases hv with
      | r0 hv =>
        cases hv with
        | ref h1 =>
          have z := r.obj _ _ _ h1 e
          cases z with
          | lst z1 z2 => exact ⟨_, _, rfl, .of z1, z2⟩
    · cases h
  · rename_i i
    split at h
    · rename_i ws e
      cases h
      obtain ⟨a, h1, h2⟩ := vr.own _ _ e
      cases hv with
      | r0 hv => cases hv
      | loc q =>
        rw [q] at h1
        cases h1
        cases h2 with
        | lst h2 h3 => exact ⟨_, _, rfl, .of (r.g _ _ h2), h3⟩
    · cases h
  · cases h
theorem seqM_ok {v : LV} {u : V} {vs : List LV} (r : Rep K mg G F ι L H) (vr : VR K mg G F ι σl σ) (hv : RV K mg σ F ι v u) (h : seqM σl L v = some vs) : ∃ a us, u = .ref a ∧ H a = some (.lst us) ∧ Rs0 K mg F ι vs us := by
  unfold seqM at h
  split at h
  · cases h
  · rename_i hn
    unfold seqL at h
    split at h
    · cases h
      cases hv with
      | r0 hv =>
        cases hv with
        | lst h1 h2 => exact ⟨_, _, rfl, r.f _ _ h1, h2⟩
    · exact absurd rfl (hn _)
    · rename_i n
      split at h
      · rename_i ws e
        cases h
        cases hv with
        | r0 hv =>
          cases hv with
          | ref h1 =>
            have z := r.obj _ _ _ h1 e
            cases z with
            | lst z1 z2 => exact ⟨_, _, rfl, z1, z2⟩
      · cases h
    · rename_i i
      split at h
      · rename_i ws e
        cases h
        obtain ⟨a, h1, h2⟩ := vr.own _ _ e
        cases hv with
        | r0 hv => cases hv
        | loc q =>
          rw [q] at h1
          cases h1
          cases h2 with
          | lst h2 h3 => exact ⟨_, _, rfl, r.g _ _ h2, h3⟩
      · cases h
    · cases h

/-! ### operators -/
/-- an operator's mirror -/
def Op2 (K : PySem.W.Frag) (mg : Str → Option Value) (r : R2) (f : LV → LV → SL → LH → O LV) : Prop := ∀ (W : XK) (G F : Hp) (ι : List Addr) (L : LH) (H : Hp) (σl : SL) (σ : St) (Q : VK) (x y : LV) (u w : V), Rep K mg G F ι L H → VR K mg G F ι σl σ → RV K mg σ F ι x u → RV K mg σ F ι y w →
  Pst K mg G F ι (f x y σl L) (fun v F' ι' L' H' => ∀ u, RV K mg σ F' ι' v u → Q u H') W → r u w H Q
theorem sim_op {r : R2} {f : LV → LV → SL → LH → O LV} {ta tb : TE} {ma mb : ME} (hr : Op2 K mg r f) (ha : SimE K mg W ta ma) (hb : SimE K mg W tb mb) : SimE K mg W (tOp r ta tb) (e2 f ma mb) := by
  intro G F ι L H σl σ Q rp vr h
  refine ha _ _ _ _ _ _ _ _ rp vr ((Pst.bind h).imp fun x F1 ι1 L1 H1 x1 rp1 h1 u ru => ?_)
  refine hb _ _ _ _ _ _ _ _ rp1 (vr.mono x1) ((Pst.bind h1).imp fun y F2 ι2 L2 H2 x2 rp2 h2 w rw => ?_)
  exact hr _ _ _ _ _ _ _ _ _ _ _ _ _ rp2 (vr.mono (x1.trans x2)) (ru.mono x2) rw h2
theorem je_op {op : Operator} {r : R2} {f : LV → LV → SL → LH → O LV} {a b : Expr} {pos : Pos} {ma mb : ME} (ho : OpR X (binaryOp op) r) (hr : Op2 X.K X.mg r f) (ha : JE X W a ma) (hb : JE X W b mb) : JE X W (.BinOp a op b pos) (e2 f ma mb) := by
  obtain ⟨ta, pa, sa⟩ := ha
  obtain ⟨tb, pb, sb⟩ := hb
  exact ⟨_, pe_op ho pa pb, sim_op hr sa sb⟩
theorem je_cmp {op : CmpOp} {r : R2} {f : LV → LV → SL → LH → O LV} {a b : Expr} {pos : Pos} {ma mb : ME} (ho : OpR X (compareOp op) r) (hr : Op2 X.K X.mg r f) (ha : JE X W a ma) (hb : JE X W b mb) (hm : behindInMarks op b = false) : JE X W (.Compare a [op] [b] pos) (e2 f ma mb) := by
  obtain ⟨ta, pa, sa⟩ := ha
  obtain ⟨tb, pb, sb⟩ := hb
  exact ⟨_, pe_cmpR ho pa pb hm, sim_op hr sa sb⟩
theorem op2_or {r r' : R2} {f f' : LV → LV → SL → LH → O LV} {g : LV → LV → SL → LH → O LV} (h : Op2 K mg r f) (h' : Op2 K mg r' f') (hg : ∀ x y σ L, g x y σ L = f x y σ L ∨ g x y σ L = f' x y σ L) : Op2 K mg (fun x y H Q => r x y H Q ∨ r' x y H Q) g := by
  intro W G F ι L H σl σ Q x y u w rp vr ru rw q
  rcases hg x y σl L with e | e
  · exact .inl (h W G F ι L H σl σ Q x y u w rp vr ru rw (by rw [← e]; exact q))
  · exact .inr (h' W G F ι L H σl σ Q x y u w rp vr ru rw (by rw [← e]; exact q))

/-- ints -/
def fI (C : Int → Int → Bool) (g : Int → Int → LV) : LV → LV → SL → LH → O LV := fun x y _ L => match x, y with
  | .int i, .int j => if C i j = true then .ok (g i j) L else .no
  | _, _ => .no
theorem op2_I {C : Int → Int → Bool} {C' : Int → Int → Prop} {g : Int → Int → LV} {g' : Int → Int → V} (hC : ∀ i j, C i j = true → C' i j) (hg : ∀ i j F ι, C i j = true → R0 K mg F ι (g i j) (g' i j)) : Op2 K mg (rI C' g') (fI C g) := by
  intro W G F ι L H σl σ Q x y u w rp vr ru rw q
  unfold fI at q
  split at q
  · rename_i i j
    split at q
    · rename_i hc
      cases ru with
      | r0 ru =>
        cases ru
        cases rw with
        | r0 rw =>
          cases rw
          exact ⟨i, j, rfl, rfl, hC i j hc, q.ok rp _ (.r0 (hg i j F ι hc))⟩
    · exact q.elim
  · exact q.elim
def fI0 (g : Int → Int → LV) : LV → LV → SL → LH → O LV := fun x y _ L => match x, y with
  | .int i, .int j => .ok (g i j) L
  | _, _ => .no
theorem op2_I0 {g : Int → Int → LV} {g' : Int → Int → V} (hg : ∀ i j F ι, R0 K mg F ι (g i j) (g' i j)) : Op2 K mg (rI0 g') (fI0 g) := by
  intro W G F ι L H σl σ Q x y u w rp vr ru rw q
  unfold fI0 at q
  split at q
  · rename_i i j
    cases ru with
    | r0 ru =>
      cases ru
      cases rw with
      | r0 rw =>
        cases rw
        exact ⟨i, j, rfl, rfl, q.ok rp _ (.r0 (hg i j F ι))⟩
  · exact q.elim
/-- the new object p -/
theorem Rep.frzL {p : Addr} {us : List V} {vs : List LV} (r : Rep K mg G F ι L H) (h : H p = none) (hr : Rs0 K mg F ι vs us) : Rep K mg G (upd F p (.lst us)) ι L (upd H p (.lst us)) ∧ Ext F ι (upd F p (.lst us)) ι ∧ R0 K mg (upd F p (.lst us)) ι (.lst vs) (.ref p) := by
  obtain ⟨f1, f2, f3⟩ := r.fresh h
  obtain ⟨q1, q2⟩ := (r.new (o := .lst us) h).freeze upd_same f1 f2 f3
  exact ⟨q1, q2, .lst upd_same (hr.mono q2)⟩
theorem Rep.frzT {p : Addr} {us : List V} {vs : List LV} (r : Rep K mg G F ι L H) (h : H p = none) (hr : Rs0 K mg F ι vs us) : Rep K mg G (upd F p (.tup us)) ι L (upd H p (.tup us)) ∧ Ext F ι (upd F p (.tup us)) ι ∧ R0 K mg (upd F p (.tup us)) ι (.tup vs) (.ref p) := by
  obtain ⟨f1, f2, f3⟩ := r.fresh h
  obtain ⟨q1, q2⟩ := (r.new (o := .tup us) h).freeze upd_same f1 f2 f3
  exact ⟨q1, q2, .tup (.of upd_same) (hr.mono q2)⟩
/-- a + b: ints, texts, lists -/
def fAdd : LV → LV → SL → LH → O LV := fun x y σ L => match x, y with
  | .int i, .int j => .ok (.int (i + j)) L
  | .str i, .str j => if i.length + j.length ≤ sizeLine then .ok (.str (i ++ j)) L else .no
  | x, y => match seqM σ L x, seqM σ L y with
    | some vs, some ws => if vs.length + ws.length ≤ sizeLine then .ok (.lst (vs ++ ws)) L else .no
    | _, _ => .no
def rAddS : R2 := fun x y H Q => ∃ i j, x = .str i ∧ y = .str j ∧ i.length + j.length ≤ sizeLine ∧ Q (.str (i ++ j)) H
def rAddU : R2 := fun x y H Q => (rI0 fun i j => .int (i + j)) x y H Q ∨ (rAddS x y H Q ∨ rCat x y H Q)
theorem op_addU : OpR X (binaryOp .Add) rAddU := op_add.or (OpR.or (r := rAddS) op_add_str op_cat)
theorem op2_add : Op2 K mg rAddU fAdd := by
  intro W G F ι L H σl σ Q x y u w rp vr ru rw q
  unfold fAdd at q
  split at q
  · cases ru with
    | r0 ru =>
      cases ru
      cases rw with
      | r0 rw => cases rw; exact .inl ⟨_, _, rfl, rfl, q.ok rp _ (.r0 .int)⟩
  · split at q
    · rename_i hz
      cases ru with
      | r0 ru =>
        cases ru
        cases rw with
        | r0 rw => cases rw; exact .inr (.inl ⟨_, _, rfl, rfl, hz, q.ok rp _ (.r0 .str)⟩)
    · exact q.elim
  · split at q
    · rename_i vs ws e1 e2
      split at q
      · rename_i hz
        obtain ⟨a, us, rfl, h1, h2⟩ := seqM_ok rp vr ru e1
        obtain ⟨b, zs, rfl, h3, h4⟩ := seqM_ok rp vr rw e2
        refine .inr (.inr ⟨a, b, us, zs, rfl, rfl, h1, h3, by rw [← h2.length, ← h4.length]; exact hz, fun p hp => ?_⟩)
        obtain ⟨r1, x1, z⟩ := rp.frzL hp (h2.append h4)
        exact q _ _ _ x1 r1 _ (.r0 z)
      · exact q.elim
    · exact q.elim
abbrev fSub := fI0 fun i j => .int (i - j)
theorem op2_sub : Op2 K mg (rI0 fun i j => .int (i - j)) fSub := op2_I0 fun _ _ _ _ => .int
def cMul (i j : Int) : Bool := Nat.ble (Builtin.Int.intBits i + Builtin.Int.intBits j) 134217728
abbrev fMul := fI cMul fun i j => .int (i * j)
theorem op2_mul : Op2 K mg (rI CMulX fun i j => .int (i * j)) fMul := op2_I (fun i j h => by have z := Nat.le_of_ble_eq_true h; unfold CMulX; omega) fun _ _ _ _ _ => .int
def cDiv (_ j : Int) : Bool := decide (0 < j ∧ j.natAbs.log2 < 9000)
abbrev fDiv := fI cDiv fun i j => .int (i / j)
theorem op2_div : Op2 K mg (rI CDivW fun i j => .int (i / j)) fDiv := op2_I (fun i j h => by have z := of_decide_eq_true h; exact z) fun _ _ _ _ _ => .int
abbrev fMod := fI (fun _ j => decide (0 < j)) fun i j => .int (i % j)
theorem op2_mod : Op2 K mg (rI (fun _ j => 0 < j) fun i j => .int (i % j)) fMod := op2_I (fun i j h => by have z := of_decide_eq_true h; exact z) fun _ _ _ _ _ => .int
def cPow (i j : Int) : Bool := decide (0 ≤ j ∧ j ≤ 1000000 ∧ i.natAbs < 2 ^ 64)
abbrev fPow := fI cPow fun i j => .int (i ^ j.toNat)
theorem op2_pow : Op2 K mg (rI CPow fun i j => .int (i ^ j.toNat)) fPow := op2_I (fun i j h => by have z := of_decide_eq_true h; exact z) fun _ _ _ _ _ => .int
abbrev fLt := fI0 fun i j => .bl (decide (i < j))
abbrev fLe := fI0 fun i j => .bl (decide (i ≤ j))
abbrev fGt := fI0 fun i j => .bl (decide (j < i))
abbrev fGe := fI0 fun i j => .bl (decide (j ≤ i))
theorem op2_lt : Op2 K mg (rI0 fun i j => .bl (decide (i < j))) fLt := op2_I0 fun _ _ _ _ => .bl
theorem op2_le : Op2 K mg (rI0 fun i j => .bl (decide (i ≤ j))) fLe := op2_I0 fun _ _ _ _ => .bl
theorem op2_gt : Op2 K mg (rI0 fun i j => .bl (decide (j < i))) fGt := op2_I0 fun _ _ _ _ => .bl
theorem op2_ge : Op2 K mg (rI0 fun i j => .bl (decide (j ≤ i))) fGe := op2_I0 fun _ _ _ _ => .bl

/-! ### == -/
mutual
def toD (σ : SL) (L : LH) : LV → Option PyData
  | .non => some .none
  | .bl b => some (.bool b)
  | .int i => some (.int i)
  | .str x => some (.str x)
  | .tup vs => (toDs σ L vs).map .tuple
  | .lst vs => (toDs σ L vs).map .list
  | .rdl vs => (toDs σ L vs).map .list
  | _ => none
def toDs (σ : SL) (L : LH) : List LV → Option (List PyData)
  | [] => some []
  | v :: vs => match toD σ L v, toDs σ L vs with
    | some d, some ds => some (d :: ds)
    | _, _ => none
end
mutual
theorem toD_ok (s : Sub F H) : ∀ {v : LV} {u : V} {d : PyData}, R0 K mg F ι v u → toD σl L v = some d → Dp K H u d
  | .non, _, _, .non, h => by rw [toD] at h; cases h; exact .non
  | .bl b, _, _, .bl, h => by rw [toD] at h; cases h; exact .bl b
  | .int b, _, _, .int, h => by rw [toD] at h; cases h; exact .int b
  | .str b, _, _, .str, h => by rw [toD] at h; cases h; exact .str b
  | .tup vs, _, _, .tup h1 h2, h => by
    rw [toD] at h
    cases e : toDs σl L vs with
    | none => rw [e] at h; cases h
    | some ds => rw [e] at h; cases h; exact .tup (s.sqT h1) (toDs_ok s h2 e)
  | .lst vs, _, _, .lst h1 h2, h => by
    rw [toD] at h
    cases e : toDs σl L vs with
    | none => rw [e] at h; cases h
    | some ds => rw [e] at h; cases h; exact .lst (.of (s _ _ h1)) (toDs_ok s h2 e)
  | .rdl vs, _, _, .rdl h1 h2, h => by
    rw [toD] at h
    cases e : toDs σl L vs with
    | none => rw [e] at h; cases h
    | some ds => rw [e] at h; cases h; exact .lst (s.sqL h1) (toDs_ok s h2 e)
  | .ref _, _, _, _, h => by simp [toD] at h
  | .ins _ _ _, _, _, _, h => by simp [toD] at h
theorem toDs_ok (s : Sub F H) : ∀ {vs : List LV} {us : List V} {ds : List PyData}, Rs0 K mg F ι vs us → toDs σl L vs = some ds → DpAll K H us ds
  | [], _, _, .nil, h => by rw [toDs] at h; cases h; exact .nil
  | v :: vs, _, _, .cons h1 h2, h => by
    rw [toDs] at h
    cases e1 : toD σl L v with
    | none => rw [e1] at h; cases h
    | some d =>
      cases e2 : toDs σl L vs with
      | none => rw [e1, e2] at h; cases h
      | some ds => rw [e1, e2] at h; cases h; exact .cons (toD_ok s h1 e1) (toDs_ok s h2 e2)
end
/-- data, or a list that may be written -/
def toDV (σ : SL) (L : LH) (v : LV) : Option PyData := match v with
  | .ref n => match L[n]? with
    | some (.lst vs) => (toDs σ L vs).map .list
    | _ => none
  | .loc i => match σ[i]? with
    | some (.own (.lst vs)) => (toDs σ L vs).map .list
    | _ => none
  | v => toD σ L v
theorem toDV_ok {v : LV} {u : V} {d : PyData} (r : Rep K mg G F ι L H) (vr : VR K mg G F ι σl σ) (hv : RV K mg σ F ι v u) (h : toDV σl L v = some d) : Dp K H u d := by
  have other : ∀ vs, seqL σl L v = some vs → (toDs σl L vs).map PyData.list = some d → Dp K H u d := fun vs e q => by
    obtain ⟨a, us, rfl, h1, h2⟩ := seqL_ok r vr hv e
    cases e2 : toDs σl L vs with
    | none => rw [e2] at q; cases q
    | some ds => rw [e2] at q; cases q; exact .lst h1 (toDs_ok r.f h2 e2)
  unfold toDV at h
  split at h
  · split at h
    · rename_i n vs e
      exact other vs (by simp only [seqL, e]) h
    · cases h
  · split at h
    · rename_i n vs e
      exact other vs (by simp only [seqL, e]) h
    · cases h
  · rename_i v' h1 h2
    cases hv with
    | r0 hv => exact toD_ok r.f hv h
    | loc q => exact absurd rfl (h2 _)
def eqS : LV → LV → Option Bool
  | .int i, .int j => some (decide (i = j))
  | .str i, .str j => some (decide (i = j))
  | .bl i, .bl j => some (decide (i = j))
  | _, _ => none
def fEqN (neg : Bool) : LV → LV → SL → LH → O LV := fun x y σ L => match eqS x y with
  | some b => .ok (.bl (if neg then !b else b)) L
  | none => match toDV σ L x, toDV σ L y with
    | some d, some e => if (SeqAt.shaped d && SeqAt.shaped e) = true then .ok (.bl (if neg then !PyData.eqv d e else PyData.eqv d e)) L else .no
    | _, _ => .no
abbrev fEq := fEqN false
abbrev fNe := fEqN true
def rEqU (K : PySem.W.Frag) : R2 := fun x y H Q => rEq x y H Q ∨ rEqD K x y H Q
def rNeU (K : PySem.W.Frag) : R2 := fun x y H Q => rNe x y H Q ∨ rNeD K x y H Q
theorem op_eqU (hu : X.A.units + 64 < cLine) : OpR X (compareOp .Eq) (rEqU X.K) := op_eq.or (op_eqD hu)
theorem op_neU (hu : X.A.units + 64 < cLine) : OpR X (compareOp .NotEq) (rNeU X.K) := op_ne.or (op_neD hu)
theorem eqS_ok {x y : LV} {u w : V} {b : Bool} (ru : RV K mg σ F ι x u) (rw : RV K mg σ F ι y w) (h : eqS x y = some b) : scal u w = true ∧ decide (u = w) = b := by
  unfold eqS at h
  split at h
  · cases h
    cases ru with
    | r0 ru =>
      cases ru
      cases rw with
      | r0 rw => cases rw; exact ⟨rfl, by simp [V.int.injEq]⟩
  · cases h
    cases ru with
    | r0 ru =>
      cases ru
      cases rw with
      | r0 rw => cases rw; exact ⟨rfl, by simp [V.str.injEq]⟩
  · cases h
    cases ru with
    | r0 ru =>
      cases ru
      cases rw with
      | r0 rw => cases rw; exact ⟨rfl, by simp [V.bl.injEq]⟩
  · cases h
theorem op2_eq : Op2 K mg (rEqU K) fEq := by
  intro W G F ι L H σl σ Q x y u w rp vr ru rw q
  unfold fEq fEqN at q
  split at q
  · rename_i b e
    obtain ⟨h1, h2⟩ := eqS_ok ru rw e
    exact .inl ⟨h1, by rw [h2]; exact q.ok rp _ (.r0 .bl)⟩
  · split at q
    · rename_i d e h1 h2
      split at q
      · rename_i hs
        rw [Bool.and_eq_true] at hs
        exact .inr ⟨d, e, toDV_ok rp vr ru h1, toDV_ok rp vr rw h2, hs.1, hs.2, q.ok rp _ (.r0 .bl)⟩
      · exact q.elim
    · exact q.elim
theorem op2_ne : Op2 K mg (rNeU K) fNe := by
  intro W G F ι L H σl σ Q x y u w rp vr ru rw q
  unfold fNe fEqN at q
  split at q
  · rename_i b e
    obtain ⟨h1, h2⟩ := eqS_ok ru rw e
    exact .inl ⟨h1, by rw [h2]; exact q.ok rp _ (.r0 .bl)⟩
  · split at q
    · rename_i d e h1 h2
      split at q
      · rename_i hs
        rw [Bool.and_eq_true] at hs
        exact .inr ⟨d, e, toDV_ok rp vr ru h1, toDV_ok rp vr rw h2, hs.1, hs.2, q.ok rp _ (.r0 .bl)⟩
      · exact q.elim
    · exact q.elim
/-- is None -/
def isNon : LV → Bool
  | .non => true
  | _ => false
def fIsN (neg : Bool) : LV → LV → SL → LH → O LV := fun x y _ L => match y with
  | .non => .ok (.bl (if neg then !isNon x else isNon x)) L
  | _ => .no
theorem non_iff {x : LV} {u : V} (ru : RV K mg σ F ι x u) : decide (u = .non) = isNon x := by
  cases ru with
  | r0 ru => cases ru <;> simp [isNon]
  | loc q => simp [isNon]
theorem op2_isN : Op2 K mg (fun x y H Q => y = .non ∧ Q (.bl (decide (x = .non))) H) (fIsN false) := by
  intro W G F ι L H σl σ Q x y u w rp vr ru rw q
  unfold fIsN at q
  split at q
  · cases rw with
    | r0 rw =>
      cases rw
      refine ⟨rfl, ?_⟩
      rw [non_iff ru]
      exact q.ok rp _ (.r0 .bl)
  · exact q.elim
theorem op2_notN : Op2 K mg (fun x y H Q => y = .non ∧ Q (.bl (!decide (x = .non))) H) (fIsN true) := by
  intro W G F ι L H σl σ Q x y u w rp vr ru rw q
  unfold fIsN at q
  split at q
  · cases rw with
    | r0 rw =>
      cases rw
      refine ⟨rfl, ?_⟩
      rw [non_iff ru]
      exact q.ok rp _ (.r0 .bl)
  · exact q.elim

/-! ### items -/
theorem Rs0.atI {vs : List LV} {us : List V} {i : Int} {v : LV} (h : Rs0 K mg F ι vs us) (e : L2.atI vs i = some v) : ∃ u, L2.atI us i = some u ∧ R0 K mg F ι v u := by
  unfold L2.atI at e ⊢
  rw [← h.length]
  cases q : ixN vs.length i with
  | none => rw [q] at e; cases e
  | some j =>
    rw [q] at e
    exact h.get e
def fIx : LV → LV → SL → LH → O LV := fun x y σ L => match y with
  | .int i => match x with
    | .tup vs => match L2.atI vs i with
      | some v => .ok v L
      | none => .no
    | .str z => if z.length ≤ sizeLine then (match L2.atI z.cps.toList i with
      | some c => .ok (.str ⟨#[c]⟩) L
      | none => .no) else .no
    | x => match seqL σ L x with
      | some vs => match L2.atI vs i with
        | some v => .ok v L
        | none => .no
      | none => .no
  | _ => .no
theorem op2_ix : Op2 K mg (rIx K) fIx := by
  intro W G F ι L H σl σ Q x y u w rp vr ru rw q
  unfold fIx at q
  split at q
  · rename_i i
    cases rw with
    | r0 rw =>
      cases rw
      split at q
      · split at q
        · rename_i vs v e
          cases ru with
          | r0 ru =>
            cases ru with
            | tup h1 h2 =>
              obtain ⟨u2, a1, a2⟩ := h2.atI e
              exact .inr (.inl ⟨_, _, i, u2, rfl, rfl, rp.f.sqT h1, a1, q.ok rp _ (.r0 a2)⟩)
        · exact q.elim
      · split at q
        · rename_i hz
          split at q
          · rename_i c e
            cases ru with
            | r0 ru =>
              cases ru
              exact .inr (.inr ⟨_, i, c, rfl, rfl, hz, e, q.ok rp _ (.r0 .str)⟩)
          · exact q.elim
        · exact q.elim
      · split at q
        · rename_i vs e1
          split at q
          · rename_i v e
            obtain ⟨a, us, rfl, h1, h2⟩ := seqL_ok rp vr ru e1
            obtain ⟨u2, a1, a2⟩ := h2.atI e
            exact .inl ⟨a, us, i, u2, rfl, rfl, h1, a1, q.ok rp _ (.r0 a2)⟩
          · exact q.elim
        · exact q.elim
  · exact q.elim
theorem je_ix {a b : Expr} {pos : Pos} {ma mb : ME} (ha : JE X W a ma) (hb : JE X W b mb) (hs : PlainIx b) : JE X W (.Subscript a b pos) (e2 fIx ma mb) := by
  obtain ⟨ta, pa, sa⟩ := ha
  obtain ⟨tb, pb, sb⟩ := hb
  exact ⟨_, pe_ix ix_seq pa pb hs, sim_op op2_ix sa sb⟩

/-! ### arguments, displays -/
theorem sim_anil : SimA K mg W tNil aNil := by
  intro G F ι L H σl σ Q r vr h
  exact h.ok r [] .nil
theorem sim_acons {te : TE} {m : ME} {tr : TA} {mr : MA} (he : SimE K mg W te m) (hr : SimA K mg W tr mr) : SimA K mg W (tCons te tr) (aCons m mr) := by
  intro G F ι L H σl σ Q rp vr h
  refine he _ _ _ _ _ _ _ _ rp vr ((Pst.bind h).imp fun x F1 ι1 L1 H1 x1 rp1 h1 u ru => ?_)
  refine hr _ _ _ _ _ _ _ _ rp1 (vr.mono x1) ((Pst.bind h1).imp fun y F2 ι2 L2 H2 x2 rp2 h2 w rw => ?_)
  exact h2.ok rp2 (u :: w) (.cons (ru.mono x2) rw)
theorem ja_nil : JA X W [] aNil := ⟨_, pa_nil, sim_anil⟩
theorem ja_cons {e : Expr} {es : List Expr} {m : ME} {mr : MA} (he : JE X W e m) (hr : JA X W es mr) (hs : starEach (e :: es) X.env = (false, eval e X.env) :: starEach es X.env := by rfl) : JA X W (e :: es) (aCons m mr) := by
  obtain ⟨t, p, s⟩ := he
  obtain ⟨t', p', s'⟩ := hr
  exact ⟨_, pa_cons p p' hs, sim_acons s s'⟩
/-- arguments that may be kept -/
def aClean (m : MA) : MA := fun σ L => (m σ L).bind fun vs L1 => if (vs.all clean && decide (vs.length ≤ sizeLine)) = true then .ok vs L1 else .no
def eTup (m : MA) : ME := fun σ L => (m σ L).bind fun vs L1 => if (vs.all clean && decide (vs.length ≤ sizeLine)) = true then .ok (.tup vs) L1 else .no
theorem je_tup {es : List Expr} {pos : Pos} {c : Nat} {m : MA} (h : JA X W es m) : JE X W (.Tuple es c pos) (eTup m) := by
  obtain ⟨t, p, s⟩ := h
  refine ⟨_, pe_tup p, ?_⟩
  intro G F ι L H σl σ Q rp vr h
  refine s _ _ _ _ _ _ _ _ rp vr ((Pst.bind h).imp fun vs F1 ι1 L1 H1 x1 rp1 h1 us ru => ?_)
  split at h1
  · rename_i hc
    rw [Bool.and_eq_true] at hc
    have r0 := RVs.clean ru hc.1
    refine ⟨by rw [← r0.length]; exact of_decide_eq_true hc.2, fun q hq => ?_⟩
    obtain ⟨r1, x2, z⟩ := rp1.frzT hq r0
    exact h1 _ _ _ x2 r1 _ (.r0 z)
  · exact h1.elim
theorem jn_lst {es : List Expr} {pos : Pos} {m : MA} (h : JA X W es m) : JN X W (.List es pos) (aClean m) := by
  obtain ⟨t, p, s⟩ := h
  refine ⟨_, pe_lst p, ?_⟩
  intro G F ι L H σl σ Q rp vr h
  refine s _ _ _ _ _ _ _ _ rp vr ((Pst.bind h).imp fun vs F1 ι1 L1 H1 x1 rp1 h1 us ru => ?_)
  split at h1
  · rename_i hc
    rw [Bool.and_eq_true] at hc
    have r0 := RVs.clean ru hc.1
    refine ⟨by rw [← r0.length]; exact of_decide_eq_true hc.2, fun q hq => ?_⟩
    obtain ⟨f1, f2, f3⟩ := rp1.fresh hq
    exact h1 _ _ _ (Ext.refl _ _) (rp1.new hq) q us upd_same f2 f1 f3 r0
  · exact h1.elim
/-! a new list: frozen; a mirror's object -/
def eFrz (m : MA) : ME := fun σ L => (m σ L).bind fun vs L1 => .ok (.lst vs) L1
def eNew (m : MA) : ME := fun σ L => (m σ L).bind fun vs L1 => .ok (.ref L1.length) (L1 ++ [.lst vs])
theorem je_frz {e : Expr} {m : MA} (h : JN X W e m) : JE X W e (eFrz m) := by
  obtain ⟨t, p, s⟩ := h
  refine ⟨_, p, ?_⟩
  intro G F ι L H σl σ Q rp vr h
  refine s _ _ _ _ _ _ _ _ rp vr ((Pst.bind h).imp fun vs F1 ι1 L1 H1 x1 rp1 h1 q us e1 e2 e3 e4 e5 => ?_)
  obtain ⟨r1, x2⟩ := rp1.freeze e1 e3 e2 e4
  exact h1 _ _ _ x2 r1 _ (.r0 (.lst upd_same (e5.mono x2)))
theorem je_new {e : Expr} {m : MA} (h : JN X W e m) : JE X W e (eNew m) := by
  obtain ⟨t, p, s⟩ := h
  refine ⟨_, p, ?_⟩
  intro G F ι L H σl σ Q rp vr h
  refine s _ _ _ _ _ _ _ _ rp vr ((Pst.bind h).imp fun vs F1 ι1 L1 H1 x1 rp1 h1 q us e1 e2 e3 e4 e5 => ?_)
  obtain ⟨r1, x2⟩ := rp1.alloc (o := .lst vs) e3 e2 e4 fun ι' x2 => .lst e1 (e5.mono x2)
  refine h1 _ _ _ x2 r1 _ (.r0 (.ref ?_))
  rw [← rp1.len, List.getElem?_append_right (Nat.le_refl _), Nat.sub_self]
  rfl
end
end Z
namespace Z
open PySem PySem.Spec L2
section
variable {X : Cx} {W : WX} {K : PySem.W.Frag} {mg : Str → Option Value} {G F H : Hp} {ι : List Addr} {L : LH} {σ : St} {σl : SL}

/-! ### tests -/
def tOf (m : ME) : MT := fun σ L => (m σ L).bind fun v L1 => match v with
  | .bl b => .ok b L1
  | _ => .no
theorem sim_test {t : TE} {m : ME} (h : SimE K mg W t m) : SimT K mg W (tTest t) (tOf m) := by
  intro G F ι L H σl σ Q rp vr q
  refine h _ _ _ _ _ _ _ _ rp vr ((Pst.bind q).imp fun v F1 ι1 L1 H1 x1 rp1 q1 u ru => ?_)
  split at q1
  · cases ru with
    | r0 ru => cases ru; exact ⟨_, rfl, q1.ok rp1⟩
  · exact q1.elim
theorem sim_B {t : TE} {m : ME} (h : SimE K mg W t m) : SimT K mg W (tB t) (tOf m) := sim_test h
theorem jt_cmp {op : CmpOp} {r : R2} {f : LV → LV → SL → LH → O LV} {a b : Expr} {pos : Pos} {ma mb : ME} (ho : OpR X (compareOp op) r) (hr : Op2 X.K X.mg r f) (ha : JE X W a ma) (hb : JE X W b mb) (hm : behindInMarks op b = false) : JT X W (.Compare a [op] [b] pos) (tOf (e2 f ma mb)) := by
  obtain ⟨ta, pa, sa⟩ := ha
  obtain ⟨tb, pb, sb⟩ := hb
  exact ⟨_, pt_cmpR ho pa pb hm, sim_test (sim_op hr sa sb)⟩
theorem jt_val {e : Expr} {m : ME} (h : JE X W e m) (he : ∀ whole, isTrue e X.env whole = (do let v ← whole; standAt e.pos; holding [v] (truthy v)) := by intro _; rfl) : JT X W e (tOf m) := by
  obtain ⟨t, p, s⟩ := h
  exact ⟨_, pt_val p he, sim_B s⟩
/-- a value's truth -/
def truL (σ : SL) (L : LH) : LV → Option Bool
  | .non => some false
  | .bl b => some b
  | .int i => some (i != 0)
  | .str y => if y.length ≤ sizeLine then some ((y.length : Int) != 0) else none
  | .tup vs => some (!vs.isEmpty)
  | .ref n => match L[n]? with
    | some (.lst vs) => some (!vs.isEmpty)
    | some (.dic ks vs) => some (!ks.isEmpty)
    | _ => none
  | v => (seqL σ L v).map fun vs => !vs.isEmpty
theorem isE {vs : List LV} {us : List V} (h : Rs0 K mg F ι vs us) : vs.isEmpty = us.isEmpty := by cases h <;> rfl
theorem truL_ok {v : LV} {u : V} {b : Bool} (r : Rep K mg G F ι L H) (vr : VR K mg G F ι σl σ) (hv : RV K mg σ F ι v u) (h : truL σl L v = some b) : TruV K u H b := by
  have other : ∀ vs, seqL σl L v = some vs → b = !vs.isEmpty → TruV K u H b := fun vs e q => by
    obtain ⟨a, us, rfl, h1, h2⟩ := seqL_ok r vr hv e
    exact .inl ⟨us, h1, by rw [q, isE h2]⟩
  unfold truL at h
  split at h
  · cases h; cases hv with | r0 hv => cases hv; exact (show false = false from rfl)
  · cases h; cases hv with | r0 hv => cases hv; exact (show b = b from rfl)
  · cases h; cases hv with | r0 hv => cases hv; exact rfl
  · split at h
    · rename_i hz
      cases h; cases hv with | r0 hv => cases hv; exact ⟨hz, rfl⟩
    · cases h
  · cases h
    cases hv with
    | r0 hv =>
      cases hv with
      | tup h1 h2 => exact .inr (.inl ⟨_, r.f.sqT h1, by rw [isE h2]⟩)
  · split at h
    · rename_i e
      cases h
      exact other _ (by simp only [seqL, e]) rfl
    · rename_i e
      cases h
      cases hv with
      | r0 hv =>
        cases hv with
        | ref h1 =>
          have z := r.obj _ _ _ h1 e
          cases z with
          | dic z1 z2 z3 =>
            refine .inr (.inr ⟨_, z1, ?_⟩)
            rename_i ks vs _ us
            cases ks with
            | nil => rfl
            | cons k ks =>
              cases us with
              | nil => cases z2
              | cons u us => rfl
    · cases h
  · cases e : seqL σl L v with
    | none => rw [e] at h; cases h
    | some vs => rw [e] at h; cases h; exact other vs e rfl
def tTr (m : ME) : MT := fun σ L => (m σ L).bind fun v L1 => match truL σ L1 v with
  | some b => .ok b L1
  | none => .no
theorem jt_tr {e : Expr} {m : ME} (h : JE X W e m) (he : ∀ whole, isTrue e X.env whole = (do let v ← whole; standAt e.pos; holding [v] (truthy v)) := by intro _; rfl) : JT X W e (tTr m) := by
  obtain ⟨t, p, s⟩ := h
  refine ⟨_, pt_truth p he, ?_⟩
  intro G F ι L H σl σ Q rp vr q
  refine s _ _ _ _ _ _ _ _ rp vr ((Pst.bind q).imp fun v F1 ι1 L1 H1 x1 rp1 q1 u ru => ?_)
  split at q1
  · rename_i b e
    exact ⟨b, truL_ok rp1 (vr.mono x1) ru e, q1.ok rp1⟩
  · exact q1.elim
def tAnd' (a b : MT) : MT := fun σ L => (a σ L).bind fun c L1 => if c = true then b σ L1 else .ok false L1
def tOr' (a b : MT) : MT := fun σ L => (a σ L).bind fun c L1 => if c = true then .ok true L1 else b σ L1
def tNot' (a : MT) : MT := fun σ L => (a σ L).bind fun c L1 => .ok (!c) L1
theorem sim_and {t u : TT} {a b : MT} (ha : SimT K mg W t a) (hb : SimT K mg W u b) : SimT K mg W (tAnd t u) (tAnd' a b) := by
  intro G F ι L H σl σ Q rp vr q
  refine ha _ _ _ _ _ _ _ _ rp vr ((Pst.bind q).imp fun c F1 ι1 L1 H1 x1 rp1 q1 => ?_)
  cases c with
  | true => exact hb _ _ _ _ _ _ _ _ rp1 (vr.mono x1) q1
  | false => exact q1.ok rp1
theorem sim_or {t u : TT} {a b : MT} (ha : SimT K mg W t a) (hb : SimT K mg W u b) : SimT K mg W (tOr t u) (tOr' a b) := by
  intro G F ι L H σl σ Q rp vr q
  refine ha _ _ _ _ _ _ _ _ rp vr ((Pst.bind q).imp fun c F1 ι1 L1 H1 x1 rp1 q1 => ?_)
  cases c with
  | false => exact hb _ _ _ _ _ _ _ _ rp1 (vr.mono x1) q1
  | true => exact q1.ok rp1
theorem sim_not {t : TT} {a : MT} (ha : SimT K mg W t a) : SimT K mg W (tNot t) (tNot' a) := by
  intro G F ι L H σl σ Q rp vr q
  exact ha _ _ _ _ _ _ _ _ rp vr ((Pst.bind q).imp fun c F1 ι1 L1 H1 x1 rp1 q1 => q1.ok rp1)
theorem jw_and1 {a : Expr} {pos : Pos} {m : MT} (h : JT X W a m) : JW X W (.BoolOp .And [a] pos) m := let ⟨_, p, s⟩ := h; ⟨_, pw_and1 p, s⟩
theorem jw_or1 {a : Expr} {pos : Pos} {m : MT} (h : JT X W a m) : JW X W (.BoolOp .Or [a] pos) m := let ⟨_, p, s⟩ := h; ⟨_, pw_or1 p, s⟩
theorem jw_and {a b : Expr} {rest : List Expr} {pos : Pos} {m n : MT} (h : JT X W a m) (h' : JW X W (.BoolOp .And (b :: rest) pos) n) : JW X W (.BoolOp .And (a :: b :: rest) pos) (tAnd' m n) :=
  let ⟨_, p, s⟩ := h; let ⟨_, p', s'⟩ := h'; ⟨_, pw_and p p', sim_and s s'⟩
theorem jw_or {a b : Expr} {rest : List Expr} {pos : Pos} {m n : MT} (h : JT X W a m) (h' : JW X W (.BoolOp .Or (b :: rest) pos) n) : JW X W (.BoolOp .Or (a :: b :: rest) pos) (tOr' m n) :=
  let ⟨_, p, s⟩ := h; let ⟨_, p', s'⟩ := h'; ⟨_, pw_or p p', sim_or s s'⟩
theorem jt_w {e : Expr} {m : MT} (h : JW X W e m) : JT X W e m := let ⟨_, p, s⟩ := h; ⟨_, p.pt, s⟩
theorem jt_not {a : Expr} {pos : Pos} {m : MT} (h : JT X W a m) : JT X W (.UnaryOp .Not a pos) (tNot' m) := let ⟨_, p, s⟩ := h; ⟨_, pt_not p, sim_not s⟩
/-- and, or, not as values: bools -/
def eAnd (a b : ME) : ME := fun σ L => (a σ L).bind fun v L1 => match v with
  | .bl c => if c = true then b σ L1 else .ok (.bl false) L1
  | _ => .no
def eOr (a b : ME) : ME := fun σ L => (a σ L).bind fun v L1 => match v with
  | .bl c => if c = true then .ok (.bl true) L1 else b σ L1
  | _ => .no
def eNot (a : ME) : ME := fun σ L => (a σ L).bind fun v L1 => match truL σ L1 v with
  | some b => .ok (.bl (!b)) L1
  | none => .no
theorem je_one {op} {a : Expr} {pos : Pos} {m : ME} (h : JE X W a m) : JE X W (.BoolOp op [a] pos) m := let ⟨_, p, s⟩ := h; ⟨_, pe_one p, s⟩
theorem je_and {a b : Expr} {rest : List Expr} {pos : Pos} {m n : ME} (h : JE X W a m) (h' : JE X W (.BoolOp .And (b :: rest) pos) n) : JE X W (.BoolOp .And (a :: b :: rest) pos) (eAnd m n) := by
  obtain ⟨t, p, s⟩ := h
  obtain ⟨t', p', s'⟩ := h'
  refine ⟨_, pe_and p p', ?_⟩
  intro G F ι L H σl σ Q rp vr q
  refine s _ _ _ _ _ _ _ _ rp vr ((Pst.bind q).imp fun v F1 ι1 L1 H1 x1 rp1 q1 u ru => ?_)
  split at q1
  · rename_i c
    cases ru with
    | r0 ru =>
      cases ru
      refine ⟨c, rfl, ?_⟩
      cases c with
      | true => exact s' _ _ _ _ _ _ _ _ rp1 (vr.mono x1) q1
      | false => exact q1.ok rp1 _ (.r0 .bl)
  · exact q1.elim
theorem je_or {a b : Expr} {rest : List Expr} {pos : Pos} {m n : ME} (h : JE X W a m) (h' : JE X W (.BoolOp .Or (b :: rest) pos) n) : JE X W (.BoolOp .Or (a :: b :: rest) pos) (eOr m n) := by
  obtain ⟨t, p, s⟩ := h
  obtain ⟨t', p', s'⟩ := h'
  refine ⟨_, pe_or p p', ?_⟩
  intro G F ι L H σl σ Q rp vr q
  refine s _ _ _ _ _ _ _ _ rp vr ((Pst.bind q).imp fun v F1 ι1 L1 H1 x1 rp1 q1 u ru => ?_)
  split at q1
  · rename_i c
    cases ru with
    | r0 ru =>
      cases ru
      refine ⟨c, rfl, ?_⟩
      cases c with
      | false => exact s' _ _ _ _ _ _ _ _ rp1 (vr.mono x1) q1
      | true => exact q1.ok rp1 _ (.r0 .bl)
  · exact q1.elim
theorem je_not {a : Expr} {pos : Pos} {m : ME} (h : JE X W a m) : JE X W (.UnaryOp .Not a pos) (eNot m) := by
  obtain ⟨t, p, s⟩ := h
  refine ⟨_, pe_notT p, ?_⟩
  intro G F ι L H σl σ Q rp vr q
  refine s _ _ _ _ _ _ _ _ rp vr ((Pst.bind q).imp fun v F1 ι1 L1 H1 x1 rp1 q1 u ru => ?_)
  split at q1
  · rename_i b e
    exact ⟨b, truL_ok rp1 (vr.mono x1) ru e, q1.ok rp1 _ (.r0 .bl)⟩
  · exact q1.elim
def eIf (t : MT) (a b : ME) : ME := fun σ L => (t σ L).bind fun c L1 => if c = true then a σ L1 else b σ L1
theorem je_if {c a b : Expr} {pos : Pos} {t : MT} {m n : ME} (hc : JT X W c t) (ha : JE X W a m) (hb : JE X W b n) : JE X W (.IfExp c a b pos) (eIf t m n) := by
  obtain ⟨tc, p, s⟩ := hc
  obtain ⟨ta, p1, s1⟩ := ha
  obtain ⟨tb, p2, s2⟩ := hb
  refine ⟨_, pe_ifExp p p1 p2, ?_⟩
  intro G F ι L H σl σ Q rp vr q
  refine s _ _ _ _ _ _ _ _ rp vr ((Pst.bind q).imp fun c F1 ι1 L1 H1 x1 rp1 q1 => ?_)
  cases c with
  | true => exact s1 _ _ _ _ _ _ _ _ rp1 (vr.mono x1) q1
  | false => exact s2 _ _ _ _ _ _ _ _ rp1 (vr.mono x1) q1
/-- a op b op c -/
def eChain (f g : LV → LV → SL → LH → O LV) (a b c : ME) : ME := fun σ L => (a σ L).bind fun x L1 => (b σ L1).bind fun y L2 => (f x y σ L2).bind fun z L3 => match z with
  | .bl k => if k = true then (c σ L3).bind fun w L4 => g y w σ L4 else .ok (.bl false) L3
  | _ => .no
theorem sim_chain {r r' : R2} {f g : LV → LV → SL → LH → O LV} {ta tb tc : TE} {a b c : ME} (hf : Op2 K mg r f) (hg : Op2 K mg r' g) (ha : SimE K mg W ta a) (hb : SimE K mg W tb b) (hc : SimE K mg W tc c) : SimE K mg W (tChain r r' ta tb tc) (eChain f g a b c) := by
  intro G F ι L H σl σ Q rp vr q
  refine ha _ _ _ _ _ _ _ _ rp vr ((Pst.bind q).imp fun x F1 ι1 L1 H1 x1 rp1 q1 u ru => ?_)
  refine hb _ _ _ _ _ _ _ _ rp1 (vr.mono x1) ((Pst.bind q1).imp fun y F2 ι2 L2 H2 x2 rp2 q2 w rw => ?_)
  refine hf _ _ _ _ _ _ _ _ _ _ _ _ _ rp2 (vr.mono (x1.trans x2)) (ru.mono x2) rw ((Pst.bind q2).imp fun z F3 ι3 L3 H3 x3 rp3 q3 zz rz => ?_)
  split at q3
  · rename_i k
    cases rz with
    | r0 rz =>
      cases rz
      refine ⟨k, rfl, ?_⟩
      cases k with
      | false => exact q3.ok rp3 _ (.r0 .bl)
      | true =>
        refine hc _ _ _ _ _ _ _ _ rp3 (vr.mono ((x1.trans x2).trans x3)) ((Pst.bind q3).imp fun y F4 ι4 L4 H4 x4 rp4 q4 w4 rw4 => ?_)
        exact hg _ _ _ _ _ _ _ _ _ _ _ _ _ rp4 (vr.mono (((x1.trans x2).trans x3).trans x4)) ((rw.mono x3).mono x4) rw4 q4
  · exact q3.elim
theorem je_chain {op op' : CmpOp} {r r' : R2} {f g : LV → LV → SL → LH → O LV} {a b c : Expr} {pos : Pos} {ma mb mc : ME} (ho : OpR X (compareOp op) r) (hf : Op2 X.K X.mg r f) (ho' : OpR X (compareOp op') r') (hg : Op2 X.K X.mg r' g) (ha : JE X W a ma) (hb : JE X W b mb) (hc : JE X W c mc)
    (hm : lastMarks [op, op'] [b, c] = false := by with_unfolding_all rfl) : JE X W (.Compare a [op, op'] [b, c] pos) (eChain f g ma mb mc) :=
  let ⟨_, pa, sa⟩ := ha; let ⟨_, pb, sb⟩ := hb; let ⟨_, pc, sc⟩ := hc; ⟨_, pe_chain ho ho' pa pb pc hm, sim_chain hf hg sa sb sc⟩
theorem jt_chain {op op' : CmpOp} {r r' : R2} {f g : LV → LV → SL → LH → O LV} {a b c : Expr} {pos : Pos} {ma mb mc : ME} (ho : OpR X (compareOp op) r) (hf : Op2 X.K X.mg r f) (ho' : OpR X (compareOp op') r') (hg : Op2 X.K X.mg r' g) (ha : JE X W a ma) (hb : JE X W b mb) (hc : JE X W c mc)
    (hm : lastMarks [op, op'] [b, c] = false := by with_unfolding_all rfl) : JT X W (.Compare a [op, op'] [b, c] pos) (tOf (eChain f g ma mb mc)) :=
  let ⟨_, pa, sa⟩ := ha; let ⟨_, pb, sb⟩ := hb; let ⟨_, pc, sc⟩ := hc; ⟨_, pt_chain ho ho' pa pb pc hm, sim_test (sim_chain hf hg sa sb sc)⟩

/-! ### calls -/
/-- a call by values -/
def OpA (K : PySem.W.Frag) (mg : Str → Option Value) (r : List V → Hp → VK → Prop) (f : List LV → SL → LH → O LV) : Prop := ∀ (W : XK) (G F : Hp) (ι : List Addr) (L : LH) (H : Hp) (σl : SL) (σ : St) (Q : VK) (xs : List LV) (us : List V), Rep K mg G F ι L H → VR K mg G F ι σl σ → RVs K mg σ F ι xs us →
  Pst K mg G F ι (f xs σl L) (fun v F' ι' L' H' => ∀ u, RV K mg σ F' ι' v u → Q u H') W → r us H Q
theorem sim_cb {r : List V → Hp → VK → Prop} {f : List LV → SL → LH → O LV} {t : TA} {m : MA} (hr : OpA K mg r f) (ha : SimA K mg W t m) : SimE K mg W (tCB r t) (eA f m) := by
  intro G F ι L H σl σ Q rp vr q
  refine ha _ _ _ _ _ _ _ _ rp vr ((Pst.bind q).imp fun x F1 ι1 L1 H1 x1 rp1 q1 us ru => ?_)
  exact hr _ _ _ _ _ _ _ _ _ _ _ rp1 (vr.mono x1) ru q1
theorem je_callB {x : Str} {id : String} {p pos : Pos} {e : Expr} {es : List Expr} {r : List V → Hp → VK → Prop} {f : List LV → SL → LH → O LV} {m : MA} (hc : CallR X (.builtin id) r) (hr : OpA X.K X.mg r f) (hg : Gl X x) (hm : X.mg x = none) (hv : bootBuiltins x = some (.builtin id)) (ha : JA X W (e :: es) m) (hn : x ≠ "__name__" := by decide) (hdb : (x == ("__debug__" : Str)) = false := by decide)
    (he : starEach (e :: es) X.env = (false, eval e X.env) :: starEach es X.env := by rfl) (hpl : (backTo pos (starEach es X.env)).any (·.1) = false := by rfl) : JE X W (.Call (.Name x p) (e :: es) [] pos) (eA f m) :=
  let ⟨_, pa, sa⟩ := ha; ⟨_, pe_callB hc hg hm hv pa hn hdb he hpl, sim_cb hr sa⟩
theorem je_callTy {x : Str} {T : String} {p pos : Pos} {e : Expr} {es : List Expr} {r : List V → Hp → VK → Prop} {f : List LV → SL → LH → O LV} {m : MA} (hc : CallR X (.type T) r) (hr : OpA X.K X.mg r f) (hg : Gl X x) (hm : X.mg x = none) (hv : bootBuiltins x = some (.type T)) (ha : JA X W (e :: es) m) (hn : x ≠ "__name__" := by decide) (hdb : (x == ("__debug__" : Str)) = false := by decide)
    (he : starEach (e :: es) X.env = (false, eval e X.env) :: starEach es X.env := by rfl) (hpl : (backTo pos (starEach es X.env)).any (·.1) = false := by rfl) : JE X W (.Call (.Name x p) (e :: es) [] pos) (eA f m) :=
  let ⟨_, pa, sa⟩ := ha; ⟨_, pe_callTy hc hg hm hv pa hn hdb he hpl, sim_cb hr sa⟩
def fLen : List LV → SL → LH → O LV := fun xs σ L => match xs with
  | [.str z] => if z.length ≤ sizeLine then .ok (.int z.length) L else .no
  | [.tup vs] => .ok (.int vs.length) L
  | [x] => match seqL σ L x with
    | some vs => .ok (.int vs.length) L
    | none => .no
  | _ => .no
def rLen (K : PySem.W.Frag) : List V → Hp → VK → Prop := fun xs H Q => ∃ x n, xs = [x] ∧ LenV K x H n ∧ Q (.int n) H
theorem opA_len : OpA K mg (rLen K) fLen := by
  intro W G F ι L H σl σ Q xs us rp vr rv q
  unfold fLen at q
  split at q
  · rename_i z
    split at q
    · rename_i hz
      cases rv with
      | cons h t =>
        cases t
        cases h with
        | r0 h => cases h; exact ⟨_, z.length, rfl, ⟨hz, rfl⟩, q.ok rp _ (.r0 .int)⟩
    · exact q.elim
  · cases rv with
    | cons h t =>
      cases t
      cases h with
      | r0 h =>
        cases h with
        | tup h1 h2 => exact ⟨_, _, rfl, .inr ⟨_, rp.f.sqT h1, rfl⟩, by rw [← h2.length]; exact q.ok rp _ (.r0 .int)⟩
  · split at q
    · rename_i vs e
      cases rv with
      | cons h t =>
        cases t
        obtain ⟨a, ws, rfl, h1, h2⟩ := seqL_ok rp vr h e
        exact ⟨_, _, rfl, .inl ⟨_, h1, rfl⟩, by rw [← h2.length]; exact q.ok rp _ (.r0 .int)⟩
    · exact q.elim
  · exact q.elim
/-- max, min of two ints -/
def fMax2 : List LV → SL → LH → O LV := fun xs _ L => match xs with
  | [.int i, .int j] => .ok (.int (if j > i then j else i)) L
  | _ => .no
def fMin2 : List LV → SL → LH → O LV := fun xs _ L => match xs with
  | [.int i, .int j] => .ok (.int (if j < i then j else i)) L
  | _ => .no
theorem rv_ints {i j : Int} {us : List V} (h : RVs K mg σ F ι [.int i, .int j] us) : us = [.int i, .int j] := by
  cases h with
  | cons h t =>
    cases t with
    | cons h' t =>
      cases t
      cases h with
      | r0 h =>
        cases h
        cases h' with
        | r0 h' => cases h'; rfl
theorem opA_max2 : OpA K mg (fun xs H Q => ∃ i j, xs = [.int i, .int j] ∧ Q (.int (if j > i then j else i)) H) fMax2 := by
  intro W G F ι L H σl σ Q xs us rp vr rv q
  unfold fMax2 at q
  split at q
  · exact ⟨_, _, rv_ints rv, q.ok rp _ (.r0 .int)⟩
  · exact q.elim
theorem opA_min2 : OpA K mg (fun xs H Q => ∃ i j, xs = [.int i, .int j] ∧ Q (.int (if j < i then j else i)) H) fMin2 := by
  intro W G F ι L H σl σ Q xs us rp vr rv q
  unfold fMin2 at q
  split at q
  · exact ⟨_, _, rv_ints rv, q.ok rp _ (.r0 .int)⟩
  · exact q.elim
/-- int(..) of an int, a bool -/
def fInt : List LV → SL → LH → O LV := fun xs _ L => match xs with
  | [.int i] => .ok (.int i) L
  | [.bl k] => .ok (.int (if k then 1 else 0)) L
  | _ => .no
theorem opA_int : OpA K mg (fun xs H Q => (∃ i, xs = [.int i] ∧ Q (.int i) H) ∨ ∃ k, xs = [.bl k] ∧ Q (.int (if k then 1 else 0)) H) fInt := by
  intro W G F ι L H σl σ Q xs us rp vr rv q
  unfold fInt at q
  split at q
  · cases rv with
    | cons h t =>
      cases t
      cases h with
      | r0 h => cases h; exact .inl ⟨_, rfl, q.ok rp _ (.r0 .int)⟩
  · cases rv with
    | cons h t =>
      cases t
      cases h with
      | r0 h => cases h; exact .inr ⟨_, rfl, q.ok rp _ (.r0 .int)⟩
  · exact q.elim
/-! isinstance -/
/-- what kind a value is: a built-in type, or an own class by its name -/
inductive TyK where
  | b (n : String) | c (n : Str)
def tyOf (L : LH) : LV → Option TyK
  | .non => some (.b "NoneType")
  | .bl _ => some (.b "bool")
  | .int _ => some (.b "int")
  | .str _ => some (.b "str")
  | .tup _ => some (.b "tuple")
  | .lst _ => some (.b "list")
  | .loc _ => some (.b "list")
  | .ins c _ _ => some (.c c)
  | .ref n => match L[n]? with
    | some (.lst _) => some (.b "list")
    | some (.dic _ _) => some (.b "dict")
    | some (.ins c _ _) => some (.c c)
    | none => none
  | _ => none
/-- what an own class must have to be asked for -/
structure ClsI (K : PySem.W.Frag) (C : Addr) : Prop where
  cl : Cls K C
  ha : PySem.W.findIn K (.ref C) "__class__" = some (some (.builtin "object.__class__"))
  hn : PySem.W.specialIn K (.builtin "object.__class__") "__get__" = some (some (.builtin "getset_descriptor.__get__"))
  htk : PySem.W.takesIn K (.builtin "object.__class__") = some true
  hm : PySem.W.mroIn K C (.type "object") = some true
/-- isinstance(.., T): u is T's value, f the answers -/
structure IsI (K : PySem.W.Frag) (mg : Str → Option Value) (u : Value) (f : TyK → Option Bool) : Prop where
  b : ∀ n b, f (.b n) = some b → PySem.W.kitOne K (.type n) u = some b
  c : ∀ n b, f (.c n) = some b → ∀ C, mg n = some (.ref C) → ClsI K C ∧ PySem.W.kitOne K (.ref C) u = some b
def isB (T : String) : TyK → Option Bool
  | .b n => kitB n T
  | .c _ => none
theorem isI_ty {T : String} : IsI K mg (.type T) (isB T) := ⟨fun n b h => kit_ty h, fun n b h => nomatch h⟩
def locOk (σ : SL) : LV → Bool
  | .loc i => match σ[i]? with
    | some (.own (.lst _)) => true
    | _ => false
  | _ => true
theorem locOk_ok {x : LV} (h : locOk σl x = true) : ∀ i, x = .loc i → ∃ vs, σl[i]? = some (.own (.lst vs)) := by
  rintro i rfl
  unfold locOk at h
  simp only at h
  split at h
  · exact ⟨_, by assumption⟩
  · cases h
def fIs (f : TyK → Option Bool) : LV → SL → LH → O LV := fun x σ L => if locOk σ x = true then (match tyOf L x with
  | some k => match f k with
    | some b => .ok (.bl b) L
    | none => .no
  | none => .no) else .no
theorem tyOf_b {n : String} {v : LV} {u : V} (r : Rep K mg G F ι L H) (vr : VR K mg G F ι σl σ) (hl : ∀ i, v = .loc i → ∃ vs, σl[i]? = some (.own (.lst vs))) (hv : RV K mg σ F ι v u) (h : tyOf L v = some (.b n)) : TyX K H u (.type n) := by
  unfold tyOf at h
  split at h
  · cases h; cases hv with | r0 hv => cases hv; exact .base .non
  · cases h; cases hv with | r0 hv => cases hv; exact .base (.bl _)
  · cases h; cases hv with | r0 hv => cases hv; exact .base (.int _)
  · cases h; cases hv with | r0 hv => cases hv; exact .base (.str _)
  · cases h
    cases hv with
    | r0 hv =>
      cases hv with
      | tup h1 h2 =>
        rcases h1 with (h1 | ⟨o, h1⟩) | ⟨o, its, n, h1, h3, h4⟩
        · exact .base (.tup (r.f _ _ h1))
        · exact .fTuple (r.f _ _ h1)
        · exact .kTuple h1 h3
  · cases h; cases hv with | r0 hv => cases hv with | lst h1 h2 => exact .base (.lst (r.f _ _ h1))
  · cases h
    obtain ⟨vs, e⟩ := hl _ rfl
    obtain ⟨a, h1, h2⟩ := vr.own _ _ e
    cases hv with
    | r0 hv => cases hv
    | loc q => rw [q] at h1; cases h1; cases h2 with | lst h2 h3 => exact .base (.lst (r.g _ _ h2))
  · cases h
  · split at h
    · rename_i e
      cases h
      cases hv with
      | r0 hv =>
        cases hv with
        | ref h1 => cases r.obj _ _ _ h1 e with | lst z1 z2 => exact .base (.lst z1)
    · rename_i e
      cases h
      cases hv with
      | r0 hv =>
        cases hv with
        | ref h1 => cases r.obj _ _ _ h1 e with | dic z1 z2 z3 => exact .base (.dK z1)
    · cases h
    · cases h
  · cases h
theorem tyOf_c {n : Str} {v : LV} {u : V} (r : Rep K mg G F ι L H) (hv : RV K mg σ F ι v u) (h : tyOf L v = some (.c n)) : ∃ C, mg n = some (.ref C) ∧ (ClsI K C → TyX K H u (.ref C)) := by
  unfold tyOf at h
  split at h
  · cases h
  · cases h
  · cases h
  · cases h
  · cases h
  · cases h
  · cases h
  · cases h
    cases hv with
    | r0 hv =>
      cases hv with
      | ins h1 h2 h3 h4 => exact ⟨_, h1, fun c => .base (.ins (r.f _ _ h2) c.cl c.ha c.hn c.htk c.hm)⟩
  · split at h
    · cases h
    · cases h
    · rename_i e
      cases h
      cases hv with
      | r0 hv =>
        cases hv with
        | ref h1 => cases r.obj _ _ _ h1 e with | ins z1 z2 z3 z4 => exact ⟨_, z1, fun c => .base (.ins z2 c.cl c.ha c.hn c.htk c.hm)⟩
    · cases h
  · cases h

/-- isinstance(e, T), T a class by its name -/
theorem sim_isi {ta : TE} {m : ME} {c : V} {u : Value} {f : TyK → Option Bool} (ha : SimE K mg W ta m) (hc : ClsV c u) (hf : IsI K mg u f) : SimE K mg W (tCB (rIsi K) (tCons ta (tCons (tC c) tNil))) (e1 (fIs f) m) := by
  intro G F ι L H σl σ Q rp vr q
  refine ha _ _ _ _ _ _ _ _ rp vr ((Pst.bind q).imp fun x F1 ι1 L1 H1 x1 rp1 q1 w rw => ?_)
  show rIsi K [w, c] H1 Q
  unfold fIs at q1
  split at q1
  · rename_i hl
    split at q1
    · rename_i k ek
      split at q1
      · rename_i b eb
        cases k with
        | b n => exact ⟨w, c, _, u, b, rfl, hc, tyOf_b rp1 (vr.mono x1) (locOk_ok hl) rw ek, hf.b n b eb, q1.ok rp1 _ (.r0 .bl)⟩
        | c n =>
          obtain ⟨C, e1, e2⟩ := tyOf_c rp1 rw ek
          obtain ⟨z1, z2⟩ := hf.c n b eb C e1
          exact ⟨w, c, _, u, b, rfl, hc, e2 z1, z2, q1.ok rp1 _ (.r0 .bl)⟩
      · exact q1.elim
    · exact q1.elim
  · exact q1.elim
theorem je_isiT {T : Str} {tn : String} {p pos pt : Pos} {e : Expr} {m : ME} (ha : JE X W e m) (hgi : Gl X "isinstance") (hmi : X.mg "isinstance" = none) (hg : Gl X T) (hm : X.mg T = none) (hv : bootBuiltins T = some (.type tn)) (hn : T ≠ "__name__" := by decide) (hd : (T == ("__debug__" : Str)) = false := by decide)
    (he : starEach (e :: [.Name T pt]) X.env = (false, eval e X.env) :: starEach [.Name T pt] X.env := by rfl) (hpl : (backTo pos (starEach [.Name T pt] X.env)).any (·.1) = false := by rfl) (he2 : starEach [.Name T pt] X.env = (false, eval (.Name T pt) X.env) :: starEach [] X.env := by rfl) :
    JE X W (.Call (.Name "isinstance" p) (e :: [.Name T pt]) [] pos) (e1 (fIs (isB tn)) m) :=
  let ⟨_, pa, sa⟩ := ha; ⟨_, pe_callB call_isi hgi hmi (by decide +kernel) (pa_cons pa (pa_cons (pe_bltn (v := .ty tn) hg hm hv rfl hn hd) pa_nil he2) he) (he := he) (hpl := hpl), sim_isi sa (.ty tn) isI_ty⟩
theorem je_isiC {T : Str} {C : Addr} {f : TyK → Option Bool} {p pos pt : Pos} {e : Expr} {m : ME} (ha : JE X W e m) (hgi : Gl X "isinstance") (hmi : X.mg "isinstance" = none) (hg : Gl X T) (hm : X.mg T = some (.ref C)) (hf : IsI X.K X.mg (.ref C) f) (hd : (T == ("__debug__" : Str)) = false := by decide)
    (he : starEach (e :: [.Name T pt]) X.env = (false, eval e X.env) :: starEach [.Name T pt] X.env := by rfl) (hpl : (backTo pos (starEach [.Name T pt] X.env)).any (·.1) = false := by rfl) (he2 : starEach [.Name T pt] X.env = (false, eval (.Name T pt) X.env) :: starEach [] X.env := by rfl) :
    JE X W (.Call (.Name "isinstance" p) (e :: [.Name T pt]) [] pos) (e1 (fIs f) m) :=
  let ⟨_, pa, sa⟩ := ha; ⟨_, pe_callB call_isi hgi hmi (by decide +kernel) (pa_cons pa (pa_cons (pe_glob (v := .ref C) hg hm rfl hd) pa_nil he2) he) (he := he) (hpl := hpl), sim_isi sa (.own C) hf⟩
end
end Z
namespace Z
open PySem PySem.Spec L2
section
variable {X : Cx} {W : WX} {K : PySem.W.Frag} {mg : Str → Option Value} {G F H : Hp} {ι : List Addr} {L : LH} {σ : St} {σl : SL}

/-! ### defs called -/
def eCall (n : Nat) (f : List LV → LH → O LV) (m : MA) : ME := fun σ L => (m σ L).bind fun vs L1 => if (vs.all clean && decide (vs.length = n)) = true then f vs L1 else .no
theorem sim_call {n : Nat} {f : List LV → LH → O LV} {t : TA} {m : MA} (ha : SimA K mg W t m) : SimE K mg W (tCallS (spM K mg n f) (WE W) t) (eCall n f m) := by
  intro G F ι L H σl σ Q rp vr q
  refine ha _ _ _ _ _ _ _ _ rp vr ((Pst.bind q).imp fun vs F1 ι1 L1 H1 x1 rp1 q1 us ru => ?_)
  split at q1
  · rename_i hc
    rw [Bool.and_eq_true] at hc
    exact ⟨G, F1, ι1, L1, vs, of_decide_eq_true hc.2, rp1, RVs.clean ru hc.1, q1.imp fun v F2 ι2 L2 H2 x2 rp2 q2 u ru => q2 u (.r0 ru)⟩
  · exact q1.elim
/-- a def of the text that keeps its mirror -/
abbrev DefOk (P : Program) (w : World) (K : PySem.W.Frag) (mg : Str → Option Value) (base : Heap) (k : Nat) (f : Addr) (fd : FuncData) (ps : List Str) (m : List LV → LH → O LV) : Prop := FnOk P w K mg base (L2.CX P w) k f fd ps (spM K mg ps.length m)
theorem je_call {k n : Nat} {f : Addr} {fd : FuncData} {ps : List Str} {g : List LV → LH → O LV} {x : Str} {p pos : Pos} {e : Expr} {es : List Expr} {m : MA} (tk : Takes X W) (D : DefOk X.prog X.w X.K X.mg X.base k f fd ps g) (hr : Room k X.A) (hm : X.mg x = some (.ref f)) (hk : PySem.W.keepIn X.K (.ref f) = true) (hb : Binds X.K fd ps [])
    (ha : JA X W (e :: es) m) (hg : Gl X x := by rfl) (hdb : (x == ("__debug__" : Str)) = false := by decide) (he : starEach (e :: es) X.env = (false, eval e X.env) :: starEach es X.env := by rfl) (hpl : (backTo pos (starEach es X.env)).any (·.1) = false := by rfl) (hn : ps.length = n := by rfl) :
    JE X W (.Call (.Name x p) (e :: es) [] pos) (eCall n g m) := by
  subst hn
  obtain ⟨_, pa, sa⟩ := ha
  exact ⟨_, pe_callS D hr hg hm hk hb (fun σ => passAt tk σ) pa hdb he hpl, sim_call sa⟩
/-- .. without arguments -/
theorem pe_callS0 {CX : CXT} {k : Nat} {f : Addr} {fd : FuncData} {ps : List Str} {sp : Sp} {E : L2.St → XK} {x : Str} {p pos : Pos} (D : FnOk X.prog X.w X.K X.mg X.base CX k f fd ps sp) (hr : Room k X.A) (hg : Gl X x) (hm : X.mg x = some (.ref f)) (hk : PySem.W.keepIn X.K (.ref f) = true) (hb : Binds X.K fd ps []) (hx : ∀ σ, PassesAt CX X σ (E σ))
    (hdb : (x == ("__debug__" : Str)) = false := by decide) : PE X (.Call (.Name x p) [] [] pos) (tCallS sp E tNil) :=
  ⟨fun pins s σ H Q I h => wpAny_Call_Name_kw (ld_glob I hg hm (PySem.W.callWith_K0 I.kIn hk (run_fnS (us := []) D hr hb (hx σ) I .nil h)) hdb)⟩
theorem je_call0 {k n : Nat} {f : Addr} {fd : FuncData} {ps : List Str} {g : List LV → LH → O LV} {x : Str} {p pos : Pos} (tk : Takes X W) (D : DefOk X.prog X.w X.K X.mg X.base k f fd ps g) (hr : Room k X.A) (hm : X.mg x = some (.ref f)) (hk : PySem.W.keepIn X.K (.ref f) = true) (hb : Binds X.K fd ps [])
    (hg : Gl X x := by rfl) (hdb : (x == ("__debug__" : Str)) = false := by decide) (hn : ps.length = n := by rfl) : JE X W (.Call (.Name x p) [] [] pos) (eCall n g aNil) :=
  hn ▸ ⟨_, pe_callS0 D hr hg hm hk hb (fun σ => passAt tk σ) hdb, sim_call sim_anil⟩

/-! ### statements -/
def sNil : MS := fun σ L => .nx σ L
def sSeq (a b : MS) : MS := fun σ L => match a σ L with
  | .nx σ1 L1 => b σ1 L1
  | o => o
theorem sim_nil : SimS K mg W tNext sNil := fun G F ι L σl σ H D s q => q F ι H σ (Ext.refl _ _) s
theorem sim_seq {t u : TS} {a b : MS} (ha : SimS K mg W t a) (hb : SimS K mg W u b) : SimS K mg W (tSeq t u) (sSeq a b) := by
  intro G F ι L σl σ H D s q
  refine ha G F ι L σl σ H { D with nx := u D } s ?_
  unfold sSeq at q
  cases e : a σl L with
  | nx σ1 L1 =>
    rw [e] at q
    exact fun F1 ι1 H1 σ2 x1 s1 => hb G F1 ι1 L1 σ1 σ2 H1 D s1 (q.ext x1)
  | rt v L1 => rw [e] at q; exact q
  | bk s L1 => rw [e] at q; exact q
  | ct s L1 => rw [e] at q; exact q
  | er c ns vs s L1 => rw [e] at q; exact q
  | no => rw [e] at q; exact q
theorem js_nil : JSs X W [] sNil := ⟨_, pss_nil, sim_nil⟩
theorem js_cons {st : Stmt} {r : List Stmt} {a b : MS} (h : JS X W st a) (h' : JSs X W r b) : JSs X W (st :: r) (sSeq a b) := let ⟨_, p, s⟩ := h; let ⟨_, p', s'⟩ := h'; ⟨_, pss_cons p p', sim_seq s s'⟩
theorem js_one {st : Stmt} {a : MS} (h : JS X W st a) : JSs X W [st] a := let ⟨_, p, s⟩ := h; ⟨_, pss_one p, s⟩
theorem js_pass {pos : Pos} : JS X W (.Pass pos) sNil := ⟨_, ps_pass, sim_nil⟩
theorem js_doc {x j pos pos'} : JS X W (.Expr (.Constant (.str x) j pos) pos') sNil := ⟨_, ps_doc, sim_nil⟩
def sBk : MS := fun σ L => .bk σ L
def sCt : MS := fun σ L => .ct σ L
theorem js_break {pos : Pos} : JS X W (.Break pos) sBk := ⟨_, ps_break, fun G F ι L σl σ H D s q => q F ι H σ (Ext.refl _ _) s⟩
theorem js_continue {pos : Pos} : JS X W (.Continue pos) sCt := ⟨_, ps_continue, fun G F ι L σl σ H D s q => q F ι H σ (Ext.refl _ _) s⟩
/-- the slot i holds v from now on -/
theorem SR.set {GO : Hp} {v : LV} {u : V} {i : Nat} (s : SR K mg GO G F ι L σl σ H) (h : R0 K mg F ι v u) : SR K mg GO G F ι L (σl.set i (.val v)) (σ.set i (some u)) H := by
  have keep : ∀ (j : Nat) (x : Sl), (σl.set i (.val v))[j]? = some x → (j = i ∧ x = .val v ∧ j < σl.length) ∨ (j ≠ i ∧ σl[j]? = some x) := fun j x e => by
    by_cases hj : j = i
    · subst hj
      have hl : j < σl.length := by
        have := (List.getElem?_eq_some_iff.mp e).1
        simpa using this
      rw [List.getElem?_set_self hl] at e
      exact .inl ⟨rfl, (Option.some.inj e).symm, hl⟩
    · rw [List.getElem?_set_ne (Ne.symm hj)] at e
      exact .inr ⟨hj, e⟩
  refine ⟨s.sub, s.rep, ⟨by rw [List.length_set, List.length_set]; exact s.vr.len, fun j w e => ?_, fun j ws e => ?_⟩, fun j ws a e1 e2 => ?_, fun j k ws xs a e1 e2 e3 e4 => ?_⟩
  · rcases keep j _ e with ⟨rfl, e1, hl⟩ | ⟨hj, e1⟩
    · cases e1
      exact ⟨u, List.getElem?_set_self (by rw [← s.vr.len]; exact hl), h⟩
    · rw [List.getElem?_set_ne (Ne.symm hj)]
      exact s.vr.val j w e1
  · rcases keep j _ e with ⟨rfl, e1, hl⟩ | ⟨hj, e1⟩
    · cases e1
    · rw [List.getElem?_set_ne (Ne.symm hj)]
      exact s.vr.own j ws e1
  · rcases keep j _ e1 with ⟨rfl, z, hl⟩ | ⟨hj, z⟩
    · cases z
    · rw [List.getElem?_set_ne (Ne.symm hj)] at e2
      exact s.fr j ws a z e2
  · rcases keep j _ e1 with ⟨rfl, z, hl⟩ | ⟨hj, z⟩
    · cases z
    · rcases keep k _ e2 with ⟨rfl, z', hl⟩ | ⟨hk, z'⟩
      · cases z'
      · rw [List.getElem?_set_ne (Ne.symm hj)] at e3
        rw [List.getElem?_set_ne (Ne.symm hk)] at e4
        exact s.dis j k ws xs a z z' e3 e4
/-- .. or an object of its own, at p -/
theorem SR.setOwn {GO : Hp} {o : LO} {w : HO} {p : Addr} {i : Nat} (s : SR K mg GO G F ι L σl σ H) (hp : H p = some w) (h1 : GO p = none) (h2 : F p = none) (h3 : ∀ n : Nat, ι[n]? ≠ some p) (h : RO K mg F ι (upd GO p w) p o) :
    SR K mg (upd GO p w) G F ι L (σl.set i (.own o)) (σ.set i (some (.ref p))) H := by
  have keep : ∀ (j : Nat) (x : Sl), (σl.set i (.own o))[j]? = some x → (j = i ∧ x = .own o ∧ j < σl.length) ∨ (j ≠ i ∧ σl[j]? = some x) := fun j x e => by
    by_cases hj : j = i
    · subst hj
      have hl : j < σl.length := by
        have := (List.getElem?_eq_some_iff.mp e).1
        simpa using this
      rw [List.getElem?_set_self hl] at e
      exact .inl ⟨rfl, (Option.some.inj e).symm, hl⟩
    · rw [List.getElem?_set_ne (Ne.symm hj)] at e
      exact .inr ⟨hj, e⟩
  have gp : G p = none := by
    cases e : G p with
    | none => rfl
    | some o => rw [s.sub p o e] at h1; cases h1
  have old : ∀ (j : Nat) (ws : LO), σl[j]? = some (.own ws) → σ[j]? ≠ some (some (.ref p)) := fun j ws e q => by
    obtain ⟨a, z1, z2⟩ := s.vr.own j ws e
    rw [q] at z1
    cases z1
    obtain ⟨u, z3⟩ := z2.there
    rw [h1] at z3
    cases z3
  have neG : ∀ a o, GO a = some o → a ≠ p := fun a o e z => by rw [z, h1] at e; cases e
  refine ⟨fun a o e => by rw [upd_ne (neG a o (s.sub a o e))]; exact s.sub a o e, ⟨s.rep.f, fun a o e => ?_, fun a o e => ?_, s.rep.len, s.rep.inj, fun n a e => ⟨(s.rep.nf n a e).1, ?_⟩, s.rep.obj⟩,
    ⟨by rw [List.length_set, List.length_set]; exact s.vr.len, fun j w e => ?_, fun j ws e => ?_⟩, fun j ws a e1 e2 => ?_, fun j k ws xs a e1 e2 e3 e4 => ?_⟩
  · by_cases z : a = p
    · rw [z, upd_same] at e; cases e; rw [z]; exact hp
    · rw [upd_ne z] at e; exact s.rep.g a o e
  · by_cases z : a = p
    · rw [z]; exact h2
    · rw [upd_ne z] at e; exact s.rep.gf a o e
  · rw [upd_ne (fun z => h3 n (by rw [← z]; exact e))]
    exact (s.rep.nf n a e).2
  · rcases keep j _ e with ⟨rfl, e1, hl⟩ | ⟨hj, e1⟩
    · cases e1
    · rw [List.getElem?_set_ne (Ne.symm hj)]
      exact s.vr.val j w e1
  · rcases keep j _ e with ⟨rfl, e1, hl⟩ | ⟨hj, e1⟩
    · cases e1
      exact ⟨p, List.getElem?_set_self (by rw [← s.vr.len]; exact hl), h⟩
    · obtain ⟨a, z1, z2⟩ := s.vr.own j ws e1
      refine ⟨a, by rw [List.getElem?_set_ne (Ne.symm hj)]; exact z1, z2.mono (Ext.refl _ _) fun u z => ?_⟩
      rw [upd_ne (neG a _ z)]
      exact z
  · rcases keep j _ e1 with ⟨rfl, z, hl⟩ | ⟨hj, z⟩
    · rw [List.getElem?_set_self (by rw [← s.vr.len]; exact hl)] at e2
      cases e2
      exact gp
    · rw [List.getElem?_set_ne (Ne.symm hj)] at e2
      exact s.fr j ws a z e2
  · rcases keep j _ e1 with ⟨rfl, z, hl⟩ | ⟨hj, z⟩
    · rcases keep k _ e2 with ⟨rfl, z', hl'⟩ | ⟨hk, z'⟩
      · rfl
      · rw [List.getElem?_set_self (by rw [← s.vr.len]; exact hl)] at e3
        cases e3
        rw [List.getElem?_set_ne (Ne.symm hk)] at e4
        exact absurd e4 (old k xs z')
    · rcases keep k _ e2 with ⟨rfl, z', hl'⟩ | ⟨hk, z'⟩
      · rw [List.getElem?_set_self (by rw [← s.vr.len]; exact hl')] at e4
        cases e4
        rw [List.getElem?_set_ne (Ne.symm hj)] at e3
        exact absurd e3 (old j ws z)
      · rw [List.getElem?_set_ne (Ne.symm hj)] at e3
        rw [List.getElem?_set_ne (Ne.symm hk)] at e4
        exact s.dis j k ws xs a z z' e3 e4
/-- the slot's own object is another one now -/
theorem SR.putOwn {GO : Hp} {o o' : LO} {w : HO} {a : Addr} {i : Nat} (s : SR K mg GO G F ι L σl σ H) (e : σl[i]? = some (.own o)) (ea : σ[i]? = some (some (.ref a))) (h : RO K mg F ι (upd GO a w) a o') :
    SR K mg (upd GO a w) G F ι L (σl.set i (.own o')) σ (upd H a w) := by
  obtain ⟨a', ea', ro⟩ := s.vr.own i o e
  rw [ea] at ea'
  cases ea'
  obtain ⟨u, ga⟩ := ro.there
  have hG : G a = none := s.fr i o a e ea
  have fa : F a = none := s.rep.gf a _ ga
  have na : ∀ n : Nat, ι[n]? ≠ some a := fun n q => by rw [(s.rep.nf n a q).2] at ga; cases ga
  have keep : ∀ (j : Nat) (x : Sl), (σl.set i (.own o'))[j]? = some x → (j = i ∧ x = .own o') ∨ (j ≠ i ∧ σl[j]? = some x) := fun j x e => by
    by_cases hj : j = i
    · subst hj
      have hl : j < σl.length := by
        have := (List.getElem?_eq_some_iff.mp e).1
        simpa using this
      rw [List.getElem?_set_self hl] at e
      exact .inl ⟨rfl, (Option.some.inj e).symm⟩
    · rw [List.getElem?_set_ne (Ne.symm hj)] at e
      exact .inr ⟨hj, e⟩
  refine ⟨fun b q hq => by rw [upd_ne (fun z => by rw [z, hG] at hq; cases hq)]; exact s.sub b q hq, ⟨fun b q hq => ?_, fun b q hq => ?_, fun b q hq => ?_, s.rep.len, s.rep.inj, fun n b q => ⟨(s.rep.nf n b q).1, ?_⟩, fun n b q q1 q2 => (s.rep.obj n b q q1 q2).mono (Ext.refl _ _) fun u hu => ?_⟩,
    ⟨by rw [List.length_set]; exact s.vr.len, fun j v q => ?_, fun j v q => ?_⟩, fun j v b q1 q2 => ?_, fun j k v v' b q1 q2 q3 q4 => ?_⟩
  · rw [upd_ne (fun z => by rw [z, fa] at hq; cases hq)]; exact s.rep.f b q hq
  · by_cases z : b = a
    · rw [z, upd_same] at hq ⊢; exact hq
    · rw [upd_ne z] at hq ⊢; exact s.rep.g b q hq
  · by_cases z : b = a
    · rw [z]; exact fa
    · rw [upd_ne z] at hq; exact s.rep.gf b q hq
  · rw [upd_ne (fun z => na n (by rw [← z]; exact q))]; exact (s.rep.nf n b q).2
  · rw [upd_ne (fun z => na n (by rw [← z]; exact q1))]; exact hu
  · rcases keep j _ q with ⟨rfl, e1⟩ | ⟨hj, e1⟩
    · cases e1
    · exact s.vr.val j v e1
  · rcases keep j _ q with ⟨rfl, e1⟩ | ⟨hj, e1⟩
    · cases e1; exact ⟨a, ea, h⟩
    · obtain ⟨b, z1, z2⟩ := s.vr.own j v e1
      refine ⟨b, z1, z2.mono (Ext.refl _ _) fun u z => ?_⟩
      rw [upd_ne (fun y => hj (s.dis j i v o a e1 e (by rw [← y]; exact z1) ea))]
      exact z
  · rcases keep j _ q1 with ⟨rfl, e1⟩ | ⟨hj, e1⟩
    · exact s.fr j o b e q2
    · exact s.fr j v b e1 q2
  · rcases keep j _ q1 with ⟨rfl, e1⟩ | ⟨hj, e1⟩
    · rcases keep k _ q2 with ⟨rfl, e2⟩ | ⟨hk, e2⟩
      · rfl
      · exact s.dis j k o v' b e e2 q3 q4
    · rcases keep k _ q2 with ⟨rfl, e2⟩ | ⟨hk, e2⟩
      · exact s.dis j k v o b e1 e q3 q4
      · exact s.dis j k v v' b e1 e2 q3 q4
def sSet (i : Nat) (m : ME) : MS := fun σ L => lift (m σ L) σ fun v L1 => if clean v = true then .nx (σ.set i (.val v)) L1 else .no
theorem sim_set {i : Nat} {te : TE} {m : ME} (h : SimE K mg W te m) : SimS K mg W (tAsg te (gName i)) (sSet i m) := by
  intro G F ι L σl σ H D s q
  obtain ⟨GO, s⟩ := s
  refine h _ _ _ _ _ _ _ _ s.rep s.vr ((PstS.lift s q).imp fun v F1 ι1 L1 H1 x1 rp1 q1 u ru => ?_)
  split at q1
  · rename_i hc
    exact q1 F1 ι1 H1 _ (Ext.refl _ _) ⟨GO, (s.ext x1 rp1).set (ru.clean hc)⟩
  · exact q1.elim
theorem js_set (i : Nat) {x : Str} {e : Expr} {m : ME} {pos pos' : Pos} (hN : X.N.Nodup) (h : JE X W e m) (hi : X.N[i]? = some x := by rfl) (hx : Loc X.env.scope x := by first | exact Or.inl rfl | exact Or.inr rfl) (hs : swapsWith e (some (.Name x pos')) pos.line X.env = pure false := by rfl) (hf : X.fn x = true ∨ X.env.scope.names.lookup x = some .local := by first | exact .inl rfl | exact .inr rfl | assumption) :
    JS X W (.Assign [.Name x pos'] e pos) (sSet i m) := let ⟨_, p, s⟩ := h; ⟨_, ps_set hN hi hx p hs hf, sim_set s⟩
/-- a new list into the slot, its own -/
def sOwn (i : Nat) (m : MA) : MS := fun σ L => lift (m σ L) σ fun vs L1 => .nx (σ.set i (.own (.lst vs))) L1
theorem sim_own {i : Nat} {te : TE} {m : MA} (h : SimN K mg W te m) : SimS K mg W (tAsg te (gName i)) (sOwn i m) := by
  intro G F ι L σl σ H D s q
  obtain ⟨GO, s⟩ := s
  refine h _ _ _ _ _ _ _ _ s.rep s.vr ((PstS.lift s q).imp fun vs F1 ι1 L1 H1 x1 rp1 q1 p us e1 e2 e3 e4 e5 => ?_)
  exact q1 F1 ι1 H1 _ (Ext.refl _ _) ⟨_, (s.ext x1 rp1).setOwn e1 e2 e3 e4 (.lst upd_same e5)⟩
theorem js_own (i : Nat) {x : Str} {e : Expr} {m : MA} {pos pos' : Pos} (hN : X.N.Nodup) (h : JN X W e m) (hi : X.N[i]? = some x := by rfl) (hx : Loc X.env.scope x := by first | exact Or.inl rfl | exact Or.inr rfl) (hs : swapsWith e (some (.Name x pos')) pos.line X.env = pure false := by rfl) (hf : X.fn x = true ∨ X.env.scope.names.lookup x = some .local := by first | exact .inl rfl | exact .inr rfl | assumption) :
    JS X W (.Assign [.Name x pos'] e pos) (sOwn i m) := let ⟨_, p, s⟩ := h; ⟨_, ps_set hN hi hx p hs hf, sim_own s⟩
def sDrop (m : ME) : MS := fun σ L => lift (m σ L) σ fun _ L1 => .nx σ L1
theorem sim_drop {te : TE} {m : ME} (h : SimE K mg W te m) : SimS K mg W (tDrop te) (sDrop m) := by
  intro G F ι L σl σ H D s q
  obtain ⟨GO, s⟩ := s
  exact h _ _ _ _ _ _ _ _ s.rep s.vr ((PstS.lift s q).imp fun v F1 ι1 L1 H1 x1 rp1 q1 u ru => q1 F1 ι1 H1 _ (Ext.refl _ _) ⟨GO, s.ext x1 rp1⟩)
theorem js_expr {e : Expr} {m : ME} {pos : Pos} (h : JE X W e m) (hs : swapsWith e none pos.line X.env = pure false := by rfl) : JS X W (.Expr e pos) (sDrop m) := let ⟨_, p, s⟩ := h; ⟨_, ps_expr p hs, sim_drop s⟩
/-- an object as a value that is never written -/
def frzO : LO → Option LV
  | .lst vs => some (.lst vs)
  | .ins c ns vs => some (.ins c ns vs)
  | _ => none
theorem frzO_ok {o : LO} {v : LV} {a : Addr} {u : HO} (h : RO K mg F ι H a o) (e : frzO o = some v) (hu : H a = some u) (x : Ext F ι (upd F a u) ι) : R0 K mg (upd F a u) ι v (.ref a) := by
  cases h with
  | lst h1 h2 => cases e; rw [hu] at h1; cases h1; exact .lst upd_same (h2.mono x)
  | ins h1 h2 h3 h4 => cases e; rw [hu] at h2; cases h2; exact .ins h1 upd_same h3 (h4.mono x)
  | dic h1 h2 h3 => cases e
/-- a slot's own object, from now on never written -/
def frzSlot (i : Nat) (σ : SL) : SL := match σ[i]? with
  | some (.own o) => match frzO o with
    | some v => σ.set i (.val v)
    | none => σ
  | _ => σ
theorem SR.frz {GO : Hp} {o : LO} {v : LV} {i : Nat} (s : SR K mg GO G F ι L σl σ H) (h : σl[i]? = some (.own o)) (hv : frzO o = some v) : ∃ GO' F', Ext F ι F' ι ∧ SR K mg GO' G F' ι L (σl.set i (.val v)) σ H := by
  obtain ⟨a, h1, h2⟩ := s.vr.own i o h
  obtain ⟨u, ga⟩ := h2.there
  have hG : G a = none := s.fr i o a h h1
  have fa : F a = none := s.rep.gf a _ ga
  have na : ∀ n : Nat, ι[n]? ≠ some a := fun n e => by rw [(s.rep.nf n a e).2] at ga; cases ga
  -- GO without a
  let GO' : Hp := fun b => if b = a then none else GO b
  have go : ∀ b o, GO' b = some o → GO b = some o ∧ b ≠ a := fun b o e => by
    by_cases z : b = a
    · rw [show GO' b = none from if_pos z] at e; cases e
    · rw [show GO' b = GO b from if_neg z] at e; exact ⟨e, z⟩
  have go' : ∀ b o, GO b = some o → b ≠ a → GO' b = some o := fun b o e z => by rw [show GO' b = GO b from if_neg z]; exact e
  have r1 : Rep K mg GO' F ι L H := s.rep.sub fun b o e => (go b o e).1
  obtain ⟨r2, x⟩ := r1.freeze (s.rep.g a _ ga) fa (if_pos rfl) na
  have keep : ∀ (j : Nat) (y : Sl), (σl.set i (.val v))[j]? = some y → (j = i ∧ y = .val v) ∨ (j ≠ i ∧ σl[j]? = some y) := fun j y e => by
    by_cases hj : j = i
    · subst hj
      have hl : j < σl.length := by
        have := (List.getElem?_eq_some_iff.mp e).1
        simpa using this
      rw [List.getElem?_set_self hl] at e
      exact .inl ⟨rfl, (Option.some.inj e).symm⟩
    · rw [List.getElem?_set_ne (Ne.symm hj)] at e
      exact .inr ⟨hj, e⟩
  refine ⟨GO', _, x, fun b o e => go' b o (s.sub b o e) (fun z => by rw [z, hG] at e; cases e), r2, ⟨by rw [List.length_set]; exact s.vr.len, fun j w e => ?_, fun j ws e => ?_⟩, fun j ws b e1 e2 => ?_, fun j k ws xs b e1 e2 e3 e4 => ?_⟩
  · rcases keep j _ e with ⟨rfl, e1⟩ | ⟨hj, e1⟩
    · cases e1
      exact ⟨_, h1, frzO_ok h2 hv ga x⟩
    · obtain ⟨u, z1, z2⟩ := s.vr.val j w e1
      exact ⟨u, z1, z2.mono x⟩
  · rcases keep j _ e with ⟨rfl, e1⟩ | ⟨hj, e1⟩
    · cases e1
    · obtain ⟨b, z1, z2⟩ := s.vr.own j ws e1
      have nb : b ≠ a := fun z => hj (s.dis j i ws o a e1 h (by rw [← z]; exact z1) h1)
      exact ⟨b, z1, z2.mono x fun u hu => go' b _ hu nb⟩
  · rcases keep j _ e1 with ⟨rfl, z⟩ | ⟨hj, z⟩
    · cases z
    · exact s.fr j ws b z e2
  · rcases keep j _ e1 with ⟨rfl, z⟩ | ⟨hj, z⟩
    · cases z
    · rcases keep k _ e2 with ⟨rfl, z'⟩ | ⟨hk, z'⟩
      · cases z'
      · exact s.dis j k ws xs b z z' e3 e4
/-- ghost: the slot i's list is frozen ahead of the statement -/
def sFrz (i : Nat) (m : MS) : MS := fun σ L => m (frzSlot i σ) L
theorem js_frz (i : Nat) {st : Stmt} {m : MS} (h : JS X W st m) : JS X W st (sFrz i m) := by
  obtain ⟨t, p, s⟩ := h
  refine ⟨t, p, ?_⟩
  intro G F ι L σl σ H D sr q
  unfold sFrz frzSlot at q
  split at q
  · rename_i o e
    split at q
    · rename_i v ev
      obtain ⟨GO, sr⟩ := sr
      obtain ⟨GO', F', x, sr'⟩ := sr.frz e ev
      exact s _ _ _ _ _ _ _ _ ⟨GO', sr'⟩ (q.ext x)
    · exact s _ _ _ _ _ _ _ _ sr q
  · exact s _ _ _ _ _ _ _ _ sr q
def sRet (m : ME) : MS := fun σ L => lift (m σ L) σ fun v L1 => if clean v = true then .rt v L1 else .no
theorem js_ret {e : Expr} {m : ME} {pos : Pos} (h : JE X W e m) : JS X W (.Return (some e) pos) (sRet m) := by
  obtain ⟨t, p, s⟩ := h
  refine ⟨_, ps_ret p, ?_⟩
  intro G F ι L σl σ H D sr q
  obtain ⟨GO, sr⟩ := sr
  refine s _ _ _ _ _ _ _ _ sr.rep sr.vr ((PstS.lift sr q).imp fun v F1 ι1 L1 H1 x1 rp1 q1 u ru => ?_)
  split at q1
  · rename_i hc
    exact q1 F1 ι1 H1 u (Ext.refl _ _) (rp1.sub sr.sub) (ru.clean hc)
  · exact q1.elim
def sRetN : MS := fun _ L => .rt .non L
theorem js_retN {pos : Pos} : JS X W (.Return none pos) sRetN := ⟨_, ps_retN, fun G F ι L σl σ H D ⟨GO, s⟩ q => q F ι H _ (Ext.refl _ _) (s.rep.sub s.sub) .non⟩
def sIf (t : MT) (a b : MS) : MS := fun σ L => lift (t σ L) σ fun c L1 => if c = true then a σ L1 else b σ L1
theorem js_if {c : Expr} {p q : List Stmt} {pos : Pos} {t : MT} {a b : MS} (hc : JT X W c t) (ha : JSs X W p a) (hb : JSs X W q b) : JS X W (.If c p q pos) (sIf t a b) := by
  obtain ⟨tc, pc, sc⟩ := hc
  obtain ⟨ta, pa, sa⟩ := ha
  obtain ⟨tb, pb, sb⟩ := hb
  refine ⟨_, ps_if pc pa pb, ?_⟩
  intro G F ι L σl σ H D sr q
  obtain ⟨GO, sr⟩ := sr
  refine sc _ _ _ _ _ _ _ _ sr.rep sr.vr ((PstS.lift sr q).imp fun v F1 ι1 L1 H1 x1 rp1 q1 => ?_)
  cases v with
  | true => exact sa _ _ _ _ _ _ _ _ ⟨GO, sr.ext x1 rp1⟩ q1
  | false => exact sb _ _ _ _ _ _ _ _ ⟨GO, sr.ext x1 rp1⟩ q1
/-- a statement that is never reached -/
def sNever : MS := fun _ _ => .no
theorem js_never {st : Stmt} : JS X W st sNever := ⟨_, ps_never, fun G F ι L σl σ H D s q => q.elim⟩
theorem js_nevers {st : List Stmt} : JSs X W st sNever := ⟨_, pss_never, fun G F ι L σl σ H D s q => q.elim⟩
/-- o[i] = e, o a list that the mirror holds -/
def sItem (mo mi me : ME) : MS := fun σ L => lift ((me σ L).bind fun v L1 => (mo σ L1).bind fun o L2 => (mi σ L2).bind fun i L3 => if clean v = true then (match o, i with
  | .ref n, .int k => match L3[n]? with
    | some (.lst vs) => match ixN vs.length k with
      | some j => .ok () (L3.set n (.lst (vs.set j v)))
      | none => .no
    | _ => .no
  | _, _ => .no) else .no) σ fun _ L4 => .nx σ L4
theorem js_item {o i e : Expr} {pos pos' : Pos} {mo mi me : ME} (ho : JE X W o mo) (hi : JE X W i mi) (he : JE X W e me) (ha : ∀ v, assign (.Subscript o i pos') X.env v = (do
      let ov ← holding [v] (eval o X.env)
      let iv ← holding [v, ov] (eval i X.env)
      standAt pos'
      holding [v, ov, iv] (setItem ov iv v)
      release [v, ov, iv] []) := by intro _; rfl) (hs : swapsWithSole [.Subscript o i pos'] e pos.line X.env = pure false := by rfl) (hw : swappedStores [.Subscript o i pos'] e X.env = pure none := by rfl)
    (h1 : (assignEach [.Subscript o i pos'] X.env).map (·.2) = [assign (.Subscript o i pos') X.env] := by rfl) : JS X W (.Assign [.Subscript o i pos'] e pos) (sItem mo mi me) := by
  obtain ⟨to, po, so⟩ := ho
  obtain ⟨ti, pi, si⟩ := hi
  obtain ⟨te, pe, se⟩ := he
  refine ⟨_, ps_asg pe (pg_sub po pi set_list ha) hs hw h1, ?_⟩
  intro G F ι L σl σ H D sr q
  obtain ⟨GO, sr⟩ := sr
  have q0 := PstS.lift sr q
  refine se _ _ _ _ _ _ _ _ sr.rep sr.vr ((Pst.bind q0).imp fun v F1 ι1 L1 H1 x1 rp1 q1 u ru => ?_)
  refine so _ _ _ _ _ _ _ _ rp1 (sr.vr.mono x1) ((Pst.bind q1).imp fun ov F2 ι2 L2 H2 x2 rp2 q2 uo ruo => ?_)
  refine si _ _ _ _ _ _ _ _ rp2 ((sr.vr.mono x1).mono x2) ((Pst.bind q2).imp fun iv F3 ι3 L3 H3 x3 rp3 q3 ui rui => ?_)
  split at q3
  · rename_i hc
    split at q3
    · rename_i n k
      split at q3
      · rename_i vs e
        split at q3
        · rename_i j ej
          cases ruo with
          | r0 ruo =>
            cases ruo with
            | ref h1 =>
              cases rui with
              | r0 rui =>
                cases rui
                have h3 := x3.pre _ _ h1
                cases rp3.obj _ _ _ h3 e with
                | lst z1 z2 =>
                  refine ⟨_, _, k, j, rfl, rfl, z1, by rw [← z2.length]; exact ej, ?_⟩
                  have r0 := ((ru.mono x2).mono x3).clean hc
                  have rw := rp3.write h3 (o := .lst (vs.set j v)) (.lst upd_same (z2.set r0 j))
                  exact q3 F3 ι3 _ (Ext.refl _ _) rw F3 ι3 _ σ (Ext.refl _ _) ⟨GO, sr.ext ((x1.trans x2).trans x3) rw⟩
        · exact q3.elim
      · exact q3.elim
    · exact q3.elim
  · exact q3.elim
end
end Z
namespace Z
open PySem PySem.Spec L2
section
variable {X : Cx} {W : WX} {K : PySem.W.Frag} {mg : Str → Option Value} {G F H : Hp} {ι : List Addr} {L : LH} {σ : St} {σl : SL}

/-! ### what is walked -/
def ItOk (K : PySem.W.Frag) (mg : Str → Option Value) (F : Hp) (ι : List Addr) (J : It) (vs : List LV) : Prop := ∀ (G F2 : Hp) (ι2 : List Addr) (L2 : LH) (H2 : Hp), Ext F ι F2 ι2 → Rep K mg G F2 ι2 L2 H2 →
  J.stop vs.length H2 ∧ ∀ (i : Nat) (v : LV), vs[i]? = some v → J.go i H2 ∧ ∀ x H3, J.yld i H2 x H3 → ∃ F3 ι3, Ext F2 ι2 F3 ι3 ∧ Rep K mg G F3 ι3 L2 H3 ∧ R0 K mg F3 ι3 v x
def SimI (K : PySem.W.Frag) (mg : Str → Option Value) (W : WX) (wi : TI) (m : MA) : Prop := ∀ (G F : Hp) (ι : List Addr) (L : LH) (H : Hp) (σl : SL) (σ : St) (R : It → Hp → Prop), Rep K mg G F ι L H → VR K mg G F ι σl σ →
  Pst K mg G F ι (m σl L) (fun vs F' ι' L' H' => ∀ J, ItOk K mg F' ι' J vs → R J H') (fun c d H' => W c d σ H') → wi σ H R
def JI (X : Cx) (W : WX) (tg iter : Expr) (m : MA) : Prop := ∃ wi, PI X tg iter wi ∧ SimI X.K X.mg W wi m
/-- lists, tuples, texts -/
def iAny (K : PySem.W.Frag) (tl : TE) : TI := fun σ H R => tl σ H fun x H1 => (∃ a, x = .ref a ∧ (∃ xs, SqL K H1 a xs) ∧ R (Itl K a) H1) ∨ (∃ a, x = .ref a ∧ (∃ xs, SqT K H1 a xs) ∧ R (Itt K a) H1) ∨ ∃ z, x = .str z ∧ R (Its z) H1
theorem pi_any {tg l : Expr} {tl : TE} (hl : PE X l tl) : PI X tg l (iAny X.K tl) := by
  refine ⟨fun pins s σ H R I h => thn (hl.run pins s σ H _ I h) fun v s1 ⟨x, H1, I1, r1, q1⟩ => ?_⟩
  have top : ∀ b, b ∈ [s1.heap.objs.size] → FpOk X pins H1 b := fun b hb => by
    rw [show b = s1.heap.objs.size by simpa using hb]
    exact I1.fpOk (Nat.le_refl _) I1.fresh
  rcases q1 with ⟨a, rfl, ⟨xs, hq⟩, q⟩ | ⟨a, rfl, ⟨xs, hq⟩, q⟩ | ⟨z, rfl, q⟩
  · cases r1
    obtain ⟨its, rv, p, hz⟩ := I1.list hq
    exact wpAny_pyIter_list p.isList ⟨s1.heap.objs.size, [s1.heap.objs.size], _, Itl X.K a, H1, rfl, I1.kept (t' := s1.toks) (fun b o e => Heap.get?_push_of_some _ e), turn_list a _, ⟨_, Heap.get?_push_size _ rfl, rfl, rfl⟩, top, q⟩
  · cases r1
    obtain ⟨its, rv, p, hz⟩ := I1.tuple hq
    exact wpAny_pyIter_tuple (show s1.heap.IsTuple a its.toArray from p) ⟨s1.heap.objs.size, [s1.heap.objs.size], _, Itt X.K a, H1, rfl, I1.kept (t' := s1.toks) (fun b o e => Heap.get?_push_of_some _ e), turn_tuple a _, ⟨_, Heap.get?_push_size _ rfl, rfl, rfl⟩, top, q⟩
  · obtain ⟨t, rfl⟩ := r1
    cases ha : z.cps.all (· < 128) with
    | true => exact wpAny_pyIter_ascii ha (pi_one (tk := s1.toks) I1 _ (turn_str _ z t "str_ascii_iterator" (.inl rfl)) ⟨_, Heap.get?_push_size _ rfl, rfl, rfl⟩ q)
    | false => exact wpAny_pyIter_wide ha (pi_one (tk := s1.toks) I1 _ (turn_str _ z t "str_iterator" (.inr rfl)) ⟨_, Heap.get?_push_size _ rfl, rfl, rfl⟩ q)
theorem at_len {vs : List LV} {us : List V} {i : Nat} {v : LV} (h : Rs0 K mg F ι vs us) (e : vs[i]? = some v) : i < us.length := by
  rw [← h.length]
  exact (List.getElem?_eq_some_iff.mp e).1
theorem itok_list {a : Addr} {vs : List LV} {us : List V} (h : SqL K F a us) (r : Rs0 K mg F ι vs us) : ItOk K mg F ι (Itl K a) vs := by
  intro G F2 ι2 L2 H2 x rp
  have h2 : SqL K H2 a us := Sub.sqL rp.f (Sub.sqL x.sub h)
  refine ⟨⟨us, h2, Nat.le_of_eq r.length.symm⟩, fun i v e => ⟨?_, fun y H3 q => ?_⟩⟩
  · exact ⟨us, us[i]'(at_len r e), h2, List.getElem?_eq_getElem (at_len r e)⟩
  · obtain ⟨rfl, q⟩ := q
    obtain ⟨u, e1, e2⟩ := r.get e
    have q2 := q us h2
    rw [e1] at q2
    cases Option.some.inj q2
    exact ⟨F2, ι2, Ext.refl _ _, rp, e2.mono x⟩
theorem itok_tup {a : Addr} {vs : List LV} {us : List V} (h : SqT K F a us) (r : Rs0 K mg F ι vs us) : ItOk K mg F ι (Itt K a) vs := by
  intro G F2 ι2 L2 H2 x rp
  have h2 : SqT K H2 a us := Sub.sqT rp.f (Sub.sqT x.sub h)
  refine ⟨⟨us, h2, Nat.le_of_eq r.length.symm⟩, fun i v e => ⟨?_, fun y H3 q => ?_⟩⟩
  · exact ⟨us, us[i]'(at_len r e), h2, List.getElem?_eq_getElem (at_len r e)⟩
  · obtain ⟨rfl, q⟩ := q
    obtain ⟨u, e1, e2⟩ := r.get e
    have q2 := q us h2
    rw [e1] at q2
    cases Option.some.inj q2
    exact ⟨F2, ι2, Ext.refl _ _, rp, e2.mono x⟩
def signs (z : Str) : List LV := z.cps.toList.map fun c => .str ⟨#[c]⟩
theorem itok_str {z : Str} : ItOk K mg F ι (Its z) (signs z) := by
  intro G F2 ι2 L2 H2 x rp
  refine ⟨by show z.cps.size ≤ (signs z).length; unfold signs; simp, fun i v e => ?_⟩
  unfold signs at e
  rw [List.getElem?_map] at e
  cases ec : z.cps.toList[i]? with
  | none => rw [ec] at e; cases e
  | some c =>
    rw [ec] at e
    cases Option.some.inj e
    have ec' : z.cps[i]? = some c := by simpa using ec
    refine ⟨(Array.getElem?_eq_some_iff.mp ec').1, fun y H3 q => ?_⟩
    obtain ⟨rfl, c', e1, rfl⟩ := q
    rw [ec'] at e1
    cases Option.some.inj e1
    exact ⟨F2, ι2, Ext.refl _ _, rp, .str⟩
/-- the items of a frozen thing -/
def itemsOf : LV → Option (List LV)
  | .lst vs => some vs
  | .rdl vs => some vs
  | .tup vs => some vs
  | .str z => some (signs z)
  | _ => none
def iA (m : ME) : MA := fun σ L => (m σ L).bind fun v L1 => match itemsOf v with
  | some vs => .ok vs L1
  | none => .no
theorem ji_any {tg l : Expr} {m : ME} (h : JE X W l m) : JI X W tg l (iA m) := by
  obtain ⟨t, p, s⟩ := h
  refine ⟨_, pi_any p, ?_⟩
  intro G F ι L H σl σ R rp vr q
  refine s _ _ _ _ _ _ _ _ rp vr ((Pst.bind q).imp fun v F1 ι1 L1 H1 x1 rp1 q1 u ru => ?_)
  unfold itemsOf at q1
  cases ru with
  | loc e => exact q1.elim
  | r0 ru =>
    cases ru with
    | lst h1 h2 => exact .inl ⟨_, rfl, ⟨_, .of (rp1.f _ _ h1)⟩, q1.ok rp1 _ (itok_list (.of h1) h2)⟩
    | rdl h1 h2 => exact .inl ⟨_, rfl, ⟨_, Sub.sqL rp1.f h1⟩, q1.ok rp1 _ (itok_list h1 h2)⟩
    | tup h1 h2 => exact .inr (.inl ⟨_, rfl, ⟨_, Sub.sqT rp1.f h1⟩, q1.ok rp1 _ (itok_tup h1 h2)⟩)
    | str => exact .inr (.inr ⟨_, rfl, q1.ok rp1 _ itok_str⟩)
    | _ => exact q1.elim
/-- range(j), range(i, j) -/
def rng (lo : Int) (n : Nat) : List LV := (List.range n).map fun (i : Nat) => LV.int (lo + (i : Int))
theorem itok_range {lo : Int} {n : Nat} : ItOk K mg F ι (Itr lo n) (rng lo n) := by
  intro G F2 ι2 L2 H2 x rp
  refine ⟨by show n ≤ (rng lo n).length; unfold rng; simp, fun i v e => ?_⟩
  have hl : i < n := by
    have := (List.getElem?_eq_some_iff.mp e).1
    unfold rng at this
    simpa using this
  unfold rng at e
  rw [List.getElem?_map, List.getElem?_range hl] at e
  cases Option.some.inj e
  refine ⟨hl, fun y H3 q => ?_⟩
  obtain ⟨rfl, rfl⟩ := q
  exact ⟨F2, ι2, Ext.refl _ _, rp, .int⟩
def iR1 (m : MA) : MA := fun σ L => (m σ L).bind fun vs L1 => match vs with
  | [.int j] => if -(2 ^ 62) ≤ j ∧ j < 2 ^ 62 then .ok (rng 0 j.toNat) L1 else .no
  | _ => .no
def iR2 (m : MA) : MA := fun σ L => (m σ L).bind fun vs L1 => match vs with
  | [.int i, .int j] => if -(2 ^ 62) ≤ i ∧ i < 2 ^ 62 ∧ -(2 ^ 62) ≤ j ∧ j < 2 ^ 62 then .ok (rng i (j - i).toNat) L1 else .no
  | _ => .no
theorem ji_range1 {tg a : Expr} {p pos : Pos} {m : MA} (hm : X.mg "range" = none) (ha : JA X W [a] m) (hg : Gl X "range" := by rfl) (hs : starEach [a] X.env = [(false, eval a X.env)] := by rfl) : JI X W tg (.Call (.Name "range" p) [a] [] pos) (iR1 m) := by
  obtain ⟨t, pa, s⟩ := ha
  refine ⟨_, pi_range1 hg hm pa hs, ?_⟩
  intro G F ι L H σl σ R rp vr q
  refine s _ _ _ _ _ _ _ _ rp vr ((Pst.bind q).imp fun vs F1 ι1 L1 H1 x1 rp1 q1 us ru => ?_)
  split at q1
  · split at q1
    · rename_i hz
      cases ru with
      | cons h t =>
        cases t
        cases h with
        | r0 h => cases h; exact ⟨_, rfl, hz.1, hz.2, q1.ok rp1 _ itok_range⟩
    · exact q1.elim
  · exact q1.elim
theorem ji_range2 {tg a b : Expr} {p pos : Pos} {m : MA} (hm : X.mg "range" = none) (ha : JA X W [a, b] m) (hg : Gl X "range" := by rfl) (hs : starEach [a, b] X.env = [(false, eval a X.env), (false, eval b X.env)] := by rfl) (hs2 : starEach [b] X.env = [(false, eval b X.env)] := by rfl) : JI X W tg (.Call (.Name "range" p) [a, b] [] pos) (iR2 m) := by
  obtain ⟨t, pa, s⟩ := ha
  refine ⟨_, pi_range2 hg hm pa hs hs2, ?_⟩
  intro G F ι L H σl σ R rp vr q
  refine s _ _ _ _ _ _ _ _ rp vr ((Pst.bind q).imp fun vs F1 ι1 L1 H1 x1 rp1 q1 us ru => ?_)
  split at q1
  · split at q1
    · rename_i hz
      rw [rv_ints ru]
      exact ⟨_, _, rfl, hz, q1.ok rp1 _ itok_range⟩
    · exact q1.elim
  · exact q1.elim
/-- zip(xs, ys): pairs -/
def pairs : List LV → List LV → List LV
  | x :: xs, y :: ys => .tup [x, y] :: pairs xs ys
  | _, _ => []
theorem pairs_at : ∀ {xs ys : List LV} {i : Nat} {v : LV}, (pairs xs ys)[i]? = some v → ∃ x y, xs[i]? = some x ∧ ys[i]? = some y ∧ v = .tup [x, y]
  | [], _, _, _, e => by simp [pairs] at e
  | _ :: _, [], _, _, e => by simp [pairs] at e
  | x :: xs, y :: ys, 0, v, e => ⟨x, y, rfl, rfl, by simpa [pairs] using e.symm⟩
  | x :: xs, y :: ys, i + 1, v, e => pairs_at (xs := xs) (ys := ys) (i := i) (by simpa [pairs] using e)
theorem pairs_len : ∀ xs ys : List LV, xs.length ≤ (pairs xs ys).length ∨ ys.length ≤ (pairs xs ys).length
  | [], _ => .inl (Nat.zero_le _)
  | _ :: _, [] => .inr (Nat.zero_le _)
  | x :: xs, y :: ys => by
    rcases pairs_len xs ys with h | h
    · exact .inl (Nat.succ_le_succ h)
    · exact .inr (Nat.succ_le_succ h)
theorem itok_zip {a b : Addr} {vs ws : List LV} {us zs : List V} (h : SqL K F a us) (r : Rs0 K mg F ι vs us) (h' : SqL K F b zs) (r' : Rs0 K mg F ι ws zs) : ItOk K mg F ι (Itz K a b) (pairs vs ws) := by
  intro G F2 ι2 L2 H2 x rp
  have h2 : SqL K H2 a us := Sub.sqL rp.f (Sub.sqL x.sub h)
  have h3 : SqL K H2 b zs := Sub.sqL rp.f (Sub.sqL x.sub h')
  refine ⟨⟨us, zs, h2, h3, ?_⟩, fun i v e => ?_⟩
  · rw [← r.length, ← r'.length]
    exact pairs_len vs ws
  · obtain ⟨p, q, e1, e2, rfl⟩ := pairs_at e
    obtain ⟨u, f1, f2⟩ := r.get e1
    obtain ⟨z, f3, f4⟩ := r'.get e2
    refine ⟨⟨us, zs, u, z, h2, h3, f1, f3⟩, fun y H3 q => ?_⟩
    obtain ⟨T, u', z', rfl, hT, rfl, g1, g2⟩ := q
    have k1 := g1 us h2
    have k2 := g2 zs h3
    rw [f1] at k1
    rw [f3] at k2
    cases Option.some.inj k1
    cases Option.some.inj k2
    obtain ⟨r1, x1, z1⟩ := rp.frzT hT (.cons (f2.mono x) (.cons (f4.mono x) .nil))
    exact ⟨_, _, x1, r1, z1⟩
def frzOf : LV → Option (List LV)
  | .lst vs => some vs
  | .rdl vs => some vs
  | _ => none
theorem frzOf_ok {v : LV} {u : V} {vs : List LV} (h : RV K mg σ F ι v u) (e : frzOf v = some vs) : ∃ a us, u = .ref a ∧ SqL K F a us ∧ Rs0 K mg F ι vs us := by
  unfold frzOf at e
  cases h with
  | loc q => cases e
  | r0 h =>
    cases h with
    | lst h1 h2 => cases e; exact ⟨_, _, rfl, .of h1, h2⟩
    | rdl h1 h2 => cases e; exact ⟨_, _, rfl, h1, h2⟩
    | _ => cases e
def iZ (m : MA) : MA := fun σ L => (m σ L).bind fun vs L1 => match vs with
  | [x, y] => match frzOf x, frzOf y with
    | some xs, some ys => .ok (pairs xs ys) L1
    | _, _ => .no
  | _ => .no
theorem ji_zip {e e2 : Expr} {p pos tpos : Pos} {elts : List Expr} {kk : Nat} {m : MA} (hm : X.mg "zip" = none) (ha : JA X W [e, e2] m) (hg : Gl X "zip" := by rfl) (hs : starEach [e, e2] X.env = (false, eval e X.env) :: starEach [e2] X.env := by rfl) (hpl : (backTo pos (starEach [e2] X.env)).any (·.1) = false := by rfl) :
    JI X W (.Tuple elts kk tpos) (.Call (.Name "zip" p) [e, e2] [] pos) (iZ m) := by
  obtain ⟨t, pa, s⟩ := ha
  refine ⟨_, pi_zip hg hm pa hs hpl, ?_⟩
  intro G F ι L H σl σ R rp vr q
  refine s _ _ _ _ _ _ _ _ rp vr ((Pst.bind q).imp fun vs F1 ι1 L1 H1 x1 rp1 q1 us ru => ?_)
  split at q1
  · split at q1
    · rename_i ex ey
      cases ru with
      | cons h t =>
        cases t with
        | cons h' t =>
          cases t
          obtain ⟨a, xs, rfl, k1, k2⟩ := frzOf_ok h ex
          obtain ⟨b, ys, rfl, k3, k4⟩ := frzOf_ok h' ey
          exact ⟨a, b, xs, ys, rfl, Sub.sqL rp1.f k1, Sub.sqL rp1.f k3, q1.ok rp1 _ (itok_zip k1 k2 k3 k4)⟩
    · exact q1.elim
  · exact q1.elim

/-! ### targets -/
def JG (X : Cx) (tg : Expr) (n : LV → SL → Option SL) : Prop := ∃ g, PG X tg g ∧ ∀ (GO G F : Hp) (ι : List Addr) (L : LH) (σl : SL) (σ : St) (H : Hp) (v : LV) (u : V) (k : St → Hp → Prop) (σl' : SL), SR X.K X.mg GO G F ι L σl σ H → R0 X.K X.mg F ι v u → n v σl = some σl' →
  (∀ σ', SR X.K X.mg GO G F ι L σl' σ' H → k σ' H) → g u σ H k
def gN (i : Nat) : LV → SL → Option SL := fun v σ => some (σ.set i (.val v))
theorem jg_name (i : Nat) {x : Str} {pos : Pos} (hN : X.N.Nodup) (hi : X.N[i]? = some x := by rfl) (hx : Loc X.env.scope x := by first | exact Or.inl rfl | exact Or.inr rfl) (hf : X.fn x = true ∨ X.env.scope.names.lookup x = some .local := by first | exact .inl rfl | exact .inr rfl | assumption) : JG X (.Name x pos) (gN i) := by
  refine ⟨_, pg_name hN hi hx hf, ?_⟩
  intro GO G F ι L σl σ H v u k σl' s h e q
  cases e
  exact q _ (s.set h)
def JGs (X : Cx) (tg : List Expr) (n : List LV → SL → Option SL) : Prop := ∃ g, PGs X tg g ∧ ∀ (GO G F : Hp) (ι : List Addr) (L : LH) (σl : SL) (σ : St) (H : Hp) (vs : List LV) (us : List V) (k : St → Hp → Prop) (σl' : SL), SR X.K X.mg GO G F ι L σl σ H → Rs0 X.K X.mg F ι vs us → n vs σl = some σl' →
  (∀ σ', SR X.K X.mg GO G F ι L σl' σ' H → k σ' H) → g us σ H k
def gsNil : List LV → SL → Option SL := fun vs σ => match vs with
  | [] => some σ
  | _ => none
def gsCons (n : LV → SL → Option SL) (ns : List LV → SL → Option SL) : List LV → SL → Option SL := fun vs σ => match vs with
  | v :: vs => (n v σ).bind fun σ1 => ns vs σ1
  | [] => none
theorem jgs_nil : JGs X [] gsNil := by
  refine ⟨_, pgs_nil, ?_⟩
  intro GO G F ι L σl σ H vs us k σl' s h e q
  cases h with
  | nil => cases e; exact ⟨rfl, q _ s⟩
  | cons _ _ => cases e
theorem jgs_cons {e : Expr} {es : List Expr} {n : LV → SL → Option SL} {ns : List LV → SL → Option SL} (h1 : JG X e n) (h2 : JGs X es ns) (hs : (assignEach (e :: es) X.env).map (·.2) = assign e X.env :: (assignEach es X.env).map (·.2) := by rfl) : JGs X (e :: es) (gsCons n ns) := by
  obtain ⟨g, p, s⟩ := h1
  obtain ⟨g', p', s'⟩ := h2
  refine ⟨_, pgs_cons p p' hs, ?_⟩
  intro GO G F ι L σl σ H vs us k σl' sr h e q
  cases h with
  | nil => cases e
  | cons r rr =>
    rename_i v u vs us
    have e : ((n v σl).bind fun σ1 => ns vs σ1) = some σl' := e
    cases e1 : n v σl with
    | none => rw [e1] at e; cases e
    | some σ1 =>
      rw [e1] at e
      exact ⟨_, _, rfl, s _ _ _ _ _ _ _ _ _ _ _ _ sr r e1 fun σ' sr' => s' _ _ _ _ _ _ _ _ _ _ _ _ sr' rr e q⟩
def gT (n : Nat) (ns : List LV → SL → Option SL) : LV → SL → Option SL := fun v σ => match v with
  | .tup vs => if vs.length = n then ns vs σ else none
  | _ => none
theorem jg_tup {es : List Expr} {k n : Nat} {ns : List LV → SL → Option SL} {pos : Pos} (h : JGs X es ns) (hc : X.calm = true := by rfl) (hn : (assignEach es X.env).length = n := by rfl) (hst : (assignEach es X.env).findIdx? (·.1) = none := by rfl) : JG X (.Tuple es k pos) (gT n ns) := by
  obtain ⟨g, p, s⟩ := h
  refine ⟨_, pg_tup hc p hn hst, ?_⟩
  intro GO G F ι L σl σ H v u k σl' sr h e q
  unfold gT at e
  split at e
  · split at e
    · rename_i hl
      cases h with
      | tup h1 h2 => exact ⟨_, _, rfl, Sub.sqT sr.rep.f h1, by rw [← h2.length]; exact hl, s _ _ _ _ _ _ _ _ _ _ _ _ sr h2 e q⟩
    · cases e
  · cases e
def sAsg (m : ME) (n : LV → SL → Option SL) : MS := fun σ L => lift (m σ L) σ fun v L1 => if clean v = true then (match n v σ with
  | some σ1 => .nx σ1 L1
  | none => .no) else .no
theorem js_asg {tg e : Expr} {m : ME} {n : LV → SL → Option SL} {pos : Pos} (h : JE X W e m) (hg : JG X tg n) (hs : swapsWithSole [tg] e pos.line X.env = pure false := by rfl) (hw : swappedStores [tg] e X.env = pure none := by rfl) (h1 : (assignEach [tg] X.env).map (·.2) = [assign tg X.env] := by rfl) : JS X W (.Assign [tg] e pos) (sAsg m n) := by
  obtain ⟨t, p, s⟩ := h
  obtain ⟨g, p', s'⟩ := hg
  refine ⟨_, ps_asg p p' hs hw h1, ?_⟩
  intro G F ι L σl σ H D sr q
  obtain ⟨GO, sr⟩ := sr
  refine s _ _ _ _ _ _ _ _ sr.rep sr.vr ((PstS.lift sr q).imp fun v F1 ι1 L1 H1 x1 rp1 q1 u ru => ?_)
  split at q1
  · rename_i hc
    split at q1
    · rename_i σ1 e1
      exact s' _ _ _ _ _ _ _ _ _ _ _ _ (sr.ext x1 rp1) (ru.clean hc) e1 fun σ' sr' => q1 F1 ι1 H1 σ' (Ext.refl _ _) ⟨GO, sr'⟩
    · exact q1.elim
  · exact q1.elim

/-! ### for, while -/
def loop (n : LV → SL → Option SL) (b : MS) : List LV → SL → LH → SO
  | [], σ, L => .nx σ L
  | v :: vs, σ, L => match n v σ with
    | none => .no
    | some σ1 => match b σ1 L with
      | .nx σ2 L2 => loop n b vs σ2 L2
      | .ct σ2 L2 => loop n b vs σ2 L2
      | .bk σ2 L2 => .nx σ2 L2
      | o => o
def sFor (mi : MA) (n : LV → SL → Option SL) (b : MS) : MS := fun σ L => lift (mi σ L) σ fun vs L1 => loop n b vs σ L1
theorem js_for {tg iter : Expr} {body : List Stmt} {pos : Pos} {mi : MA} {n : LV → SL → Option SL} {b : MS} (hi : JI X W tg iter mi) (hg : JG X tg n) (hb : JSs X W body b) (hp : PassesOwn (model X.prog X.w) X.A X.env X.xe) (hc : X.calm = true := by rfl) (hs : ∀ x, foldedSetIterable iter X.env x = pure x := by intro _; rfl) : JS X W (.For tg iter body [] pos) (sFor mi n b) := by
  obtain ⟨wi, pi, si⟩ := hi
  obtain ⟨g, pg, sg⟩ := hg
  obtain ⟨tb, pb, sb⟩ := hb
  refine ⟨_, ps_for hp hc pi pg pb hs, ?_⟩
  intro G F ι L σl σ H D sr q
  obtain ⟨GO, sr⟩ := sr
  refine si _ _ _ _ _ _ _ _ sr.rep sr.vr ((PstS.lift sr q).imp fun vs F1 ι1 L1 H1 x1 rp1 q1 J hJ => ?_)
  refine ⟨fun i m σ2 H2 => m = vs.length - i ∧ i ≤ vs.length ∧ ∃ F2 ι2 L2 σl2, Ext F1 ι1 F2 ι2 ∧ SRep X.K X.mg G F2 ι2 L2 σl2 σ2 H2 ∧ PstS X.K X.mg G F2 ι2 (loop n b (vs.drop i) σl2 L2) D W,
    ⟨vs.length, rfl, Nat.zero_le _, F1, ι1, L1, σl, Ext.refl _ _, ⟨GO, sr.ext x1 rp1⟩, q1⟩, ?_⟩
  rintro i m σ2 H2 ⟨rfl, hi, F2, ι2, L2, σl2, x2, ⟨GO2, s2⟩, q2⟩
  obtain ⟨j1, j2⟩ := hJ GO2 F2 ι2 L2 H2 x2 s2.rep
  by_cases hlt : i < vs.length
  · have hv : vs[i]? = some vs[i] := List.getElem?_eq_getElem hlt
    obtain ⟨k1, k2⟩ := j2 i _ hv
    rw [List.drop_eq_getElem_cons hlt] at q2
    refine .inr ⟨k1, fun σ' H' => vs.length - (i + 1) < vs.length - i ∧ i + 1 ≤ vs.length ∧ ∃ F2 ι2 L2 σl2, Ext F1 ι1 F2 ι2 ∧ SRep X.K X.mg G F2 ι2 L2 σl2 σ' H' ∧ PstS X.K X.mg G F2 ι2 (loop n b (vs.drop (i + 1)) σl2 L2) D W,
      fun σ' H' z => ⟨vs.length - (i + 1), z.1, rfl, z.2⟩, fun x H3 y => ?_⟩
    obtain ⟨F3, ι3, x3, rp3, r3⟩ := k2 x H3 y
    unfold loop at q2
    cases e1 : n vs[i] σl2 with
    | none => rw [e1] at q2; exact q2.elim
    | some σ1 =>
      rw [e1] at q2
      refine sg _ _ _ _ _ _ _ _ _ _ _ _ (s2.ext x3 rp3) r3 e1 fun σ' sr' => ?_
      refine sb G F3 ι3 L2 σ1 σ' H3 _ ⟨GO2, sr'⟩ ?_
      have lt : vs.length - (i + 1) < vs.length - i := by omega
      simp only at q2
      cases e2 : b σ1 L2 with
      | nx σ4 L4 =>
        rw [e2] at q2
        exact fun F4 ι4 H4 σ5 x4 s4 => ⟨lt, hlt, F4, ι4, L4, σ4, x2.trans (x3.trans x4), s4, q2.ext (x3.trans x4)⟩
      | ct σ4 L4 =>
        rw [e2] at q2
        exact fun F4 ι4 H4 σ5 x4 s4 => ⟨lt, hlt, F4, ι4, L4, σ4, x2.trans (x3.trans x4), s4, q2.ext (x3.trans x4)⟩
      | bk σ4 L4 => rw [e2] at q2; exact q2.ext x3
      | rt v L4 => rw [e2] at q2; exact q2.ext x3
      | er c ns vs s L4 => rw [e2] at q2; exact q2.ext x3
      | no => rw [e2] at q2; exact q2.elim
  · have e : i = vs.length := by omega
    subst e
    rw [List.drop_length] at q2
    exact .inl ⟨j1, q2 F2 ι2 H2 σ2 (Ext.refl _ _) ⟨GO2, s2⟩⟩
def wloop (t : MT) (b : MS) : Nat → SL → LH → SO
  | 0, _, _ => .no
  | k + 1, σ, L => lift (t σ L) σ fun c L1 => if c = true then (match b σ L1 with
      | .nx σ2 L2 => wloop t b k σ2 L2
      | .ct σ2 L2 => wloop t b k σ2 L2
      | .bk σ2 L2 => .nx σ2 L2
      | o => o) else .nx σ L1
/-- while; k turns at the most -/
def sWhile (k : SL → LH → Nat) (t : MT) (b : MS) : MS := fun σ L => wloop t b (k σ L) σ L
theorem js_while {c : Expr} {body : List Stmt} {pos : Pos} {t : MT} {b : MS} (k : SL → LH → Nat) (hc : JT X W c t) (hb : JSs X W body b) (hp : PassesOwn (model X.prog X.w) X.A X.env X.xe) : JS X W (.While c body [] pos) (sWhile k t b) := by
  obtain ⟨tc, pc, sc⟩ := hc
  obtain ⟨tb, pb, sb⟩ := hb
  refine ⟨_, ps_while hp pc pb, ?_⟩
  intro G F ι L σl σ H D sr q
  refine ⟨fun m σ2 H2 => ∃ F2 ι2 L2 σl2, SRep X.K X.mg G F2 ι2 L2 σl2 σ2 H2 ∧ PstS X.K X.mg G F2 ι2 (wloop t b m σl2 L2) D W, ⟨k σl L, F, ι, L, σl, sr, q⟩, ?_⟩
  rintro m σ2 H2 ⟨F2, ι2, L2, σl2, ⟨GO, s2⟩, q2⟩
  cases m with
  | zero => exact q2.elim
  | succ m =>
    unfold wloop at q2
    refine sc _ _ _ _ _ _ _ _ s2.rep s2.vr ((PstS.lift s2 q2).imp fun c F3 ι3 L3 H3 x3 rp3 q3 => ?_)
    cases c with
    | false => exact q3 F3 ι3 H3 σ2 (Ext.refl _ _) ⟨GO, s2.ext x3 rp3⟩
    | true =>
      refine ⟨fun σ' H' => ∃ F2 ι2 L2 σl2, SRep X.K X.mg G F2 ι2 L2 σl2 σ' H' ∧ PstS X.K X.mg G F2 ι2 (wloop t b m σl2 L2) D W, fun σ' H' z => ⟨m, Nat.lt_succ_self m, z⟩, ?_⟩
      refine sb G F3 ι3 L3 σl2 σ2 H3 _ ⟨GO, s2.ext x3 rp3⟩ ?_
      simp only [if_true] at q3
      cases e2 : b σl2 L3 with
      | nx σ4 L4 => rw [e2] at q3; exact fun F4 ι4 H4 σ5 x4 s4 => ⟨F4, ι4, L4, σ4, s4, q3.ext x4⟩
      | ct σ4 L4 => rw [e2] at q3; exact fun F4 ι4 H4 σ5 x4 s4 => ⟨F4, ι4, L4, σ4, s4, q3.ext x4⟩
      | bk σ4 L4 => rw [e2] at q3; exact q3
      | rt v L4 => rw [e2] at q3; exact q3
      | er c ns vs s L4 => rw [e2] at q3; exact q3
      | no => rw [e2] at q3; exact q3.elim
end
end Z
namespace Z
open PySem PySem.Spec L2
section
variable {X : Cx} {W : WX} {K : PySem.W.Frag} {mg : Str → Option Value} {G F H : Hp} {ι : List Addr} {L : LH} {σ : St} {σl : SL}
/-! ### one reading for a mirror -/
def tM (K : PySem.W.Frag) (mg : Str → Option Value) (W : WX) (m : ME) : TE := fun σ H Q => ∃ G F ι L σl, Rep K mg G F ι L H ∧ VR K mg G F ι σl σ ∧ Pst K mg G F ι (m σl L) (fun v F' ι' L' H' => ∀ u, RV K mg σ F' ι' v u → Q u H') (fun c d H' => W c d σ H')
def tMT (K : PySem.W.Frag) (mg : Str → Option Value) (W : WX) (m : MT) : TT := fun σ H Q => ∃ G F ι L σl, Rep K mg G F ι L H ∧ VR K mg G F ι σl σ ∧ Pst K mg G F ι (m σl L) (fun b F' ι' L' H' => Q b H') (fun c d H' => W c d σ H')
theorem sim_tM {m : ME} : SimE K mg W (tM K mg W m) m := fun G F ι L H σl σ Q r v h => ⟨G, F, ι, L, σl, r, v, h⟩
theorem sim_tMT {m : MT} : SimT K mg W (tMT K mg W m) m := fun G F ι L H σl σ Q r v h => ⟨G, F, ι, L, σl, r, v, h⟩
theorem JE.can {e : Expr} {m : ME} (h : JE X W e m) : PE X e (tM X.K X.mg W m) := by
  obtain ⟨t, p, s⟩ := h
  exact ⟨fun pins s0 σ H Q I ⟨G, F, ι, L, σl, r, v, q⟩ => p.run pins s0 σ H Q I (s G F ι L H σl σ Q r v q)⟩
theorem JT.can {e : Expr} {m : MT} (h : JT X W e m) : PT X e (tMT X.K X.mg W m) := by
  obtain ⟨t, p, s⟩ := h
  exact ⟨fun pins s0 σ H Q I ⟨G, F, ι, L, σl, r, v, q⟩ => p.run pins s0 σ H Q I (s G F ι L H σl σ Q r v q)⟩

/-! ### comprehensions -/
abbrev W0 : WX := fun _ _ _ _ => False
def wipeL (σ : SL) : List Nat → SL
  | [] => σ
  | v :: vs => (wipeL σ vs).set v .no
theorem VR.wipe (h : VR K mg G F ι σl σ) : ∀ vs : List Nat, VR K mg G F ι (wipeL σl vs) (L2.wipe σ vs)
  | [] => h
  | v :: vs => by
    have ih := VR.wipe h vs
    unfold wipeL L2.wipe
    have keep : ∀ (j : Nat) (x : Sl), ((wipeL σl vs).set v .no)[j]? = some x → x = .no ∨ (j ≠ v ∧ (wipeL σl vs)[j]? = some x) := fun j x e => by
      by_cases hj : j = v
      · subst hj
        have hl : j < (wipeL σl vs).length := by
          have := (List.getElem?_eq_some_iff.mp e).1
          simpa using this
        rw [List.getElem?_set_self hl] at e
        exact .inl (Option.some.inj e).symm
      · rw [List.getElem?_set_ne (Ne.symm hj)] at e
        exact .inr ⟨hj, e⟩
    refine ⟨by rw [List.length_set, List.length_set]; exact ih.len, fun j w e => ?_, fun j ws e => ?_⟩
    · rcases keep j _ e with z | ⟨hj, z⟩
      · cases z
      · rw [List.getElem?_set_ne (Ne.symm hj)]; exact ih.val j w z
    · rcases keep j _ e with z | ⟨hj, z⟩
      · cases z
      · rw [List.getElem?_set_ne (Ne.symm hj)]; exact ih.own j ws z
theorem VR.set {v : LV} {u : V} {i : Nat} (s : VR K mg G F ι σl σ) (h : R0 K mg F ι v u) : VR K mg G F ι (σl.set i (.val v)) (σ.set i (some u)) := by
  have keep : ∀ (j : Nat) (x : Sl), (σl.set i (.val v))[j]? = some x → (j = i ∧ x = .val v ∧ j < σl.length) ∨ (j ≠ i ∧ σl[j]? = some x) := fun j x e => by
    by_cases hj : j = i
    · subst hj
      have hl : j < σl.length := by
        have := (List.getElem?_eq_some_iff.mp e).1
        simpa using this
      rw [List.getElem?_set_self hl] at e
      exact .inl ⟨rfl, (Option.some.inj e).symm, hl⟩
    · rw [List.getElem?_set_ne (Ne.symm hj)] at e
      exact .inr ⟨hj, e⟩
  refine ⟨by rw [List.length_set, List.length_set]; exact s.len, fun j w e => ?_, fun j ws e => ?_⟩
  · rcases keep j _ e with ⟨rfl, e1, hl⟩ | ⟨hj, e1⟩
    · cases e1
      exact ⟨u, List.getElem?_set_self (by rw [← s.len]; exact hl), h⟩
    · rw [List.getElem?_set_ne (Ne.symm hj)]
      exact s.val j w e1
  · rcases keep j _ e with ⟨rfl, e1, hl⟩ | ⟨hj, e1⟩
    · cases e1
    · rw [List.getElem?_set_ne (Ne.symm hj)]
      exact s.own j ws e1
theorem wipe_set {i : Nat} {x : Option V} : ∀ {vs : List Nat} {σ : St}, i ∈ vs → L2.wipe (σ.set i x) vs = L2.wipe σ vs
  | v :: vs, σ, h => by
    unfold L2.wipe
    by_cases hm : i ∈ vs
    · rw [wipe_set hm]
    · rcases List.mem_cons.mp h with e | e
      · subst e
        have swap : ∀ (ws : List Nat), i ∉ ws → L2.wipe (σ.set i x) ws = (L2.wipe σ ws).set i x := fun ws => by
          induction ws with
          | nil => intro _; rfl
          | cons w ws ih =>
            intro hn
            have h1 : i ≠ w := fun z => hn (by simp [z])
            have h2 : i ∉ ws := fun z => hn (List.mem_cons_of_mem _ z)
            unfold L2.wipe
            rw [ih h2, List.set_comm _ _ h1]
        rw [swap vs hm, List.set_set]
      · exact absurd e hm
theorem wipe_idem {τ : St} {ws : List Nat} : ∀ (vs : List Nat), (∀ w ∈ vs, w ∈ ws) → L2.wipe (L2.wipe τ vs) ws = L2.wipe τ ws
  | [], _ => rfl
  | v :: vs, h => by
    show L2.wipe ((L2.wipe τ vs).set v none) ws = _
    rw [wipe_set (h v List.mem_cons_self), wipe_idem vs fun w hw => h w (List.mem_cons_of_mem _ hw)]
/-- a comprehension's target: of the block's own names -/
def CG (K : PySem.W.Frag) (mg : Str → Option Value) (vs : List Nat) (g : TG) (n : LV → SL → Option SL) : Prop := ∀ (G F : Hp) (ι : List Addr) (σl : SL) (σ : St) (H : Hp) (v : LV) (u : V) (k : St → Hp → Prop) (σl' : SL), Sub F H → VR K mg G F ι σl σ → R0 K mg F ι v u → n v σl = some σl' →
  (∀ σ', VR K mg G F ι σl' σ' → L2.wipe σ' vs = L2.wipe σ vs → k σ' H) → g u σ H k
theorem cg_name {vs : List Nat} (i : Nat) (h : i ∈ vs := by simp) : CG K mg vs (gName i) (gN i) := by
  intro G F ι σl σ H v u k σl' sb vr r e q
  cases e
  exact q _ (vr.set r) (wipe_set h)
theorem cg_two {vs : List Nat} (i j : Nat) (hi : i ∈ vs := by simp) (hj : j ∈ vs := by simp) : CG K mg vs (gTup K 2 (gCons (gName i) (gCons (gName j) gNil))) (gT 2 (gsCons (gN i) (gsCons (gN j) gsNil))) := by
  intro G F ι σl σ H v u k σl' sb vr r e q
  unfold gT at e
  split at e
  · rename_i ws
    split at e
    · rename_i hl
      match ws, hl with
      | [a, b], _ =>
        cases r with
        | tup h1 h2 =>
          cases h2 with
          | cons r1 h2 =>
            cases h2 with
            | cons r2 h2 =>
              cases h2
              cases e
              exact ⟨_, _, rfl, Sub.sqT sb h1, rfl, _, _, rfl, _, _, rfl, rfl, q _ ((vr.set r1).set r2) (by rw [wipe_set hj, wipe_set hi])⟩
    · cases e
  · cases e
/-- the turns of a comprehension -/
def compL (n : LV → SL → Option SL) (t : MT) (m : ME) (σ0 : SL) : List LV → List LV → LH → O (List LV)
  | [], acc, L => .ok acc L
  | v :: vs, acc, L => match n v σ0 with
    | none => .no
    | some σ1 => match t σ1 L with
      | .ok b L1 => if b = true then (match m σ1 L1 with
        | .ok x L2 => if (clean x && decide (acc.length < sizeLine)) = true then compL n t m σ0 vs (acc ++ [x]) L2 else .no
        | _ => .no) else compL n t m σ0 vs acc L1
      | _ => .no
def aComp (mi : MA) (n : LV → SL → Option SL) (t : MT) (m : ME) (vs : List Nat) : MA := fun σ L => (mi σ L).bind fun items L1 => compL n t m (wipeL σ vs) items [] L1
def tYes' : MT := fun _ L => .ok true L
theorem sim_yes : SimT K mg W tYes tYes' := fun G F ι L H σl σ Q r v h => h.ok r
/-- D's list is another one now -/
theorem Rep.reG {D : Addr} {us us' : List V} (r : Rep K mg (upd G D (.lst us)) F ι L H) : Rep K mg (upd G D (.lst us')) F ι L (upd H D (.lst us')) := by
  have h1 : F D = none := r.gf D _ upd_same
  have h3 : ∀ n : Nat, ι[n]? ≠ some D := fun n e => by
    have z := (r.nf n D e).2
    rw [upd_same] at z
    cases z
  refine ⟨fun a o e => ?_, fun a o e => ?_, fun a o e => ?_, r.len, r.inj, fun n a e => ⟨(r.nf n a e).1, ?_⟩, fun n a o e1 e2 => (r.obj n a o e1 e2).mono (Ext.refl _ _) fun u e => ?_⟩
  · rw [upd_ne (fun z => by rw [z, h1] at e; cases e)]
    exact r.f a o e
  · by_cases z : a = D
    · rw [z, upd_same] at e ⊢; exact e
    · rw [upd_ne z] at e ⊢
      exact r.g a o (by rw [upd_ne z]; exact e)
  · by_cases z : a = D
    · rw [z]; exact h1
    · rw [upd_ne z] at e
      exact r.gf a o (by rw [upd_ne z]; exact e)
  · have z : a ≠ D := fun z => h3 n (by rw [← z]; exact e)
    have q := (r.nf n a e).2
    rw [upd_ne z] at q ⊢
    exact q
  · rw [upd_ne (fun z => h3 n (by rw [← z]; exact e1))]
    exact e
theorem Rep.addG {D : Addr} {us : List V} (r : Rep K mg G F ι L H) (h : H D = none) : Rep K mg (upd G D (.lst us)) F ι L (upd H D (.lst us)) := by
  obtain ⟨f1, f2, f3⟩ := r.fresh h
  have r2 := r.new (o := .lst us) h
  refine ⟨r2.f, fun a o e => ?_, fun a o e => ?_, r2.len, r2.inj, fun n a e => ⟨(r2.nf n a e).1, ?_⟩, r2.obj⟩
  · by_cases z : a = D
    · rw [z, upd_same] at e ⊢; exact e
    · rw [upd_ne z] at e
      exact r2.g a o e
  · by_cases z : a = D
    · rw [z]; exact f1
    · rw [upd_ne z] at e
      exact r2.gf a o e
  · rw [upd_ne (fun z => f3 n (by rw [← z]; exact e))]
    exact (r2.nf n a e).2
theorem VR.addG {D : Addr} {us : List V} (h : VR K mg G F ι σl σ) (hD : G D = none) : VR K mg (upd G D (.lst us)) F ι σl σ :=
  ⟨h.len, h.val, fun i vs e => let ⟨a, h1, h2⟩ := h.own i vs e; ⟨a, h1, h2.mono (Ext.refl _ _) fun u hu => by rw [upd_ne (fun z => by rw [z, hD] at hu; cases hu)]; exact hu⟩⟩
theorem sim_lc {wi : TI} {g : TG} {tt : TT} {te : TE} {mi : MA} {n : LV → SL → Option SL} {t : MT} {m : ME} {vs : List Nat} (hi : SimI K mg W wi mi) (hg : CG K mg vs g n) (ht : SimT K mg W0 tt t) (he : SimE K mg W0 te m) : SimN K mg W (tLc wi g tt te vs) (aComp mi n t m vs) := by
  intro G F ι L H σl σ Q rp vr q
  refine hi _ _ _ _ _ _ _ _ rp vr ((Pst.bind q).imp fun items F1 ι1 L1 H1 x1 rp1 q1 J hJ => ?_)
  intro D hD
  obtain ⟨fd1, fd2, fd3⟩ := rp1.fresh hD
  refine ⟨fun i k H2 => k = items.length - i ∧ i ≤ items.length ∧ ∃ F2 ι2 L2 acc us, Ext F1 ι1 F2 ι2 ∧ Rep K mg (upd G D (.lst us)) F2 ι2 L2 H2 ∧ Rs0 K mg F2 ι2 acc us ∧
    Pst K mg G F2 ι2 (compL n t m (wipeL σl vs) (items.drop i) acc L2) (fun vs F' ι' L' H' => ∀ p us, H' p = some (.lst us) → G p = none → F' p = none → (∀ n : Nat, ι'[n]? ≠ some p) → Rs0 K mg F' ι' vs us → Q (.ref p) H') (fun c d H' => W c d σ H'),
    ⟨items.length, rfl, Nat.zero_le _, F1, ι1, L1, [], [], Ext.refl _ _, rp1.addG hD, .nil, q1⟩, ?_⟩
  rintro i k H2 ⟨rfl, hle, F2, ι2, L2, acc, us, x2, rp2, r2, q2⟩
  obtain ⟨j1, j2⟩ := hJ _ F2 ι2 L2 H2 x2 rp2
  by_cases hlt : i < items.length
  · have hv : items[i]? = some items[i] := List.getElem?_eq_getElem hlt
    obtain ⟨k1, k2⟩ := j2 i _ hv
    rw [List.drop_eq_getElem_cons hlt] at q2
    refine .inr ⟨k1, fun H' => ∃ m', m' < items.length - i ∧ (m' = items.length - (i + 1) ∧ i + 1 ≤ items.length ∧ ∃ F2 ι2 L2 acc us, Ext F1 ι1 F2 ι2 ∧ Rep K mg (upd G D (.lst us)) F2 ι2 L2 H' ∧ Rs0 K mg F2 ι2 acc us ∧
      Pst K mg G F2 ι2 (compL n t m (wipeL σl vs) (items.drop (i + 1)) acc L2) (fun vs F' ι' L' H' => ∀ p us, H' p = some (.lst us) → G p = none → F' p = none → (∀ n : Nat, ι'[n]? ≠ some p) → Rs0 K mg F' ι' vs us → Q (.ref p) H') (fun c d H' => W c d σ H')),
      fun H' z => z, fun x H3 y => ?_⟩
    have lt : items.length - (i + 1) < items.length - i := by omega
    obtain ⟨F3, ι3, x3, rp3, r3⟩ := k2 x H3 y
    unfold compL at q2
    cases e1 : n items[i] (wipeL σl vs) with
    | none => rw [e1] at q2; exact q2.elim
    | some σ1 =>
      rw [e1] at q2
      simp only at q2
      have vr3 : VR K mg (upd G D (.lst us)) F3 ι3 (wipeL σl vs) (wipe σ vs) := (((vr.mono x1).mono x2).mono x3).addG fd2 |>.wipe vs
      refine hg _ F3 ι3 _ _ H3 _ _ _ σ1 rp3.f vr3 r3 e1 fun σ' vr' hw => ?_
      refine ⟨by rw [hw, wipe_idem vs fun w h => h], ?_⟩
      cases e2 : t σ1 L2 with
      | er c ns zs L4 => rw [e2] at q2; exact q2.elim
      | no => rw [e2] at q2; exact q2.elim
      | ok b L4 =>
        rw [e2] at q2
        simp only at q2
        refine ht _ F3 ι3 L2 H3 σ1 σ' _ rp3 vr' ?_
        rw [e2]
        intro F4 ι4 H4 x4 rp4
        cases b with
        | false =>
          rw [if_neg Bool.false_ne_true] at q2
          show (if false = true then _ else _)
          rw [if_neg Bool.false_ne_true]
          exact ⟨_, lt, rfl, hlt, F4, ι4, L4, acc, us, x2.trans (x3.trans x4), rp4, (r2.mono x3).mono x4, q2.ext (x3.trans x4)⟩
        | true =>
          rw [if_pos rfl] at q2
          show (if true = true then _ else _)
          rw [if_pos rfl]
          refine he _ F4 ι4 L4 H4 σ1 σ' _ rp4 (vr'.mono x4) ?_
          cases e3 : m σ1 L4 with
          | er c ns zs L5 => rw [e3] at q2; exact q2.elim
          | no => rw [e3] at q2; exact q2.elim
          | ok v L5 =>
            rw [e3] at q2
            simp only at q2
            intro F5 ι5 H5 x5 rp5 u ru
            split at q2
            · rename_i hc
              rw [Bool.and_eq_true] at hc
              have r0 := ru.clean hc.1
              refine ⟨us, rp5.g D _ upd_same, by rw [← r2.length]; exact of_decide_eq_true hc.2, ?_⟩
              exact ⟨_, lt, rfl, hlt, F5, ι5, L5, acc ++ [v], us ++ [u], x2.trans (x3.trans (x4.trans x5)), rp5.reG, (((r2.mono x3).mono x4).mono x5).append (.cons r0 .nil), q2.ext (x3.trans (x4.trans x5))⟩
            · exact q2.elim
  · have e : i = items.length := by omega
    subst e
    rw [List.drop_length] at q2
    refine .inl ⟨j1, ?_⟩
    have gs : Sub G (upd G D (.lst us)) := fun a o e => by rw [upd_ne (fun z => by rw [z, fd2] at e; cases e)]; exact e
    exact q2 F2 ι2 H2 (Ext.refl _ _) (rp2.sub gs) D us (rp2.g D _ upd_same) fd2 (rp2.gf D _ upd_same) (fun n e => by
      have z := (rp2.nf n D e).2
      rw [upd_same] at z
      cases z) r2
/-- [e for tg in iter], [e for tg in iter if t] -/
theorem jn_lc {elt tg iter : Expr} {ifs : List Expr} {scope : Scope} {own : List (Str × Nat)} {pos : Pos} {g : TG} {mi : MA} {n : LV → SL → Option SL} {t : MT} {m : ME} (hN : X.N.Nodup) (hi : JI X W tg iter mi) (ok : BlkOk X.N X.env.scope scope own) (hg : CG X.K X.mg (own.map (·.2)) g n)
    (pg : ∀ (s : Shared) (H : Hp) (C : Addr) (cl : List (Str × Addr)) (fp : List Addr), PG (X.blk s H scope (compEnvC scope cl C X.env) fp) tg g) (ht : ∃ tt, SimT X.K X.mg W0 tt t ∧ ∀ (s : Shared) (H : Hp) (C : Addr) (cl : List (Str × Addr)) (fp : List Addr), PTs (X.blk s H scope (compEnvC scope cl C X.env) fp) ifs tt)
    (he : ∀ (s : Shared) (H : Hp) (C : Addr) (cl : List (Str × Addr)) (fp : List Addr), JE (X.blk s H scope (compEnvC scope cl C X.env) fp) W0 elt m) (hc : X.calm = true := by rfl) (hs : ∀ x, foldedSetIterable iter X.env x = pure x := by intro _; rfl) :
    JN X W (.ListComp elt [⟨tg, iter, ifs, 0⟩] scope pos) (aComp mi n t m (own.map (·.2))) := by
  obtain ⟨wi, pi, si⟩ := hi
  obtain ⟨tt, st, pt⟩ := ht
  exact ⟨_, pe_lc hc hN pi ok pg pt (fun s H C cl fp => (he s H C cl fp).can) hs, sim_lc si hg st sim_tM⟩
theorem if_none {scope : Scope} : ∃ tt, SimT X.K X.mg W0 tt tYes' ∧ ∀ (s : Shared) (H : Hp) (C : Addr) (cl : List (Str × Addr)) (fp : List Addr), PTs (X.blk s H scope (compEnvC scope cl C X.env) fp) [] tt := ⟨_, sim_yes, fun _ _ _ _ _ => pts_nil⟩
theorem if_one {scope : Scope} {c : Expr} {t : MT} (h : ∀ (s : Shared) (H : Hp) (C : Addr) (cl : List (Str × Addr)) (fp : List Addr), JT (X.blk s H scope (compEnvC scope cl C X.env) fp) W0 c t) : ∃ tt, SimT X.K X.mg W0 tt t ∧ ∀ (s : Shared) (H : Hp) (C : Addr) (cl : List (Str × Addr)) (fp : List Addr), PTs (X.blk s H scope (compEnvC scope cl C X.env) fp) [c] tt :=
  ⟨_, sim_tMT, fun s H C cl fp => pts_one (h s H C cl fp).can⟩
/-- x = [..] -/
theorem sim_setN {i : Nat} {te : TE} {m : MA} (h : SimN K mg W te m) : SimS K mg W (tAsg te (gName i)) (sSet i (eFrz m)) := by
  refine sim_set (m := eFrz m) ?_
  intro G F ι L H σl σ Q rp vr h'
  refine h _ _ _ _ _ _ _ _ rp vr ((Pst.bind h').imp fun vs F1 ι1 L1 H1 x1 rp1 h1 q us e1 e2 e3 e4 e5 => ?_)
  obtain ⟨r1, x2⟩ := rp1.freeze e1 e3 e2 e4
  exact h1 _ _ _ x2 r1 _ (.r0 (.lst upd_same (e5.mono x2)))
/-- a comprehension into a name: the walk stores within the comprehension's frame -/
def JL (X : Cx) (W : WX) (i : Nat) (st : Stmt) (m : MA) : Prop := ∃ t, PS X st (tAsg t (gName i)) ∧ SimN X.K X.mg W t m
theorem jl_lc (i : Nat) {y : Str} {py : Pos} {elt tg iter : Expr} {ifs : List Expr} {scope : Scope} {own : List (Str × Nat)} {pos spos : Pos} {g : TG} {mi : MA} {n : LV → SL → Option SL} {t : MT} {m : ME} (hN : X.N.Nodup) (hi : JI X W tg iter mi) (ok : BlkOk X.N X.env.scope scope own) (hg : CG X.K X.mg (own.map (·.2)) g n)
    (pg : ∀ (s : Shared) (H : Hp) (C : Addr) (cl : List (Str × Addr)) (fp : List Addr), PG (X.blk s H scope (compEnvC scope cl C X.env) fp) tg g) (ht : ∃ tt, SimT X.K X.mg W0 tt t ∧ ∀ (s : Shared) (H : Hp) (C : Addr) (cl : List (Str × Addr)) (fp : List Addr), PTs (X.blk s H scope (compEnvC scope cl C X.env) fp) ifs tt)
    (he : ∀ (s : Shared) (H : Hp) (C : Addr) (cl : List (Str × Addr)) (fp : List Addr), JE (X.blk s H scope (compEnvC scope cl C X.env) fp) W0 elt m) (hsw : swapsWith (.ListComp elt [⟨tg, iter, ifs, 0⟩] scope pos) (some (.Name y py)) spos.line X.env = pure true)
    (hc : X.calm = true := by rfl) (hy : X.N[i]? = some y := by rfl) (hyl : X.env.scope.names.lookup y = some .local := by rfl) (hs : ∀ x, foldedSetIterable iter X.env x = pure x := by intro _; rfl) :
    JL X W i (.Assign [.Name y py] (.ListComp elt [⟨tg, iter, ifs, 0⟩] scope pos) spos) (aComp mi n t m (own.map (·.2))) := by
  obtain ⟨wi, pi, si⟩ := hi
  obtain ⟨tt, st, pt⟩ := ht
  exact ⟨_, ps_setLc hc hN hy hyl hsw pi ok pg pt (fun s H C cl fp => (he s H C cl fp).can) hs, sim_lc si hg st sim_tM⟩
theorem jl_frz {i : Nat} {st : Stmt} {m : MA} (h : JL X W i st m) : JS X W st (sSet i (eFrz m)) := let ⟨_, p, s⟩ := h; ⟨_, p, sim_setN s⟩
theorem jl_own {i : Nat} {st : Stmt} {m : MA} (h : JL X W i st m) : JS X W st (sOwn i m) := let ⟨_, p, s⟩ := h; ⟨_, p, sim_own s⟩
end
end Z
namespace Z
open PySem PySem.Spec L2
section
variable {X : Cx} {W : WX} {K : PySem.W.Frag} {mg : Str → Option Value} {G F H : Hp} {ι : List Addr} {L : LH} {σ : St} {σl : SL}

/-! ### slices -/
abbrev MO := SL → LH → O (Option Int)
def SimO (K : PySem.W.Frag) (mg : Str → Option Value) (W : WX) (t : TO) (m : MO) : Prop := ∀ (G F : Hp) (ι : List Addr) (L : LH) (H : Hp) (σl : SL) (σ : St) (Q : Option Int → Hp → Prop), Rep K mg G F ι L H → VR K mg G F ι σl σ →
  Pst K mg G F ι (m σl L) (fun o F' ι' L' H' => Q o H') (fun c d H' => W c d σ H') → t σ H Q
def JO (X : Cx) (W : WX) (e : Option Expr) (m : MO) : Prop := ∃ t, PO X e t ∧ SimO X.K X.mg W t m
def oNone : MO := fun _ L => .ok none L
def oSome (m : ME) : MO := fun σ L => (m σ L).bind fun v L1 => match v with
  | .int i => .ok (some i) L1
  | _ => .no
theorem jo_none : JO X W none oNone := ⟨_, po_none, fun G F ι L H σl σ Q r v h => h.ok r⟩
theorem jo_some {e : Expr} {m : ME} (h : JE X W e m) : JO X W (some e) (oSome m) := by
  obtain ⟨t, p, s⟩ := h
  refine ⟨_, po_some p, ?_⟩
  intro G F ι L H σl σ Q rp vr q
  refine s _ _ _ _ _ _ _ _ rp vr ((Pst.bind q).imp fun v F1 ι1 L1 H1 x1 rp1 q1 u ru => ?_)
  split at q1
  · cases ru with
    | r0 ru => cases ru; exact ⟨_, rfl, q1.ok rp1⟩
  · exact q1.elim
def cutL (xs : List LV) (lo hi : Option Int) : List LV := (xs.drop (HT.sIx xs.length 0 lo)).take (HT.sIx xs.length xs.length hi - HT.sIx xs.length 0 lo)
theorem Rs0.cut {vs : List LV} {us : List V} {lo hi : Option Int} (h : Rs0 K mg F ι vs us) : Rs0 K mg F ι (cutL vs lo hi) (cutV us lo hi) := by
  unfold cutL cutV
  rw [← h.length]
  exact (h.drop _).take _
/-- a new list -/
def aSl (mo : ME) (lo hi : MO) : MA := fun σ L => (mo σ L).bind fun o L1 => (lo σ L1).bind fun l L2 => (hi σ L2).bind fun h L3 => match seqL σ L3 o with
  | some vs => .ok (cutL vs l h) L3
  | none => .no
theorem jn_slice {e : Expr} {lo hi : Option Expr} {p2 pos : Pos} {mo : ME} {ml mh : MO} (he : JE X W e mo) (hl : JO X W lo ml) (hh : JO X W hi mh) : JN X W (.Subscript e (.Slice lo hi none p2) pos) (aSl mo ml mh) := by
  obtain ⟨t, p, s⟩ := he
  obtain ⟨tl, pl, sl⟩ := hl
  obtain ⟨th, ph, sh⟩ := hh
  refine ⟨_, pe_slice sl_list p pl ph, ?_⟩
  intro G F ι L H σl σ Q rp vr q
  refine s _ _ _ _ _ _ _ _ rp vr ((Pst.bind q).imp fun v F1 ι1 L1 H1 x1 rp1 q1 u ru => ?_)
  refine sl _ _ _ _ _ _ _ _ rp1 (vr.mono x1) ((Pst.bind q1).imp fun l F2 ι2 L2 H2 x2 rp2 q2 => ?_)
  refine sh _ _ _ _ _ _ _ _ rp2 (vr.mono (x1.trans x2)) ((Pst.bind q2).imp fun h F3 ι3 L3 H3 x3 rp3 q3 => ?_)
  split at q3
  · rename_i vs e
    obtain ⟨a, us, rfl, h1, h2⟩ := seqL_ok rp3 (vr.mono (x1.trans (x2.trans x3))) ((ru.mono x2).mono x3) e
    refine ⟨a, us, rfl, h1, fun p hp => ?_⟩
    obtain ⟨f1, f2, f3⟩ := rp3.fresh hp
    exact q3 F3 ι3 _ (Ext.refl _ _) (rp3.new hp) p _ upd_same f2 f1 f3 h2.cut
  · exact q3.elim
/-- list(e) -/
def aList (ma : MA) : MA := fun σ L => (ma σ L).bind fun xs L1 => match xs with
  | [.tup vs] => .ok vs L1
  | [x] => match seqL σ L1 x with
    | some vs => .ok vs L1
    | none => .no
  | _ => .no
theorem jn_list {p pos : Pos} {e : Expr} {m : MA} (hm : X.mg "list" = none) (ha : JA X W [e] m) (hg : Gl X "list" := by rfl) (he : starEach [e] X.env = (false, eval e X.env) :: starEach [] X.env := by rfl) (hpl : (backTo pos (starEach [] X.env)).any (·.1) = false := by rfl) : JN X W (.Call (.Name "list" p) [e] [] pos) (aList m) := by
  obtain ⟨t, pa, s⟩ := ha
  refine ⟨_, pe_callTy call_list_of hg hm (by decide +kernel) pa (he := he) (hpl := hpl), ?_⟩
  intro G F ι L H σl σ Q rp vr q
  refine s _ _ _ _ _ _ _ _ rp vr ((Pst.bind q).imp fun xs F1 ι1 L1 H1 x1 rp1 q1 us ru => ?_)
  split at q1
  · cases ru with
    | cons h t =>
      cases t
      cases h with
      | r0 h =>
        cases h with
        | tup h1 h2 =>
          refine ⟨_, _, rfl, .inr (Sub.sqT rp1.f h1), fun p hp => ?_⟩
          obtain ⟨f1, f2, f3⟩ := rp1.fresh hp
          exact q1 F1 ι1 _ (Ext.refl _ _) (rp1.new hp) p _ upd_same f2 f1 f3 h2
  · split at q1
    · rename_i vs e
      cases ru with
      | cons h t =>
        cases t
        obtain ⟨a, us, rfl, h1, h2⟩ := seqL_ok rp1 (vr.mono x1) h e
        refine ⟨_, _, rfl, .inl h1, fun p hp => ?_⟩
        obtain ⟨f1, f2, f3⟩ := rp1.fresh hp
        exact q1 F1 ι1 _ (Ext.refl _ _) (rp1.new hp) p _ upd_same f2 f1 f3 h2
    · exact q1.elim
  · exact q1.elim

/-! ### methods of built-in things -/
/-- s.m(e, ..) of a text, by values -/
def OpB (K : PySem.W.Frag) (mg : Str → Option Value) (r : V → List V → Hp → VK → Prop) (f : LV → List LV → SL → LH → O LV) : Prop := ∀ (W : XK) (G F : Hp) (ι : List Addr) (L : LH) (H : Hp) (σl : SL) (σ : St) (Q : VK) (x : LV) (u : V) (xs : List LV) (us : List V), Rep K mg G F ι L H → VR K mg G F ι σl σ → RV K mg σ F ι x u → RVs K mg σ F ι xs us →
  Pst K mg G F ι (f x xs σl L) (fun v F' ι' L' H' => ∀ u, RV K mg σ F' ι' v u → Q u H') W → r u us H Q
def eMt (f : LV → List LV → SL → LH → O LV) (mo : ME) (ma : MA) : ME := fun σ L => (mo σ L).bind fun o L1 => match o with
  | .str z => (ma σ L1).bind fun xs L2 => f (.str z) xs σ L2
  | _ => .no
theorem je_mt {o e : Expr} {es : List Expr} {name : Str} {apos cpos : Pos} {id : String} {r : V → List V → Hp → VK → Prop} {f : LV → List LV → SL → LH → O LV} {mo : ME} {ma : MA} (slot : Slot "str" name id) (hty : typeOf (.builtin id) = pure (.type "method_descriptor")) (hm : MtR X id r) (hf : OpB X.K X.mg r f) (ho : JE X W o mo) (ha : JA X W (e :: es) ma)
    (hbase : attributeBase o name X.env (eval o X.env) = eval o X.env := by rfl)
    (hfew : ((backTo cpos (starEach (e :: es) X.env)).all (fun x => !x.1) && (backToKw cpos (keywordEach [] X.env)).all (fun x => x.1.isSome) && decide ((e :: es).length + ([] : List Keyword).length + (if ([] : List Keyword).isEmpty then 0 else 1) < 30)) = true := by rfl)
    (hline : (apos.endLine == cpos.line) = true := by rfl) (hs : starEach (e :: es) X.env = (false, eval e X.env) :: starEach es X.env := by rfl) (hplain : (backTo cpos (starEach es X.env)).any (·.1) = false := by rfl) :
    JE X W (.Call (.Attribute o name apos) (e :: es) [] cpos) (eMt f mo ma) := by
  obtain ⟨to, po, so⟩ := ho
  obtain ⟨ta, pa, sa⟩ := ha
  refine ⟨_, pe_bm PySem.F.plainAttrs_str slot hty hm po pa hbase hfew hline hs hplain, ?_⟩
  intro G F ι L H σl σ Q rp vr q
  refine so _ _ _ _ _ _ _ _ rp vr ((Pst.bind q).imp fun v F1 ι1 L1 H1 x1 rp1 q1 u ru => ?_)
  split at q1
  · have ru0 := ru
    cases ru with
    | r0 ru =>
      cases ru
      refine ⟨rfl, sa _ _ _ _ _ _ _ _ rp1 (vr.mono x1) ((Pst.bind q1).imp fun xs F2 ι2 L2 H2 x2 rp2 q2 us rus => ?_)⟩
      exact hf _ _ _ _ _ _ _ _ _ _ _ _ _ rp2 (vr.mono (x1.trans x2)) (ru0.mono x2) rus q2
  · exact q1.elim
/-- s.index(t): found -/
def fSIdx : LV → List LV → SL → LH → O LV := fun x xs _ L => match x, xs with
  | .str a, [.str b] => match Builtin.Str.occurrences a b 0 a.length 1 with
    | i :: _ => .ok (.int (i : Nat)) L
    | [] => .no
  | _, _ => .no
theorem opB_sidx : OpB K mg (fun x xs H Q => ∃ a b i rest, x = .str a ∧ xs = [.str b] ∧ Builtin.Str.occurrences a b 0 a.length 1 = i :: rest ∧ Q (.int (i : Nat)) H) fSIdx := by
  intro W G F ι L H σl σ Q x u xs us rp vr ru rus q
  unfold fSIdx at q
  split at q
  · split at q
    · rename_i e
      cases ru with
      | r0 ru =>
        cases ru
        cases rus with
        | cons h t =>
          cases t
          cases h with
          | r0 h => cases h; exact ⟨_, _, _, _, rfl, rfl, e, q.ok rp _ (.r0 .int)⟩
    · exact q.elim
  · exact q.elim
/-- sep.join(xs) -/
def strs? : List LV → Option (List Str)
  | [] => some []
  | .str z :: r => (strs? r).map (z :: ·)
  | _ => none
theorem strs_ok : ∀ {vs : List LV} {us : List V} {zs : List Str}, Rs0 K mg F ι vs us → strs? vs = some zs → us = zs.map V.str
  | [], _, _, .nil, e => by cases e; rfl
  | .str z :: vs, _, _, .cons .str t, e => by
    unfold strs? at e
    cases q : strs? vs with
    | none => rw [q] at e; cases e
    | some ws => rw [q] at e; cases e; rw [strs_ok t q]; rfl
  | .non :: _, _, _, _, e => by cases e
  | .bl _ :: _, _, _, _, e => by cases e
  | .int _ :: _, _, _, _, e => by cases e
  | .ref _ :: _, _, _, _, e => by cases e
  | .loc _ :: _, _, _, _, e => by cases e
  | .tup _ :: _, _, _, _, e => by cases e
  | .lst _ :: _, _, _, _, e => by cases e
  | .rdl _ :: _, _, _, _, e => by cases e
  | .ins _ _ _ :: _, _, _, _, e => by cases e
def fJoin : LV → List LV → SL → LH → O LV := fun x xs σ L => match x, xs with
  | .str a, [y] => match seqL σ L y with
    | some vs => match strs? vs with
      | some ys => if (ys.map (·.length)).sum + ys.length * a.length ≤ 16777216 then .ok (.str (Txt.join a ys)) L else .no
      | none => .no
    | none => .no
  | _, _ => .no
theorem opB_join : OpB K mg (fun x xs H Q => ∃ a p, ∃ ys : List Str, x = .str a ∧ xs = [.ref p] ∧ (SqL K H p (ys.map V.str) ∨ SqT K H p (ys.map V.str)) ∧ (ys.map (·.length)).sum + ys.length * a.length ≤ 16777216 ∧ Q (.str (Txt.join a ys)) H) fJoin := by
  intro W G F ι L H σl σ Q x u xs us rp vr ru rus q
  unfold fJoin at q
  split at q
  · split at q
    · rename_i vs e1
      split at q
      · rename_i ys e2
        split at q
        · rename_i hz
          cases ru with
          | r0 ru =>
            cases ru
            cases rus with
            | cons h t =>
              cases t
              obtain ⟨a, zs, rfl, h1, h2⟩ := seqL_ok rp vr h e1
              have e3 := strs_ok h2 e2
              subst e3
              exact ⟨_, a, ys, rfl, rfl, .inl h1, hz, q.ok rp _ (.r0 .str)⟩
        · exact q.elim
      · exact q.elim
    · exact q.elim
  · exact q.elim

/-! ### raise -/
def sRaise (c : Str) : MS := fun σ L => .er c [] [] σ L
theorem js_raise {x m : Str} {C : Addr} {j : Nat} {p p2 pos pos' : Pos} (tk : Takes X W) (gC : X.mg x = some (.ref C)) (q : PySem.W.excIn X.K C [.type "ValueError", .type "Exception", .type "BaseException", .type "object"] "ValueError.__new__" = true) (kC : PySem.W.keepIn X.K (.ref C) = true) (h1 : PySem.W.subIn X.K (.ref C) (.type "BaseException") = some true) (h2 : PySem.W.typeIn X.K (.ref C) = some (.type "type")) (hg : Gl X x := by rfl)
    (hdb : (x == ("__debug__" : Str)) = false := by decide) (hc : X.calm = true := by rfl) : JS X W (.Raise (some (.Call (.Name x p) [.Constant (.str m) j p2] [] pos)) none pos') (sRaise x) := by
  refine ⟨_, ps_raise hc tk (pmk_own PySem.F.excBase_ValueError q gC kC (raises_own h1 h2) hg hdb), ?_⟩
  intro G F ι L σl σ H D sr q
  exact q F ι H σ C none (Ext.refl _ _) sr gC rfl

/-! ### a def -/
def startL (n : Nat) (args : List LV) : SL := args.map .val ++ List.replicate (n - args.length) .no
/-- how a def's body ends -/
def fin (o : SO) : O LV := match o with
  | .nx _ L' => .ok .non L'
  | .rt v L' => .ok v L'
  | .er c ns vs _ L' => .er c ns vs L'
  | _ => .no
/-- a def's mirror, of n slots -/
def mDef (n : Nat) (b : MS) : List LV → LH → O LV := fun args L => fin (b (startL n args) L)
theorem mDef_run {n : Nat} {b : MS} {args : List LV} {L : LH} : mDef n b args L = fin (b (startL n args) L) := rfl
theorem fin_nx {σ : SL} {L : LH} : fin (.nx σ L) = .ok .non L := rfl
theorem fin_rt {v : LV} {L : LH} : fin (.rt v L) = .ok v L := rfl
theorem fin_er {c : Str} {ns : List Str} {vs : List LV} {σ : SL} {L : LH} : fin (.er c ns vs σ L) = .er c ns vs L := rfl
theorem vr_start {n : Nat} {N : List Str} {args : List LV} {vs : List V} (h : Rs0 K mg F ι args vs) (hn : n = N.length) : VR K mg G F ι (startL n args) (L2.start N vs) := by
  subst hn
  have key : ∀ (i : Nat) (s : Sl), (startL N.length args)[i]? = some s → (∃ v u, s = .val v ∧ (L2.start N vs)[i]? = some (some u) ∧ R0 K mg F ι v u) ∨ s = .no := fun i s e => by
    unfold startL at e
    by_cases hi : i < args.length
    · rw [List.getElem?_append_left (by simpa using hi), List.getElem?_map] at e
      cases ea : args[i]? with
      | none => rw [ea] at e; cases e
      | some v =>
        rw [ea] at e
        obtain ⟨u, e1, e2⟩ := h.get ea
        refine .inl ⟨v, u, (Option.some.inj e).symm, ?_, e2⟩
        unfold L2.start
        rw [List.getElem?_append_left (by rw [List.length_map, ← h.length]; exact hi), List.getElem?_map, e1]
        rfl
    · rw [List.getElem?_append_right (by simpa using Nat.le_of_not_lt hi)] at e
      exact .inr (List.eq_of_mem_replicate (List.mem_of_getElem? e))
  refine ⟨by unfold startL L2.start; simp [h.length], fun i v e => ?_, fun i vs e => ?_⟩
  · rcases key i _ e with ⟨v', u, e1, e2, e3⟩ | e1
    · cases e1; exact ⟨u, e2, e3⟩
    · cases e1
  · rcases key i _ e with ⟨v', u, e1, e2, e3⟩ | e1
    · cases e1
    · cases e1
theorem sr_start {n : Nat} {N : List Str} {args : List LV} {vs : List V} (r : Rep K mg G F ι L H) (h : Rs0 K mg F ι args vs) (hn : n = N.length) : SRep K mg G F ι L (startL n args) (L2.start N vs) H := by
  have no : ∀ (i : Nat) (ws : LO), (startL n args)[i]? ≠ some (.own ws) := fun i ws e => by
    have h' := (vr_start (G := fun _ => none) h hn).own i ws e
    obtain ⟨a, _, z⟩ := h'
    obtain ⟨u, z⟩ := z.there
    cases z
  exact ⟨G, Sub.refl G, r, vr_start h hn, fun i ws a e _ => absurd e (no i ws), fun i j ws xs a e _ _ _ => absurd e (no i ws)⟩
section
variable {P : Program} {w : World} {base : Heap}
/-- where a def's body runs -/
abbrev dX (P : Program) (w : World) (K : PySem.W.Frag) (mg : Str → Option Value) (base : Heap) (N : List Str) (qual : Str) (st : Stmt) (f : Addr) (cdv : Value) (A : Around) (outer : List Env) (s : Shared) (H : Hp) (E : XK) : Cx := cxOf (L2.CX P w) P w K mg base N qual (defScope st) f cdv A outer s H E
abbrev dW (E : XK) : WX := fun cls d _ H' => E cls d H'
/-- what the body's proof is given -/
structure Here (X : Cx) (W : WX) (k : Nat) : Prop where
  hr : Room k X.A
  tk : Takes X W
  hp : PassesOwn (model X.prog X.w) X.A X.env X.xe
/-- THE RULE for a def -/
theorem def_ok {x qual : Str} {st : Stmt} {f : Addr} {fd : FuncData} {N ps : List Str} {k n : Nat} {b : MS} (D : Fun K x qual st f fd) (S : FnScope N ps (defScope st)) (hn : n = N.length)
    (hb : ∀ (cdv : Value) (A : Around) (outer : List Env) (s : Shared) (H : Hp) (E : XK), Here (dX P w K mg base N qual st f cdv A outer s H E) (dW E) k → JSs (dX P w K mg base N qual st f cdv A outer s H E) (dW E) (defBody st) b) : DefOk P w K mg base (k + 1) f fd ps (mDef n b) := by
  refine Fun.okX D S (fun vs H Q E h => ?_) fun cdv A outer s H vs Q E hr h => ?_
  · obtain ⟨G, F, ι, L, args, h1, h2, h3, h4⟩ := h
    rw [← h3.length, h1]
  · obtain ⟨G, F, ι, L, args, h1, h2, h3, h4⟩ := h
    obtain ⟨t, p, sm⟩ := hb cdv A outer s H E ⟨hr, takes_of rfl rfl rfl rfl, passes_of rfl⟩
    refine ⟨t, p, sm G F ι L (startL n args) (L2.start N vs) H _ (sr_start h2 h3 hn) ?_⟩
    unfold mDef at h4
    cases e : b (startL n args) L with
    | nx σ' L' =>
      rw [e] at h4
      exact fun F' ι' H' σ2 x ⟨GO, s2⟩ => h4 F' ι' H' x (s2.rep.sub s2.sub) _ .non
    | rt v L' => rw [e] at h4; exact fun F' ι' H' u x r ru => h4 F' ι' H' x r u ru
    | bk σ' L' => rw [e] at h4; exact h4.elim
    | ct σ' L' => rw [e] at h4; exact h4.elim
    | er c ns zs σ' L' => rw [e] at h4; exact fun F' ι' H' σ2 C d x ⟨GO, s2⟩ m q => h4 F' ι' H' C d x (s2.rep.sub s2.sub) m q
    | no => rw [e] at h4; exact h4.elim
end
/-! ### the law's own call -/
theorem rs_ints : ∀ ns : List Int, Rs0 K mg F ι (ns.map .int) (ns.map V.int)
  | [] => .nil
  | n :: ns => .cons .int (rs_ints ns)
theorem law_start {H : Hp} {a : Addr} {ns : List Int} {m : List LV → LH → O LV} {Q : VK} {E : XK} {L' : LH} (hS : SqL K H a (ns.map V.int)) (hm : m [.rdl (ns.map .int)] [] = .ok (.bl true) L') (hq : ∀ H', Q (.bl true) H') : spM K mg 1 m [.ref a] H Q E := by
  refine ⟨fun _ => none, H, [], [], [.rdl (ns.map .int)], rfl, ⟨Sub.refl H, (fun _ _ h => nomatch h), (fun _ _ h => nomatch h), rfl, (fun n m a h => nomatch h), (fun n a h => nomatch h), fun n a o h => nomatch h⟩, .cons (.rdl hS (rs_ints ns)) .nil, ?_⟩
  rw [hm]
  exact fun F' ι' H' x r u ru => by cases ru; exact hq H'
end
end Z
namespace Z
open PySem PySem.Spec L2
section
variable {X : Cx} {W : WX} {K : PySem.W.Frag} {mg : Str → Option Value} {G F H : Hp} {ι : List Addr} {L : LH} {σ : St} {σl : SL}

/-! ### fields -/
def fieldL {α : Type} (f : Str) : List Str → List α → Option α
  | n :: ns, v :: vs => if n = f then some v else fieldL f ns vs
  | _, _ => none
theorem fieldL_ok {f : Str} {v : LV} : ∀ {ns : List Str} {vs : List LV} {us : List V}, Rs0 K mg F ι vs us → fieldL f ns vs = some v → ∃ u, (ns.zip us).lookup f = some u ∧ R0 K mg F ι v u
  | n :: ns, w :: vs, u :: us, .cons h r, e => by
    rw [List.zip_cons_cons, List.lookup_cons]
    unfold fieldL at e
    by_cases q : n = f
    · rw [if_pos q] at e
      cases e
      have e2 : (f == n) = true := by rw [q]; exact beq_self_eq_true f
      rw [e2]
      exact ⟨u, rfl, h⟩
    · rw [if_neg q] at e
      have e2 : (f == n) = false := beq_eq_false_iff_ne.mpr fun z => q z.symm
      rw [e2]
      exact fieldL_ok r e
  | [], _, _, _, e => by cases e
  | _ :: _, [], _, _, e => by cases e
theorem fieldL_none {f : Str} : ∀ {ns : List Str} {vs : List LV} {us : List V}, Rs0 K mg F ι vs us → fieldL f ns vs = none → (ns.zip us).lookup f = none
  | n :: ns, w :: vs, u :: us, .cons h r, e => by
    rw [List.zip_cons_cons, List.lookup_cons]
    unfold fieldL at e
    by_cases q : n = f
    · rw [if_pos q] at e; cases e
    · rw [if_neg q] at e
      rw [show (f == n) = false from beq_eq_false_iff_ne.mpr fun z => q z.symm]
      exact fieldL_none r e
  | [], _, _, _, _ => by rw [List.zip_nil_left]; rfl
  | _ :: _, [], _, .nil, _ => by rw [List.zip_nil_right]; rfl
def putN (f : Str) : List Str → List Str
  | [] => [f]
  | n :: ns => if n = f then n :: ns else n :: putN f ns
def putV {α : Type} (f : Str) (x : α) : List Str → List α → List α
  | [], _ => [x]
  | n :: ns, v :: vs => if n = f then x :: vs else v :: putV f x ns vs
  | _ :: _, [] => []
theorem putF_zip {f : Str} {y : V} : ∀ {ns : List Str} {us : List V}, ns.length = us.length → putF f y (ns.zip us) = (putN f ns).zip (putV f y ns us) ∧ (putN f ns).length = (putV f y ns us).length
  | [], [], _ => ⟨rfl, rfl⟩
  | n :: ns, u :: us, h => by
    have h' : ns.length = us.length := Nat.succ.inj h
    obtain ⟨i1, i2⟩ := putF_zip (f := f) (y := y) h'
    rw [List.zip_cons_cons]
    unfold putF putN putV
    by_cases q : n = f
    · rw [if_pos q, if_pos q, if_pos q]
      exact ⟨rfl, by rw [List.length_cons, List.length_cons, h']⟩
    · rw [if_neg q, if_neg q, if_neg q, i1]
      exact ⟨rfl, by rw [List.length_cons, List.length_cons, i2]⟩
theorem putV_ok {f : Str} {v : LV} {y : V} (hv : R0 K mg F ι v y) : ∀ {ns : List Str} {vs : List LV} {us : List V}, ns.length = us.length → Rs0 K mg F ι vs us → Rs0 K mg F ι (putV f v ns vs) (putV f y ns us)
  | [], _, _, h, r => .cons hv .nil
  | n :: ns, v' :: vs, u :: us, h, .cons r rr => by
    unfold putV
    by_cases q : n = f
    · rw [if_pos q, if_pos q]; exact .cons hv rr
    · rw [if_neg q, if_neg q]; exact .cons r (putV_ok hv (Nat.succ.inj h) rr)
  | _ :: _, [], [], _, .nil => .nil
/-- an instance: its class, its fields -/
def insOf (σ : SL) (L : LH) : LV → Option (Str × List Str × List LV)
  | .ins c ns vs => some (c, ns, vs)
  | .ref n => match L[n]? with
    | some (.ins c ns vs) => some (c, ns, vs)
    | _ => none
  | .loc i => match σ[i]? with
    | some (.own (.ins c ns vs)) => some (c, ns, vs)
    | _ => none
  | _ => none
theorem insOf_ok {v : LV} {u : V} {c : Str} {ns : List Str} {vs : List LV} (r : Rep K mg G F ι L H) (vr : VR K mg G F ι σl σ) (hv : RV K mg σ F ι v u) (h : insOf σl L v = some (c, ns, vs)) :
    ∃ a C dx us, u = .ref a ∧ mg c = some (.ref C) ∧ H a = some (.ins C dx (ns.zip us)) ∧ ns.length = us.length ∧ Rs0 K mg F ι vs us := by
  unfold insOf at h
  split at h
  · cases h
    cases hv with
    | r0 hv => cases hv with | ins h1 h2 h3 h4 => exact ⟨_, _, _, _, rfl, h1, r.f _ _ h2, h3, h4⟩
  · split at h
    · rename_i e
      cases h
      cases hv with
      | r0 hv =>
        cases hv with
        | ref h1 => cases r.obj _ _ _ h1 e with | ins z1 z2 z3 z4 => exact ⟨_, _, _, _, rfl, z1, z2, z3, z4⟩
    · cases h
  · split at h
    · rename_i e
      cases h
      obtain ⟨a, h1, h2⟩ := vr.own _ _ e
      cases hv with
      | r0 hv => cases hv
      | loc q =>
        rw [q] at h1
        cases h1
        cases h2 with | ins z1 z2 z3 z4 => exact ⟨_, _, _, _, rfl, z1, r.g _ _ z2, z3, z4⟩
    · cases h
  · cases h
/-- the classes cs have f as a plain field -/
def FldF (K : PySem.W.Frag) (mg : Str → Option Value) (cs : List Str) (f : Str) : Prop := ∀ c, c ∈ cs → ∀ C, mg c = some (.ref C) → Cls K C ∧ NoAttr K C f
def fFld (cs : List Str) (f : Str) : LV → SL → LH → O LV := fun x σ L => match insOf σ L x with
  | some (c, ns, vs) => if cs.contains c = true then (match fieldL f ns vs with
    | some v => .ok v L
    | none => .no) else .no
  | none => .no
theorem mem_of_contains {c : Str} {cs : List Str} (h : cs.contains c = true) : c ∈ cs := by simpa using h
theorem je_fld {o : Expr} {f : Str} {pos : Pos} {cs : List Str} {m : ME} (hf : FldF X.K X.mg cs f) (ho : JE X W o m) (hb : attributeBase o f X.env (eval o X.env) = eval o X.env := by rfl) : JE X W (.Attribute o f pos) (e1 (fFld cs f) m) := by
  obtain ⟨t, p, s⟩ := ho
  refine ⟨_, pe_fld p hb, ?_⟩
  intro G F ι L H σl σ Q rp vr q
  refine s _ _ _ _ _ _ _ _ rp vr ((Pst.bind q).imp fun v F1 ι1 L1 H1 x1 rp1 q1 u ru => ?_)
  unfold fFld at q1
  split at q1
  · rename_i c ns vs e
    split at q1
    · rename_i hc
      split at q1
      · rename_i w ew
        obtain ⟨a, C, dx, us, rfl, h1, h2, h3, h4⟩ := insOf_ok rp1 (vr.mono x1) ru e
        obtain ⟨z1, z2⟩ := hf c (mem_of_contains hc) C h1
        obtain ⟨u', k1, k2⟩ := fieldL_ok h4 ew
        exact ⟨a, C, dx, _, u', rfl, h2, z1, z2, k1, q1.ok rp1 _ (.r0 k2)⟩
      · exact q1.elim
    · exact q1.elim
  · exact q1.elim
/-- o.f = e -/
def sFldM (cs : List Str) (f : Str) (mo me : ME) : MS := fun σ L => lift ((me σ L).bind fun v L1 => (mo σ L1).bind fun o L2 => if clean v = true then .ok (v, o) L2 else .no) σ fun p L2 => match insOf σ L2 p.2 with
  | some (c, ns, vs) => if (cs.contains c && decide (ns.length < 1000)) = true then (match p.2 with
    | .ref n => .nx σ (L2.set n (.ins c (putN f ns) (putV f p.1 ns vs)))
    | .loc i => .nx (σ.set i (.own (.ins c (putN f ns) (putV f p.1 ns vs)))) L2
    | _ => .no) else .no
  | none => .no
theorem js_fld {o e : Expr} {f : Str} {pos pos' : Pos} {cs : List Str} {mo me : ME} (hf : FldF X.K X.mg cs f) (ho : JE X W o mo) (he : JE X W e me) (hs : swapsWith e (some (.Attribute o f pos')) pos.line X.env = pure false := by rfl) : JS X W (.Assign [.Attribute o f pos'] e pos) (sFldM cs f mo me) := by
  obtain ⟨to, po, so⟩ := ho
  obtain ⟨te, pe, se⟩ := he
  refine ⟨_, ps_fld po pe hs, ?_⟩
  intro G F ι L σl σ H D sr q
  obtain ⟨GO, sr⟩ := sr
  have q0 := PstS.lift sr q
  refine se _ _ _ _ _ _ _ _ sr.rep sr.vr ((Pst.bind q0).imp fun v F1 ι1 L1 H1 x1 rp1 q1 u ru => ?_)
  refine so _ _ _ _ _ _ _ _ rp1 (sr.vr.mono x1) ((Pst.bind q1).imp fun ov F2 ι2 L2 H2 x2 rp2 q2 uo ruo => ?_)
  split at q2
  · rename_i hcl
    have q3 := q2.ok rp2
    have r0 := (ru.mono x2).clean hcl
    have vr2 := (sr.vr.mono x1).mono x2
    have sr2 := sr.ext (x1.trans x2) rp2
    simp only at q3
    split at q3
    · rename_i c ns vs e
      split at q3
      · rename_i hc
        rw [Bool.and_eq_true] at hc
        obtain ⟨a, C, dx, us, rfl, h1, h2, h3, h4⟩ := insOf_ok rp2 vr2 ruo e
        obtain ⟨z1, z2⟩ := hf c (mem_of_contains hc.1) C h1
        obtain ⟨p1, p2⟩ := putF_zip (f := f) (y := u) h3
        refine ⟨a, C, dx, _, rfl, h2, z1, z2, ?_, ?_⟩
        · rw [List.length_zip, ← h3, Nat.min_self]
          exact of_decide_eq_true hc.2
        · rw [p1]
          split at q3
          · rename_i n
            cases ruo with
            | r0 ruo =>
              cases ruo with
              | ref k1 =>
                have rw := rp2.write k1 (o := .ins c (putN f ns) (putV f v ns vs)) (u := .ins C dx ((putN f ns).zip (putV f u ns us))) (.ins h1 upd_same p2 (putV_ok r0 h3 h4))
                exact q3 F2 ι2 _ σ (Ext.refl _ _) ⟨GO, sr2.ext (Ext.refl _ _) rw⟩
          · rename_i i
            cases ruo with
            | r0 ruo => cases ruo
            | loc k1 =>
              obtain ⟨w, ew⟩ : ∃ w, σl[i]? = some (.own w) := by
                simp only [insOf] at e
                split at e
                · exact ⟨_, by assumption⟩
                · cases e
              exact q3 F2 ι2 _ σ (Ext.refl _ _) ⟨_, sr2.putOwn ew k1 (.ins h1 upd_same p2 (putV_ok r0 h3 h4))⟩
          · exact q3.elim
      · exact q3.elim
    · exact q3.elim
  · exact q2.elim

/-! ### lists that grow -/
/-- a list's method that leaves another list and hands back None -/
def LMod (K : PySem.W.Frag) (mg : Str → Option Value) (r : V → List V → Hp → VK → Prop) (g : List LV → List LV → Option (List LV)) : Prop := ∀ (F : Hp) (ι : List Addr) (vs as vs' : List LV) (us bs : List V), Rs0 K mg F ι vs us → Rs0 K mg F ι as bs → g vs as = some vs' →
  ∃ us', Rs0 K mg F ι vs' us' ∧ ∀ (a : Addr) (H : Hp) (Q : VK), H a = some (.lst us) → Q .non (upd H a (.lst us')) → r (.ref a) bs H Q
def gApp : List LV → List LV → Option (List LV) := fun vs as => match as with
  | [v] => if vs.length < sizeLine then some (vs ++ [v]) else none
  | _ => none
theorem lmod_app : LMod K mg rAppend gApp := by
  intro F ι vs as vs' us bs h h' e
  unfold gApp at e
  split at e
  · split at e
    · rename_i hz
      cases e
      cases h' with
      | cons r rr =>
        cases rr
        exact ⟨_, h.append (.cons r .nil), fun a H Q k q => ⟨a, us, _, rfl, rfl, k, by rw [← h.length]; exact hz, q⟩⟩
    · cases e
  · cases e
def rIns : V → List V → Hp → VK → Prop := fun x vs H Q => ∃ (l : Addr) (xs : List V) (i : Int) (y : V), x = .ref l ∧ vs = [.int i, y] ∧ H l = some (.lst xs) ∧ xs.length < sizeLine ∧ 0 ≤ i ∧ i < 2 ^ 63 ∧ Q .non (upd H l (.lst (xs.take i.toNat ++ [y] ++ xs.drop i.toNat)))
def gIns : List LV → List LV → Option (List LV) := fun vs as => match as with
  | [.int i, v] => if vs.length < sizeLine ∧ 0 ≤ i ∧ i < 2 ^ 63 then some (vs.take i.toNat ++ [v] ++ vs.drop i.toNat) else none
  | _ => none
theorem lmod_ins : LMod K mg rIns gIns := by
  intro F ι vs as vs' us bs h h' e
  unfold gIns at e
  split at e
  · split at e
    · rename_i hz
      cases e
      cases h' with
      | cons r rr =>
        cases r
        cases rr with
        | cons r rr =>
          cases rr
          exact ⟨_, ((h.take _).append (.cons r .nil)).append (h.drop _), fun a H Q k q => ⟨a, us, _, _, rfl, rfl, k, by rw [← h.length]; exact hz.1, hz.2.1, hz.2.2, q⟩⟩
    · cases e
  · cases e
def sMod (g : List LV → List LV → Option (List LV)) (mo : ME) (ma : MA) : MS := fun σ L => lift ((mo σ L).bind fun o L1 => match seqM σ L1 o with
  | some _ => (ma σ L1).bind fun vs L2 => if vs.all clean = true then .ok (o, vs) L2 else .no
  | none => .no) σ fun p L2 => match p.1 with
  | .ref n => match L2[n]? with
    | some (.lst vs) => match g vs p.2 with
      | some vs' => .nx σ (L2.set n (.lst vs'))
      | none => .no
    | _ => .no
  | .loc i => match σ[i]? with
    | some (.own (.lst vs)) => match g vs p.2 with
      | some vs' => .nx (σ.set i (.own (.lst vs'))) L2
      | none => .no
    | _ => .no
  | _ => .no
theorem sim_mod {r : V → List V → Hp → VK → Prop} {g : List LV → List LV → Option (List LV)} {to : TE} {ta : TA} {mo : ME} {ma : MA} (hg : LMod K mg r g) (so : SimE K mg W to mo) (sa : SimA K mg W ta ma) : SimS K mg W (tDrop (tBM K "list" r to ta)) (sMod g mo ma) := by
  intro G F ι L σl σ H D sr q
  obtain ⟨GO, sr⟩ := sr
  have q0 := PstS.lift sr q
  refine so _ _ _ _ _ _ _ _ sr.rep sr.vr ((Pst.bind q0).imp fun o F1 ι1 L1 H1 x1 rp1 q1 uo ruo => ?_)
  split at q1
  · rename_i ws e0
    obtain ⟨a, us, rfl, h1, h2⟩ := seqM_ok rp1 (sr.vr.mono x1) ruo e0
    refine ⟨.inl ⟨rfl, _, .of h1⟩, sa _ _ _ _ _ _ _ _ rp1 (sr.vr.mono x1) ((Pst.bind q1).imp fun vs F2 ι2 L2 H2 x2 rp2 q2 bs rbs => ?_)⟩
    split at q2
    · rename_i hc
      have q3 := q2.ok rp2
      have r0 := RVs.clean rbs hc
      have sr2 := sr.ext (x1.trans x2) rp2
      simp only at q3
      split at q3
      · rename_i n
        split at q3
        · rename_i zs ez
          split at q3
          · rename_i zs' eg
            cases ruo with
            | r0 ruo =>
              cases ruo with
              | ref k1 =>
                have k2 := x2.pre _ _ k1
                cases rp2.obj _ _ _ k2 ez with
                | lst z1 z2 =>
                  obtain ⟨us', y1, y2⟩ := hg _ _ _ _ _ _ _ z2 r0 eg
                  refine y2 a H2 _ z1 ?_
                  have rw := rp2.write k2 (o := .lst zs') (u := .lst us') (.lst upd_same y1)
                  exact q3 F2 ι2 _ σ (Ext.refl _ _) ⟨GO, sr2.ext (Ext.refl _ _) rw⟩
          · exact q3.elim
        · exact q3.elim
      · rename_i i
        split at q3
        · rename_i zs ez
          split at q3
          · rename_i zs' eg
            cases ruo with
            | r0 ruo => cases ruo
            | loc k1 =>
              obtain ⟨a', y0, y1⟩ := sr2.vr.own _ _ ez
              rw [k1] at y0
              cases y0
              cases y1 with
              | lst z1 z2 =>
                obtain ⟨us', y1, y2⟩ := hg _ _ _ _ _ _ _ z2 r0 eg
                refine y2 a H2 _ (rp2.g _ _ z1) ?_
                exact q3 F2 ι2 _ σ (Ext.refl _ _) ⟨_, sr2.putOwn ez k1 (.lst upd_same y1)⟩
          · exact q3.elim
        · exact q3.elim
      · exact q3.elim
    · exact q2.elim
  · exact q1.elim
theorem js_mod {o e : Expr} {es : List Expr} {name : Str} {apos cpos pos : Pos} {id : String} {r : V → List V → Hp → VK → Prop} {g : List LV → List LV → Option (List LV)} {mo : ME} {ma : MA} (slot : Slot "list" name id) (hty : typeOf (.builtin id) = pure (.type "method_descriptor")) (hm : MtR X id r) (hg : LMod X.K X.mg r g) (ho : JE X W o mo) (ha : JA X W (e :: es) ma)
    (hbase : attributeBase o name X.env (eval o X.env) = eval o X.env := by rfl) (hfew : ((backTo cpos (starEach (e :: es) X.env)).all (fun x => !x.1) && (backToKw cpos (keywordEach [] X.env)).all (fun x => x.1.isSome) && decide ((e :: es).length + ([] : List Keyword).length + (if ([] : List Keyword).isEmpty then 0 else 1) < 30)) = true := by rfl)
    (hline : (apos.endLine == cpos.line) = true := by rfl) (hs : starEach (e :: es) X.env = (false, eval e X.env) :: starEach es X.env := by rfl) (hplain : (backTo cpos (starEach es X.env)).any (·.1) = false := by rfl) (hsw : swapsWith (.Call (.Attribute o name apos) (e :: es) [] cpos) none pos.line X.env = pure false := by rfl) :
    JS X W (.Expr (.Call (.Attribute o name apos) (e :: es) [] cpos) pos) (sMod g mo ma) :=
  let ⟨_, po, so⟩ := ho; let ⟨_, pa, sa⟩ := ha; ⟨_, ps_expr (pe_bm PySem.F.plainAttrs_list slot hty hm po pa hbase hfew hline hs hplain) hsw, sim_mod hg so sa⟩
/-- xs.extend(ys) -/
def sExt (mo me : ME) : MS := fun σ L => lift ((mo σ L).bind fun o L1 => match seqM σ L1 o with
  | some _ => (me σ L1).bind fun y L2 => .ok (o, y) L2
  | none => .no) σ fun p L2 => match seqM σ L2 p.2 with
  | some ws => (match p.1 with
    | .ref n => match L2[n]? with
      | some (.lst vs) => if vs.length + ws.length ≤ sizeLine then .nx σ (L2.set n (.lst (vs ++ ws))) else .no
      | _ => .no
    | .loc i => match σ[i]? with
      | some (.own (.lst vs)) => if vs.length + ws.length ≤ sizeLine then .nx (σ.set i (.own (.lst (vs ++ ws)))) L2 else .no
      | _ => .no
    | _ => .no)
  | none => .no
theorem sim_ext {to te : TE} {mo me : ME} (so : SimE K mg W to mo) (se : SimE K mg W te me) : SimS K mg W (tDrop (tBM K "list" rExtend to (tCons te tNil))) (sExt mo me) := by
  intro G F ι L σl σ H D sr q
  obtain ⟨GO, sr⟩ := sr
  have q0 := PstS.lift sr q
  refine so _ _ _ _ _ _ _ _ sr.rep sr.vr ((Pst.bind q0).imp fun o F1 ι1 L1 H1 x1 rp1 q1 uo ruo => ?_)
  split at q1
  · rename_i ws e0
    obtain ⟨a, us, rfl, h1, h2⟩ := seqM_ok rp1 (sr.vr.mono x1) ruo e0
    refine ⟨.inl ⟨rfl, _, .of h1⟩, se _ _ _ _ _ _ _ _ rp1 (sr.vr.mono x1) ((Pst.bind q1).imp fun y F2 ι2 L2 H2 x2 rp2 q2 b rb => ?_)⟩
    have q3 := q2.ok rp2
    have sr2 := sr.ext (x1.trans x2) rp2
    simp only at q3
    split at q3
    · rename_i ws ew
      obtain ⟨b', bs, rfl, w1, w2⟩ := seqM_ok rp2 sr2.vr rb ew
      split at q3
      · rename_i n
        split at q3
        · rename_i zs ez
          split at q3
          · rename_i hz
            cases ruo with
            | r0 ruo =>
              cases ruo with
              | ref k1 =>
                have k2 := x2.pre _ _ k1
                cases rp2.obj _ _ _ k2 ez with
                | lst z1 z2 =>
                  refine ⟨a, b', _, _, rfl, rfl, z1, w1, by rw [← z2.length, ← w2.length]; exact hz, ?_⟩
                  have rw := rp2.write k2 (o := .lst (zs ++ ws)) (.lst upd_same (z2.append w2))
                  exact q3 F2 ι2 _ σ (Ext.refl _ _) ⟨GO, sr2.ext (Ext.refl _ _) rw⟩
          · exact q3.elim
        · exact q3.elim
      · rename_i i
        split at q3
        · rename_i zs ez
          split at q3
          · rename_i hz
            cases ruo with
            | r0 ruo => cases ruo
            | loc k1 =>
              obtain ⟨a', y0, y1⟩ := sr2.vr.own _ _ ez
              rw [k1] at y0
              cases y0
              cases y1 with
              | lst z1 z2 =>
                refine ⟨a, b', _, _, rfl, rfl, rp2.g _ _ z1, w1, by rw [← z2.length, ← w2.length]; exact hz, ?_⟩
                exact q3 F2 ι2 _ σ (Ext.refl _ _) ⟨_, sr2.putOwn ez k1 (.lst upd_same (z2.append w2))⟩
          · exact q3.elim
        · exact q3.elim
      · exact q3.elim
    · exact q3.elim
  · exact q1.elim
theorem js_ext {o e : Expr} {apos cpos pos : Pos} {mo me : ME} (ho : JE X W o mo) (he : JE X W e me)
    (hbase : attributeBase o "extend" X.env (eval o X.env) = eval o X.env := by rfl) (hfew : ((backTo cpos (starEach [e] X.env)).all (fun x => !x.1) && (backToKw cpos (keywordEach [] X.env)).all (fun x => x.1.isSome) && decide ([e].length + ([] : List Keyword).length + (if ([] : List Keyword).isEmpty then 0 else 1) < 30)) = true := by rfl)
    (hline : (apos.endLine == cpos.line) = true := by rfl) (hs : starEach [e] X.env = (false, eval e X.env) :: starEach [] X.env := by rfl) (hplain : (backTo cpos (starEach [] X.env)).any (·.1) = false := by rfl) (hsw : swapsWith (.Call (.Attribute o "extend" apos) [e] [] cpos) none pos.line X.env = pure false := by rfl) :
    JS X W (.Expr (.Call (.Attribute o "extend" apos) [e] [] cpos) pos) (sExt mo me) :=
  let ⟨_, po, so⟩ := ho; let ⟨_, pe, se⟩ := he; ⟨_, ps_expr (pe_bm PySem.F.plainAttrs_list PySem.F.slot_list_extend PySem.F.type_list_extend mt_extend po (pa_cons pe pa_nil hs) hbase hfew hline hs hplain) hsw, sim_ext so se⟩
end
end Z
namespace Z
open PySem PySem.Spec L2
section
variable {K : PySem.W.Frag} {mg : Str → Option Value} {GO G F H : Hp} {ι : List Addr} {L : LH} {σ : St} {σl : SL}
theorem at_set {α : Type} {l : List α} {i j : Nat} {x y : α} (h : (l.set i x)[j]? = some y) : (i = j ∧ x = y) ∨ (i ≠ j ∧ l[j]? = some y) := by
  rw [List.getElem?_set] at h
  split at h
  · split at h
    · cases h; exact .inl ⟨by assumption, rfl⟩
    · cases h
  · exact .inr ⟨by assumption, h⟩
/-- a slot that is not told any more -/
theorem SRep.unset {i : Nat} {u : Option V} (s : SRep K mg G F ι L σl σ H) : SRep K mg G F ι L (σl.set i .no) (σ.set i u) H := by
  obtain ⟨GO, s⟩ := s
  have one : ∀ {j : Nat} {w : Sl}, (σl.set i .no)[j]? = some w → w ≠ .no → i ≠ j ∧ σl[j]? = some w := fun h hw => by
    rcases at_set h with ⟨_, e⟩ | h
    · exact absurd e.symm hw
    · exact h
  have two : ∀ {j : Nat} {w : Option V}, i ≠ j → (σ.set i u)[j]? = some w → σ[j]? = some w := fun hn h => by
    rcases at_set h with ⟨e, _⟩ | h
    · exact absurd e hn
    · exact h.2
  have three : ∀ {j : Nat}, i ≠ j → (σ.set i u)[j]? = σ[j]? := fun hn => List.getElem?_set_ne hn
  refine ⟨GO, s.sub, s.rep, ⟨by rw [List.length_set, List.length_set, s.vr.len], fun j v h => ?_, fun j o h => ?_⟩, fun j o a h h2 => ?_, fun j k o p a h1 h2 h3 h4 => ?_⟩
  · obtain ⟨hn, h⟩ := one h (fun e => nomatch e)
    rw [three hn]; exact s.vr.val j v h
  · obtain ⟨hn, h⟩ := one h (fun e => nomatch e)
    rw [three hn]; exact s.vr.own j o h
  · obtain ⟨hn, h⟩ := one h (fun e => nomatch e)
    exact s.fr j o a h (two hn h2)
  · obtain ⟨hn, h1⟩ := one h1 (fun e => nomatch e)
    obtain ⟨hm, h2⟩ := one h2 (fun e => nomatch e)
    exact s.dis j k o p a h1 h2 (two hn h3) (two hm h4)
end
section
variable {X : Cx} {W : WX}
/-- what a suite's end is, slot i forgotten: no exception leaves it -/
def endI (i : Nat) : SO → SO
  | .nx σ L => .nx (σ.set i .no) L
  | .rt v L => .rt v L
  | .bk σ L => .bk (σ.set i .no) L
  | .ct σ L => .ct (σ.set i .no) L
  | _ => .no
def calmO : SO → SO
  | .er _ _ _ _ _ => .no
  | o => o
/-- try .. except X as n: which of the classes cs are met, what the suite does for one -/
def sTryAs (i : Nat) (cs : List (Str × List Str)) (hit : Str → Bool) (mb : MS) (ms : Str → List Str → List LV → MS) : MS := fun σ L => match mb σ L with
  | .er c ns vs σ1 L1 => if (c, ns) ∈ cs then (if hit c then endI i (ms c ns vs (σ1.set i .no) L1) else .er c ns vs σ1 L1) else .no
  | o => o
def sTry (cs : List (Str × List Str)) (hit : Str → Bool) (mb ms : MS) : MS := fun σ L => match mb σ L with
  | .er c ns vs σ1 L1 => if (c, ns) ∈ cs then (if hit c then calmO (ms σ1 L1) else .er c ns vs σ1 L1) else .no
  | o => o
/-- no exception's wish -/
def W0x : WX := fun _ _ _ _ => False
/-- a suite's statements, the exception a in slot i -/
def SimX (X : Cx) (i : Nat) (a : Addr) (d : Option Addr) (ns : List Str) (vs : List LV) (t : TS) (m : MS) : Prop := ∀ (G F : Hp) (ι : List Addr) (L : LH) (σl : SL) (σ : St) (H : Hp) (D : Ends), SRep X.K X.mg G F ι L σl σ H → σ[i]? = some (some (.ref a)) → RX X.K X.mg F ι d ns vs →
  PstS X.K X.mg G F ι (m σl L) D W0x → t D σ H
def JX (X : Cx) (i : Nat) (a : Addr) (d : Option Addr) (ns : List Str) (vs : List LV) (s : List Stmt) (m : MS) : Prop := ∃ t, PSs X s t ∧ SimX X i a d ns vs t m
/-- what stands ready for a class that may be met -/
structure Met (K : PySem.W.Frag) (mg : Str → Option Value) (cv : Value) (cs : List (Str × List Str)) (hit : Str → Bool) : Prop where
  exm : ∀ p ∈ cs, ∀ C, mg p.1 = some (.ref C) → PySem.W.exmOne K (.ref C) cv = some (hit p.1)
theorem js_try_as {x n : Str} {cv : Value} {i : Nat} {body suite : List Stmt} {b₀ : Stmt} {np pos pos' : Pos} {cs : List (Str × List Str)} {hit : Str → Bool} {mb : MS} {ms : Str → List Str → List LV → MS} (tk : Takes X W) (hs : X.stack = X.env :: X.outer) (hf : X.env.frame = some X.env.locals) (hN : X.N.Nodup) (hc : Names X x cv) (met : Met X.K X.mg cv cs hit)
    (hb : ∀ (pn : List (Addr × Obj)) (xe : Value → Shared → Prop) (W' : WX), Takes (X.tr pn xe) W' → PassesOwn (model X.prog X.w) X.A X.env xe → JSs (X.tr pn xe) W' body mb)
    (hsu : ∀ c ns, (c, ns) ∈ cs → hit c = true → ∀ C, X.mg c = some (.ref C) → ∀ (a : Addr) (oe : Obj) (d : Option Addr) (pn : List (Addr × Obj)) (vs : List LV), (ns = [] → d = none) → Zc (.ref C) d oe → (∃ us, oe.data = .fields us) → JX (X.suite a ((a, oe) :: pn)) i a d ns vs (b₀ :: suite) (ms c ns vs))
    (hi : X.N[i]? = some n := by rfl) (hln : X.env.kindOf n = some .local := by rfl) :
    JS X W (.Try body [.ExceptHandler (some (.Name x np)) (some n) (b₀ :: suite) pos'] [] [] pos) (sTryAs i cs hit mb ms) := by
  refine ⟨_, ps_try_as (c := cv) (i := i) hs hf hN hi hln hc tk
    (tb := fun W' D σ H => ∀ (pn : List (Addr × Obj)) (xe : Value → Shared → Prop), Takes (X.tr pn xe) W' → PassesOwn (model X.prog X.w) X.A X.env xe → ∃ t, PSs (X.tr pn xe) body t ∧ t D σ H)
    (ts := fun a cls d D σ H => ∀ (oe : Obj) (pn : List (Addr × Obj)), Zc cls d oe → (∃ us, oe.data = .fields us) → ∃ t, PSs (X.suite a ((a, oe) :: pn)) (b₀ :: suite) t ∧ (i < σ.length → t D σ H))
    (fun W' pn xe t1 po => ⟨fun pins s σ H D I h => by
      obtain ⟨t, p, q⟩ := h pn xe t1 po
      exact p.run pins s σ H D I q⟩)
    (fun a oe cls d pn z1 z2 => ⟨fun pins s σ H D I h => by
      obtain ⟨t, p, q⟩ := h oe pn z1 z2
      exact p.run pins s σ H D I (q (by rw [I.len]; exact (List.getElem?_eq_some_iff.mp hi).1))⟩), ?_⟩
  intro G F ι L σl σ H D sr q
  show ∀ (pn : List (Addr × Obj)) (xe : Value → Shared → Prop), Takes (X.tr pn xe) _ → _ → _
  intro pn xe t1 po
  obtain ⟨t, p, sm⟩ := hb pn xe _ t1 po
  refine ⟨t, p, sm G F ι L σl σ H D sr ?_⟩
  unfold sTryAs at q
  show PstS X.K X.mg G F ι (mb σl L) D _
  cases e : mb σl L with
  | nx s' L' => rw [e] at q; exact q
  | rt v L' => rw [e] at q; exact q
  | bk s' L' => rw [e] at q; exact q
  | ct s' L' => rw [e] at q; exact q
  | no => rw [e] at q; exact q
  | er c ns vs s' L' =>
    rw [e] at q
    simp only at q
    intro F' ι' H' σ' C d x1 sr1 hC rx
    split at q
    · rename_i hin
      refine ⟨hit c, met.exm (c, ns) hin C hC, fun hh a na oe pn' z1 z2 => ?_, fun hh => ?_⟩
      · rw [if_pos hh] at q
        obtain ⟨t', p', sx⟩ := hsu c ns hin hh C hC a oe d pn' vs (fun e => by subst e; exact rx) z1 z2
        refine ⟨t', p', fun hlt => sx G F' ι' L' (s'.set i .no) (σ'.set i (some (.ref a))) H' _ (sr1.unset) ?_ rx ?_⟩
        · rw [List.length_set] at hlt
          exact List.getElem?_set_self hlt
        · have q := q.ext x1
          cases e2 : ms c ns vs (s'.set i .no) L' with
          | nx s2 L2 => rw [e2] at q; exact fun F2 ι2 H2 σ2 x2 r2 => q F2 ι2 H2 _ x2 r2.unset
          | rt v L2 => rw [e2] at q; exact q
          | bk s2 L2 => rw [e2] at q; exact fun F2 ι2 H2 σ2 x2 r2 => q F2 ι2 H2 _ x2 r2.unset
          | ct s2 L2 => rw [e2] at q; exact fun F2 ι2 H2 σ2 x2 r2 => q F2 ι2 H2 _ x2 r2.unset
          | er c2 n2 v2 s2 L2 => rw [e2] at q; exact q.elim
          | no => rw [e2] at q; exact q.elim
      · rw [if_neg (by simp [hh])] at q
        exact q F' ι' H' σ' C d x1 sr1 hC rx
    · exact q.elim
theorem js_try {x : Str} {cv : Value} {body suite : List Stmt} {b₀ : Stmt} {np pos pos' : Pos} {cs : List (Str × List Str)} {hit : Str → Bool} {mb ms : MS} (tk : Takes X W) (hs : X.stack = X.env :: X.outer) (hf : X.env.frame = some X.env.locals) (hc : Names X x cv) (met : Met X.K X.mg cv cs hit)
    (hb : ∀ (pn : List (Addr × Obj)) (xe : Value → Shared → Prop) (W' : WX), Takes (X.tr pn xe) W' → PassesOwn (model X.prog X.w) X.A X.env xe → JSs (X.tr pn xe) W' body mb)
    (hsu : ∀ (a : Addr) (oe : Obj) (pn : List (Addr × Obj)), JSs (X.suite a ((a, oe) :: pn)) W0x (b₀ :: suite) ms) :
    JS X W (.Try body [.ExceptHandler (some (.Name x np)) none (b₀ :: suite) pos'] [] [] pos) (sTry cs hit mb ms) := by
  refine ⟨_, ps_try_only (c := cv) hs hf hc tk
    (tb := fun W' D σ H => ∀ (pn : List (Addr × Obj)) (xe : Value → Shared → Prop), Takes (X.tr pn xe) W' → PassesOwn (model X.prog X.w) X.A X.env xe → ∃ t, PSs (X.tr pn xe) body t ∧ t D σ H)
    (ts := fun a cls d D σ H => ∀ (oe : Obj) (pn : List (Addr × Obj)), ∃ t, PSs (X.suite a ((a, oe) :: pn)) (b₀ :: suite) t ∧ t D σ H)
    (fun W' pn xe t1 po => ⟨fun pins s σ H D I h => by
      obtain ⟨t, p, q⟩ := h pn xe t1 po
      exact p.run pins s σ H D I q⟩)
    (fun a oe cls d pn z1 z2 => ⟨fun pins s σ H D I h => by
      obtain ⟨t, p, q⟩ := h oe pn
      exact p.run pins s σ H D I q⟩), ?_⟩
  intro G F ι L σl σ H D sr q
  show ∀ (pn : List (Addr × Obj)) (xe : Value → Shared → Prop), Takes (X.tr pn xe) _ → _ → _
  intro pn xe t1 po
  obtain ⟨t, p, sm⟩ := hb pn xe _ t1 po
  refine ⟨t, p, sm G F ι L σl σ H D sr ?_⟩
  unfold sTry at q
  show PstS X.K X.mg G F ι (mb σl L) D _
  cases e : mb σl L with
  | nx s' L' => rw [e] at q; exact q
  | rt v L' => rw [e] at q; exact q
  | bk s' L' => rw [e] at q; exact q
  | ct s' L' => rw [e] at q; exact q
  | no => rw [e] at q; exact q
  | er c ns vs s' L' =>
    rw [e] at q
    simp only at q
    intro F' ι' H' σ' C d x1 sr1 hC rx
    split at q
    · rename_i hin
      refine ⟨hit c, met.exm (c, ns) hin C hC, fun hh a na oe pn' => ?_, fun hh => ?_⟩
      · rw [if_pos hh] at q
        obtain ⟨t', p', sx⟩ := hsu a oe pn'
        refine ⟨t', p', sx G F' ι' L' s' σ' H' _ sr1 ?_⟩
        have q := q.ext x1
        cases e2 : ms s' L' with
        | nx s2 L2 => rw [e2] at q; exact q
        | rt v L2 => rw [e2] at q; exact q
        | bk s2 L2 => rw [e2] at q; exact q
        | ct s2 L2 => rw [e2] at q; exact q
        | er c2 n2 v2 s2 L2 => rw [e2] at q; exact q.elim
        | no => rw [e2] at q; exact q.elim
      · rw [if_neg (by simp [hh])] at q
        exact q F' ι' H' σ' C d x1 sr1 hC rx
    · exact q.elim

/-! ### what a suite asks of its exception -/
def CT (X : Cx) (i : Nat) (a : Addr) (e : Expr) (b : Bool) : Prop := ∃ t, PT X e t ∧ ∀ σ H Q, σ[i]? = some (some (V.ref a)) → Q b H → t σ H Q
def CW (X : Cx) (i : Nat) (a : Addr) (e : Expr) (b : Bool) : Prop := ∃ t, PW X e t ∧ ∀ σ H Q, σ[i]? = some (some (V.ref a)) → Q b H → t σ H Q
variable {i : Nat} {a : Addr}
theorem ct_w {e : Expr} {b : Bool} (h : CW X i a e b) : CT X i a e b := let ⟨_, p, s⟩ := h; ⟨_, p.pt, s⟩
theorem ct_not {e : Expr} {b : Bool} {pos : Pos} (h : CT X i a e b) : CT X i a (.UnaryOp .Not e pos) (!b) := let ⟨_, p, s⟩ := h; ⟨_, pt_not p, fun σ H Q hi q => s σ H _ hi q⟩
theorem cw_and1 {e : Expr} {b : Bool} {pos : Pos} (h : CT X i a e b) : CW X i a (.BoolOp .And [e] pos) b := let ⟨_, p, s⟩ := h; ⟨_, pw_and1 p, s⟩
theorem cw_and {e f : Expr} {rest : List Expr} {b c : Bool} {pos : Pos} (h : CT X i a e b) (h' : CW X i a (.BoolOp .And (f :: rest) pos) c) : CW X i a (.BoolOp .And (e :: f :: rest) pos) (b && c) := by
  obtain ⟨_, p, s⟩ := h
  obtain ⟨_, p', s'⟩ := h'
  refine ⟨_, pw_and p p', fun σ H Q hi q => s σ H _ hi ?_⟩
  cases b with
  | true => exact s' σ H _ hi q
  | false => exact q
theorem ct_isi {oe : Obj} {pn : List (Addr × Obj)} {D : Addr} {T : Str} {p pos pt px : Pos} {x : Str} {w : V} {cv : Value} {b : Bool} (C : ExcC X.K D) (hz : Zc (.ref D) none oe) (hf : ∃ vs, oe.data = .fields vs) (hgi : Gl X "isinstance") (hmi : X.mg "isinstance" = none)
    (pT : ∃ t, PE (X.suite a ((a, oe) :: pn)) (.Name T pt) t ∧ ∀ σ H Q, Q w H → t σ H Q) (hw : ∀ u, RelV w u → u = cv) (hk : PySem.W.kitOne X.K (.ref D) cv = some b)
    (hN : X.N[i]? = some x := by rfl) (hv : Vis X.env.scope x := by first | exact Or.inl rfl | exact Or.inr (Or.inl rfl) | exact Or.inr (Or.inr rfl)) (hd : (x == ("__debug__" : Str)) = false := by decide) (hcd : (x == ("__classdict__" : Str)) = false := by decide)
    (he : starEach (.Name x px :: [.Name T pt]) X.env = (false, eval (.Name x px) X.env) :: starEach [.Name T pt] X.env := by rfl) (hpl : (backTo pos (starEach [.Name T pt] X.env)).any (·.1) = false := by rfl) (he2 : starEach [.Name T pt] X.env = (false, eval (.Name T pt) X.env) :: starEach [] X.env := by rfl) :
    CT (X.suite a ((a, oe) :: pn)) i a (.Call (.Name "isinstance" p) (.Name x px :: [.Name T pt]) [] pos) b := by
  obtain ⟨tT, pT, qT⟩ := pT
  refine ⟨_, pt_val (pe_callB (call_isE (X := X) C hz hf) hgi hmi (by decide +kernel) (pa_cons (pe_var (i := i) hN hv hd hcd) (pa_cons pT pa_nil he2) he) (he := he) (hpl := hpl)) (by intro _; rfl), fun σ H Q hi q => ?_⟩
  exact ⟨.ref a, hi, qT σ H _ ⟨w, cv, b, rfl, hw, hk, b, rfl, q⟩⟩

/-! ### a suite's statements -/
variable {d : Option Addr} {ns : List Str} {vs : List LV}
theorem jx_of {s : List Stmt} {m : MS} (h : JSs X W0x s m) : JX X i a d ns vs s m := let ⟨_, p, q⟩ := h; ⟨_, p, fun G F ι L σl σ H D sr _ _ w => q G F ι L σl σ H D sr w⟩
/-- if the test holds the body, else nothing -/
theorem jx_if {e : Expr} {b : Bool} {body : List Stmt} {m : MS} {pos : Pos} (h : CT X i a e b) (hb : JX X i a d ns vs body m) : JX X i a d ns vs [.If e body [] pos] (if b then m else sNil) := by
  obtain ⟨t, p, q⟩ := h
  obtain ⟨u, p', q'⟩ := hb
  refine ⟨_, pss_one (ps_if p p' pss_nil), fun G F ι L σl σ H D sr hi rx w => ?_⟩
  refine q σ H _ hi ?_
  cases b with
  | true => exact q' G F ι L σl σ H D sr hi rx w
  | false => exact w F ι H σ (Ext.refl _ _) sr
/-- return e.f -/
theorem jx_ret {e : Expr} {v : LV} {u : V} {pos : Pos} (h : ∃ t, PE X e t ∧ ∀ (G F : Hp) (ι : List Addr) (L : LH) (H : Hp) σ Q, σ[i]? = some (some (V.ref a)) → Rep X.K X.mg G F ι L H → RX X.K X.mg F ι d ns vs → (∀ u, R0 X.K X.mg F ι v u → Q u H) → t σ H Q) : JX X i a d ns vs [.Return (some e) pos] (fun _ L => .rt v L) := by
  obtain ⟨t, p, q⟩ := h
  refine ⟨_, pss_one (ps_ret p), fun G F ι L σl σ H D sr hi rx w => ?_⟩
  obtain ⟨GO, sr⟩ := sr
  exact q GO F ι L H σ _ hi sr.rep rx fun u hu => w F ι H u (Ext.refl _ _) (sr.rep.sub sr.sub) hu
/-- return e.f, f a field of the exception's own -/
theorem jx_why {C : Addr} {oe : Obj} {pn : List (Addr × Obj)} {f x : Str} {v : LV} {pos px rp : Pos} (T : XfC X.K C) (hno : PySem.W.findIn X.K (.ref C) f = some none) (hz : Zc (.ref C) d oe) (hf : ∃ us, oe.data = .fields us) (k : fieldL f ns vs = some v)
    (hN : X.N[i]? = some x := by rfl) (hv : Vis X.env.scope x := by first | exact Or.inl rfl | exact Or.inr (Or.inl rfl) | exact Or.inr (Or.inr rfl)) (hd : (x == ("__debug__" : Str)) = false := by decide) (hcd : (x == ("__classdict__" : Str)) = false := by decide)
    (hb : attributeBase (.Name x px) f X.env (eval (.Name x px) X.env) = eval (.Name x px) X.env := by rfl) :
    JX (X.suite a ((a, oe) :: pn)) i a d ns vs [.Return (some (.Attribute (.Name x px) f pos)) rp] (fun _ L => .rt v L) := by
  refine jx_ret (u := .non) ⟨_, pe_xf (X := X) T hno hz hf (pe_var (i := i) hN hv hd hcd) hb, fun G F ι L H σ Q hi rp rx q => ?_⟩
  unfold RX at rx
  split at rx
  · unfold fieldL at k; cases k
  · obtain ⟨dx, us, rfl, e, _, r⟩ := rx
    obtain ⟨u, e2, ru⟩ := fieldL_ok r k
    exact ⟨.ref a, hi, rfl, rfl, dx, _, u, rfl, rp.f _ _ e, e2, q u ru⟩
end
end Z
/-! a comprehension whose steps raise -/
namespace Z
open PySem PySem.Spec L2 PySem.HandSPX
theorem note_same {u : Value} {c e : Env} (h : c.frame = e.frame) : noteFrame u c = noteFrame u e := by
  unfold noteFrame frameOf
  rw [h]
theorem pass_same {α : Type} {w : String} {u : Value} {c e : Env} (h : c.frame = e.frame) : (passOn w u c : Sem α) = passOn w u e := by
  unfold passOn
  rw [h]
section
variable {M : Model} {A : Around} {E : Value → Shared → Prop} {s : Shared} {env : Env} {outer l : List Env} {L a C : Addr} {Zp : Obj → Prop} {B : Heap}
/-- noted by the frame L, whatever flew -/
theorem note_all {fl : Value} {Q : Unit → Shared → Prop} (st : HandSPX.Steady Zp) (fr : A.frames = some (env :: outer)) (fe : env.frame = some L) (k1 : B.StaysIn s.heap) (k2 : B.get? a = none) (k3 : s.heap.FunFrames B (env :: outer)) (k4 : HandSPX.TracedZ s.heap B a Zp fl)
    (q : ∀ h', HandSPX.HeldZ B (env :: outer) a Zp L h' → s.heap.UpToSlots h' → Q () { s with heap := h' }) : wpAny M A (noteFrame (.ref a) env) Q E s := by
  by_cases hq : (fl == rawInt L) = true
  · have hq' : fl = rawInt L := eq_of_beq hq
    subst hq'
    exact againZ fe k4 (q s.heap ⟨k1, k2, k3, k4⟩ (Heap.UpToSlots.refl _))
  · obtain ⟨ox, vx, T, ot, vt, g1, g2, g3, g4, g5, g6, g7, g8, g9⟩ := k4
    have keepT : ∀ b, b ≠ T → (s.heap.update T (Obj.mapFields (·.setIfInBounds 3 Value.none))).get? b = s.heap.get? b := fun b n => Heap.get?_update_other _ _ n.symm
    have notT : ∀ b o, s.heap.get? b = some o → (∀ ws, o.data ≠ .fields ws) → b ≠ T := fun b o e1 e2 e3 => by
      subst e3
      rw [g7] at e1
      cases e1
      exact e2 _ g8
    unfold noteFrame
    simp only [fe]
    refine wpAny_bind (wpAny_field g1 g3 g4 ?_)
    rw [if_pos (show (Value.ref T != Value.none) = true by simp)]
    refine wpAny_bind (wpAny_field g7 g8 g9 ?_)
    rw [if_neg hq]
    refine wpAny_bind (wpAny_setField g7 g8 (Array.getElem?_eq_some_iff.mp g9).1 ?_)
    refine HandSPX.wpAny_entryZ st fr (k3.of_keeps fun b o e1 e2 => ⟨o, by rw [keepT b (notT b o e1 e2)]; exact e1, rfl⟩) fe (by rw [keepT a (Ne.symm g6)]; exact g1) (fun b o e1 => ?_) k2 g3 (Array.getElem?_eq_some_iff.mp g4).1 g2 fun h' hN => ?_
    · rw [keepT b (fun z => by subst z; rw [g5] at e1; cases e1)]
      exact k1 b o e1
    · obtain ⟨n1, n2, n3, n4⟩ := hN
      exact q h' ⟨n1, k2, n2, n3⟩ fun b o e1 e2 => n4 b o (by rw [keepT b (notT b o e1 e2)]; exact e1) e2
/-- the object C changed, and off the ground -/
theorem held_but {oC : Obj} {h h' : Heap} (k : HandSPX.HeldZ B l a Zp L h) (hC : B.get? C = some oC) (nf : ∀ vs, oC.data ≠ .fields vs) (sb : Heap.SameBut C h h') : HandSPX.HeldZ (PySem.W.hideAll B [C]) l a Zp L h' := by
  obtain ⟨k1, k2, k3, ox, vx, T, ot, vt, g1, g2, g3, g4, g5, g6, g7, g8, g9⟩ := k
  have gone : ∀ b, B.get? b = none → (PySem.W.hideAll B [C]).get? b = none := fun b e => by
    cases q : (PySem.W.hideAll B [C]).get? b with
    | none => rfl
    | some o => rw [PySem.W.of_hideAll _ q] at e; cases e
  have nC : ∀ b, B.get? b = none → b ≠ C := fun b e z => by subst z; rw [hC] at e; cases e
  have frames : ∀ l : List Env, h.FunFrames B l → h'.FunFrames (PySem.W.hideAll B [C]) l := fun l => by
    induction l with
    | nil => exact fun _ => trivial
    | cons v r ih =>
      rintro ⟨f1, ⟨x, o, f2, f3, f4, f5⟩, f6⟩
      exact ⟨f1, ⟨x, o, f2, gone x f3, by rw [sb.2 x (nC x f3)]; exact f4, f5⟩, ih f6⟩
  refine ⟨fun b o e => ?_, gone a k2, frames l k3, ox, vx, T, ot, vt, by rw [sb.2 a (nC a k2)]; exact g1, g2, g3, g4, gone T g5, g6, by rw [sb.2 T (nC T g5)]; exact g7, g8, g9⟩
  have n : b ≠ C := fun z => by
    subst z
    rw [PySem.W.hideAll_none [b] (List.mem_singleton.mpr rfl)] at e
    cases e
  rw [sb.2 b n]
  exact k1 b o (PySem.W.of_hideAll _ e)
end
section
variable {M : Model} {A : Around} {E : Value → Shared → Prop} {s : Shared} {env : Env}
/-- where a comprehension that gives its value ends -/
def compEnd (M : Model) (A : Around) (E : Value → Shared → Prop) (Q : Value → Shared → Prop) (acc : Value) (env ce : Env) (r : Result) (s' : Shared) : Prop := match r with
  | .ok _ => ∃ m, s'.heap.Ns ce.locals m ∧ ∀ h', Heap.SameBut ce.locals s'.heap h' → Q acc { s' with heap := h' }
  | .error x => ∃ m, s'.heap.Ns ce.locals m ∧ ∀ h', Heap.SameBut ce.locals s'.heap h' → wpAny M A (PySem.passOn "comprehension.variables-let-go" x ce : Sem Value) (fun _ _ => False) E { s' with heap := h' }
theorem comp_runs {e : Expr} {scope : Scope} {pos : Pos} {newAcc first : Sem Value} {g : Comprehension} {gs : List Comprehension} {cl : List (Str × Addr)} {Q : Value → Shared → Prop} (c1 : clausesOf e = g :: gs) (c2 : ∀ x, foldedSetIterable g.iter env x = pure x) (c3 : closureFor scope env = pure cl) (c4 : scope.kind = .function) (c5 : ∀ y ∈ scope.names, y.2 = .local → scope.names.lookup y.1 = some .local)
    (h : wpAny M A first (fun x s1 => wpAny M A (pyIter x) (fun it s2 => wpAny M A newAcc (fun acc s3 => wpAny M A (newFunctionEnv scope env.globals cl [] env.qual none .none (some env)) (fun ce s4 =>
      codeAny M A (.compStart e 0 it acc { ce with scope := relabel scope env }) (compEnd M A E Q acc env { ce with scope := relabel scope env }) s4) E s3) E s2) E s1) E s) : wpAny M A (comprehension e scope env pos newAcc false first) Q E s := by
  unfold comprehension
  rw [c3, c1]
  refine wpAny_bind (wpAny_mono h (fun x s1 h1 => ?_) fun _ _ z => z)
  refine wpAny_bind (wpAny_standAt ?_)
  refine wpAny_bind (wpAny_of_eq (c2 x) ?_)
  refine wpAny_bind (wpAny_holding (wpAny_mono h1 (fun it s2 h2 => ?_) fun _ _ z => z))
  refine wpAny_standIf ?_
  refine wpAny_bind (wpAny_mono h2 (fun acc s3 h3 => ?_) fun _ _ z => z)
  refine wpAny_bind (wpAny_pure ?_)
  refine wpAny_bind (wpAny_mono h3 (fun ce s4 h4 => ?_) fun _ _ z => z)
  dsimp only
  have loc : ∀ y ∈ (scope.names.filter fun x => (x.2 == .local || x.2 == .cell) && x.1 != (".0" : Str)).reverse, y.2 = .local → Env.kindOf { ce with scope := relabel scope env } y.1 = some .local := fun y hy e1 =>
    lookup_relabel_local (c5 y (List.mem_filter.mp (List.mem_reverse.mp hy)).1 e1)
  refine wpAny_holding (wpAny_bind (wpAny_attempt (wpAny_holding (wpAny_run (codeAny_mono h4 fun r s5 h5 => ?_)))))
  cases r with
  | ok f =>
    obtain ⟨m, n1, n2⟩ := h5
    exact wpAny_bind (wpAny_holding (wpAny_comp_letGo (cenv := { ce with scope := relabel scope env }) c4 _ s5 m loc n1 fun h' m' _ sb => wpAny_pure (n2 h' sb)))
  | error x =>
    obtain ⟨m, n1, n2⟩ := h5
    exact wpAny_bind (wpAny_holding (wpAny_comp_letGo (cenv := { ce with scope := relabel scope env }) c4 _ s5 m loc n1 fun h' m' _ sb => wpAny_mono (n2 h' sb) (fun _ _ z => z.elim) fun _ _ z => z))
end
section
variable {X : Cx} {W W' : WX} {pins pn : List (Addr × Obj)} {σ : L2.St} {H3 : Hp} {s3 s' : Shared} {scope : Scope} {ce : Env} {fp : List Addr} {xe : Value → Shared → Prop}
/-- an exception of the block, in the air of the def -/
theorem blk_raise {u : Value} {Q : Value → Shared → Prop} {acc : Value} (tk : Takes X W) (hs : X.stack = X.env :: X.outer) (hf : X.env.frame = some X.env.locals) (I3 : Inv X pins σ H3 s3) (hL : ce.locals = s3.heap.objs.size) (hfr : ce.frame = X.env.frame) (f3 : ∀ b ∈ fp, FpOk X pins H3 b ∧ b < s3.heap.objs.size)
    (hW : ∀ cls d σ' H', W' cls d σ' H' → W cls d σ H') (x : XE ((X.blk s3 H3 scope ce fp).tr pn xe) W' u s') : notedBy (model X.prog X.w) X.A ce (fun e s2 => compEnd (model X.prog X.w) X.A X.xe Q acc X.env ce (.error e) s2) u s' := by
  obtain ⟨a, B, sI, pins', σ', H', cls, d, rfl, J, nb, up, sky, na, os, ag, w⟩ := x
  have Jb : Inv X pins σ H' sI := I3.call' (ch := fp) J.os J.base J.hok J.bare fun b hb => ⟨(f3 b hb).1.2.2.2.1, (f3 b hb).1.2.1, (f3 b hb).1.2.2.2.2.1, (f3 b hb).1.2.2.2.2.2⟩
  have nC : H' ce.locals = none := J.free
  obtain ⟨m, ⟨oC, es, ep, eC, dC, r⟩, _⟩ := J.loc
  have eC : sI.heap.get? ce.locals = some oC := eC
  obtain ⟨f0, f1, f2, f4, f5, f6⟩ := I3.fpOk (b := ce.locals) (Nat.le_of_eq hL.symm) nC
  have notF : ce.locals ∉ frs X.stack := fun hm => by
    rw [hs] at hm
    unfold frs at hm
    rw [List.filterMap_cons, hf] at hm
    rcases List.mem_cons.mp hm with z | z
    · exact f1 z
    · exact f2 z
  have eB : B.get? ce.locals = some oC := nb _ _ eC notF
  have fr : X.A.frames = some (X.env :: X.outer) := by rw [I3.ok.frames, hs]
  have away : ∀ b o, (PySem.W.hideAll sI.heap [ce.locals]).get? b = some o → b ≠ ce.locals := fun b o e z => by
    rw [z, PySem.W.hideAll_none _ (List.mem_singleton.mpr rfl)] at e
    cases e
  have key : ∀ h1, HandSPX.HeldZ B (X.env :: X.outer) a (Zc cls d) X.env.locals h1 → s'.heap.UpToSlots h1 → compEnd (model X.prog X.w) X.A X.xe Q acc X.env ce (.error (.ref a)) { s' with heap := h1 } := fun h1 k up1 => by
    unfold compEnd
    refine ⟨m, ⟨oC, es, ep, k.1 _ _ eB, dC, r⟩, fun h2 sb => ?_⟩
    rw [pass_same hfr]
    have k2 := held_but k eB (fun vs z => by rw [dC] at z; cases z) sb
    obtain ⟨ox, vx, T, ot, vt, g1, g2, g3, g4, g5, g6, g7, g8, g9⟩ := k2.2.2.2
    unfold PySem.passOn
    refine wpAny_bind (wpAny_field g1 g3 g4 ?_)
    rw [if_neg (show ¬ ((Value.ref T == Value.none) = true) by simp), hf]
    refine wpAny_bind (HandSPX.setFlight_onZ k2 fun h3 k3 up3 => ?_)
    refine wpAny_throw (tk _ _ ⟨a, PySem.W.hideAll B [ce.locals], { sI with heap := PySem.W.hideAll sI.heap [ce.locals] }, pins, σ, H', cls, d, rfl, Jb.turned (t' := sI.toks) (it := ce.locals) (fun b o n e => PySem.W.hideAll_get _ e (by simpa using n)) f0 f1 f4 f5 f6, fun b o e n => ?_, fun b o e n => ?_, .inr (.inr (by rw [hs]; exact k3)), na, os, ag, hW _ _ _ _ w⟩)
    · exact PySem.W.hideAll_get _ (nb b o (PySem.W.of_hideAll _ e) n) (by simpa using away b o e)
    · have n0 := away b o e
      obtain ⟨sl1, e1⟩ := up b o (PySem.W.of_hideAll _ e) n
      obtain ⟨sl2, e2⟩ := up1 b _ e1 n
      obtain ⟨sl3, e3⟩ := up3 b _ ((sb.2 b n0).trans e2) n
      exact ⟨sl3, e3⟩
  unfold notedBy
  rw [note_same hfr]
  have sky : Sky B (X.env :: X.outer) a (Zc cls d) ce.locals s'.heap := by rw [← hs]; exact sky
  rcases sky with ⟨hB, hn, hl, oe, vs, he, hz, hd, h1⟩ | k | k
  · exact HandSPX.look_newZ Zc.steady fr hl hf he hB hn hd h1 hz key
  · exact note_all Zc.steady fr hf k.1 k.2.1 k.2.2.1 k.2.2.2 key
  · exact note_all Zc.steady fr hf k.1 k.2.1 k.2.2.1 k.2.2.2 key
end
section
variable {X : Cx} {W : WX}
/-- [elt for ..], what elt lets out wished for at the state ahead -/
def tLcX (W : WX) (wi : TI) (g : TG) (tt : TT) (te : WX → TE) (vs : List Nat) : TE := fun σ H Q => tLc wi g tt (te fun c d _ H' => W c d σ H') vs σ H Q
theorem pe_lcx {elt tg iter : Expr} {ifs : List Expr} {scope : Scope} {own : List (Str × Nat)} {pos : Pos} {wi : TI} {g : TG} {tt : TT} {te : WX → TE} (tk : Takes X W) (hst : X.stack = X.env :: X.outer) (hfe : X.env.frame = some X.env.locals) (hc : X.calm = true) (hN : X.N.Nodup) (hi : PI X tg iter wi) (ok : BlkOk X.N X.env.scope scope own)
    (hg : ∀ (s : Shared) (H : Hp) (C : Addr) (cl : List (Str × Addr)) (fp : List Addr), PG (X.blk s H scope (compEnvC scope cl C X.env) fp) tg g) (ht : ∀ (s : Shared) (H : Hp) (C : Addr) (cl : List (Str × Addr)) (fp : List Addr), PTs (X.blk s H scope (compEnvC scope cl C X.env) fp) ifs tt)
    (he : ∀ (s : Shared) (H : Hp) (C : Addr) (cl : List (Str × Addr)) (fp : List Addr) (pn : List (Addr × Obj)) (xe : Value → Shared → Prop) (W' : WX), Takes ((X.blk s H scope (compEnvC scope cl C X.env) fp).tr pn xe) W' → PE ((X.blk s H scope (compEnvC scope cl C X.env) fp).tr pn xe) elt (te W'))
    (hs : ∀ x, foldedSetIterable iter X.env x = pure x := by intro _; rfl) : PE X (.ListComp elt [⟨tg, iter, ifs, 0⟩] scope pos) (tLcX W wi g tt te (own.map (·.2))) := by
  refine ⟨fun pins s σ H Q I h => ?_⟩
  rw [eval_ListComp]
  have captured : ∀ y ∈ scope.names, y.2 = .free → ∃ c, X.env.cells.lookup y.1 = some c := fun y hy e => (ok.free y hy e).elim (fun k => I.ok.has _ (.inl k)) fun k => I.ok.has _ (.inr k)
  refine comp_runs rfl hs (closure_ok captured) ok.kind (fun y hy e => by rw [ok.uniq y hy, e]) (thn (hi.run pins s σ H _ I h) fun xv s1 p1 => thn p1 fun itv s2 p2 => ?_)
  obtain ⟨it, fp, tn, J, H2, rfl, I2, T, z2, f2, q⟩ := p2
  refine wpAny_newObj_type (newEnv_comp ?_) (by show 0 ≤ sizeLine; decide)
  generalize hD : s2.heap.objs.size = D
  have nD : H2 D = none := I2.hok.fresh (Nat.le_of_eq hD)
  obtain ⟨V, ⟨m0, v0⟩, turn⟩ := q D nD
  generalize hs3 : ({ s2 with heap := s2.heap.push { cls := .type "list", data := .seq ([] : List Value).toArray } } : Shared) = s3
  have hp3 : s3.heap = s2.heap.push { cls := .type "list", data := .seq ([] : List Value).toArray } := by subst hs3; rfl
  have I3 : Inv X pins σ (upd H2 D (.lst [])) s3 := by
    subst hs3 hD
    exact I2.laid (t' := s2.toks) (fun b o e => Heap.get?_push_of_some _ e) (Nat.le_refl _) ⟨Nat.zero_le _, [], 0, .nil, Heap.get?_push_size _ rfl⟩
  have low : ∀ b ∈ fp, b < s2.heap.objs.size := fun b hb => let ⟨_, e, _⟩ := T.obj _ _ z2 b hb; Heap.lt_size e
  have f3 : ∀ b ∈ fp, FpOk X pins (upd H2 D (.lst [])) b ∧ b < s3.heap.objs.size := fun b hb =>
    ⟨⟨by rw [upd_ne (by subst hD; exact Nat.ne_of_lt (low b hb))]; exact (f2 b hb).1, (f2 b hb).2⟩, by rw [hp3, Heap.size_push]; exact Nat.lt_succ_of_lt (low b hb)⟩
  have z3 : tn 0 s3.heap := T.keep _ _ _ z2 fun b _ o e => by rw [hp3]; exact Heap.get?_push_of_some _ e
  generalize upd H2 D (.lst []) = H3 at I3 f3 v0
  have I4 := block_start I3 ok hN f3
  have kg := hg s3 H3 s3.heap.objs.size (cellsFrom (s3.heap.objs.size + 1) scope.names (cloFrom X.env.cells scope.names [])) fp
  have kt := ht s3 H3 s3.heap.objs.size (cellsFrom (s3.heap.objs.size + 1) scope.names (cloFrom X.env.cells scope.names [])) fp
  have ke := he s3 H3 s3.heap.objs.size (cellsFrom (s3.heap.objs.size + 1) scope.names (cloFrom X.env.cells scope.names [])) fp
  show codeAny _ _ (.compStart (.ListComp elt [⟨tg, iter, ifs, 0⟩] scope pos) 0 (.ref it) (.ref D) (compEnvC scope (cellsFrom (s3.heap.objs.size + 1) scope.names (cloFrom X.env.cells scope.names [])) s3.heap.objs.size X.env))
    (compEnd (model X.prog X.w) X.A X.xe (EP X pins σ Q) (.ref D) X.env (compEnvC scope (cellsFrom (s3.heap.objs.size + 1) scope.names (cloFrom X.env.cells scope.names [])) s3.heap.objs.size X.env)) { s3 with heap := pushCells (s3.heap.push { cls := .type "dict", data := .dict #[] }) scope.names }
  generalize hce : compEnvC scope (cellsFrom (s3.heap.objs.size + 1) scope.names (cloFrom X.env.cells scope.names [])) s3.heap.objs.size X.env = ce at I4 kg kt ke ⊢
  have hL : ce.locals = s3.heap.objs.size := by subst hce; rfl
  have hFr : ce.frame = X.env.frame := by subst hce; rfl
  generalize hs4 : ({ s3 with heap := pushCells (s3.heap.push { cls := .type "dict", data := .dict #[] }) scope.names } : Shared) = s4 at I4 ⊢
  have z4 : tn 0 s4.heap := T.keep _ _ _ z3 fun b _ o e => by subst hs4; exact pushCells_keeps _ _ _ _ (Heap.get?_push_of_some _ e)
  have none3 : ∀ b ∈ fp, H3 b = none := fun b hb => (f3 b hb).1.1
  have still : ∀ {σ' : L2.St} {H' : Hp} {s' : Shared}, Inv (X.blk s3 H3 scope ce fp) [] σ' H' s' → (∀ b ∈ fp, H' b = none) → ∀ b ∈ fp, FpOk (X.blk s3 H3 scope ce fp) [] H' b := fun {σ' H' s'} I' n b hb =>
    ⟨n b hb, (I'.ok.exf b hb).1, I'.ok.exfs b hb, .inl hb, fun x c e => (I'.ok.exf b hb).2 x c e, fun p hp => nomatch hp⟩
  have loop : codeAny (model X.prog X.w) X.A (.compLoop (.ListComp elt [⟨tg, iter, ifs, 0⟩] scope pos) 0 (.ref it) (.ref D) ce) (compEnd (model X.prog X.w) X.A X.xe (EP X pins σ Q) (.ref D) X.env ce) s4 := by
    refine compLoop_any (fun n s' => ∃ i H', Inv (X.blk s3 H3 scope ce fp) [] (L2.wipe σ (own.map (·.2))) H' s' ∧ tn i s'.heap ∧ (∀ b ∈ fp, H' b = none) ∧ V i n H') ?_ m0 ⟨0, H3, I4, z4, none3, v0⟩
    rintro n s5 ⟨i, H5, I5, z5, n5, v5⟩
    rcases turn i n H5 v5 with ⟨stop, qq⟩ | ⟨go, Nx, less, step⟩
    · refine thnF (T.done (X.blk s3 H3 scope ce fp) rfl rfl rfl hc i [] s5 _ H5 (fun _ _ => False) I5 (still I5 n5) z5 stop) fun r s6 ⟨hr, I6⟩ => ?_
      subst hr
      have I7 : Inv X pins σ H5 s6 := I3.call' (ch := fp) I6.os I6.base I6.hok I6.bare fun b hb => ⟨(f3 b hb).1.2.2.2.1, (f3 b hb).1.2.1, (f3 b hb).1.2.2.2.2.1, (f3 b hb).1.2.2.2.2.2⟩
      have nC : H5 ce.locals = none := I6.free
      obtain ⟨m, hn, _⟩ := I6.loc
      obtain ⟨g0, g1, g2, g3, g4, g5⟩ := I3.fpOk (b := ce.locals) (Nat.le_of_eq hL.symm) nC
      exact ⟨m, hn, fun h' sb => ⟨.ref D, H5, I7.turned (t' := s6.toks) (fun b o hb e => (sb.2 b hb).trans e) g0 g1 g3 g4 g5, rfl, qq⟩⟩
    · refine thnF (T.item (X.blk s3 H3 scope ce fp) rfl rfl rfl hc i [] s5 _ H5 (fun _ _ => False) I5 (still I5 n5) z5 go) fun r s6 ⟨u, hr, p6⟩ => ?_
      subst hr
      refine thnF p6 fun _ s7 ⟨x, H7, I7, r7, y7, z7, n7⟩ => ?_
      have I8 := I7.pinned (still I7 n7) (T.obj _ _ z7)
      refine thnF (kg.run _ s7 _ H7 x u _ I8 r7 (step x H7 y7)) fun _ s8 ⟨σ8, H8, I8, w8, q8⟩ => ?_
      refine thnF (kt.run _ s8 σ8 H8 _ I8 q8) fun b s9 ⟨H9, I9, q9⟩ => ?_
      have back : ∀ {s' : Shared} {H' : Hp}, Inv (X.blk s3 H3 scope ce fp) ([] ++ pinsAt fp s7.heap) σ8 H' s' → Nx H' → ∃ m, m < n ∧ ∃ i H', Inv (X.blk s3 H3 scope ce fp) [] (L2.wipe σ (own.map (·.2))) H' s' ∧ tn i s'.heap ∧ (∀ b ∈ fp, H' b = none) ∧ V i m H' := fun {s' H'} I' nx => by
        obtain ⟨k, k1, k2⟩ := less H' nx
        have held : ∀ b ∈ fp, ∀ o, s7.heap.get? b = some o → s'.heap.get? b = some o ∧ H' b = none := fun b hb o e => by
          have z := I'.pin (b, o) (List.mem_append_right _ (List.mem_append_right _ (mem_pinsAt hb e)))
          exact ⟨z.1, z.2.1⟩
        refine ⟨k, k1, i + 1, H', (I'.unpinned (pins := [])).weak (by rw [← w8, wipe_length]) (fun j v e => ?_), T.keep _ _ _ z7 fun b hb o e => (held b hb o e).1, fun b hb => ?_, k2⟩
        · rw [← w8] at e
          exact (wipe_some e).1
        · obtain ⟨o, e, _⟩ := T.obj _ _ z7 b hb
          exact (held b hb o e).2
      cases b with
      | false => exact back I9 q9
      | true =>
        rw [if_pos rfl] at q9 ⊢
        refine wpAny_mono ((ke _ (fun u s' => notedBy (model X.prog X.w) X.A ce (fun e s2 => compEnd (model X.prog X.w) X.A X.xe (EP X pins σ Q) (.ref D) X.env ce (.error e) s2) u s') _ (fun u s' x => blk_raise tk hst hfe I3 hL hFr f3 (fun _ _ _ _ w => w) x)).run [] s9 σ8 H9 _ (I9.toTry _) q9) (fun z s10 ⟨y, H10, I10, r10, acc, e10, l10, nx⟩ => ?_) fun _ _ w => w
        exact app_ok (X := X.blk s3 H3 scope ce fp) (I10.ofTry I9.ok) e10 l10 r10 fun s11 I11 => back I11 nx
  exact codeAny_compStart_list loop (T.self X.A 0 _ _ _ z4 loop)
end
end Z
namespace Z
open PySem PySem.Spec L2
section
variable {X : Cx} {W : WX} {K : PySem.W.Frag} {mg : Str → Option Value} {G F H : Hp} {ι : List Addr} {L : LH} {σ : St} {σl : SL}
/-- the turns of a comprehension, of which a step may raise -/
def compLX (n : LV → SL → Option SL) (t : MT) (m : ME) (σ0 : SL) : List LV → List LV → LH → O (List LV)
  | [], acc, L => .ok acc L
  | v :: vs, acc, L => match n v σ0 with
    | none => .no
    | some σ1 => match t σ1 L with
      | .ok b L1 => if b = true then (match m σ1 L1 with
        | .ok x L2 => if (clean x && decide (acc.length < sizeLine)) = true then compLX n t m σ0 vs (acc ++ [x]) L2 else .no
        | .er c ns ws L2 => .er c ns ws L2
        | .no => .no) else compLX n t m σ0 vs acc L1
      | _ => .no
def aCompX (mi : MA) (n : LV → SL → Option SL) (t : MT) (m : ME) (vs : List Nat) : MA := fun σ L => (mi σ L).bind fun items L1 => compLX n t m (wipeL σ vs) items [] L1
theorem sim_lcx {wi : TI} {g : TG} {tt : TT} {te : WX → TE} {mi : MA} {n : LV → SL → Option SL} {t : MT} {m : ME} {vs : List Nat} (hi : SimI K mg W wi mi) (hg : CG K mg vs g n) (ht : SimT K mg W0 tt t) (he : ∀ W', SimE K mg W' (te W') m) : SimN K mg W (tLcX W wi g tt te vs) (aCompX mi n t m vs) := by
  intro G F ι L H σl σ Q rp vr q
  refine hi _ _ _ _ _ _ _ _ rp vr ((Pst.bind q).imp fun items F1 ι1 L1 H1 x1 rp1 q1 J hJ => ?_)
  intro D hD
  obtain ⟨fd1, fd2, fd3⟩ := rp1.fresh hD
  refine ⟨fun i k H2 => k = items.length - i ∧ i ≤ items.length ∧ ∃ F2 ι2 L2 acc us, Ext F1 ι1 F2 ι2 ∧ Rep K mg (upd G D (.lst us)) F2 ι2 L2 H2 ∧ Rs0 K mg F2 ι2 acc us ∧
    Pst K mg G F2 ι2 (compLX n t m (wipeL σl vs) (items.drop i) acc L2) (fun vs F' ι' L' H' => ∀ p us, H' p = some (.lst us) → G p = none → F' p = none → (∀ n : Nat, ι'[n]? ≠ some p) → Rs0 K mg F' ι' vs us → Q (.ref p) H') (fun c d H' => W c d σ H'),
    ⟨items.length, rfl, Nat.zero_le _, F1, ι1, L1, [], [], Ext.refl _ _, rp1.addG hD, .nil, q1⟩, ?_⟩
  rintro i k H2 ⟨rfl, hle, F2, ι2, L2, acc, us, x2, rp2, r2, q2⟩
  obtain ⟨j1, j2⟩ := hJ _ F2 ι2 L2 H2 x2 rp2
  by_cases hlt : i < items.length
  · have hv : items[i]? = some items[i] := List.getElem?_eq_getElem hlt
    obtain ⟨k1, k2⟩ := j2 i _ hv
    rw [List.drop_eq_getElem_cons hlt] at q2
    refine .inr ⟨k1, fun H' => ∃ m', m' < items.length - i ∧ (m' = items.length - (i + 1) ∧ i + 1 ≤ items.length ∧ ∃ F2 ι2 L2 acc us, Ext F1 ι1 F2 ι2 ∧ Rep K mg (upd G D (.lst us)) F2 ι2 L2 H' ∧ Rs0 K mg F2 ι2 acc us ∧
      Pst K mg G F2 ι2 (compLX n t m (wipeL σl vs) (items.drop (i + 1)) acc L2) (fun vs F' ι' L' H' => ∀ p us, H' p = some (.lst us) → G p = none → F' p = none → (∀ n : Nat, ι'[n]? ≠ some p) → Rs0 K mg F' ι' vs us → Q (.ref p) H') (fun c d H' => W c d σ H')),
      fun H' z => z, fun x H3 y => ?_⟩
    have lt : items.length - (i + 1) < items.length - i := by omega
    obtain ⟨F3, ι3, x3, rp3, r3⟩ := k2 x H3 y
    unfold compLX at q2
    cases e1 : n items[i] (wipeL σl vs) with
    | none => rw [e1] at q2; exact q2.elim
    | some σ1 =>
      rw [e1] at q2
      simp only at q2
      have vr3 : VR K mg (upd G D (.lst us)) F3 ι3 (wipeL σl vs) (wipe σ vs) := (((vr.mono x1).mono x2).mono x3).addG fd2 |>.wipe vs
      refine hg _ F3 ι3 _ _ H3 _ _ _ σ1 rp3.f vr3 r3 e1 fun σ' vr' hw => ?_
      refine ⟨by rw [hw, wipe_idem vs fun w h => h], ?_⟩
      cases e2 : t σ1 L2 with
      | er c ns zs L4 => rw [e2] at q2; exact q2.elim
      | no => rw [e2] at q2; exact q2.elim
      | ok b L4 =>
        rw [e2] at q2
        simp only at q2
        refine ht _ F3 ι3 L2 H3 σ1 σ' _ rp3 vr' ?_
        rw [e2]
        intro F4 ι4 H4 x4 rp4
        cases b with
        | false =>
          rw [if_neg Bool.false_ne_true] at q2
          show (if false = true then _ else _)
          rw [if_neg Bool.false_ne_true]
          exact ⟨_, lt, rfl, hlt, F4, ι4, L4, acc, us, x2.trans (x3.trans x4), rp4, (r2.mono x3).mono x4, q2.ext (x3.trans x4)⟩
        | true =>
          rw [if_pos rfl] at q2
          show (if true = true then _ else _)
          rw [if_pos rfl]
          refine he _ _ F4 ι4 L4 H4 σ1 σ' _ rp4 (vr'.mono x4) ?_
          cases e3 : m σ1 L4 with
          | er c ns zs L5 =>
            rw [e3] at q2
            intro F5 ι5 H5 C d x5 rp5 mC rx
            have gs : Sub G (upd G D (.lst us)) := fun a o e => by rw [upd_ne (fun z => by rw [z, fd2] at e; cases e)]; exact e
            exact q2 F5 ι5 H5 C d (x3.trans (x4.trans x5)) (rp5.sub gs) mC rx
          | no => rw [e3] at q2; exact q2.elim
          | ok v L5 =>
            rw [e3] at q2
            simp only at q2
            intro F5 ι5 H5 x5 rp5 u ru
            split at q2
            · rename_i hc
              rw [Bool.and_eq_true] at hc
              have r0 := ru.clean hc.1
              refine ⟨us, rp5.g D _ upd_same, by rw [← r2.length]; exact of_decide_eq_true hc.2, ?_⟩
              exact ⟨_, lt, rfl, hlt, F5, ι5, L5, acc ++ [v], us ++ [u], x2.trans (x3.trans (x4.trans x5)), rp5.reG, (((r2.mono x3).mono x4).mono x5).append (.cons r0 .nil), q2.ext (x3.trans (x4.trans x5))⟩
            · exact q2.elim
  · have e : i = items.length := by omega
    subst e
    rw [List.drop_length] at q2
    refine .inl ⟨j1, ?_⟩
    have gs : Sub G (upd G D (.lst us)) := fun a o e => by rw [upd_ne (fun z => by rw [z, fd2] at e; cases e)]; exact e
    exact q2 F2 ι2 H2 (Ext.refl _ _) (rp2.sub gs) D us (rp2.g D _ upd_same) fd2 (rp2.gf D _ upd_same) (fun n e => by
      have z := (rp2.nf n D e).2
      rw [upd_same] at z
      cases z) r2
/-- [e for tg in iter], e may raise -/
theorem jn_lcx {elt tg iter : Expr} {ifs : List Expr} {scope : Scope} {own : List (Str × Nat)} {pos : Pos} {g : TG} {mi : MA} {n : LV → SL → Option SL} {t : MT} {m : ME} (tk : Takes X W) (hN : X.N.Nodup) (hi : JI X W tg iter mi) (ok : BlkOk X.N X.env.scope scope own) (hg : CG X.K X.mg (own.map (·.2)) g n)
    (pg : ∀ (s : Shared) (H : Hp) (C : Addr) (cl : List (Str × Addr)) (fp : List Addr), PG (X.blk s H scope (compEnvC scope cl C X.env) fp) tg g) (ht : ∃ tt, SimT X.K X.mg W0 tt t ∧ ∀ (s : Shared) (H : Hp) (C : Addr) (cl : List (Str × Addr)) (fp : List Addr), PTs (X.blk s H scope (compEnvC scope cl C X.env) fp) ifs tt)
    (he : ∀ (s : Shared) (H : Hp) (C : Addr) (cl : List (Str × Addr)) (fp : List Addr) (pn : List (Addr × Obj)) (xe : Value → Shared → Prop) (W' : WX), Takes ((X.blk s H scope (compEnvC scope cl C X.env) fp).tr pn xe) W' → JE ((X.blk s H scope (compEnvC scope cl C X.env) fp).tr pn xe) W' elt m)
    (hst : X.stack = X.env :: X.outer := by rfl) (hfe : X.env.frame = some X.env.locals := by rfl) (hc : X.calm = true := by rfl) (hs : ∀ x, foldedSetIterable iter X.env x = pure x := by intro _; rfl) :
    JN X W (.ListComp elt [⟨tg, iter, ifs, 0⟩] scope pos) (aCompX mi n t m (own.map (·.2))) := by
  obtain ⟨wi, pi, si⟩ := hi
  obtain ⟨tt, st, pt⟩ := ht
  exact ⟨_, pe_lcx (te := fun W' => tM X.K X.mg W' m) tk hst hfe hc hN pi ok pg pt (fun s H C cl fp pn xe W' t1 => (he s H C cl fp pn xe W' t1).can) hs, sim_lcx si hg st fun _ => sim_tM⟩
end
end Z
/-! methods, new instances -/
namespace Z
open PySem PySem.Spec L2
section
variable {X : Cx} {W : WX} {K : PySem.W.Frag} {mg : Str → Option Value} {G F H : Hp} {ι : List Addr} {L : LH} {σ : St} {σl : SL}
def tMethW (C : Addr) (m : Str) (sp : Sp) (E : L2.St → XK) (ta : TE) (t : TA) : TE := fun σ H Q => ta σ H fun x H1 => ∃ a dx fs, x = V.ref a ∧ H1 a = some (.ins C dx fs) ∧ fs.lookup m = none ∧ t σ H1 fun vs H2 => sp (x :: vs) H2 Q (E σ)
section
variable {CX : CXT} {k : Nat} {f C : Addr} {fd : FuncData} {ps : List Str} {sp : Sp} {E : L2.St → XK} {m : Str} {o e : Expr} {es : List Expr} {pos apos : Pos} {ta : TE} {t : TA} {pl : Sem Bool}
theorem pe_methW (ho : PE X o ta) (c : Cls X.K C) (hm : Meth X.K C m f) (D : FnOk X.prog X.w X.K X.mg X.base CX k f fd ps sp) (hr : Room k X.A) (hb : Binds X.K fd ps []) (hx : ∀ σ, PassesAt CX X σ (E σ)) (ha : PA X (e :: es) t)
    (hst : starEach (e :: es) X.env = (false, eval e X.env) :: starEach es X.env := by rfl) (hpl : (backTo pos (starEach es X.env)).any (·.1) = false := by rfl)
    (ht : eval (.Call (.Attribute o m apos) (e :: es) [] pos) X.env = (do
      let ov ← eval o X.env
      standAt apos.atName
      let (f, first) ← holding [ov] (getMethod ov m pl)
      callWith pos f first (backTo pos (starEach (e :: es) X.env)) (backToKw pos (keywordEach [] X.env))) := by rfl) :
    PE X (.Call (.Attribute o m apos) (e :: es) [] pos) (tMethW C m sp E ta t) := by
  refine ⟨fun pins s σ H Q I h => PySem.W.methodCall_KW (pl := pl) (thn (ho.run pins s σ H _ I h) fun u s1 ⟨x, H1, I1, rx, a, dx, fs, ex, ea, l, q⟩ => ?_) ht⟩
  subst ex
  obtain rfl : u = Value.ref a := rx
  refine getmeth_ok I1 ea c hm l (PySem.W.callWith_K (first := [.ref a]) (h₀ := X.base) I.ok.mod.kin hm.kp (thn (ha.run pos pins s1 σ H1 _ I1 q) fun us s2 ⟨vs, H2, I2, r, q2⟩ => ⟨I2.kIn, ?_⟩) hst hpl)
  exact run_fnS (us := .ref a :: us) (vs := .ref a :: vs) D hr hb (hx σ) I2 (.cons rfl r) q2
theorem pe_methW0 (ho : PE X o ta) (c : Cls X.K C) (hm : Meth X.K C m f) (D : FnOk X.prog X.w X.K X.mg X.base CX k f fd ps sp) (hr : Room k X.A) (hb : Binds X.K fd ps []) (hx : ∀ σ, PassesAt CX X σ (E σ))
    (ht : eval (.Call (.Attribute o m apos) [] [] pos) X.env = (do
      let ov ← eval o X.env
      standAt apos.atName
      let (f, first) ← holding [ov] (getMethod ov m pl)
      callWith pos f first (backTo pos (starEach [] X.env)) (backToKw pos (keywordEach [] X.env))) := by rfl) :
    PE X (.Call (.Attribute o m apos) [] [] pos) (tMethW C m sp E ta tNil) := by
  refine ⟨fun pins s σ H Q I h => PySem.W.methodCall_KW (pl := pl) (thn (ho.run pins s σ H _ I h) fun u s1 ⟨x, H1, I1, rx, a, dx, fs, ex, ea, l, q⟩ => ?_) ht⟩
  subst ex
  obtain rfl : u = Value.ref a := rx
  refine getmeth_ok I1 ea c hm l (PySem.W.callWith_K0 (first := [.ref a]) I1.kIn hm.kp ?_)
  exact run_fnS (us := [.ref a]) (vs := [.ref a]) D hr hb (hx σ) I1 (.cons rfl .nil) q
end
/-- o.m(..): o an instance of the class c -/
def eMeth (c m : Str) (n : Nat) (g : List LV → LH → O LV) (mo : ME) (ma : MA) : ME := fun σ L => (mo σ L).bind fun o L1 => match insOf σ L1 o with
  | some (c', ns, vs) => if (decide (c' = c) && clean o && (fieldL m ns vs).isNone) = true then (ma σ L1).bind fun xs L2 => if (xs.all clean && decide (xs.length + 1 = n)) = true then g (o :: xs) L2 else .no else .no
  | none => .no
theorem sim_meth {c m : Str} {C : Addr} {n : Nat} {g : List LV → LH → O LV} {ta : TE} {t : TA} {mo : ME} {ma : MA} (hC : mg c = some (.ref C)) (so : SimE K mg W ta mo) (sa : SimA K mg W t ma) : SimE K mg W (tMethW C m (spM K mg n g) (WE W) ta t) (eMeth c m n g mo ma) := by
  intro G F ι L H σl σ Q rp vr q
  refine so _ _ _ _ _ _ _ _ rp vr ((Pst.bind q).imp fun o F1 ι1 L1 H1 x1 rp1 q1 u ru => ?_)
  split at q1
  · rename_i c' ns vs e
    split at q1
    · rename_i hc
      rw [Bool.and_eq_true, Bool.and_eq_true] at hc
      obtain ⟨a, C', dx, us, rfl, h1, h2, h3, h4⟩ := insOf_ok rp1 (vr.mono x1) ru e
      have ec : c' = c := of_decide_eq_true hc.1.1
      subst ec
      rw [hC] at h1
      cases h1
      refine ⟨a, dx, _, rfl, h2, fieldL_none h4 (by simpa using hc.2), ?_⟩
      refine sa _ _ _ _ _ _ _ _ rp1 (vr.mono x1) ((Pst.bind q1).imp fun xs F2 ι2 L2 H2 x2 rp2 q2 ys ry => ?_)
      split at q2
      · rename_i hx
        rw [Bool.and_eq_true] at hx
        exact ⟨G, F2, ι2, L2, o :: xs, by rw [List.length_cons]; exact of_decide_eq_true hx.2, rp2, .cons ((ru.mono x2).clean hc.1.2) (RVs.clean ry hx.1), q2.imp fun v F3 ι3 L3 H3 x3 rp3 q3 w rw => q3 w (.r0 rw)⟩
      · exact q2.elim
    · exact q1.elim
  · exact q1.elim
theorem je_meth {c m : Str} {C f : Addr} {k n : Nat} {fd : FuncData} {ps : List Str} {g : List LV → LH → O LV} {o e : Expr} {es : List Expr} {pos apos : Pos} {mo : ME} {ma : MA} {pl : Sem Bool} (tk : Takes X W) (hC : X.mg c = some (.ref C)) (cl : Cls X.K C) (hm : Meth X.K C m f) (D : DefOk X.prog X.w X.K X.mg X.base k f fd ps g) (hr : Room k X.A) (hb : Binds X.K fd ps []) (ho : JE X W o mo) (ha : JA X W (e :: es) ma)
    (hst : starEach (e :: es) X.env = (false, eval e X.env) :: starEach es X.env := by rfl) (hpl : (backTo pos (starEach es X.env)).any (·.1) = false := by rfl) (hn : ps.length = n := by rfl)
    (ht : eval (.Call (.Attribute o m apos) (e :: es) [] pos) X.env = (do
      let ov ← eval o X.env
      standAt apos.atName
      let (f, first) ← holding [ov] (getMethod ov m pl)
      callWith pos f first (backTo pos (starEach (e :: es) X.env)) (backToKw pos (keywordEach [] X.env))) := by rfl) :
    JE X W (.Call (.Attribute o m apos) (e :: es) [] pos) (eMeth c m n g mo ma) := by
  subst hn
  obtain ⟨_, po, so⟩ := ho
  obtain ⟨_, pa, sa⟩ := ha
  exact ⟨_, pe_methW po cl hm D hr hb (fun σ => passAt tk σ) pa hst hpl ht, sim_meth hC so sa⟩
theorem je_meth0 {c m : Str} {C f : Addr} {k n : Nat} {fd : FuncData} {ps : List Str} {g : List LV → LH → O LV} {o : Expr} {pos apos : Pos} {mo : ME} {pl : Sem Bool} (tk : Takes X W) (hC : X.mg c = some (.ref C)) (cl : Cls X.K C) (hm : Meth X.K C m f) (D : DefOk X.prog X.w X.K X.mg X.base k f fd ps g) (hr : Room k X.A) (hb : Binds X.K fd ps []) (ho : JE X W o mo)
    (hn : ps.length = n := by rfl)
    (ht : eval (.Call (.Attribute o m apos) [] [] pos) X.env = (do
      let ov ← eval o X.env
      standAt apos.atName
      let (f, first) ← holding [ov] (getMethod ov m pl)
      callWith pos f first (backTo pos (starEach [] X.env)) (backToKw pos (keywordEach [] X.env))) := by rfl) :
    JE X W (.Call (.Attribute o m apos) [] [] pos) (eMeth c m n g mo aNil) := by
  subst hn
  obtain ⟨_, po, so⟩ := ho
  exact ⟨_, pe_methW0 po cl hm D hr hb (fun σ => passAt tk σ) ht, sim_meth hC so sim_anil⟩

/-! ### a new instance, its __init__ walked as a def -/
def eMake (c : Str) (n : Nat) (g : List LV → LH → O LV) (ma : MA) : ME := fun σ L => (ma σ L).bind fun xs L1 => if (xs.all clean && decide (xs.length + 1 = n)) = true then (match g (.ref L1.length :: xs) (L1 ++ [.ins c [] []]) with
  | .ok .non L2 => .ok (.ref L1.length) L2
  | _ => .no) else .no
theorem passes_not : Passes (L2.CX X.prog X.w) X fun _ _ _ => False := fun _ _ _ _ _ _ _ ⟨_, _, _, _, _, _, _, _, _, _, _, _, z⟩ => z.elim
theorem Rep.made (r : Rep K mg G F ι L H) {x dx C : Addr} {c : Str} (hC : mg c = some (.ref C)) (h1 : H x = none) (h2 : H dx = none) (h3 : dx ≠ x) :
    Rep K mg G F (ι ++ [x]) (L ++ [.ins c [] []]) (upd (upd H dx (.own x)) x (.ins C dx [])) ∧ Ext F ι F (ι ++ [x]) := by
  have n1 : (upd H dx (.own x)) x = none := by rw [upd_ne (Ne.symm h3)]; exact h1
  have r2 := (r.new (o := .own x) h2).new (o := .ins C dx []) n1
  obtain ⟨f1, f2, f3⟩ := r.fresh h1
  exact r2.alloc f1 f2 f3 fun ι' _ => .ins hC upd_same rfl .nil
theorem sim_make {c : Str} {C : Addr} {n : Nat} {g : List LV → LH → O LV} {t : TA} {ma : MA} (hC : mg c = some (.ref C)) (sa : SimA K mg W t ma) : SimE K mg W (tMake C (spM K mg n g) [] (fun _ _ _ => False) t) (eMake c n g ma) := by
  intro G F ι L H σl σ Q rp vr q
  refine sa _ _ _ _ _ _ _ _ rp vr ((Pst.bind q).imp fun xs F1 ι1 L1 H1 x1 rp1 q1 ys ry => ?_)
  split at q1
  · rename_i hx
    rw [Bool.and_eq_true] at hx
    intro x dx e1 e2 e3
    obtain ⟨rp2, x2⟩ := rp1.made hC e1 e2 e3
    have at_ : (ι1 ++ [x])[L1.length]? = some x := by rw [← rp1.len, List.getElem?_append_right (Nat.le_refl _), Nat.sub_self]; rfl
    rw [List.append_nil]
    refine ⟨G, F1, ι1 ++ [x], L1 ++ [.ins c [] []], .ref L1.length :: xs, by rw [List.length_cons]; exact of_decide_eq_true hx.2, rp2, .cons (.ref at_) ((RVs.clean ry hx.1).mono x2), ?_⟩
    cases eg : g (.ref L1.length :: xs) (L1 ++ [.ins c [] []]) with
    | er c2 n2 v2 L2 => rw [eg] at q1; exact q1.elim
    | no => rw [eg] at q1; exact q1.elim
    | ok v L2 =>
      rw [eg] at q1
      cases v with
      | non =>
        intro F3 ι3 H3 x3 rp3 u ru
        cases ru
        exact ⟨rfl, q1 F3 ι3 H3 (x2.trans x3) rp3 _ (.r0 (.ref (x3.pre _ _ at_)))⟩
      | _ => exact q1.elim
  · exact q1.elim
theorem je_make {c : Str} {C f : Addr} {k n : Nat} {fd : FuncData} {ps : List Str} {g : List LV → LH → O LV} {e : Expr} {es : List Expr} {p pos : Pos} {ma : MA} (M : Mk X.K C f) (D : DefOk X.prog X.w X.K X.mg X.base k f fd ps g) (hr : Room (k + 1) X.A) (hC : X.mg c = some (.ref C)) (hb : Binds X.K fd ps []) (ha : JA X W (e :: es) ma) (hg : Gl X c := by rfl)
    (hdb : (c == ("__debug__" : Str)) = false := by decide) (he : starEach (e :: es) X.env = (false, eval e X.env) :: starEach es X.env := by rfl) (hpl : (backTo pos (starEach es X.env)).any (·.1) = false := by rfl) (hn : ps.length = n := by rfl) : JE X W (.Call (.Name c p) (e :: es) [] pos) (eMake c n g ma) := by
  subst hn
  obtain ⟨_, pa, sa⟩ := ha
  exact ⟨_, pe_make M D hr hg hC hb .nil passes_not pa hdb he hpl, sim_make hC sa⟩
theorem je_make0 {c : Str} {C f : Addr} {k n : Nat} {fd : FuncData} {ps : List Str} {g : List LV → LH → O LV} {p pos : Pos} (M : Mk X.K C f) (D : DefOk X.prog X.w X.K X.mg X.base k f fd ps g) (hr : Room (k + 1) X.A) (hC : X.mg c = some (.ref C)) (hb : Binds X.K fd ps []) (hg : Gl X c := by rfl)
    (hdb : (c == ("__debug__" : Str)) = false := by decide) (hn : ps.length = n := by rfl) : JE X W (.Call (.Name c p) [] [] pos) (eMake c n g aNil) := by
  subst hn
  exact ⟨_, pe_make0 M D hr hg hC hb .nil passes_not hdb, sim_make hC sim_anil⟩
end
end Z
/-! slices of tuples -/
namespace Z
open PySem PySem.Spec L2
section
variable {X : Cx} {W : WX} {K : PySem.W.Frag} {mg : Str → Option Value} {G F H : Hp} {ι : List Addr} {L : LH} {σ : St} {σl : SL}
theorem cutL_all {vs : List LV} {lo hi : Option Int} (h : HT.sIx vs.length 0 lo = 0 ∧ HT.sIx vs.length vs.length hi = vs.length) : cutL vs lo hi = vs := by
  unfold cutL
  rw [h.1, h.2, List.drop_zero, Nat.sub_zero, List.take_length]
def eSlT (mo : ME) (lo hi : MO) : ME := fun σ L => (mo σ L).bind fun o L1 => (lo σ L1).bind fun l L2 => (hi σ L2).bind fun h L3 => match o with
  | .tup vs => .ok (.tup (cutL vs l h)) L3
  | _ => .no
theorem je_slT {e : Expr} {lo hi : Option Expr} {p2 pos : Pos} {mo : ME} {ml mh : MO} (he : JE X W e mo) (hl : JO X W lo ml) (hh : JO X W hi mh) : JE X W (.Subscript e (.Slice lo hi none p2) pos) (eSlT mo ml mh) := by
  obtain ⟨t, p, s⟩ := he
  obtain ⟨tl, pl, sl⟩ := hl
  obtain ⟨th, ph, sh⟩ := hh
  refine ⟨_, pe_slice sl_tupA p pl ph, ?_⟩
  intro G F ι L H σl σ Q rp vr q
  refine s _ _ _ _ _ _ _ _ rp vr ((Pst.bind q).imp fun v F1 ι1 L1 H1 x1 rp1 q1 u ru => ?_)
  refine sl _ _ _ _ _ _ _ _ rp1 (vr.mono x1) ((Pst.bind q1).imp fun l F2 ι2 L2 H2 x2 rp2 q2 => ?_)
  refine sh _ _ _ _ _ _ _ _ rp2 (vr.mono (x1.trans x2)) ((Pst.bind q2).imp fun h F3 ι3 L3 H3 x3 rp3 q3 => ?_)
  split at q3
  · rename_i vs
    have ru3 := (ru.mono x2).mono x3
    cases ru3 with
    | r0 r0 =>
      cases r0 with
      | @tup a _ us h1 h2 =>
        have hlen := h2.length
        refine ⟨a, us, rfl, Sub.sqT rp3.f h1, fun hw => ?_, fun _ p hp => ?_⟩
        · rw [← hlen] at hw
          rw [cutL_all hw] at q3
          exact q3 F3 ι3 H3 (Ext.refl _ _) rp3 _ (.r0 (.tup h1 h2))
        · obtain ⟨f1, f2, f3⟩ := rp3.fresh hp
          obtain ⟨r4, x4⟩ := (rp3.new (o := .tup (cutV us l h)) hp).freeze upd_same f1 f2 f3
          exact q3 _ _ _ x4 r4 _ (.r0 (.tup (.inl (.inl upd_same)) (h2.cut.mono x4)))
  · exact q3.elim
end
end Z
namespace Z
open PySem PySem.Spec L2
/-! ### evaluating mirrors -/
theorem bind_ok {α β : Type} {a : α} {L : LH} {k : α → LH → O β} : (O.ok a L).bind k = k a L := rfl
theorem bind_er {α β : Type} {c : Str} {ns : List Str} {vs : List LV} {L : LH} {k : α → LH → O β} : (O.er c ns vs L : O α).bind k = .er c ns vs L := rfl
theorem lift_ok {α : Type} {a : α} {L : LH} {σ : SL} {k : α → LH → SO} : lift (O.ok a L) σ k = k a L := rfl
theorem lift_er {α : Type} {c : Str} {ns : List Str} {vs : List LV} {L : LH} {σ : SL} {k : α → LH → SO} : lift (O.er c ns vs L : O α) σ k = .er c ns vs σ L := rfl
theorem ixN_of {n : Nat} {i : Int} {j : Nat} (h : i = (j : Int)) (hj : j < n) : ixN n i = some j := by
  subst h
  unfold ixN
  rw [if_pos (Int.natCast_nonneg j), if_pos (by omega)]
  rfl
theorem ixN_0 {n : Nat} : ixN (n + 1) 0 = some 0 := ixN_of (j := 0) rfl (Nat.succ_pos n)
theorem ixN_1 {n : Nat} : ixN (n + 1 + 1) 1 = some 1 := ixN_of (j := 1) rfl (by omega)
theorem ixN_2 {n : Nat} : ixN (n + 1 + 1 + 1) 2 = some 2 := ixN_of (j := 2) rfl (by omega)
theorem ixN_3 {n : Nat} : ixN (n + 1 + 1 + 1 + 1) 3 = some 3 := ixN_of (j := 3) rfl (by omega)
theorem atI_0 {α : Type} {a : α} {r : List α} : L2.atI (a :: r) 0 = some a := by unfold L2.atI; rw [List.length_cons, ixN_0]; rfl
theorem atI_1 {α : Type} {a b : α} {r : List α} : L2.atI (a :: b :: r) 1 = some b := by unfold L2.atI; rw [List.length_cons, List.length_cons, ixN_1]; rfl
theorem atI_2 {α : Type} {a b c : α} {r : List α} : L2.atI (a :: b :: c :: r) 2 = some c := by unfold L2.atI; rw [List.length_cons, List.length_cons, List.length_cons, ixN_2]; rfl
theorem atI_3 {α : Type} {a b c d : α} {r : List α} : L2.atI (a :: b :: c :: d :: r) 3 = some d := by unfold L2.atI; rw [List.length_cons, List.length_cons, List.length_cons, List.length_cons, ixN_3]; rfl
theorem get0 {α : Type} {a : α} {r : List α} : (a :: r)[0]? = some a := rfl
theorem get1 {α : Type} {a b : α} {r : List α} : (a :: b :: r)[1]? = some b := rfl
theorem get2 {α : Type} {a b c : α} {r : List α} : (a :: b :: c :: r)[2]? = some c := rfl
theorem get3 {α : Type} {a b c d : α} {r : List α} : (a :: b :: c :: d :: r)[3]? = some d := rfl
theorem set0 {α : Type} {a x : α} {r : List α} : (a :: r).set 0 x = x :: r := rfl
theorem set1 {α : Type} {a b x : α} {r : List α} : (a :: b :: r).set 1 x = a :: x :: r := rfl
theorem set2 {α : Type} {a b c x : α} {r : List α} : (a :: b :: c :: r).set 2 x = a :: b :: x :: r := rfl
theorem set3 {α : Type} {a b c d x : α} {r : List α} : (a :: b :: c :: d :: r).set 3 x = a :: b :: c :: x :: r := rfl
theorem get4 {α : Type} {a b c d e : α} {r : List α} : (a :: b :: c :: d :: e :: r)[4]? = some e := rfl
theorem set4 {α : Type} {a b c d e x : α} {r : List α} : (a :: b :: c :: d :: e :: r).set 4 x = a :: b :: c :: d :: x :: r := rfl
theorem get5 {α : Type} {a b c d e f : α} {r : List α} : (a :: b :: c :: d :: e :: f :: r)[5]? = some f := rfl
theorem set5 {α : Type} {a b c d e f x : α} {r : List α} : (a :: b :: c :: d :: e :: f :: r).set 5 x = a :: b :: c :: d :: e :: x :: r := rfl
theorem get6 {α : Type} {a b c d e f g : α} {r : List α} : (a :: b :: c :: d :: e :: f :: g :: r)[6]? = some g := rfl
theorem set6 {α : Type} {a b c d e f g x : α} {r : List α} : (a :: b :: c :: d :: e :: f :: g :: r).set 6 x = a :: b :: c :: d :: e :: f :: x :: r := rfl
theorem get7 {α : Type} {a b c d e f g h : α} {r : List α} : (a :: b :: c :: d :: e :: f :: g :: h :: r)[7]? = some h := rfl
theorem set7 {α : Type} {a b c d e f g h x : α} {r : List α} : (a :: b :: c :: d :: e :: f :: g :: h :: r).set 7 x = a :: b :: c :: d :: e :: f :: g :: x :: r := rfl
theorem get8 {α : Type} {a b c d e f g h i : α} {r : List α} : (a :: b :: c :: d :: e :: f :: g :: h :: i :: r)[8]? = some i := rfl
theorem set8 {α : Type} {a b c d e f g h i x : α} {r : List α} : (a :: b :: c :: d :: e :: f :: g :: h :: i :: r).set 8 x = a :: b :: c :: d :: e :: f :: g :: h :: x :: r := rfl
theorem get9 {α : Type} {a b c d e f g h i j : α} {r : List α} : (a :: b :: c :: d :: e :: f :: g :: h :: i :: j :: r)[9]? = some j := rfl
theorem set9 {α : Type} {a b c d e f g h i j x : α} {r : List α} : (a :: b :: c :: d :: e :: f :: g :: h :: i :: j :: r).set 9 x = a :: b :: c :: d :: e :: f :: g :: h :: i :: x :: r := rfl
theorem get10 {α : Type} {a b c d e f g h i j k : α} {r : List α} : (a :: b :: c :: d :: e :: f :: g :: h :: i :: j :: k :: r)[10]? = some k := rfl
theorem set10 {α : Type} {a b c d e f g h i j k x : α} {r : List α} : (a :: b :: c :: d :: e :: f :: g :: h :: i :: j :: k :: r).set 10 x = a :: b :: c :: d :: e :: f :: g :: h :: i :: j :: x :: r := rfl
theorem get11 {α : Type} {a b c d e f g h i j k l : α} {r : List α} : (a :: b :: c :: d :: e :: f :: g :: h :: i :: j :: k :: l :: r)[11]? = some l := rfl
theorem set11 {α : Type} {a b c d e f g h i j k l x : α} {r : List α} : (a :: b :: c :: d :: e :: f :: g :: h :: i :: j :: k :: l :: r).set 11 x = a :: b :: c :: d :: e :: f :: g :: h :: i :: j :: k :: x :: r := rfl
theorem get12 {α : Type} {a b c d e f g h i j k l m : α} {r : List α} : (a :: b :: c :: d :: e :: f :: g :: h :: i :: j :: k :: l :: m :: r)[12]? = some m := rfl
theorem set12 {α : Type} {a b c d e f g h i j k l m x : α} {r : List α} : (a :: b :: c :: d :: e :: f :: g :: h :: i :: j :: k :: l :: m :: r).set 12 x = a :: b :: c :: d :: e :: f :: g :: h :: i :: j :: k :: l :: x :: r := rfl
theorem get13 {α : Type} {a b c d e f g h i j k l m n : α} {r : List α} : (a :: b :: c :: d :: e :: f :: g :: h :: i :: j :: k :: l :: m :: n :: r)[13]? = some n := rfl
theorem set13 {α : Type} {a b c d e f g h i j k l m n x : α} {r : List α} : (a :: b :: c :: d :: e :: f :: g :: h :: i :: j :: k :: l :: m :: n :: r).set 13 x = a :: b :: c :: d :: e :: f :: g :: h :: i :: j :: k :: l :: m :: x :: r := rfl
theorem get14 {α : Type} {a b c d e f g h i j k l m n o : α} {r : List α} : (a :: b :: c :: d :: e :: f :: g :: h :: i :: j :: k :: l :: m :: n :: o :: r)[14]? = some o := rfl
theorem set14 {α : Type} {a b c d e f g h i j k l m n o x : α} {r : List α} : (a :: b :: c :: d :: e :: f :: g :: h :: i :: j :: k :: l :: m :: n :: o :: r).set 14 x = a :: b :: c :: d :: e :: f :: g :: h :: i :: j :: k :: l :: m :: n :: x :: r := rfl
theorem get15 {α : Type} {a b c d e f g h i j k l m n o p : α} {r : List α} : (a :: b :: c :: d :: e :: f :: g :: h :: i :: j :: k :: l :: m :: n :: o :: p :: r)[15]? = some p := rfl
theorem set15 {α : Type} {a b c d e f g h i j k l m n o p x : α} {r : List α} : (a :: b :: c :: d :: e :: f :: g :: h :: i :: j :: k :: l :: m :: n :: o :: p :: r).set 15 x = a :: b :: c :: d :: e :: f :: g :: h :: i :: j :: k :: l :: m :: n :: o :: x :: r := rfl
theorem fEq_int {i j : Int} {neg : Bool} {σ : SL} {L : LH} : fEqN neg (.int i) (.int j) σ L = .ok (.bl (if neg then !decide (i = j) else decide (i = j))) L := rfl
theorem fEq_str {i j : Str} {neg : Bool} {σ : SL} {L : LH} : fEqN neg (.str i) (.str j) σ L = .ok (.bl (if neg then !decide (i = j) else decide (i = j))) L := rfl
theorem fEq_bl {i j : Bool} {neg : Bool} {σ : SL} {L : LH} : fEqN neg (.bl i) (.bl j) σ L = .ok (.bl (if neg then !decide (i = j) else decide (i = j))) L := rfl
theorem set_self {L : LH} {r : Nat} {o p : LO} : (L.set r o).set r p = L.set r p := by rw [List.set_set]
theorem at_self {L : LH} {r : Nat} {o : LO} (h : r < L.length) : (L.set r o)[r]? = some o := List.getElem?_set_self h
theorem bits_of {i : Int} {k : Nat} (hk : 0 < k) (h : i.natAbs < 2 ^ k) : Builtin.Int.intBits i ≤ k := by
  unfold Builtin.Int.intBits
  split
  · omega
  · have := PySem.Flt.log2_lt_of hk h
    omega
theorem cMul_of {i j : Int} (a b : Nat) (ha : 0 < a) (hb : 0 < b) (h1 : i.natAbs < 2 ^ a) (h2 : j.natAbs < 2 ^ b) (h : a + b ≤ 134217728) : cMul i j = true := by
  have x := bits_of ha h1
  have y := bits_of hb h2
  exact Nat.ble_eq_true_of_le (by omega)
theorem cDiv_of {i j : Int} (b : Nat) (h0 : 0 < j) (hb : 0 < b) (h : j.natAbs < 2 ^ b) (h9 : b ≤ 9000) : cDiv i j = true := decide_eq_true ⟨h0, Nat.lt_of_lt_of_le (PySem.Flt.log2_lt_of hb h) h9⟩

/-! ### the script as it is drawn from -/
structure Row where
  ns : List Int
  pos : Nat
  cur : Int
  mix : Int
def Row.o (R : Row) : LO := .lst [.rdl (R.ns.map .int), .int R.pos, .int R.cur, .int R.mix]
structure Row.Ok (R : Row) : Prop where
  p : R.pos ≤ R.ns.length
  m0 : 0 ≤ R.mix
  m1 : R.mix < 2147483647
/-- a number below many, and the row behind it -/
def Row.take (R : Row) (many : Int) : Int × Row :=
  if 0 < R.cur then (R.cur % many, { R with cur := R.cur / many })
  else if h : R.pos < R.ns.length then (R.ns[R.pos] % many, { R with pos := R.pos + 1, cur := if (10 : Int) ^ 18 ≤ R.ns[R.pos] then R.ns[R.pos] / many else R.cur })
  else ((R.mix * 48271 + 12345) % 2147483647 / 1009 % many, { R with mix := (R.mix * 48271 + 12345) % 2147483647 })
theorem Row.take_ok {R : Row} {many : Int} (h : R.Ok) : (R.take many).2.Ok := by
  unfold Row.take
  split
  · exact ⟨h.p, h.m0, h.m1⟩
  · split
    · exact ⟨by show R.pos + 1 ≤ R.ns.length; omega, h.m0, h.m1⟩
    · exact ⟨h.p, by show (0 : Int) ≤ _ % _; omega, by show _ % _ < (2147483647 : Int); omega⟩
theorem Row.take_lt {R : Row} {many : Int} (h : 0 < many) : 0 ≤ (R.take many).1 ∧ (R.take many).1 < many := by
  unfold Row.take
  split
  · exact ⟨Int.emod_nonneg _ (by omega), Int.emod_lt_of_pos _ h⟩
  · split
    · exact ⟨Int.emod_nonneg _ (by omega), Int.emod_lt_of_pos _ h⟩
    · exact ⟨Int.emod_nonneg _ (by omega), Int.emod_lt_of_pos _ h⟩
local macro_rules | `(tactic| walk_at "ev") => `(tactic| simp only [fin_nx, fin_rt, fin_er, startL, List.map_cons, List.map_nil, List.length_cons, List.length_nil, List.cons_append, List.nil_append, List.replicate, sSeq, sSet, sIf, sNil, sRet, sItem, sDrop, lift_ok, lift_er, bind_ok, bind_er, eVar, eC, e2, e1, eA, eAnd, eOr, eNot, eIf, aNil, aCons, tOf, tAnd', tOr', tNot', get0, get1, get2, get3, set0, set1, set2, set3, fIx, seqL, atI_0, atI_1, atI_2, atI_3, ixN_0, ixN_1, ixN_2, ixN_3, fI0, fI, fAdd, fLen, clean, if_true, if_false, List.all_cons, List.all_nil, Bool.and_true, Bool.true_and, decide_true, decide_false, Bool.and_self, eCall, set_self, at_self, List.set_set, Bool.false_eq_true, *])
def w_taken : MS := (sSeq (sIf (tOf (e2 fGt (e2 fIx (eVar 0) (eC (.int 2))) (eC (.int 0)))) (sSeq (sSet 2 (e2 fMod (e2 fIx (eVar 0) (eC (.int 2))) (eVar 1)))
  (sSeq (sItem (eVar 0) (eC (.int 2)) (e2 fDiv (e2 fIx (eVar 0) (eC (.int 2))) (eVar 1)))
  (sRet (eVar 2)))) sNil)
  (sSeq (sIf (tOf (e2 fLt (e2 fIx (eVar 0) (eC (.int 1))) (eA fLen (aCons (e2 fIx (eVar 0) (eC (.int 0))) aNil)))) (sSeq (sSet 3 (e2 fIx (e2 fIx (eVar 0) (eC (.int 0))) (e2 fIx (eVar 0) (eC (.int 1)))))
  (sSeq (sItem (eVar 0) (eC (.int 1)) (e2 fAdd (e2 fIx (eVar 0) (eC (.int 1))) (eC (.int 1))))
  (sSeq (sIf (tOf (e2 fGe (eVar 3) (e2 fPow (eC (.int 10)) (eC (.int 18))))) (sItem (eVar 0) (eC (.int 2)) (e2 fDiv (eVar 3) (eVar 1))) sNil)
  (sRet (e2 fMod (eVar 3) (eVar 1)))))) sNil)
  (sSeq (sItem (eVar 0) (eC (.int 3)) (e2 fMod (e2 fAdd (e2 fMul (e2 fIx (eVar 0) (eC (.int 3))) (eC (.int 48271))) (eC (.int 12345))) (eC (.int 2147483647))))
  (sRet (e2 fMod (e2 fDiv (e2 fIx (eVar 0) (eC (.int 3))) (eC (.int 1009))) (eVar 1))))))
theorem taken_eq {L : LH} {r : Nat} {R : Row} {many : Int} (hr : L[r]? = some R.o) (ok : R.Ok) (h0 : 0 < many) (hd : ∀ i, cDiv i many = true) :
    mDef 4 w_taken [.ref r, .int many] L = .ok (.int (R.take many).1) (L.set r (R.take many).2.o) := by
  have hl : r < L.length := (List.getElem?_eq_some_iff.mp hr).1
  have hd2 : ∀ i, cDiv i 1009 = true := fun i => cDiv_of 10 (by decide) (by decide) (by decide) (by decide)
  have hm : cMul R.mix 48271 = true := cMul_of 31 16 (by decide) (by decide) (by have := ok.m0; have := ok.m1; omega) (by decide) (by decide)
  have hp : cPow 10 18 = true := by decide
  have hq : decide (0 < many) = true := decide_eq_true h0
  have hq2 : decide ((0 : Int) < 2147483647) = true := by decide
  obtain ⟨ns, pos, cur, mix⟩ := R
  replace hr : L[r]? = some (.lst [.rdl (ns.map .int), .int pos, .int cur, .int mix]) := hr
  replace hm : cMul mix 48271 = true := hm
  clear ok
  by_cases c1 : 0 < cur
  · rw [show Row.take ⟨ns, pos, cur, mix⟩ many = (cur % many, ⟨ns, pos, cur / many, mix⟩) from if_pos c1]
    unfold w_taken Row.o
    rw [mDef_run]
    walk_at "ev"
  · by_cases c2 : pos < ns.length
    · have e1 : L2.atI (ns.map LV.int) (pos : Int) = some (.int ns[pos]) := atI_nat (by rw [List.getElem?_map, List.getElem?_eq_getElem c2]; rfl)
      have e2 : (pos : Int) < ((ns.map LV.int).length : Nat) := by rw [List.length_map]; omega
      by_cases c3 : (10 : Int) ^ 18 ≤ ns[pos]
      · rw [show Row.take ⟨ns, pos, cur, mix⟩ many = (ns[pos] % many, ⟨ns, pos + 1, ns[pos] / many, mix⟩) from (if_neg c1).trans ((dif_pos c2).trans (by rw [if_pos c3]))]
        unfold w_taken Row.o
        rw [mDef_run]
        generalize ns[pos] = z at *
        have c4 : (10 : Int) ^ ((18 : Int).toNat) ≤ z := c3
        clear c3
        walk_at "ev"
        rfl
      · rw [show Row.take ⟨ns, pos, cur, mix⟩ many = (ns[pos] % many, ⟨ns, pos + 1, cur, mix⟩) from (if_neg c1).trans ((dif_pos c2).trans (by rw [if_neg c3]))]
        unfold w_taken Row.o
        rw [mDef_run]
        generalize ns[pos] = z at *
        have c4 : ¬ (10 : Int) ^ ((18 : Int).toNat) ≤ z := c3
        clear c3
        walk_at "ev"
        rfl
    · have e2 : ¬ (pos : Int) < ((ns.map LV.int).length : Nat) := by rw [List.length_map]; omega
      rw [show Row.take ⟨ns, pos, cur, mix⟩ many = ((mix * 48271 + 12345) % 2147483647 / 1009 % many, ⟨ns, pos, cur, (mix * 48271 + 12345) % 2147483647⟩) from (if_neg c1).trans (dif_neg c2)]
      unfold w_taken Row.o
      rw [mDef_run]
      walk_at "ev"
end Z
namespace Z
open PySem PySem.Spec L2
local macro_rules | `(tactic| walk_at "ev") => `(tactic| simp only [fin_nx, fin_rt, fin_er, startL, List.map_cons, List.map_nil, List.length_cons, List.length_nil, List.cons_append, List.nil_append, List.replicate, sSeq, sSet, sIf, sNil, sRet, sItem, sDrop, lift_ok, lift_er, bind_ok, bind_er, eVar, eC, e2, e1, eA, eAnd, eOr, eNot, eIf, aNil, aCons, tOf, tAnd', tOr', tNot', get0, get1, get2, get3, set0, set1, set2, set3, fIx, seqL, atI_0, atI_1, atI_2, atI_3, ixN_0, ixN_1, ixN_2, ixN_3, fI0, fI, fAdd, fLen, clean, if_true, if_false, List.all_cons, List.all_nil, Bool.and_true, Bool.true_and, decide_true, decide_false, Bool.and_self, eCall, set_self, at_self, List.set_set, Bool.false_eq_true, sFor, iA, itemsOf, eNew, eFrz, aClean, fIs, tyOf, locOk, truL, tTr, eTup, *])
theorem small {n : Nat} (h : n ≤ 1000000) : n ≤ sizeLine := by rw [sizeLine_eq]; omega
theorem small_lt {n : Nat} (h : n ≤ 1000000) : n < sizeLine := by rw [sizeLine_eq]; omega
/-! ### the row -/
def rowMix (ns : List Int) (m : Int) : Int := ns.foldl (fun m c => (m * 48271 + c + 11) % 2147483647) m
theorem rowMix_lt : ∀ (ns : List Int) (m : Int), 0 ≤ m → m < 2147483647 → 0 ≤ rowMix ns m ∧ rowMix ns m < 2147483647
  | [], m, h1, h2 => ⟨h1, h2⟩
  | n :: ns, m, h1, h2 => rowMix_lt ns _ (Int.emod_nonneg _ (by omega)) (Int.emod_lt_of_pos _ (by omega))
def w_rowB : MS := sSet 1 (e2 fMod (e2 fAdd (e2 fAdd (e2 fMul (eVar 1) (eC (.int 48271))) (eVar 2)) (eC (.int 11))) (eC (.int 2147483647)))
def w_row : MS := (sSeq (sSet 1 (eC (.int 7)))
  (sSeq (sFor (iA (eVar 0)) (gN 2) w_rowB)
  (sRet (eNew (aClean (aCons (eVar 0) (aCons (eC (.int 0)) (aCons (eC (.int 0)) (aCons (eVar 1) aNil)))))))))
theorem row_loop {a : Sl} {L : LH} : ∀ (ns : List Int) (m : Int) (s2 : Sl), 0 ≤ m → m < 2147483647 → ∃ s2', loop (gN 2) w_rowB (ns.map .int) [a, .val (.int m), s2] L = .nx [a, .val (.int (rowMix ns m)), s2'] L
  | [], m, s2, _, _ => ⟨s2, rfl⟩
  | n :: ns, m, s2, h1, h2 => by
    have hm : cMul m 48271 = true := cMul_of 31 16 (by decide) (by decide) (by omega) (by decide) (by decide)
    have hq2 : decide ((0 : Int) < 2147483647) = true := by decide
    obtain ⟨s2', e⟩ := row_loop (a := a) (L := L) ns ((m * 48271 + n + 11) % 2147483647) (.val (.int n)) (Int.emod_nonneg _ (by omega)) (Int.emod_lt_of_pos _ (by omega))
    refine ⟨s2', ?_⟩
    rw [List.map_cons]
    unfold loop
    unfold w_rowB at e ⊢
    simp only [gN]
    walk_at "ev"
    rfl
theorem row_eq {L : LH} {ns : List Int} : mDef 3 w_row [.rdl (ns.map .int)] L = .ok (.ref L.length) (L ++ [Row.o ⟨ns, 0, 0, rowMix ns 7⟩]) := by
  obtain ⟨s2', e⟩ := row_loop (a := .val (.rdl (ns.map .int))) (L := L) ns 7 .no (by decide) (by decide)
  have hz : decide (4 ≤ sizeLine) = true := decide_eq_true (small (by decide))
  unfold w_row
  rw [mDef_run]
  walk_at "ev"
  rfl
theorem row_ok (ns : List Int) : Row.Ok ⟨ns, 0, 0, rowMix ns 7⟩ := ⟨Nat.zero_le _, (rowMix_lt ns 7 (by decide) (by decide)).1, (rowMix_lt ns 7 (by decide) (by decide)).2⟩
theorem taken0 {R : Row} {many : Int} {rest : LH} (ok : R.Ok) (h0 : 0 < many) (hd : ∀ i, cDiv i many = true) : mDef 4 w_taken [.ref 0, .int many] (R.o :: rest) = .ok (.int (R.take many).1) ((R.take many).2.o :: rest) := taken_eq rfl ok h0 hd
theorem cDiv_small {m : Int} (h0 : 0 < m) (h : m < 4294967296) (i : Int) : cDiv i m = true := cDiv_of 32 h0 (by decide) (by omega) (by decide)

/-! ### comprehensions -/
/-- a step that turns a state, along a list -/
def mapAcc {A B C : Type} (f : A → B → C × A) : A → List B → List C × A
  | s, [] => ([], s)
  | s, x :: xs => ((f s x).1 :: (mapAcc f (f s x).2 xs).1, (mapAcc f (f s x).2 xs).2)
theorem mapAcc_len {A B C : Type} {f : A → B → C × A} : ∀ (xs : List B) (s : A), (mapAcc f s xs).1.length = xs.length
  | [], _ => rfl
  | x :: xs, s => congrArg (· + 1) (mapAcc_len xs _)
theorem compL_acc {A B C : Type} {n : LV → SL → Option SL} {t : MT} {m : ME} {σ0 : SL} (rep : A → LH) (ti : B → LV) (to : C → LV) (f : A → B → C × A) (P : A → Prop) (hc : ∀ c, clean (to c) = true) :
    ∀ (xs : List B) (s : A) (acc : List LV), P s → acc.length + xs.length ≤ 1000000 →
      (∀ s x, x ∈ xs → P s → P (f s x).2 ∧ ∃ σ1, n (ti x) σ0 = some σ1 ∧ t σ1 (rep s) = .ok true (rep s) ∧ m σ1 (rep s) = .ok (to (f s x).1) (rep (f s x).2)) →
      compL n t m σ0 (xs.map ti) acc (rep s) = .ok (acc ++ (mapAcc f s xs).1.map to) (rep (mapAcc f s xs).2) ∧ P (mapAcc f s xs).2
  | [], s, acc, p, _, _ => ⟨by simp [compL, mapAcc], p⟩
  | x :: xs, s, acc, p, hl, h => by
    obtain ⟨p1, σ1, e1, e2, e3⟩ := h s x List.mem_cons_self p
    rw [List.length_cons] at hl
    obtain ⟨ih, ip⟩ := compL_acc rep ti to f P hc xs (f s x).2 (acc ++ [to (f s x).1]) p1 (by rw [List.length_append, List.length_singleton]; omega) fun s y hy => h s y (List.mem_cons_of_mem _ hy)
    refine ⟨?_, ip⟩
    rw [List.map_cons]
    unfold compL
    simp only [e1, e2, e3, if_true, hc, Bool.true_and]
    rw [if_pos (decide_eq_true (small_lt (by omega))), ih]
    simp [mapAcc, List.append_assoc]
/-- .. each item by itself -/
theorem compL_map {B C : Type} {n : LV → SL → Option SL} {t : MT} {m : ME} {σ0 : SL} {L : LH} (ti : B → LV) (to : C → LV) (f : B → C) (hc : ∀ c, clean (to c) = true) (xs : List B) (hl : xs.length ≤ 1000000)
    (h : ∀ x, x ∈ xs → ∃ σ1, n (ti x) σ0 = some σ1 ∧ t σ1 L = .ok true L ∧ m σ1 L = .ok (to (f x)) L) : compL n t m σ0 (xs.map ti) [] L = .ok ((xs.map f).map to) L := by
  have z := compL_acc (A := Unit) (n := n) (t := t) (m := m) (σ0 := σ0) (fun _ => L) ti to (fun _ x => (f x, ())) (fun _ => True) hc xs () [] trivial (by simpa using hl) fun s x hx _ => ⟨trivial, h x hx⟩
  have e : ∀ ys : List B, (mapAcc (fun (_ : Unit) x => (f x, ())) () ys).1 = ys.map f := fun ys => by
    induction ys with
    | nil => rfl
    | cons y ys ih => show f y :: _ = _; rw [ih]; rfl
  rw [e] at z
  exact z.1
theorem rng_map (lo : Int) (n : Nat) : rng lo n = (List.range n).map fun (i : Nat) => LV.int (lo + (i : Int)) := rfl
/-- [taken(row, many) for .. in range(n)] -/
def Row.takes (R : Row) (many : Int) (n : Nat) : List Int × Row := mapAcc (fun (R : Row) (_ : Nat) => R.take many) R (List.range n)
theorem takes_len {R : Row} {many : Int} {n : Nat} : (R.takes many n).1.length = n := by unfold Row.takes; rw [mapAcc_len, List.length_range]
theorem mapAcc_all {A B C : Type} {f : A → B → C × A} {Q : C → Prop} (h : ∀ s x, Q (f s x).1) : ∀ (xs : List B) (s : A), ∀ c ∈ (mapAcc f s xs).1, Q c
  | x :: xs, s, c, hc => by
    rcases List.mem_cons.mp hc with e | e
    · rw [e]; exact h s x
    · exact mapAcc_all h xs _ c e
theorem takes_lt {R : Row} {many : Int} {n : Nat} (h : 0 < many) : ∀ z ∈ (R.takes many n).1, 0 ≤ z ∧ z < many := mapAcc_all (Q := fun z => 0 ≤ z ∧ z < many) (fun _ _ => Row.take_lt h) _ _
theorem takes_eq {R : Row} {many : Int} {n : Nat} {rest : LH} {σ0 : SL} {j : Nat} {e : ME} (ok : R.Ok) (hn : n ≤ 1000000) (he : ∀ (R : Row) (i : Int), R.Ok → e (σ0.set j (.val (.int i))) (R.o :: rest) = .ok (.int (R.take many).1) ((R.take many).2.o :: rest)) :
    compL (gN j) tYes' e σ0 (rng 0 n) [] (R.o :: rest) = .ok ((R.takes many n).1.map .int) ((R.takes many n).2.o :: rest) ∧ (R.takes many n).2.Ok := by
  rw [rng_map]
  exact compL_acc (fun R : Row => R.o :: rest) (fun (i : Nat) => LV.int (0 + (i : Int))) LV.int (fun (R : Row) (_ : Nat) => R.take many) Row.Ok (fun _ => rfl) (List.range n) R [] ok (by simpa using hn) fun s x _ p => ⟨Row.take_ok p, _, rfl, rfl, he s _ p⟩

/-! ### lists of ints looked at -/
theorem toDs_ints {σ : SL} {L : LH} : ∀ ns : List Int, toDs σ L (ns.map .int) = some (ns.map .int)
  | [] => rfl
  | n :: ns => by rw [List.map_cons, toDs, toD, toDs_ints ns]; rfl
theorem depthAll_ints : ∀ ns : List Int, True := fun _ => trivial
def w_whole : MS := (sRet (eAnd (e1 (fIs (isB "int")) (eVar 0)) (eNot (e1 (fIs (isB "bool")) (eVar 0)))))
theorem whole_eq {i : Int} {L : LH} : mDef 1 w_whole [.int i] L = .ok (.bl true) L := by
  have k1 : isB "int" (.b "int") = some true := by decide +kernel
  have k2 : isB "bool" (.b "int") = some false := by decide +kernel
  unfold w_whole
  rw [mDef_run]
  walk_at "ev"
  rfl
end Z
namespace Z
open PySem PySem.Spec L2
local macro_rules | `(tactic| walk_at "ev") => `(tactic| simp only [fin_nx, fin_rt, fin_er, startL, List.map_cons, List.map_nil, List.length_cons, List.length_nil, List.cons_append, List.nil_append, List.replicate, sSeq, sSet, sIf, sNil, sRet, sItem, sDrop, sRaise, lift_ok, lift_er, bind_ok, bind_er, eVar, eC, e2, e1, eA, eAnd, eOr, eNot, eIf, eChain, aNil, aCons, tOf, tAnd', tOr', tNot', get0, get1, get2, get3, get4, get5, get6, get7, get8, get9, get10, get11, get12, get13, set0, set1, set2, set3, set4, set5, set6, set7, set8, set9, set10, set11, set12, set13, fIx, seqL, seqM, atI_0, atI_1, atI_2, atI_3, ixN_0, ixN_1, ixN_2, ixN_3, fI0, fI, fAdd, fLen, fEq_int, fEq_str, fEq_bl, clean, if_true, if_false, List.all_cons, List.all_nil, Bool.and_true, Bool.true_and, Bool.false_and, Bool.not_true, Bool.not_false, decide_true, decide_false, Bool.and_self, eCall, set_self, at_self, List.set_set, Bool.false_eq_true, sFor, iA, iR1, itemsOf, eNew, eFrz, aClean, aComp, wipeL, aSl, oSome, oNone, eMt, fIs, tyOf, locOk, truL, tTr, eTup, gN, fInt, *])
/-! ### == of data -/
theorem canLay_ints : ∀ ns : List Int, PyData.canLayAll0 (ns.map .int) = true
  | [] => rfl
  | n :: ns => by rw [List.map_cons, PyData.canLayAll0, canLay_ints ns]; rfl
theorem depth_ints : ∀ ns : List Int, PyData.depthAll (ns.map .int) = 0
  | [] => rfl
  | n :: ns => by rw [List.map_cons, PyData.depthAll, depth_ints ns]; rfl
theorem shaped_ints (ns : List Int) : SeqAt.shaped (.list (ns.map .int)) = true := by
  unfold SeqAt.shaped
  rw [PyData.canLay0, canLay_ints, PyData.depth, depth_ints]
  rfl
theorem eqv_self {d : PyData} (h : SeqAt.shaped d = true) : PyData.eqv d d = true := SeqAt.eqv_refl d (SeqAt.canLay_of_shaped h)
/-- the same data twice -/
theorem eq_same {v : LV} {d : PyData} {σ : SL} {L : LH} (hs : eqS v v = none) (h : toDV σ L v = some d) (hd : SeqAt.shaped d = true) : fEq v v σ L = .ok (.bl true) L := by
  unfold fEq fEqN
  simp only [hs, h, hd, eqv_self hd, Bool.and_self, if_true, Bool.false_eq_true, if_false]
theorem eq_ints {ns : List Int} {σ : SL} {L : LH} : fEq (.lst (ns.map .int)) (.lst (ns.map .int)) σ L = .ok (.bl true) L :=
  eq_same (d := .list (ns.map .int)) rfl (by simp only [toDV, toD, toDs_ints]; rfl) (shaped_ints ns)
def w_listB : MS := (sIf (tNot' (tTr (eCall 1 (mDef 1 w_whole) (aCons (eVar 2) aNil)))) (sRet (eC (.bl false))) sNil)
def w_list : MS := (sSeq (sIf (tOr' (tNot' (tTr (e1 (fIs (isB "list")) (eVar 0)))) (tOf (e2 fNe (eA fLen (aCons (eVar 0) aNil)) (eA fLen (aCons (eVar 1) aNil))))) (sRet (eC (.bl false))) sNil)
  (sSeq (sFor (iA (eVar 0)) (gN 2) w_listB)
  (sRet (e2 fEq (eVar 0) (eVar 1)))))
theorem list_loop {a b : Sl} {L : LH} : ∀ (ns : List Int) (s : Sl), ∃ s', loop (gN 2) w_listB (ns.map .int) [a, b, s] L = .nx [a, b, s'] L
  | [], s => ⟨s, rfl⟩
  | n :: ns, s => by
    obtain ⟨s', e⟩ := list_loop (a := a) (b := b) (L := L) ns (.val (.int n))
    refine ⟨s', ?_⟩
    have w := @whole_eq n L
    rw [List.map_cons]
    unfold loop
    unfold w_listB at e ⊢
    simp only [gN, set2, sIf, tNot', tTr, eCall, aCons, aNil, eVar, get2, bind_ok, List.all_cons, List.all_nil, clean, Bool.and_true, List.length_cons, List.length_nil, decide_true, if_true, w, truL, lift_ok, Bool.not_true, Bool.false_eq_true, if_false, sNil, e]
theorem list_eq {ns : List Int} {L : LH} : mDef 3 w_list [.lst (ns.map .int), .lst (ns.map .int)] L = .ok (.bl true) L := by
  obtain ⟨s', e⟩ := list_loop (a := .val (.lst (ns.map .int))) (b := .val (.lst (ns.map .int))) (L := L) ns .no
  have k1 : isB "list" (.b "list") = some true := by decide +kernel
  have q : ∀ σ : SL, fEq (.lst (ns.map .int)) (.lst (ns.map .int)) σ L = .ok (.bl true) L := fun σ => eq_ints
  unfold w_list
  rw [mDef_run]
  walk_at "ev"
/-! ### the signs -/
def SG : Str := " !\"#$&'()*+,-./0123456789:;<=>?@ABCDEFGHIJKLMNOPQRSTUVWXYZ[\\]^_`abcdefghijklmnopqrstuvwxyz{|}~"
def SGL : List Nat := SG.cps.toList
theorem sg_len : SGL.length = 94 := by decide +kernel
theorem sg_occ : ∀ k : _root_.Fin 94, Builtin.Str.occurrences SG ⟨#[SGL.getD k.val 0]⟩ 0 SG.length 1 = [k.val] := by decide +kernel
theorem sg_cat : (" !\"#$&'()*+,-./0123456789:;<=>?@ABCDEFGHIJKLMNOPQRSTUVWXYZ[\\]^_`" : Str) ++ ("abcdefghijklmnopqrstuvwxyz{|}~" : Str) = SG := by decide +kernel
end Z
namespace Z
open PySem PySem.Spec L2 TL
local macro_rules | `(tactic| walk_at "ev") => `(tactic| simp only [fin_nx, fin_rt, fin_er, startL, List.map_cons, List.map_nil, List.length_cons, List.length_nil, List.cons_append, List.nil_append, List.replicate, sSeq, sSet, sIf, sNil, sRet, sItem, sDrop, sRaise, lift_ok, lift_er, bind_ok, bind_er, eVar, eC, e2, e1, eA, eAnd, eOr, eNot, eIf, eChain, aNil, aCons, tOf, tAnd', tOr', tNot', get0, get1, get2, get3, get4, get5, get6, get7, get8, get9, get10, get11, get12, get13, set0, set1, set2, set3, set4, set5, set6, set7, set8, set9, set10, set11, set12, set13, fIx, seqL, seqM, atI_0, atI_1, atI_2, atI_3, ixN_0, ixN_1, ixN_2, ixN_3, fI0, fI, fAdd, fLen, fEq_int, fEq_str, fEq_bl, clean, if_true, if_false, List.all_cons, List.all_nil, Bool.and_true, Bool.true_and, Bool.false_and, Bool.not_true, Bool.not_false, decide_true, decide_false, Bool.and_self, eCall, set_self, at_self, List.set_set, Bool.false_eq_true, sFor, iA, iR1, itemsOf, eNew, eFrz, aClean, aComp, wipeL, aSl, oSome, oNone, eMt, fIs, tyOf, locOk, truL, tTr, eTup, gN, fInt, *])
/-! ### texts of the signs -/
def sg1 (k : Nat) : Str := ⟨#[SGL.getD k 0]⟩
def txt (ks : List Nat) : Str := ⟨(ks.map fun k => SGL.getD k 0).toArray⟩
theorem txt_len (ks : List Nat) : (txt ks).length = ks.length := by rw [len_tl]; unfold txt tl; simp
theorem sgl_ok : ∀ k : _root_.Fin 94, decide (SGL.getD k.val 0 < 0x110000) = true := by decide +kernel
theorem txt_ok {ks : List Nat} (hk : ∀ k ∈ ks, k < 94) : PyData.strOk (txt ks) = true := by
  unfold PyData.strOk txt
  rw [← Array.all_toList, List.all_eq_true]
  intro c hc
  obtain ⟨k, h1, rfl⟩ := List.mem_map.mp (by simpa using hc)
  exact sgl_ok ⟨k, hk k h1⟩
theorem shaped_txt {ks : List Nat} {n : Int} (hk : ∀ k ∈ ks, k < 94) : SeqAt.shaped (.tuple [.str (txt ks), .int n]) = true := by
  unfold SeqAt.shaped
  simp only [PyData.canLay0, PyData.canLayAll0, txt_ok hk, PyData.depth, PyData.depthAll]
  rfl
theorem txt_snoc (ks : List Nat) (k : Nat) : txt ks ++ sg1 k = txt (ks ++ [k]) := by
  refine ext_tl ?_
  rw [tl_append]
  unfold txt sg1 tl
  simp
theorem txt_signs (ks : List Nat) : signs (txt ks) = ks.map fun k => LV.str (sg1 k) := by
  unfold signs txt sg1
  simp [Function.comp_def]
theorem strs_map (ks : List Nat) : strs? (ks.map fun k => LV.str (sg1 k)) = some (ks.map sg1) := by
  induction ks with
  | nil => rfl
  | cons k ks ih => rw [List.map_cons, strs?, ih]; rfl
theorem join_signs (ks : List Nat) : Txt.join "" (ks.map sg1) = txt ks := by
  rw [join_eq]
  refine ext_tl ?_
  rw [tl_join]
  have e0 : tl ("" : Str) = [] := rfl
  rw [e0]
  induction ks with
  | nil => rfl
  | cons k ks ih =>
    cases ks with
    | nil => rfl
    | cons k2 ks =>
      rw [List.map_cons, List.map_cons, List.map_cons, List.map_cons, joinL, List.nil_append]
      rw [List.map_cons, List.map_cons] at ih
      rw [ih]
      unfold txt sg1 tl
      simp
theorem sum_ones (ks : List Nat) : ((ks.map sg1).map (·.length)).sum = ks.length := by
  induction ks with
  | nil => rfl
  | cons k ks ih => rw [List.map_cons, List.map_cons, List.sum_cons, ih]; show 1 + ks.length = ks.length + 1; omega
theorem idx_eq {k : Nat} {σ : SL} {L : LH} (h : k < 94) : fSIdx (.str SG) [.str (sg1 k)] σ L = .ok (.int (k : Nat)) L := by
  have e : Builtin.Str.occurrences SG (sg1 k) 0 SG.length 1 = [k] := sg_occ ⟨k, h⟩
  unfold fSIdx
  simp only [e]
def w_signs : MS := (sSeq (sSet 0 (eC (.str " !\"#$&'()*+,-./0123456789:;<=>?@ABCDEFGHIJKLMNOPQRSTUVWXYZ[\\]^_`")))
  (sRet (e2 fAdd (eVar 0) (eC (.str "abcdefghijklmnopqrstuvwxyz{|}~")))))
theorem signs_eq {L : LH} : mDef 1 w_signs [] L = .ok (.str SG) L := by
  have hz : (" !\"#$&'()*+,-./0123456789:;<=>?@ABCDEFGHIJKLMNOPQRSTUVWXYZ[\\]^_`" : Str).length + ("abcdefghijklmnopqrstuvwxyz{|}~" : Str).length ≤ sizeLine := small (by decide +kernel)
  unfold w_signs
  rw [mDef_run]
  walk_at "ev"
  rw [sg_cat]
/-- the numbers that tell a text -/
def due (ks : List Nat) : List Int := (ks.length : Int) :: ks.map fun (k : Nat) => (k : Int)
def w_told : MS := (sRet (e2 fAdd (eFrz (aClean (aCons (eA fLen (aCons (eVar 0) aNil)) aNil))) (eFrz (aComp (iA (eVar 0)) (gN 1) tYes' (eMt fSIdx (eCall 0 (mDef 1 w_signs) aNil) (aCons (eVar 1) aNil)) [1]))))
theorem told_comp {ks : List Nat} {L : LH} {σ0 : SL} {mo : ME} (hk : ∀ k ∈ ks, k < 94) (hl : ks.length ≤ 1000) (h0 : σ0.length = 2) (hm : ∀ σ, mo σ L = .ok (.str SG) L) :
    compL (gN 1) tYes' (eMt fSIdx mo (aCons (eVar 1) aNil)) σ0 (signs (txt ks)) [] L = .ok ((ks.map fun (k : Nat) => (k : Int)).map .int) L := by
  rw [txt_signs]
  refine compL_map (fun k => LV.str (sg1 k)) LV.int (fun (k : Nat) => (k : Int)) (fun _ => rfl) ks (by omega) fun k hx => ⟨_, rfl, rfl, ?_⟩
  have q : ∀ σ, fSIdx (.str SG) [.str (sg1 k)] σ L = .ok (.int (k : Nat)) L := fun σ => idx_eq (hk k hx)
  match σ0, h0 with
  | [a, b], _ =>
    walk_at "ev"
theorem lens_ints (ns : List Int) : (ns.map LV.int).length = ns.length := List.length_map ..
theorem told_eq {ks : List Nat} {L : LH} (hk : ∀ k ∈ ks, k < 94) (hl : ks.length ≤ 1000) : mDef 2 w_told [.str (txt ks)] L = .ok (.lst ((due ks).map .int)) L := by
  have c := told_comp (σ0 := [.val (.str (txt ks)), .no]) (mo := eCall 0 (mDef 1 w_signs) aNil) (L := L) hk hl rfl fun σ => by
    simp only [eCall, aNil, bind_ok, List.all_nil, List.length_nil, decide_true, Bool.and_self, if_true, signs_eq]
  have z1 : (txt ks).length ≤ sizeLine := by rw [txt_len]; exact small (by omega)
  have z2 : decide (1 ≤ sizeLine) = true := decide_eq_true (small (by decide))
  have z3 : 1 + ((ks.map fun (k : Nat) => (k : Int)).map LV.int).length ≤ sizeLine := small (by rw [List.length_map, List.length_map]; omega)
  have z4 : ((txt ks).length : Int) = ks.length := by rw [txt_len]
  unfold w_told due
  rw [mDef_run]
  walk_at "ev"
end Z
namespace Z
open PySem PySem.Spec L2 TL
local macro_rules | `(tactic| walk_at "ev") => `(tactic| simp only [fin_nx, fin_rt, fin_er, startL, List.map_cons, List.map_nil, List.length_cons, List.length_nil, List.cons_append, List.nil_append, List.replicate, sSeq, sSet, sIf, sNil, sRet, sItem, sDrop, sRaise, lift_ok, lift_er, bind_ok, bind_er, eVar, eC, e2, e1, eA, eAnd, eOr, eNot, eIf, eChain, aNil, aCons, tOf, tAnd', tOr', tNot', get0, get1, get2, get3, get4, get5, get6, get7, get8, get9, get10, get11, get12, get13, set0, set1, set2, set3, set4, set5, set6, set7, set8, set9, set10, set11, set12, set13, fIx, seqL, seqM, atI_0, atI_1, atI_2, atI_3, ixN_0, ixN_1, ixN_2, ixN_3, fI0, fI, fAdd, fLen, fEq_int, fEq_str, fEq_bl, clean, if_true, if_false, List.all_cons, List.all_nil, Bool.and_true, Bool.true_and, Bool.false_and, Bool.not_true, Bool.not_false, decide_true, decide_false, Bool.and_self, eCall, set_self, at_self, List.set_set, Bool.false_eq_true, sFor, iA, iR1, itemsOf, eNew, eFrz, aClean, aComp, wipeL, aSl, oSome, oNone, eMt, fIs, tyOf, locOk, truL, tTr, eTup, gN, fInt, *])
theorem sg_at {k : Nat} (h : k < 94) : SGL[k]? = some (SGL.getD k 0) := by
  have hl : k < SGL.length := by rw [sg_len]; exact h
  rw [List.getElem?_eq_getElem hl, List.getD_eq_getElem?_getD, List.getElem?_eq_getElem hl]
  rfl
theorem sg_atI {i : Int} (h0 : 0 ≤ i) (h : i < 94) : L2.atI SG.cps.toList i = some (SGL.getD i.toNat 0) := by
  have e : i = (i.toNat : Int) := by omega
  rw [e]
  exact atI_nat (sg_at (by omega))
theorem sgz : SG.length ≤ sizeLine := small (by decide +kernel)
/-! ### a drawn text -/
def w_textB : MS := (sSeq (sSet 4 (e2 fAdd (eVar 4) (e2 fIx (eVar 2) (e2 fMod (e2 fAdd (eVar 0) (e2 fMul (eVar 3) (eVar 5))) (eC (.int 94))))))
  (sSet 0 (e2 fDiv (eVar 0) (eC (.int 94)))))
theorem text_loop {sz : Sl} {L : LH} {step : Int} (h1 : 0 ≤ step) (h2 : step < 8) : ∀ (xs : List Nat) (cell : Int) (ks : List Nat) (s : Sl), (∀ x ∈ xs, x < 1000) → (∀ k ∈ ks, k < 94) → ks.length + xs.length ≤ 1000 →
    ∃ cell' ks' s', loop (gN 5) w_textB (xs.map fun (i : Nat) => LV.int (0 + (i : Int))) [.val (.int cell), sz, .val (.str SG), .val (.int step), .val (.str (txt ks)), s] L = .nx [.val (.int cell'), sz, .val (.str SG), .val (.int step), .val (.str (txt ks')), s'] L ∧ ks'.length = ks.length + xs.length ∧ ∀ k ∈ ks', k < 94
  | [], cell, ks, s, _, hk, _ => ⟨cell, ks, s, rfl, rfl, hk⟩
  | x :: xs, cell, ks, s, hx, hk, hl => by
    rw [List.length_cons] at hl
    have hx0 := hx x List.mem_cons_self
    have hm : cMul step (0 + (x : Int)) = true := cMul_of 3 10 (by decide) (by decide) (by omega) (by omega) (by decide)
    have hq : decide ((0 : Int) < 94) = true := by decide
    have hd : ∀ i, cDiv i 94 = true := cDiv_small (by decide) (by decide)
    generalize ei : (cell + step * (0 + (x : Int))) % 94 = i
    have i0 : 0 ≤ i := by rw [← ei]; exact Int.emod_nonneg _ (by decide)
    have i1 : i < 94 := by rw [← ei]; exact Int.emod_lt_of_pos _ (by decide)
    have ea := sg_atI i0 i1
    have hz := sgz
    have hz2 : (txt ks).length + (sg1 i.toNat).length ≤ sizeLine := small (by rw [txt_len]; show ks.length + 1 ≤ _; omega)
    have es : txt ks ++ (⟨#[SGL.getD i.toNat 0]⟩ : Str) = txt (ks ++ [i.toNat]) := txt_snoc ks i.toNat
    have hz3 : (txt ks).length + Str.length ⟨#[SGL.getD i.toNat 0]⟩ ≤ sizeLine := hz2
    obtain ⟨cell', ks', s', e, e1, e2⟩ := text_loop (sz := sz) (L := L) h1 h2 xs (cell / 94) (ks ++ [i.toNat]) (.val (.int (0 + (x : Int)))) (fun y hy => hx y (List.mem_cons_of_mem _ hy)) (fun k h => by
      rcases List.mem_append.mp h with h | h
      · exact hk k h
      · have : k = i.toNat := by simpa using h
        omega) (by rw [List.length_append, List.length_singleton]; omega)
    refine ⟨cell', ks', s', ?_, by rw [e1, List.length_append, List.length_singleton, List.length_cons]; omega, e2⟩
    rw [List.map_cons]
    unfold loop
    unfold w_textB at e ⊢
    walk_at "ev"
def w_text : MS := (sSeq (sSet 2 (eCall 0 (mDef 1 w_signs) aNil))
  (sSeq (sSet 3 (e2 fAdd (eC (.int 1)) (e2 fMod (eVar 0) (eC (.int 7)))))
  (sSeq (sSet 4 (eC (.str "")))
  (sSeq (sFor (iR1 (aCons (eVar 1) aNil)) (gN 5) w_textB)
  (sRet (eVar 4))))))
theorem text_eq {cell size : Int} {L : LH} (h0 : 0 ≤ size) (h1 : size ≤ 900) : ∃ ks : List Nat, (ks.length : Int) = size ∧ (∀ k ∈ ks, k < 94) ∧ mDef 6 w_text [.int cell, .int size] L = .ok (.str (txt ks)) L := by
  have s0 := Int.emod_nonneg cell (show (7 : Int) ≠ 0 by decide)
  have s1 := Int.emod_lt_of_pos cell (show (0 : Int) < 7 by decide)
  obtain ⟨cell', ks', s', e, e1, e2⟩ := text_loop (sz := .val (.int size)) (L := L) (step := 1 + cell % 7) (by omega) (by omega) (List.range size.toNat) cell [] .no (fun x hx => by have := List.mem_range.mp hx; omega) (fun k h => by simp at h) (by simp; omega)
  refine ⟨ks', by rw [e1]; simp; omega, e2, ?_⟩
  have hq : decide ((0 : Int) < 7) = true := by decide
  have sg := @signs_eq L
  have hr : (-(2 ^ 62) ≤ size ∧ size < 2 ^ 62) = True := by simp; omega
  have ht : (Str.ofString "") = txt [] := rfl
  have er : loop (gN 5) w_textB (rng 0 size.toNat) [.val (.int cell), .val (.int size), .val (.str SG), .val (.int (1 + cell % 7)), .val (.str (txt [])), .no] L = .nx [.val (.int cell'), .val (.int size), .val (.str SG), .val (.int (1 + cell % 7)), .val (.str (txt ks')), s'] L := e
  unfold w_text
  rw [ht, mDef_run]
  clear e
  generalize txt [] = t0 at *
  walk_at "ev"
end Z
namespace Z
open PySem PySem.Spec L2 TL
local macro_rules | `(tactic| walk_at "ev") => `(tactic| simp only [fin_nx, fin_rt, fin_er, startL, List.map_cons, List.map_nil, List.length_cons, List.length_nil, List.cons_append, List.nil_append, List.replicate, sSeq, sSet, sIf, sNil, sRet, sItem, sDrop, sRaise, lift_ok, lift_er, bind_ok, bind_er, eVar, eC, e2, e1, eA, eAnd, eOr, eNot, eIf, eChain, aNil, aCons, tOf, tAnd', tOr', tNot', get0, get1, get2, get3, get4, get5, get6, get7, get8, get9, get10, get11, get12, get13, set0, set1, set2, set3, set4, set5, set6, set7, set8, set9, set10, set11, set12, set13, fIx, seqL, seqM, atI_0, atI_1, atI_2, atI_3, ixN_0, ixN_1, ixN_2, ixN_3, fI0, fI, fAdd, fLen, fEq_int, fEq_str, fEq_bl, clean, if_true, if_false, List.all_cons, List.all_nil, Bool.and_true, Bool.true_and, Bool.false_and, Bool.not_true, Bool.not_false, decide_true, decide_false, Bool.and_self, eCall, set_self, at_self, List.set_set, Bool.false_eq_true, sFor, iA, iR1, itemsOf, eNew, eFrz, aClean, aComp, wipeL, aSl, oSome, oNone, eMt, fIs, tyOf, locOk, truL, tTr, eTup, gN, fInt, fJoin, *])
/-! ### the program's texts -/
def w_text_numbers : MS := (sRet (e2 fAdd (eFrz (aClean (aCons (eA fLen (aCons (eVar 0) aNil)) aNil))) (eFrz (aComp (iA (eVar 0)) (gN 1) tYes' (eMt fSIdx (eC (.str SG)) (aCons (eVar 1) aNil)) [1]))))
theorem text_numbers_eq {ks : List Nat} {L : LH} (hk : ∀ k ∈ ks, k < 94) (hl : ks.length ≤ 1000) : mDef 2 w_text_numbers [.str (txt ks)] L = .ok (.lst ((due ks).map .int)) L := by
  have c := told_comp (σ0 := [.val (.str (txt ks)), .no]) (mo := eC (.str SG)) (L := L) hk hl rfl fun σ => rfl
  have z1 : (txt ks).length ≤ sizeLine := by rw [txt_len]; exact small (by omega)
  have z2 : decide (1 ≤ sizeLine) = true := decide_eq_true (small (by decide))
  have z3 : 1 + ((ks.map fun (k : Nat) => (k : Int)).map LV.int).length ≤ sizeLine := small (by rw [List.length_map, List.length_map]; omega)
  have z4 : ((txt ks).length : Int) = ks.length := by rw [txt_len]
  unfold w_text_numbers due
  rw [mDef_run]
  walk_at "ev"
def w_sign_of : MS := (sSeq (sIf (tNot' (tOf (eChain fLe fLt (eC (.int 0)) (eVar 0) (eA fLen (aCons (eC (.str SG)) aNil))))) (sRaise "BadHead") sNil)
  (sRet (e2 fIx (eC (.str SG)) (eVar 0))))
theorem sign_of_eq {k : Nat} {L : LH} (h : k < 94) : mDef 1 w_sign_of [.int (k : Nat)] L = .ok (.str (sg1 k)) L := by
  have z := sgz
  have e1 : SG.length = 94 := by decide +kernel
  have e2 : (0 : Int) ≤ (k : Nat) := by omega
  have e3 : ((k : Nat) : Int) < ((94 : Nat) : Int) := by omega
  have e4 := sg_atI e2 (by omega)
  rw [e1] at z
  unfold w_sign_of
  rw [mDef_run]
  walk_at "ev"
  rfl
def w_text_size : MS := (sSeq (sIf (tNot' (tOf (eChain fLe fLt (eC (.int 0)) (eVar 1) (eA fLen (aCons (eVar 0) aNil))))) (sRaise "BadHead") sNil)
  (sSeq (sIf (tNot' (tOf (eChain fLe fLe (eC (.int 0)) (e2 fIx (eVar 0) (eVar 1)) (eC (.int 20))))) (sRaise "BadHead") sNil)
  (sRet (e2 fIx (eVar 0) (eVar 1)))))
theorem text_size_eq {ns : List Int} {a : Nat} {n : Int} {L : LH} (h : ns[a]? = some n) (h0 : 0 ≤ n) (h1 : n ≤ 20) : mDef 2 w_text_size [.lst (ns.map .int), .int a] L = .ok (.int n) L := by
  have e1 : L2.atI (ns.map LV.int) (a : Int) = some (.int n) := atI_nat (by rw [List.getElem?_map, h]; rfl)
  have ha : a < ns.length := (List.getElem?_eq_some_iff.mp h).1
  have e2 : (0 : Int) ≤ (a : Int) := by omega
  have e3 : (a : Int) < (ns.map LV.int).length := by rw [List.length_map]; omega
  unfold w_text_size
  rw [mDef_run]
  walk_at "ev"
def w_text_at : MS := (sSeq (sSet 2 (eCall 2 (mDef 2 w_text_size) (aCons (eVar 0) (aCons (eVar 1) aNil))))
  (sSeq (sSet 3 (e2 fAdd (eVar 1) (eC (.int 1))))
  (sSeq (sSet 4 (e2 fAdd (eVar 3) (eVar 2)))
  (sSeq (sIf (tOf (e2 fGt (eVar 4) (eA fLen (aCons (eVar 0) aNil)))) (sRaise "BadHead") sNil)
  (sSeq (sSet 5 (eMt fJoin (eC (.str "")) (aCons (eFrz (aComp (iA (eFrz (aSl (eVar 0) (oSome (eVar 3)) (oSome (eVar 4))))) (gN 6) tYes' (eCall 1 (mDef 1 w_sign_of) (aCons (eVar 6) aNil)) [6])) aNil)))
  (sRet (eTup (aCons (eVar 5) (aCons (eVar 4) aNil)))))))))
theorem cut_mid {A M B : List Int} : cutL ((A ++ M ++ B).map LV.int) (some (A.length : Nat)) (some ((A.length + M.length : Nat) : Int)) = M.map LV.int := by
  unfold cutL
  rw [HT.sIx_nat, HT.sIx_nat, List.length_map, List.length_append, List.length_append]
  rw [Nat.min_eq_left (by omega), Nat.min_eq_left (by omega), Nat.add_sub_cancel_left, List.map_append, List.map_append, List.append_assoc, List.drop_left' (List.length_map ..), List.take_left' (List.length_map ..)]
theorem text_at_eq {A B : List Int} {ks : List Nat} {L : LH} (hk : ∀ k ∈ ks, k < 94) (hl : ks.length ≤ 20) : mDef 7 w_text_at [.lst ((A ++ due ks ++ B).map .int), .int A.length] L = .ok (.tup [.str (txt ks), .int (A.length + (due ks).length : Nat)]) L := by
  have s1 : mDef 2 w_text_size [.lst ((A ++ due ks ++ B).map .int), .int (A.length : Nat)] L = .ok (.int (ks.length : Nat)) L := text_size_eq (by unfold due; simp) (by omega) (by omega)
  have c1 : cutL ((A ++ due ks ++ B).map LV.int) (some ((A.length : Int) + 1)) (some ((A.length : Int) + 1 + ks.length)) = (ks.map fun (k : Nat) => (k : Int)).map LV.int := by
    have z := cut_mid (A := A ++ [(ks.length : Int)]) (M := ks.map fun (k : Nat) => (k : Int)) (B := B)
    have e1 : ((A ++ [(ks.length : Int)]).length : Int) = (A.length : Int) + 1 := by simp
    have e2 : (((A ++ [(ks.length : Int)]).length + (ks.map fun (k : Nat) => (k : Int)).length : Nat) : Int) = (A.length : Int) + 1 + ks.length := by simp
    rw [e1, e2] at z
    rw [← z]
    unfold due
    simp
  have g1 : ¬ (((A ++ due ks ++ B).map LV.int).length : Int) < (A.length : Int) + 1 + ks.length := by unfold due; simp; omega
  have q : ∀ σ0 : SL, σ0.length = 7 → compL (gN 6) tYes' (eCall 1 (mDef 1 w_sign_of) (aCons (eVar 6) aNil)) σ0 ((ks.map fun (k : Nat) => (k : Int)).map LV.int) [] L = .ok ((ks.map sg1).map .str) L := fun σ0 h0 => by
    rw [List.map_map]
    refine compL_map (LV.int ∘ fun (k : Nat) => (k : Int)) LV.str sg1 (fun _ => rfl) ks (by omega) fun k hx => ⟨_, rfl, rfl, ?_⟩
    have so := @sign_of_eq k L (hk k hx)
    match σ0, h0 with
    | [a, b, c, d, e, f, g], _ =>
      show eCall 1 _ _ _ L = _
      simp only [Function.comp]
      walk_at "ev"
  have q7 : ∀ a b c d e f g : Sl, compL (gN 6) tYes' (eCall 1 (mDef 1 w_sign_of) (aCons (eVar 6) aNil)) [a, b, c, d, e, f, g] ((ks.map fun (k : Nat) => (k : Int)).map LV.int) [] L = .ok ((ks.map sg1).map .str) L := fun a b c d e f g => q _ rfl
  have st : strs? ((ks.map sg1).map .str) = some (ks.map sg1) := by rw [List.map_map]; exact strs_map ks
  have sz : ((ks.map sg1).map (·.length)).sum + (ks.map sg1).length * Str.length "" ≤ 16777216 := by
    rw [sum_ones]
    show ks.length + _ * 0 ≤ _
    omega
  have js := join_signs ks
  have z2 : decide (2 ≤ sizeLine) = true := decide_eq_true (small (by decide))
  clear q
  unfold w_text_at
  rw [mDef_run]
  have en : ((A.length + (due ks).length : Nat) : Int) = ((A.length : Int) + 1 + ks.length) := by unfold due; simp; omega
  rw [en]
  clear en
  generalize ((A ++ due ks ++ B).map LV.int) = v at *
  walk_at "ev"
end Z
namespace Z
open PySem PySem.Spec L2 TL
local macro_rules | `(tactic| walk_at "ev") => `(tactic| simp only [fin_nx, fin_rt, fin_er, startL, List.map_cons, List.map_nil, List.length_cons, List.length_nil, List.cons_append, List.nil_append, List.replicate, sSeq, sSet, sIf, sNil, sRet, sItem, sDrop, sRaise, lift_ok, lift_er, bind_ok, bind_er, eVar, eC, e2, e1, eA, eAnd, eOr, eNot, eIf, eChain, aNil, aCons, tOf, tAnd', tOr', tNot', get0, get1, get2, get3, get4, get5, get6, get7, get8, get9, get10, get11, get12, get13, set0, set1, set2, set3, set4, set5, set6, set7, set8, set9, set10, set11, set12, set13, fIx, seqL, seqM, atI_0, atI_1, atI_2, atI_3, ixN_0, ixN_1, ixN_2, ixN_3, fI0, fI, fAdd, fLen, fEq_int, fEq_str, fEq_bl, clean, if_true, if_false, List.all_cons, List.all_nil, Bool.and_true, Bool.true_and, Bool.false_and, Bool.not_true, Bool.not_false, decide_true, decide_false, Bool.and_self, eCall, set_self, at_self, List.set_set, Bool.false_eq_true, sFor, iA, iR1, itemsOf, eNew, eFrz, aClean, aComp, wipeL, aSl, oSome, oNone, eMt, fIs, tyOf, locOk, truL, tTr, eTup, gN, fInt, fJoin, *])
theorem step {a b : MS} {σ σ1 : SL} {L L1 : LH} {r : O LV} (h : a σ L = .nx σ1 L1) (k : fin (b σ1 L1) = r) : fin (sSeq a b σ L) = r := by
  unfold sSeq
  rw [h]
  exact k
theorem sign_of_er {z : Int} {L : LH} (h : 94 ≤ z) : mDef 1 w_sign_of [.int z] L = .er "BadHead" [] [] L := by
  have zz := sgz
  have e1 : SG.length = 94 := by decide +kernel
  have e2 : (0 : Int) ≤ z := by omega
  have e3 : ¬ z < ((94 : Nat) : Int) := by omega
  rw [e1] at zz
  unfold w_sign_of
  rw [mDef_run]
  walk_at "ev"
theorem comp_signs {L : LH} : ∀ (M : List Int) (acc : List LV) (a b c d e f g : Sl), (∀ z ∈ M, 0 ≤ z) → acc.length + M.length ≤ 1000 →
    compLX (gN 6) tYes' (eCall 1 (mDef 1 w_sign_of) (aCons (eVar 6) aNil)) [a, b, c, d, e, f, g] (M.map .int) acc L = if M.all (fun z => decide (z ≤ 93)) = true then .ok (acc ++ M.map fun z => .str (sg1 z.toNat)) L else .er "BadHead" [] [] L
  | [], acc, a, b, c, d, e, f, g, _, _ => by simp [compLX]
  | z :: M, acc, a, b, c, d, e, f, g, h0, hl => by
    rw [List.length_cons] at hl
    have ih := fun (acc' : List LV) (q : acc'.length + M.length ≤ 1000) => comp_signs (L := L) M acc' a b c d e f g (fun z hz => h0 z (List.mem_cons_of_mem _ hz)) q
    rw [List.map_cons]
    unfold compLX
    have hs : gN 6 (.int z) [a, b, c, d, e, f, g] = some [a, b, c, d, e, f, .val (.int z)] := rfl
    have ht : tYes' [a, b, c, d, e, f, .val (.int z)] L = .ok true L := rfl
    by_cases hz : z ≤ 93
    · have so : mDef 1 w_sign_of [.int z] L = .ok (.str (sg1 z.toNat)) L := by
        have z0 := h0 z List.mem_cons_self
        have e1 : z = (z.toNat : Int) := by omega
        have := @sign_of_eq z.toNat L (by omega)
        rw [← e1] at this
        exact this
      have he : eCall 1 (mDef 1 w_sign_of) (aCons (eVar 6) aNil) [a, b, c, d, e, f, .val (.int z)] L = .ok (.str (sg1 z.toNat)) L := by walk_at "ev"
      simp only [hs, ht, he, if_true, clean, Bool.true_and]
      rw [if_pos (decide_eq_true (small_lt (by omega))), ih _ (by rw [List.length_append, List.length_singleton]; omega)]
      rw [List.all_cons, decide_eq_true hz, Bool.true_and, List.map_cons, List.append_assoc, List.singleton_append]
    · have so := @sign_of_er z L (by omega)
      have he : eCall 1 (mDef 1 w_sign_of) (aCons (eVar 6) aNil) [a, b, c, d, e, f, .val (.int z)] L = .er "BadHead" [] [] L := by walk_at "ev"
      simp only [hs, ht, he, if_true]
      rw [List.all_cons, decide_eq_false hz, Bool.false_and]
      simp
theorem size_none {ns : List Int} {a : Nat} {L : LH} (h : ns.length ≤ a) : mDef 2 w_text_size [.lst (ns.map .int), .int a] L = .er "BadHead" [] [] L := by
  have e2 : (0 : Int) ≤ (a : Int) := by omega
  have e3 : ¬ (a : Int) < (ns.map LV.int).length := by rw [List.length_map]; omega
  unfold w_text_size
  rw [mDef_run]
  walk_at "ev"
theorem size_long {ns : List Int} {a : Nat} {n : Int} {L : LH} (h : ns[a]? = some n) (h0 : 0 ≤ n) (h1 : 20 < n) : mDef 2 w_text_size [.lst (ns.map .int), .int a] L = .er "BadHead" [] [] L := by
  have e1 : L2.atI (ns.map LV.int) (a : Int) = some (.int n) := atI_nat (by rw [List.getElem?_map, h]; rfl)
  have ha : a < ns.length := (List.getElem?_eq_some_iff.mp h).1
  have e2 : (0 : Int) ≤ (a : Int) := by omega
  have e3 : (a : Int) < (ns.map LV.int).length := by rw [List.length_map]; omega
  have e4 : ¬ n ≤ 20 := by omega
  unfold w_text_size
  rw [mDef_run]
  walk_at "ev"
def w_text_atX : MS := (sSeq (sSet 2 (eCall 2 (mDef 2 w_text_size) (aCons (eVar 0) (aCons (eVar 1) aNil))))
  (sSeq (sSet 3 (e2 fAdd (eVar 1) (eC (.int 1))))
  (sSeq (sSet 4 (e2 fAdd (eVar 3) (eVar 2)))
  (sSeq (sIf (tOf (e2 fGt (eVar 4) (eA fLen (aCons (eVar 0) aNil)))) (sRaise "BadHead") sNil)
  (sSeq (sSet 5 (eMt fJoin (eC (.str "")) (aCons (eFrz (aCompX (iA (eFrz (aSl (eVar 0) (oSome (eVar 3)) (oSome (eVar 4))))) (gN 6) tYes' (eCall 1 (mDef 1 w_sign_of) (aCons (eVar 6) aNil)) [6])) aNil)))
  (sRet (eTup (aCons (eVar 5) (aCons (eVar 4) aNil)))))))))
theorem at_none {ns : List Int} {a : Nat} {L : LH} (h : mDef 2 w_text_size [.lst (ns.map .int), .int a] L = .er "BadHead" [] [] L) : mDef 7 w_text_atX [.lst (ns.map .int), .int a] L = .er "BadHead" [] [] L := by
  unfold w_text_atX
  rw [mDef_run]
  generalize ns.map LV.int = v at *
  walk_at "ev"
theorem at_short {A S : List Int} {n : Int} {L : LH} (h0 : 0 ≤ n) (h1 : n ≤ 20) (h2 : (S.length : Int) < n) : mDef 7 w_text_atX [.lst ((A ++ [n] ++ S).map .int), .int A.length] L = .er "BadHead" [] [] L := by
  have s1 : mDef 2 w_text_size [.lst ((A ++ [n] ++ S).map .int), .int (A.length : Nat)] L = .ok (.int n) L := text_size_eq (by simp) h0 h1
  have g1 : (((A ++ [n] ++ S).map LV.int).length : Int) < (A.length : Int) + 1 + n := by simp; omega
  unfold w_text_atX
  rw [mDef_run]
  generalize ((A ++ [n] ++ S).map LV.int) = v at *
  walk_at "ev"
end Z
namespace Z
open PySem PySem.Spec L2 TL
local macro_rules | `(tactic| walk_at "ev") => `(tactic| simp only [fin_nx, fin_rt, fin_er, startL, List.map_cons, List.map_nil, List.length_cons, List.length_nil, List.cons_append, List.nil_append, List.replicate, sSeq, sSet, sIf, sNil, sRet, sItem, sDrop, sRaise, lift_ok, lift_er, bind_ok, bind_er, eVar, eC, e2, e1, eA, eAnd, eOr, eNot, eIf, eChain, aNil, aCons, tOf, tAnd', tOr', tNot', get0, get1, get2, get3, get4, get5, get6, get7, get8, get9, get10, get11, get12, get13, set0, set1, set2, set3, set4, set5, set6, set7, set8, set9, set10, set11, set12, set13, fIx, seqL, seqM, atI_0, atI_1, atI_2, atI_3, ixN_0, ixN_1, ixN_2, ixN_3, fI0, fI, fAdd, fLen, fEq_int, fEq_str, fEq_bl, clean, if_true, if_false, List.all_cons, List.all_nil, Bool.and_true, Bool.true_and, Bool.false_and, Bool.not_true, Bool.not_false, decide_true, decide_false, Bool.and_self, eCall, set_self, at_self, List.set_set, Bool.false_eq_true, sFor, iA, iR1, itemsOf, eNew, eFrz, aClean, aComp, wipeL, aSl, oSome, oNone, eMt, fIs, tyOf, locOk, truL, tTr, eTup, gN, fInt, fJoin, *])
theorem cut_all {A S : List Int} {n : Int} (h : (S.length : Int) = n) : cutL ((A ++ [n] ++ S).map LV.int) (some ((A.length : Int) + 1)) (some ((A.length : Int) + 1 + n)) = S.map LV.int := by
  have z := cut_mid (A := A ++ [n]) (M := S) (B := [])
  have e1 : ((A ++ [n]).length : Int) = (A.length : Int) + 1 := by simp
  have e2 : (((A ++ [n]).length + S.length : Nat) : Int) = (A.length : Int) + 1 + n := by simp; omega
  rw [e1, e2] at z
  simpa using z
theorem at_signs {A S : List Int} {n : Int} {L : LH} (h : (S.length : Int) = n) (h1 : n ≤ 20) (h0 : ∀ z ∈ S, 0 ≤ z) :
    mDef 7 w_text_atX [.lst ((A ++ [n] ++ S).map .int), .int A.length] L = if S.all (fun z => decide (z ≤ 93)) = true then .ok (.tup [.str (txt (S.map Int.toNat)), .int ((A.length : Int) + 1 + n)]) L else .er "BadHead" [] [] L := by
  have s1 : mDef 2 w_text_size [.lst ((A ++ [n] ++ S).map .int), .int (A.length : Nat)] L = .ok (.int n) L := text_size_eq (by simp) (by omega) h1
  have c1 := cut_all (A := A) h
  have g1 : ¬ (((A ++ [n] ++ S).map LV.int).length : Int) < (A.length : Int) + 1 + n := by simp; omega
  have q7 : ∀ a b c d e f g : Sl, compLX (gN 6) tYes' (eCall 1 (mDef 1 w_sign_of) (aCons (eVar 6) aNil)) [a, b, c, d, e, f, g] (S.map .int) [] L = if S.all (fun z => decide (z ≤ 93)) = true then .ok (S.map fun z => .str (sg1 z.toNat)) L else .er "BadHead" [] [] L := fun a b c d e f g => comp_signs S [] a b c d e f g h0 (by simp; omega)
  by_cases hb : S.all (fun z => decide (z ≤ 93)) = true
  · rw [if_pos hb]
    have q8 := fun a b c d e f g => (q7 a b c d e f g).trans (if_pos hb)
    have st : strs? (S.map fun z => LV.str (sg1 z.toNat)) = some ((S.map Int.toNat).map sg1) := by
      have := strs_map (S.map Int.toNat)
      rw [List.map_map] at this
      exact this
    have js := join_signs (S.map Int.toNat)
    have z1 : (((S.map Int.toNat).map sg1).map (·.length)).sum + ((S.map Int.toNat).map sg1).length * ("" : Str).length ≤ 16777216 := by
      rw [sum_ones, show ("" : Str).length = 0 from rfl, Nat.mul_zero]
      simp; omega
    have z2 : decide (2 ≤ sizeLine) = true := decide_eq_true (small (by decide))
    clear q7
    unfold w_text_atX
    rw [mDef_run]
    generalize ((A ++ [n] ++ S).map LV.int) = v at *
    walk_at "ev"
    simp only [aCompX, iA, aSl]
    walk_at "ev"
  · rw [if_neg hb]
    have q8 := fun a b c d e f g => (q7 a b c d e f g).trans (if_neg hb)
    clear q7
    unfold w_text_atX
    rw [mDef_run]
    generalize ((A ++ [n] ++ S).map LV.int) = v at *
    walk_at "ev"
    simp only [aCompX]
    walk_at "ev"
def w_found : MS := (sSeq (sTryAs 2 [("BadHead", [])] (fun _ => true) (sRet (eCall 2 (mDef 7 w_text_atX) (aCons (eVar 0) (aCons (eVar 1) aNil)))) (fun c ns vs => (if true then (sRet (eC .non)) else sNil)))
  (sRet (eTup aNil)))
theorem found_er {vs : List LV} {i : Int} {L : LH} (h : mDef 7 w_text_atX [.lst vs, .int i] L = .er "BadHead" [] [] L) : mDef 3 w_found [.lst vs, .int i] L = .ok .non L := by
  have e : (sRet (eCall 2 (mDef 7 w_text_atX) (aCons (eVar 0) (aCons (eVar 1) aNil)))) [.val (.lst vs), .val (.int i), .no] L = .er "BadHead" [] [] [.val (.lst vs), .val (.int i), .no] L := by walk_at "ev"
  unfold w_found
  rw [mDef_run]
  show fin (sSeq _ _ [.val (.lst vs), .val (.int i), .no] L) = _
  unfold sSeq sTryAs
  rw [e]
  rfl
theorem found_ok {vs ws : List LV} {i : Int} {L : LH} (h : mDef 7 w_text_atX [.lst vs, .int i] L = .ok (.tup ws) L) : mDef 3 w_found [.lst vs, .int i] L = .ok (.tup ws) L := by
  have e : (sRet (eCall 2 (mDef 7 w_text_atX) (aCons (eVar 0) (aCons (eVar 1) aNil)))) [.val (.lst vs), .val (.int i), .no] L = .rt (.tup ws) L := by walk_at "ev"
  unfold w_found
  rw [mDef_run]
  show fin (sSeq _ _ [.val (.lst vs), .val (.int i), .no] L) = _
  unfold sSeq sTryAs
  rw [e]
  rfl
/-- what the law finds -/
theorem found_eq {A S N : List Int} {n : Int} {L : LH} (hn : 0 ≤ n) (h0 : ∀ z ∈ S, 0 ≤ z) (hS : (S.length : Int) ≤ n) (hN : N = A ++ [n] ++ S ∨ N = A) :
    mDef 3 w_found [.lst (N.map .int), .int A.length] L = .ok (if ((A.length : Int) + 1 + n ≤ N.length ∧ n ≤ 20) ∧ S.all (fun z => decide (z ≤ 93)) = true then .tup [.str (txt (S.map Int.toNat)), .int N.length] else .non) L := by
  rcases hN with rfl | rfl
  · by_cases h20 : n ≤ 20
    · by_cases hl : (S.length : Int) = n
      · have t := at_signs (A := A) (L := L) hl h20 h0
        have g : (A.length : Int) + 1 + n ≤ (A ++ [n] ++ S).length := by simp; omega
        have e : ((A ++ [n] ++ S).length : Int) = (A.length : Int) + 1 + n := by simp; omega
        by_cases hb : S.all (fun z => decide (z ≤ 93)) = true
        · rw [if_pos ⟨⟨g, h20⟩, hb⟩, e]
          rw [if_pos hb] at t
          exact found_ok t
        · rw [if_neg fun z => hb z.2]
          rw [if_neg hb] at t
          exact found_er t
      · rw [if_neg fun z => by have := z.1.1; simp at this; omega]
        exact found_er (at_short hn h20 (by omega))
    · rw [if_neg fun z => h20 z.1.2]
      exact found_er (at_none (size_long (by simp) hn (by omega)))
  · rw [if_neg fun z => by have := z.1.1; omega]
    exact found_er (at_none (size_none (Nat.le_refl _)))
/-- all numbers of the text are signs' -/
def w_goodB : MS := sSet 7 (eAnd (eVar 7) (e2 fLe (eVar 8) (eC (.int 93))))
theorem good_loop {a b c d e f g k l m : Sl} {L : LH} : ∀ (S : List Int) (q : Bool) (s : Sl), ∃ s', loop (gN 8) w_goodB (S.map .int) [a, b, c, d, e, f, g, .val (.bl q), s, k, l, m] L = .nx [a, b, c, d, e, f, g, .val (.bl (q && S.all fun z => decide (z ≤ 93))), s', k, l, m] L
  | [], q, s => ⟨s, by simp [loop]⟩
  | z :: S, q, s => by
    obtain ⟨s', e'⟩ := good_loop (a := a) (b := b) (c := c) (d := d) (e := e) (f := f) (g := g) (k := k) (l := l) (m := m) (L := L) S (q && decide (z ≤ 93)) (.val (.int z))
    refine ⟨s', ?_⟩
    rw [List.map_cons]
    unfold loop
    have hs : gN 8 (.int z) [a, b, c, d, e, f, g, .val (.bl q), s, k, l, m] = some [a, b, c, d, e, f, g, .val (.bl q), .val (.int z), k, l, m] := rfl
    have hb : w_goodB [a, b, c, d, e, f, g, .val (.bl q), .val (.int z), k, l, m] L = .nx [a, b, c, d, e, f, g, .val (.bl (q && decide (z ≤ 93))), .val (.int z), k, l, m] L := by
      unfold w_goodB
      cases q <;> walk_at "ev" <;> rfl
    simp only [hs, hb, e', List.all_cons, Bool.and_assoc]
theorem cut_to {S : List Int} {i : Int} : ∃ m, cutL (S.map LV.int) none (some i) = (S.take m).map LV.int := by
  unfold cutL
  exact ⟨_, by rw [HT.sIx_none, List.drop_zero, List.map_take]⟩
theorem cut_whole {S : List Int} {n : Int} (h : (S.length : Int) ≤ n) : cutL (S.map LV.int) none (some n) = S.map LV.int := by
  unfold cutL
  rw [HT.sIx_none, List.drop_zero, show n = ((n.toNat : Nat) : Int) by omega, HT.sIx_nat, List.take_of_length_le]
  rw [List.length_map]
  omega
end Z
namespace Z
open PySem PySem.Spec L2 TL
local macro_rules | `(tactic| walk_at "ev") => `(tactic| simp only [fin_nx, fin_rt, fin_er, startL, List.map_cons, List.map_nil, List.length_cons, List.length_nil, List.cons_append, List.nil_append, List.replicate, sSeq, sSet, sIf, sNil, sRet, sItem, sDrop, sRaise, lift_ok, lift_er, bind_ok, bind_er, eVar, eC, e2, e1, eA, eAnd, eOr, eNot, eIf, eChain, aNil, aCons, tOf, tAnd', tOr', tNot', get0, get1, get2, get3, get4, get5, get6, get7, get8, get9, get10, get11, get12, get13, set0, set1, set2, set3, set4, set5, set6, set7, set8, set9, set10, set11, set12, set13, fIx, seqL, seqM, atI_0, atI_1, atI_2, atI_3, ixN_0, ixN_1, ixN_2, ixN_3, fI0, fI, fAdd, fLen, fEq_int, fEq_str, fEq_bl, clean, if_true, if_false, List.all_cons, List.all_nil, Bool.and_true, Bool.true_and, Bool.false_and, Bool.not_true, Bool.not_false, decide_true, decide_false, Bool.and_self, eCall, set_self, at_self, List.set_set, Bool.false_eq_true, sFor, iA, iR1, itemsOf, eNew, eFrz, aClean, aComp, wipeL, aSl, oSome, oNone, eMt, fIs, tyOf, locOk, truL, tTr, eTup, gN, fInt, fJoin, *])
/-! ### frames -/
def frameO (k f t : Int) (vs : List Int) : LO := .ins "Frame" ["kind", "flag", "talk", "numbers"] [.int k, .int f, .int t, .lst (vs.map .int)]
def w_finit : MS := (sSeq (sFldM ["Frame"] "kind" (eVar 0) (eVar 1))
  (sSeq (sFldM ["Frame"] "flag" (eVar 0) (eVar 2))
  (sSeq (sFldM ["Frame"] "talk" (eVar 0) (eVar 3))
  (sFldM ["Frame"] "numbers" (eVar 0) (eFrz (aList (aCons (eVar 4) aNil)))))))
theorem fld_put {cs : List Str} {f c : Str} {mo me : ME} {σ : SL} {L : LH} {n : Nat} {v : LV} {ns : List Str} {vs : List LV} (h1 : me σ L = .ok v L) (h2 : mo σ L = .ok (.ref n) L) (hv : clean v = true) (h3 : L[n]? = some (.ins c ns vs)) (h4 : (cs.contains c && decide (ns.length < 1000)) = true) :
    sFldM cs f mo me σ L = .nx σ (L.set n (.ins c (putN f ns) (putV f v ns vs))) := by
  unfold sFldM
  rw [h1]
  simp only [bind_ok, h2, hv, if_true, lift_ok, insOf, h3, h4]
theorem seq_nx {a b : MS} {σ σ1 : SL} {L L1 : LH} (h : a σ L = .nx σ1 L1) : sSeq a b σ L = b σ1 L1 := by
  unfold sSeq
  rw [h]
theorem frame_init {Lp : LH} {k f t : Int} {vs : List Int} : mDef 5 w_finit [.ref Lp.length, .int k, .int f, .int t, .lst (vs.map .int)] (Lp ++ [.ins "Frame" [] []]) = .ok .non (Lp ++ [frameO k f t vs]) := by
  have hg : ∀ x : LO, (Lp ++ [x])[Lp.length]? = some x := fun x => by simp
  have hs : ∀ x y : LO, (Lp ++ [x]).set Lp.length y = Lp ++ [y] := fun x y => by simp
  unfold w_finit frameO
  rw [mDef_run]
  show fin (sSeq _ _ [.val (.ref Lp.length), .val (.int k), .val (.int f), .val (.int t), .val (.lst (vs.map .int))] _) = _
  rw [seq_nx (fld_put rfl rfl rfl (hg _) (by decide +kernel)), hs, seq_nx (fld_put rfl rfl rfl (hg _) (by decide +kernel)), hs, seq_nx (fld_put rfl rfl rfl (hg _) (by decide +kernel)), hs]
  rw [fld_put (v := .lst (vs.map .int)) (by simp only [eFrz, aList, aCons, aNil, eVar, bind_ok, seqL]; rfl) rfl rfl (hg _) (by decide +kernel), hs]
  rfl
def w_fend : MS := (sSeq (sIf (tOf (e2 fGe (eVar 1) (eA fLen (aCons (eVar 0) aNil)))) (sRet (e2 fAdd (eVar 1) (eC (.int 4)))) sNil)
  (sRet (e2 fAdd (e2 fAdd (eVar 1) (eC (.int 4))) (eA fMax2 (aCons (eC (.int 0)) (aCons (e2 fIx (eVar 0) (eVar 1)) aNil))))))
/-- the place behind the frame that begins at a -/
def fend (ns : List Int) (a : Nat) : Int := match ns[a]? with
  | none => a + 4
  | some n => a + 4 + (if n > 0 then n else 0)
theorem fend_eq {ns : List Int} {a r : Nat} {L : LH} (hr : L[r]? = some (.lst (ns.map .int))) : mDef 2 w_fend [.ref r, .int a] L = .ok (.int (fend ns a)) L := by
  have hl : ((ns.map LV.int).length : Int) = ns.length := by simp
  unfold w_fend fend
  rw [mDef_run]
  by_cases h : a < ns.length
  · have e1 : L2.atI (ns.map LV.int) (a : Int) = some (.int ns[a]) := atI_nat (by rw [List.getElem?_map, List.getElem?_eq_getElem h]; rfl)
    rw [List.getElem?_eq_getElem h]
    have h2 : ¬ (ns.length : Int) ≤ (a : Int) := by omega
    have h3 : ¬ (a : Int) ≥ (ns.length : Int) := by omega
    have em : ∀ σ, fMax2 [.int 0, .int ns[a]] σ L = .ok (.int (if ns[a] > 0 then ns[a] else 0)) L := fun σ => rfl
    walk_at "ev"
  · rw [List.getElem?_eq_none (by omega)]
    have h2 : (ns.length : Int) ≤ (a : Int) := by omega
    walk_at "ev"
def w_fbet : MS := (sRet (eMake "Frame" 5 (mDef 5 w_finit) (aCons (e2 fIx (eVar 0) (e2 fAdd (eVar 1) (eC (.int 1)))) (aCons (e2 fIx (eVar 0) (e2 fAdd (eVar 1) (eC (.int 2)))) (aCons (e2 fIx (eVar 0) (e2 fAdd (eVar 1) (eC (.int 3)))) (aCons (eFrz (aSl (eVar 0) (oSome (e2 fAdd (eVar 1) (eC (.int 4)))) (oSome (eVar 2)))) aNil))))))
theorem fbet_eq {ns : List Int} {a r : Nat} {b : Int} {k f t : Int} {vs : List Int} {L : LH} (hr : L[r]? = some (.lst (ns.map .int))) (h1 : ns[a + 1]? = some k) (h2 : ns[a + 2]? = some f) (h3 : ns[a + 3]? = some t)
    (hv : cutL (ns.map .int) (some ((a : Int) + 4)) (some b) = vs.map .int) : mDef 3 w_fbet [.ref r, .int a, .int b] L = .ok (.ref L.length) (L ++ [frameO k f t vs]) := by
  have g : ∀ (j : Nat) (x : Int), ns[j]? = some x → L2.atI (ns.map LV.int) (j : Int) = some (.int x) := fun j x h => atI_nat (by rw [List.getElem?_map, h]; rfl)
  have g1 := g _ _ h1
  have g2 := g _ _ h2
  have g3 := g _ _ h3
  have c1 : ((a + 1 : Nat) : Int) = (a : Int) + 1 := by omega
  have c2 : ((a + 2 : Nat) : Int) = (a : Int) + 2 := by omega
  have c3 : ((a + 3 : Nat) : Int) = (a : Int) + 3 := by omega
  rw [c1] at g1
  rw [c2] at g2
  rw [c3] at g3
  have fi := @frame_init L k f t vs
  clear g c1 c2 c3 h1 h2 h3
  unfold w_fbet
  rw [mDef_run]
  walk_at "ev"
  unfold eMake
  walk_at "ev"
end Z
namespace Z
open PySem PySem.Spec L2 TL
local macro_rules | `(tactic| walk_at "ev") => `(tactic| simp only [fin_nx, fin_rt, fin_er, startL, List.map_cons, List.map_nil, List.length_cons, List.length_nil, List.cons_append, List.nil_append, List.replicate, sSeq, sSet, sIf, sNil, sRet, sItem, sDrop, sRaise, lift_ok, lift_er, bind_ok, bind_er, eVar, eC, e2, e1, eA, eAnd, eOr, eNot, eIf, eChain, aNil, aCons, tOf, tAnd', tOr', tNot', get0, get1, get2, get3, get4, get5, get6, get7, get8, get9, get10, get11, get12, get13, set0, set1, set2, set3, set4, set5, set6, set7, set8, set9, set10, set11, set12, set13, fIx, seqL, seqM, atI_0, atI_1, atI_2, atI_3, ixN_0, ixN_1, ixN_2, ixN_3, fI0, fI, fAdd, fLen, fEq_int, fEq_str, fEq_bl, clean, if_true, if_false, List.all_cons, List.all_nil, Bool.and_true, Bool.true_and, Bool.false_and, Bool.not_true, Bool.not_false, decide_true, decide_false, Bool.and_self, eCall, set_self, at_self, List.set_set, Bool.false_eq_true, sFor, iA, iR1, itemsOf, eNew, eFrz, aClean, aComp, wipeL, aSl, oSome, oNone, eMt, fIs, tyOf, locOk, truL, tTr, eTup, gN, fInt, fJoin, *])
structure Fr where
  k : Int
  f : Int
  t : Int
  vs : List Int
def Fr.o (x : Fr) : LO := frameO x.k x.f x.t x.vs
/-- the frames that are whole from a place on, and the place behind them -/
inductive Cuts (ns : List Int) : Nat → List Fr → Nat → Prop
  | stop {a : Nat} : (ns.length : Int) < fend ns a → Cuts ns a [] a
  | step {a e z : Nat} {x : Fr} {xs : List Fr} : fend ns a = (e : Int) → e ≤ ns.length → a + 4 ≤ e → ns[a + 1]? = some x.k → ns[a + 2]? = some x.f → ns[a + 3]? = some x.t → cutL (ns.map .int) (some ((a : Int) + 4)) (some (e : Int)) = x.vs.map .int → Cuts ns e xs z → Cuts ns a (x :: xs) z
theorem fend_nat (ns : List Int) (a : Nat) : ∃ e : Nat, fend ns a = (e : Int) ∧ a + 4 ≤ e := by
  unfold fend
  split
  · exact ⟨a + 4, by omega, Nat.le_refl _⟩
  · rename_i n _
    split
    · exact ⟨a + 4 + n.toNat, by omega, by omega⟩
    · exact ⟨a + 4, by omega, Nat.le_refl _⟩
theorem cut_any (ns : List Int) (lo hi : Option Int) : ∃ vs : List Int, cutL (ns.map .int) lo hi = vs.map .int := by
  unfold cutL
  exact ⟨_, by rw [← List.map_drop, ← List.map_take]⟩
def w_fedB : MS := (sSeq (sMod gApp (eVar 2) (aCons (eCall 3 (mDef 3 w_fbet) (aCons (e1 (fFld ["Cutter"] "rest") (eVar 0)) (aCons (eVar 3) (aCons (eVar 4) aNil)))) aNil))
  (sSeq (sSet 3 (eVar 4))
  (sSet 4 (eCall 2 (mDef 2 w_fend) (aCons (e1 (fFld ["Cutter"] "rest") (eVar 0)) (aCons (eVar 3) aNil))))))
def t_fed : MT := (tOf (e2 fLe (eVar 4) (eA fLen (aCons (e1 (fFld ["Cutter"] "rest") (eVar 0)) aNil))))
theorem rest_eq {c r : Nat} {L : LH} (σ : SL) (hc : L[c]? = some (.ins "Cutter" ["rest"] [.ref r])) : fFld ["Cutter"] "rest" (.ref c) σ L = .ok (.ref r) L := by
  unfold fFld insOf
  simp only [hc]
  rfl
def refs (n k : Nat) : List LV := (List.range k).map fun i => .ref (n + i)
theorem fed_body {ns : List Int} {c r a e : Nat} {x : Fr} {p : LV} {rs : List LV} {L : LH} (hc : L[c]? = some (.ins "Cutter" ["rest"] [.ref r])) (hr : L[r]? = some (.lst (ns.map .int))) (he : fend ns a = (e : Int)) (h1 : ns[a + 1]? = some x.k) (h2 : ns[a + 2]? = some x.f) (h3 : ns[a + 3]? = some x.t)
    (hv : cutL (ns.map .int) (some ((a : Int) + 4)) (some (e : Int)) = x.vs.map .int) (hl : rs.length < 1000000) :
    w_fedB [.val (.ref c), .val p, .own (.lst rs), .val (.int a), .val (.int e)] L = .nx [.val (.ref c), .val p, .own (.lst (rs ++ [.ref L.length])), .val (.int e), .val (.int (fend ns e))] (L ++ [x.o]) := by
  have fb := fbet_eq (b := (e : Int)) hr h1 h2 h3 hv
  have hc' : (L ++ [x.o])[c]? = some (.ins "Cutter" ["rest"] [.ref r]) := by rw [List.getElem?_append_left (List.getElem?_eq_some_iff.mp hc).1]; exact hc
  have hr' : (L ++ [x.o])[r]? = some (.lst (ns.map .int)) := by rw [List.getElem?_append_left (List.getElem?_eq_some_iff.mp hr).1]; exact hr
  have fe := fend_eq (a := e) hr'
  have r1 := fun σ => rest_eq (L := L) σ hc
  have r2 := fun σ => rest_eq (L := L ++ [x.o]) σ hc'
  have z := small_lt (n := rs.length) (by omega)
  have fb' : mDef 3 w_fbet [.ref r, .int a, .int e] L = .ok (.ref L.length) (L ++ [x.o]) := fb
  clear fb h1 h2 h3 hv he hc hr hc' hr' hl
  generalize (L ++ [x.o]) = L2 at *
  unfold w_fedB
  rw [seq_nx (σ1 := [.val (.ref c), .val p, .own (.lst (rs ++ [.ref L.length])), .val (.int a), .val (.int e)]) (L1 := L2) (by
    unfold sMod gApp
    walk_at "ev")]
  walk_at "ev"
end Z
namespace Z
open PySem PySem.Spec L2 TL
local macro_rules | `(tactic| walk_at "ev") => `(tactic| simp only [fin_nx, fin_rt, fin_er, startL, List.map_cons, List.map_nil, List.length_cons, List.length_nil, List.cons_append, List.nil_append, List.replicate, sSeq, sSet, sIf, sNil, sRet, sItem, sDrop, sRaise, lift_ok, lift_er, bind_ok, bind_er, eVar, eC, e2, e1, eA, eAnd, eOr, eNot, eIf, eChain, aNil, aCons, tOf, tAnd', tOr', tNot', get0, get1, get2, get3, get4, get5, get6, get7, get8, get9, get10, get11, get12, get13, set0, set1, set2, set3, set4, set5, set6, set7, set8, set9, set10, set11, set12, set13, fIx, seqL, seqM, atI_0, atI_1, atI_2, atI_3, ixN_0, ixN_1, ixN_2, ixN_3, fI0, fI, fAdd, fLen, fEq_int, fEq_str, fEq_bl, clean, if_true, if_false, List.all_cons, List.all_nil, Bool.and_true, Bool.true_and, Bool.false_and, Bool.not_true, Bool.not_false, decide_true, decide_false, Bool.and_self, eCall, set_self, at_self, List.set_set, Bool.false_eq_true, sFor, iA, iR1, itemsOf, eNew, eFrz, aClean, aComp, wipeL, aSl, oSome, oNone, eMt, fIs, tyOf, locOk, truL, tTr, eTup, gN, fInt, fJoin, *])
theorem refs_cons (n k : Nat) : refs n (k + 1) = .ref n :: refs (n + 1) k := by
  unfold refs
  rw [List.range_succ_eq_map, List.map_cons, List.map_map]
  congr 1
  refine List.map_congr_left fun i _ => ?_
  show LV.ref (n + (i + 1)) = LV.ref (n + 1 + i)
  rw [Nat.add_assoc, Nat.add_comm 1 i]
theorem fed_test {ns : List Int} {c r : Nat} {e : Int} {a b d : Sl} {L : LH} (hc : L[c]? = some (.ins "Cutter" ["rest"] [.ref r])) (hr : L[r]? = some (.lst (ns.map .int))) : t_fed [.val (.ref c), a, b, d, .val (.int e)] L = .ok (decide (e ≤ ns.length)) L := by
  have r1 := fun σ => rest_eq (L := L) σ hc
  have hl : ((ns.map LV.int).length : Int) = ns.length := by simp
  clear hc
  unfold t_fed
  walk_at "ev"
theorem fed_loop {ns : List Int} {c r : Nat} {p : LV} (hb : ns.length < 1000000) : ∀ (k a : Nat) (rs : List LV) (L : LH), a ≤ ns.length → ns.length + 1 ≤ k + a → rs.length ≤ a → L[c]? = some (.ins "Cutter" ["rest"] [.ref r]) → L[r]? = some (.lst (ns.map .int)) →
    ∃ xs z, Cuts ns a xs z ∧ z ≤ ns.length ∧ wloop t_fed w_fedB k [.val (.ref c), .val p, .own (.lst rs), .val (.int a), .val (.int (fend ns a))] L = .nx [.val (.ref c), .val p, .own (.lst (rs ++ refs L.length xs.length)), .val (.int z), .val (.int (fend ns z))] (L ++ xs.map Fr.o)
  | 0, a, rs, L, h1, h2, _, _, _ => by omega
  | k + 1, a, rs, L, h1, h2, h3, hc, hr => by
    obtain ⟨e, he, ge⟩ := fend_nat ns a
    have ht := fed_test (e := (e : Int)) (a := .val p) (b := .own (.lst rs)) (d := .val (.int a)) hc hr
    by_cases hle : e ≤ ns.length
    · have q : ∀ j, j < e → ∃ x, ns[j]? = some x := fun j hj => ⟨_, List.getElem?_eq_getElem (by omega)⟩
      obtain ⟨xk, k1⟩ := q (a + 1) (by omega)
      obtain ⟨xf, k2⟩ := q (a + 2) (by omega)
      obtain ⟨xt, k3⟩ := q (a + 3) (by omega)
      obtain ⟨vs, k4⟩ := cut_any ns (some ((a : Int) + 4)) (some (e : Int))
      have fb := fed_body (x := ⟨xk, xf, xt, vs⟩) (p := p) (rs := rs) hc hr he k1 k2 k3 k4 (by omega)
      have hc' : (L ++ [Fr.o ⟨xk, xf, xt, vs⟩])[c]? = some (.ins "Cutter" ["rest"] [.ref r]) := by rw [List.getElem?_append_left (List.getElem?_eq_some_iff.mp hc).1]; exact hc
      have hr' : (L ++ [Fr.o ⟨xk, xf, xt, vs⟩])[r]? = some (.lst (ns.map .int)) := by rw [List.getElem?_append_left (List.getElem?_eq_some_iff.mp hr).1]; exact hr
      obtain ⟨xs, z, cz, zl, ih⟩ := fed_loop (p := p) hb k e (rs ++ [.ref L.length]) (L ++ [Fr.o ⟨xk, xf, xt, vs⟩]) hle (by omega) (by rw [List.length_append, List.length_singleton]; omega) hc' hr'
      refine ⟨⟨xk, xf, xt, vs⟩ :: xs, z, .step he hle ge k1 k2 k3 k4 cz, zl, ?_⟩
      unfold wloop
      rw [he, ht]
      rw [decide_eq_true (show (e : Int) ≤ ns.length by omega)]
      simp only [lift_ok, if_true, fb, ih]
      rw [List.append_assoc, List.length_append, List.length_singleton, List.length_cons, refs_cons, List.map_cons, List.append_assoc]
      rfl
    · refine ⟨[], a, .stop (by omega), h1, ?_⟩
      unfold wloop
      rw [he, ht]
      rw [decide_eq_false (show ¬ (e : Int) ≤ ns.length by omega)]
      simp [lift_ok, refs]
def w_fed : MS := (sSeq (sExt (e1 (fFld ["Cutter"] "rest") (eVar 0)) (eVar 1))
  (sSeq (sOwn 2 (aClean aNil))
  (sSeq (sSet 3 (eC (.int 0)))
  (sSeq (sSet 4 (eCall 2 (mDef 2 w_fend) (aCons (e1 (fFld ["Cutter"] "rest") (eVar 0)) (aCons (eVar 3) aNil))))
  (sSeq (sWhile (fun (σ : SL) (_ : LH) => match σ[4]? with | some (Sl.val (LV.int b)) => 1000000 - b.toNat | _ => 0) t_fed w_fedB)
  (sSeq (sFldM ["Cutter"] "rest" (eVar 0) (eNew (aSl (e1 (fFld ["Cutter"] "rest") (eVar 0)) (oSome (eVar 3)) oNone)))
  (sFrz 2 (sRet (eVar 2)))))))))
/-- numbers fed: what is whole is told, the rest is kept -/
theorem fed_eq {rest piece : List Int} {c r : Nat} {L : LH} (hc : L[c]? = some (.ins "Cutter" ["rest"] [.ref r])) (hr : L[r]? = some (.lst (rest.map .int))) (hcr : c ≠ r) (hlen : (rest ++ piece).length ≤ 100000) (hf : fend (rest ++ piece) 0 ≤ 100000) :
    ∃ xs z L', Cuts (rest ++ piece) 0 xs z ∧ z ≤ (rest ++ piece).length ∧ mDef 5 w_fed [.ref c, .lst (piece.map .int)] L = .ok (.lst (refs L.length xs.length)) L' ∧ L'.length = L.length + xs.length + 1 ∧ L'[c]? = some (.ins "Cutter" ["rest"] [.ref (L.length + xs.length)]) ∧ L'[L.length + xs.length]? = some (.lst (((rest ++ piece).drop z).map .int)) ∧
      (∀ i, i < L.length → i ≠ c → i ≠ r → L'[i]? = L[i]?) ∧ ∀ i x, xs[i]? = some x → L'[L.length + i]? = some x.o := by
  have lc := (List.getElem?_eq_some_iff.mp hc).1
  have lr := (List.getElem?_eq_some_iff.mp hr).1
  generalize hL1 : L.set r (LO.lst ((rest ++ piece).map .int)) = L1
  have len1 : L1.length = L.length := by rw [← hL1, List.length_set]
  have hc1 : L1[c]? = some (.ins "Cutter" ["rest"] [.ref r]) := by rw [← hL1, List.getElem?_set_ne (Ne.symm hcr)]; exact hc
  have hr1 : L1[r]? = some (.lst ((rest ++ piece).map .int)) := by rw [← hL1, List.getElem?_set_self lr]
  obtain ⟨e, he, ge⟩ := fend_nat (rest ++ piece) 0
  obtain ⟨xs, z, cz, zl, lp⟩ := fed_loop (p := .lst (piece.map .int)) (c := c) (r := r) (by omega) (1000000 - e) 0 [] L1 (Nat.zero_le _) (by omega) (Nat.zero_le _) hc1 hr1
  have hc2 : (L1 ++ xs.map Fr.o)[c]? = some (.ins "Cutter" ["rest"] [.ref r]) := by rw [List.getElem?_append_left (by omega)]; exact hc1
  have hr2 : (L1 ++ xs.map Fr.o)[r]? = some (.lst ((rest ++ piece).map .int)) := by rw [List.getElem?_append_left (by omega)]; exact hr1
  have len2 : (L1 ++ xs.map Fr.o).length = L.length + xs.length := by rw [List.length_append, List.length_map, len1]
  refine ⟨xs, z, ((L1 ++ xs.map Fr.o) ++ [LO.lst (((rest ++ piece).drop z).map LV.int)]).set c (LO.ins "Cutter" ["rest"] [.ref (L.length + xs.length)]), cz, zl, ?_, ?_, ?_, ?_, ?_, ?_⟩
  · have r0 := fun σ => rest_eq (L := L) σ hc
    have r1 := fun σ => rest_eq (L := L1) σ hc1
    have r2 := fun σ => rest_eq (L := L1 ++ xs.map Fr.o) σ hc2
    have fe := fend_eq (a := 0) hr1
    have hz : (rest.map LV.int).length + (piece.map LV.int).length ≤ sizeLine := small (by rw [List.length_append] at hlen; simp; omega)
    have hm : (rest.map LV.int) ++ (piece.map LV.int) = (rest ++ piece).map LV.int := by simp
    have cd : cutL ((rest ++ piece).map LV.int) (some (z : Int)) none = ((rest ++ piece).drop z).map LV.int := by
      unfold cutL
      rw [HT.sIx_nat, HT.sIx_none, List.length_map, Nat.min_eq_left zl, List.map_drop, List.take_of_length_le]
      rw [List.length_drop, List.length_map]
      exact Nat.le_refl _
    have z0 : decide (0 ≤ sizeLine) = true := decide_eq_true (Nat.zero_le _)
    rw [he] at fe lp
    have ez : ((0 : Nat) : Int) = 0 := rfl
    rw [ez] at fe
    unfold w_fed
    rw [mDef_run]
    show fin (sSeq _ _ [.val (.ref c), .val (.lst (piece.map .int)), .no, .no, .no] L) = _
    rw [seq_nx (σ1 := [.val (.ref c), .val (.lst (piece.map .int)), .no, .no, .no]) (L1 := L1) (by
      clear r1 r2 fe lp hc1 hc2 hr1 hr2 cd he
      unfold sExt
      walk_at "ev")]
    rw [seq_nx (σ1 := [.val (.ref c), .val (.lst (piece.map .int)), .own (.lst []), .no, .no]) (L1 := L1) (by
      unfold sOwn
      clear r0 r1 r2 fe lp hc1 hc2 hr1 hr2 cd he hL1 hc hr
      walk_at "ev")]
    rw [seq_nx (σ1 := [.val (.ref c), .val (.lst (piece.map .int)), .own (.lst []), .val (.int 0), .no]) (L1 := L1) (by
      clear r0 r1 r2 fe lp hc1 hc2 hr1 hr2 cd he hL1 hc hr
      walk_at "ev")]
    rw [seq_nx (σ1 := [.val (.ref c), .val (.lst (piece.map .int)), .own (.lst []), .val (.int 0), .val (.int e)]) (L1 := L1) (by
      clear r0 r2 lp hc1 hc2 hr1 hr2 cd he hL1 hc hr
      walk_at "ev")]
    rw [seq_nx (σ1 := [.val (.ref c), .val (.lst (piece.map .int)), .own (.lst ([] ++ refs L1.length xs.length)), .val (.int z), .val (.int (fend (rest ++ piece) z))]) (L1 := L1 ++ xs.map Fr.o) (by
      unfold sWhile
      exact lp)]
    have hc3 : ((L1 ++ xs.map Fr.o) ++ [LO.lst (((rest ++ piece).drop z).map .int)])[c]? = some (.ins "Cutter" ["rest"] [.ref r]) := by rw [List.getElem?_append_left (by omega)]; exact hc2
    rw [seq_nx (σ1 := [.val (.ref c), .val (.lst (piece.map .int)), .own (.lst ([] ++ refs L1.length xs.length)), .val (.int z), .val (.int (fend (rest ++ piece) z))]) (L1 := ((L1 ++ xs.map Fr.o) ++ [LO.lst (((rest ++ piece).drop z).map LV.int)]).set c (LO.ins "Cutter" ["rest"] [.ref (L.length + xs.length)])) (by
      have en : eNew (aSl (e1 (fFld ["Cutter"] "rest") (eVar 0)) (oSome (eVar 3)) oNone) [.val (.ref c), .val (.lst (piece.map .int)), .own (.lst ([] ++ refs L1.length xs.length)), .val (.int z), .val (.int (fend (rest ++ piece) z))] (L1 ++ xs.map Fr.o) = .ok (.ref (L.length + xs.length)) ((L1 ++ xs.map Fr.o) ++ [LO.lst (((rest ++ piece).drop z).map LV.int)]) := by
        clear r0 r1 fe lp hc1 hc2 hr1 hc3 he hL1 hc hr
        generalize L1 ++ xs.map Fr.o = L2 at *
        walk_at "ev"
      unfold sFldM
      rw [en]
      simp only [bind_ok, eVar, get0, clean, if_true, lift_ok, insOf, hc3]
      rfl)]
    rw [len1]
    rfl
  · rw [List.length_set, List.length_append, len2]; rfl
  · rw [List.getElem?_set_self (by rw [List.length_append, len2]; omega)]
  · rw [List.getElem?_set_ne (by omega), ← len2, List.getElem?_append_right (Nat.le_refl _), Nat.sub_self]; rfl
  · intro i hi n1 n2
    rw [List.getElem?_set_ne (Ne.symm n1), List.getElem?_append_left (by omega), List.getElem?_append_left (by omega), ← hL1, List.getElem?_set_ne (Ne.symm n2)]
  · intro i x hx
    have hi := (List.getElem?_eq_some_iff.mp hx).1
    rw [List.getElem?_set_ne (by omega), List.getElem?_append_left (by omega), List.getElem?_append_right (by omega), len1, Nat.add_sub_cancel_left, List.getElem?_map, hx]
    rfl
end Z
namespace Z
open PySem PySem.Spec L2 TL
local macro_rules | `(tactic| walk_at "ev") => `(tactic| simp only [fin_nx, fin_rt, fin_er, startL, List.map_cons, List.map_nil, List.length_cons, List.length_nil, List.cons_append, List.nil_append, List.replicate, sSeq, sSet, sIf, sNil, sRet, sItem, sDrop, sRaise, lift_ok, lift_er, bind_ok, bind_er, eVar, eC, e2, e1, eA, eAnd, eOr, eNot, eIf, eChain, aNil, aCons, tOf, tAnd', tOr', tNot', get0, get1, get2, get3, get4, get5, get6, get7, get8, get9, get10, get11, get12, get13, set0, set1, set2, set3, set4, set5, set6, set7, set8, set9, set10, set11, set12, set13, fIx, seqL, seqM, atI_0, atI_1, atI_2, atI_3, ixN_0, ixN_1, ixN_2, ixN_3, fI0, fI, fAdd, fLen, fEq_int, fEq_str, fEq_bl, clean, if_true, if_false, List.all_cons, List.all_nil, Bool.and_true, Bool.true_and, Bool.false_and, Bool.not_true, Bool.not_false, decide_true, decide_false, Bool.and_self, eCall, set_self, at_self, List.set_set, Bool.false_eq_true, sFor, iA, iR1, itemsOf, eNew, eFrz, aClean, aComp, wipeL, aSl, oSome, oNone, eMt, fIs, tyOf, locOk, truL, tTr, eTup, gN, fInt, fJoin, *])
/-- a frame's numbers -/
def Fr.enc (x : Fr) : List Int := [(x.vs.length : Int), x.k, x.f, x.t] ++ x.vs
theorem Fr.enc_len (x : Fr) : x.enc.length = x.vs.length + 4 := by unfold Fr.enc; simp
def encs (xs : List Fr) : List Int := (xs.map Fr.enc).flatten
theorem encs_cons (x : Fr) (xs : List Fr) : encs (x :: xs) = x.enc ++ encs xs := rfl
def w_framed : MS := (sRet (e2 fAdd (eFrz (aClean (aCons (eA fLen (aCons (eVar 3) aNil)) (aCons (eVar 0) (aCons (eVar 1) (aCons (eVar 2) aNil)))))) (eFrz (aList (aCons (eVar 3) aNil)))))
theorem framed_eq {x : Fr} {L : LH} (h : x.vs.length ≤ 1000) : mDef 4 w_framed [.int x.k, .int x.f, .int x.t, .lst (x.vs.map .int)] L = .ok (.lst (x.enc.map .int)) L := by
  have z4 : decide (4 ≤ sizeLine) = true := decide_eq_true (small (by decide))
  have z5 : 0 + 1 + 1 + 1 + 1 + (x.vs.map LV.int).length ≤ sizeLine := small (by simp; omega)
  have hl : ((x.vs.map LV.int).length : Int) = x.vs.length := by simp
  have he : x.enc.map LV.int = .int x.vs.length :: .int x.k :: .int x.f :: .int x.t :: x.vs.map .int := by unfold Fr.enc; simp
  unfold w_framed
  rw [mDef_run, he]
  unfold aList
  walk_at "ev"
/-- a tail in which no frame is whole, however much of it is there -/
def Part (tl : List Int) : Prop := ∀ m, ((tl.take m).length : Int) < fend (tl.take m) 0
theorem fend_drop {ns : List Int} {a : Nat} : fend ns a = (a : Int) + fend (ns.drop a) 0 := by
  unfold fend
  rw [List.getElem?_drop, Nat.add_zero]
  split <;> simp <;> omega
theorem fend_enc {x : Fr} {r : List Int} : fend (x.enc ++ r) 0 = x.enc.length := by
  unfold fend Fr.enc
  simp
  split <;> omega
theorem fend_head {ns r : List Int} {a m : Nat} {y : Fr} (h : ns.drop a = (y.enc ++ r).take m) (hm : 0 < (ns.drop a).length) : fend ns a = ((a + y.enc.length : Nat) : Int) := by
  have h0 : (ns.drop a)[0]? = some (y.vs.length : Int) := by
    rw [h, List.getElem?_take]
    have m1 : 0 < m := by
      rw [h, List.length_take] at hm
      omega
    rw [if_pos m1]
    rfl
  rw [fend_drop]
  unfold fend
  rw [h0, Fr.enc_len]
  simp only
  split <;> omega
theorem vs_of_map {a b : List Int} (h : a.map LV.int = b.map LV.int) : a = b := by
  induction a generalizing b with
  | nil => cases b with
    | nil => rfl
    | cons _ _ => cases h
  | cons x a ih => cases b with
    | nil => cases h
    | cons y b =>
      rw [List.map_cons, List.map_cons] at h
      injection h with h1 h2
      injection h1 with h1
      rw [h1, ih h2]
/-- what is cut out of a beginning of frames and a tail -/
theorem cuts_det {tl ns : List Int} (hp : Part tl) {a z : Nat} {xs : List Fr} (c : Cuts ns a xs z) : ∀ (fs : List Fr) (m : Nat), ns.drop a = (encs fs ++ tl).take m → a ≤ ns.length →
    ∃ j, j ≤ fs.length ∧ xs = fs.take j ∧ z = a + (encs (fs.take j)).length ∧ (encs (fs.take j)).length ≤ ns.length - a ∧ ∀ i, j < i → i ≤ fs.length → ns.length - a < (encs (fs.take i)).length := by
  induction c with
  | @stop a h =>
    intro fs m e ha
    refine ⟨0, Nat.zero_le _, rfl, rfl, Nat.zero_le _, fun i hi hl => ?_⟩
    match fs, i, hi, hl with
    | [], i, hi, hl => exact absurd hl (by simp; omega)
    | y :: ys, i + 1, _, _ =>
      rw [List.take_succ_cons, encs_cons, List.length_append]
      refine Nat.lt_of_not_le fun hh => ?_
      have := fend_head (y := y) (r := encs ys ++ tl) (m := m) (by rw [e, encs_cons, List.append_assoc]) (by rw [List.length_drop]; have := y.enc_len; omega)
      rw [this] at h
      omega
  | @step a e z x xs h1 h2 h3 h4 h5 h6 h7 _ ih =>
    intro fs m he ha
    match fs with
    | [] =>
      have hq := hp m
      have he' : ns.drop a = tl.take m := by rw [he]; rfl
      rw [← he', List.length_drop] at hq
      rw [fend_drop] at h1
      omega
    | y :: ys =>
      have hn : 0 < (ns.drop a).length := by rw [List.length_drop]; omega
      have he2 : ns.drop a = (y.enc ++ (encs ys ++ tl)).take m := by rw [he, encs_cons, List.append_assoc]
      have hf := fend_head he2 hn
      rw [h1] at hf
      have ee : e = a + y.enc.length := by omega
      have hm : y.enc.length ≤ m := by
        have := congrArg List.length he2
        rw [List.length_drop, List.length_take] at this
        omega
      have he3 : ns.drop a = y.enc ++ (encs ys ++ tl).take (m - y.enc.length) := by rw [he2, List.take_append, List.take_of_length_le hm]
      have he4 : ns.drop e = (encs ys ++ tl).take (m - y.enc.length) := by
        rw [ee, ← List.drop_drop, he3, List.drop_left]
      have at_ : ∀ i v, y.enc[i]? = some v → ns[a + i]? = some v := fun i v hv => by
        rw [← List.getElem?_drop, he3, List.getElem?_append_left (List.getElem?_eq_some_iff.mp hv).1]
        exact hv
      have q1 := at_ 1 y.k rfl
      have q2 := at_ 2 y.f rfl
      have q3 := at_ 3 y.t rfl
      rw [h4] at q1
      rw [h5] at q2
      rw [h6] at q3
      have hvs : x.vs = y.vs := by
        refine vs_of_map (h7.symm.trans ?_)
        unfold cutL
        have c1 : ((a : Int) + 4) = ((a + 4 : Nat) : Int) := by omega
        rw [c1, List.length_map, HT.sIx_nat ns.length 0 (a + 4), HT.sIx_nat ns.length ns.length e, Nat.min_eq_left (show a + 4 ≤ ns.length by omega), Nat.min_eq_left h2, ← List.map_drop, ← List.map_take, ← List.drop_drop, he3]
        have e6 : e - (a + 4) = y.vs.length := by rw [ee, y.enc_len]; omega
        have e7 : (y.enc ++ (encs ys ++ tl).take (m - y.enc.length)).drop 4 = y.vs ++ (encs ys ++ tl).take (m - y.enc.length) := rfl
        rw [e6, e7, List.take_left]
      have hxy : x = y := by
        obtain ⟨xk, xf, xt, xv⟩ := x
        obtain ⟨yk, yf, yt, yv⟩ := y
        cases q1
        cases q2
        cases q3
        cases hvs
        rfl
      obtain ⟨j, j1, j2, j3, j4, j5⟩ := ih ys _ he4 (by omega)
      refine ⟨j + 1, by simpa using j1, by rw [List.take_succ_cons, hxy, ← j2], ?_, ?_, fun i hi hl => ?_⟩
      · rw [List.take_succ_cons, encs_cons, List.length_append, j3, ee]; omega
      · rw [List.take_succ_cons, encs_cons, List.length_append]; omega
      · match i, hi, hl with
        | i + 1, hi, hl =>
          have := j5 i (by omega) (by simpa using hl)
          rw [List.take_succ_cons, encs_cons, List.length_append]
          omega
end Z
namespace Z
open PySem PySem.Spec L2 TL
local macro_rules | `(tactic| walk_at "ev") => `(tactic| simp only [fin_nx, fin_rt, fin_er, startL, List.map_cons, List.map_nil, List.length_cons, List.length_nil, List.cons_append, List.nil_append, List.replicate, sSeq, sSet, sIf, sNil, sRet, sItem, sDrop, sRaise, lift_ok, lift_er, bind_ok, bind_er, eVar, eC, e2, e1, eA, eAnd, eOr, eNot, eIf, eChain, aNil, aCons, tOf, tAnd', tOr', tNot', get0, get1, get2, get3, get4, get5, get6, get7, get8, get9, get10, get11, get12, get13, set0, set1, set2, set3, set4, set5, set6, set7, set8, set9, set10, set11, set12, set13, fIx, seqL, seqM, atI_0, atI_1, atI_2, atI_3, ixN_0, ixN_1, ixN_2, ixN_3, fI0, fI, fAdd, fLen, fEq_int, fEq_str, fEq_bl, clean, if_true, if_false, List.all_cons, List.all_nil, Bool.and_true, Bool.true_and, Bool.false_and, Bool.not_true, Bool.not_false, decide_true, decide_false, Bool.and_self, eCall, set_self, at_self, List.set_set, Bool.false_eq_true, sFor, iA, iR1, itemsOf, eNew, eFrz, aClean, aComp, wipeL, aSl, oSome, oNone, eMt, fIs, tyOf, locOk, truL, tTr, eTup, gN, fInt, fJoin, *])
def Fr.tup (x : Fr) : LV := .tup [.int x.k, .int x.f, .int x.t, .lst (x.vs.map .int)]
def w_frB : MS := (sSeq (sSet 3 (eCall 2 (mDef 4 w_taken) (aCons (eVar 0) (aCons (e2 fPow (eC (.int 10)) (eC (.int 9))) aNil))))
  (sSeq (sSet 4 (e2 fMod (eVar 3) (eC (.int 13))))
  (sSeq (sIf (tOf (e2 fEq (e2 fMod (e2 fDiv (eVar 3) (eC (.int 13))) (eC (.int 6))) (eC (.int 5)))) (sSet 4 (e2 fAdd (eC (.int 200)) (e2 fMod (e2 fDiv (eVar 3) (eC (.int 78))) (eC (.int 56))))) sNil)
  (sSeq (sSet 5 (eFrz (aComp (iR1 (aCons (eVar 4) aNil)) (gN 6) tYes' (e2 fMod (e2 fAdd (e2 fDiv (eVar 3) (eC (.int 7))) (e2 fMul (eVar 6) (e2 fAdd (eC (.int 1)) (e2 fMod (eVar 3) (eC (.int 11)))))) (eC (.int 256))) [6])))
  (sMod gApp (eVar 1) (aCons (eTup (aCons (eCall 2 (mDef 4 w_taken) (aCons (eVar 0) (aCons (eC (.int 256)) aNil))) (aCons (e2 fMod (e2 fDiv (eVar 3) (eC (.int 256))) (eC (.int 256))) (aCons (e2 fMod (e2 fDiv (eVar 3) (eC (.int 65536))) (eC (.int 256))) (aCons (eVar 5) aNil))))) aNil))))))
theorem fr_body {R : Row} {fs : List Fr} {s2 s3 s4 s5 : Sl} (ok : R.Ok) (hl : fs.length ≤ 1000) : ∃ (x : Fr) (R' : Row) (t3 t4 t5 : Sl), R'.Ok ∧ x.vs.length ≤ 255 ∧
    w_frB [.val (.ref 0), .own (.lst (fs.map Fr.tup)), s2, s3, s4, s5, .no] [R.o] = .nx [.val (.ref 0), .own (.lst ((fs ++ [x]).map Fr.tup)), s2, t3, t4, t5, .no] [R'.o] := by
  have big : ∀ i, cDiv i ((10 : Int) ^ (9 : Int).toNat) = true := fun i => cDiv_of 60 (by decide) (by decide) (by decide +kernel) (by decide)
  have bigp : cPow 10 9 = true := by decide
  have t1 := taken0 (rest := []) ok (show (0 : Int) < (10 : Int) ^ (9 : Int).toNat by decide) big
  have r1 := Row.take_ok (many := (10 : Int) ^ (9 : Int).toNat) ok
  obtain ⟨M, hM⟩ : ∃ M : Int, (10 : Int) ^ (9 : Int).toNat = M := ⟨_, rfl⟩
  rw [hM] at t1 r1
  clear big
  generalize (R.take M).2 = R1 at *
  generalize (R.take M).1 = cell at *
  have t2 := taken0 (rest := []) r1 (show (0 : Int) < 256 by decide) (cDiv_small (by decide) (by decide))
  have r2 := Row.take_ok (many := 256) r1
  generalize (R1.take 256).2 = R2 at *
  generalize (R1.take 256).1 = kind at *
  have d1 := cDiv_small (m := 13) (by decide) (by decide) cell
  have d2 := cDiv_small (m := 78) (by decide) (by decide) cell
  have d3 := cDiv_small (m := 7) (by decide) (by decide) cell
  have d4 := cDiv_small (m := 11) (by decide) (by decide) cell
  have d5 := cDiv_small (m := 256) (by decide) (by decide) cell
  have d6 := cDiv_small (m := 65536) (by decide) (by decide) cell
  have d7 : ∀ i, cDiv i 256 = true := cDiv_small (by decide) (by decide)
  have d8 : ∀ i, cDiv i 6 = true := cDiv_small (by decide) (by decide)
  have d9 : ∀ i, cDiv i 56 = true := cDiv_small (by decide) (by decide)
  have q6 : decide ((0 : Int) < 6) = true := by decide
  have q11 : decide ((0 : Int) < 11) = true := by decide
  have q13 : decide ((0 : Int) < 13) = true := by decide
  have q56 : decide ((0 : Int) < 56) = true := by decide
  have q256 : decide ((0 : Int) < 256) = true := by decide
  obtain ⟨size, hs⟩ : ∃ size : Int, size = if cell / 13 % 6 = 5 then 200 + cell / 78 % 56 else cell % 13 := ⟨_, rfl⟩
  have s0 : 0 ≤ size := by subst hs; split <;> omega
  have s1 : size ≤ 255 := by subst hs; split <;> omega
  have co : ∀ a b c : Sl, compL (gN 6) tYes' (e2 fMod (e2 fAdd (e2 fDiv (eVar 3) (eC (.int 7))) (e2 fMul (eVar 6) (e2 fAdd (eC (.int 1)) (e2 fMod (eVar 3) (eC (.int 11)))))) (eC (.int 256))) [a, b, s2, .val (.int cell), .val (.int size), c, .no] (rng 0 size.toNat) [] [R1.o] = .ok (((List.range size.toNat).map fun (j : Nat) => (cell / 7 + (0 + (j : Int)) * (1 + cell % 11)) % 256).map .int) [R1.o] := fun a b c => by
    rw [rng_map]
    refine compL_map (fun (i : Nat) => LV.int (0 + (i : Int))) LV.int (fun (j : Nat) => (cell / 7 + (0 + (j : Int)) * (1 + cell % 11)) % 256) (fun _ => rfl) (List.range size.toNat) (by simp; omega) fun j hj => ⟨[a, b, s2, .val (.int cell), .val (.int size), c, .val (.int (0 + (j : Int)))], rfl, rfl, ?_⟩
    have := List.mem_range.mp hj
    have hmul : cMul (0 + (j : Int)) (1 + cell % 11) = true := cMul_of 10 10 (by decide) (by decide) (by omega) (by omega) (by decide)
    clear t1 t2 hs hM
    walk_at "ev"
  generalize hvs : ((List.range size.toNat).map fun (j : Nat) => (cell / 7 + (0 + (j : Int)) * (1 + cell % 11)) % 256) = vs at co
  have lv : vs.length ≤ 255 := by rw [← hvs]; simp; omega
  refine ⟨⟨kind, cell / 256 % 256, cell / 65536 % 256, vs⟩, R2, .val (.int cell), .val (.int size), .val (.lst (vs.map .int)), r2, lv, ?_⟩
  unfold w_frB
  rw [seq_nx (σ1 := [.val (.ref 0), .own (.lst (fs.map Fr.tup)), s2, .val (.int cell), s4, s5, .no]) (L1 := [R1.o]) (by clear co t2 hs hvs; walk_at "ev")]
  rw [seq_nx (σ1 := [.val (.ref 0), .own (.lst (fs.map Fr.tup)), s2, .val (.int cell), .val (.int (cell % 13)), s5, .no]) (L1 := [R1.o]) (by
    have d0 : ∀ i, cDiv i 13 = true := cDiv_small (by decide) (by decide)
    clear co t1 t2 hs hvs; walk_at "ev")]
  rw [seq_nx (σ1 := [.val (.ref 0), .own (.lst (fs.map Fr.tup)), s2, .val (.int cell), .val (.int size), s5, .no]) (L1 := [R1.o]) (by
    clear co t1 t2 hvs
    by_cases h5 : cell / 13 % 6 = 5
    · rw [if_pos h5] at hs
      subst hs
      walk_at "ev"
    · rw [if_neg h5] at hs
      have h6 := decide_eq_false h5
      subst hs
      walk_at "ev")]
  rw [seq_nx (σ1 := [.val (.ref 0), .own (.lst (fs.map Fr.tup)), s2, .val (.int cell), .val (.int size), .val (.lst (vs.map .int)), .no]) (L1 := [R1.o]) (by
    have q : (-(2 ^ 62) ≤ size ∧ size < 2 ^ 62) = True := by simp; omega
    clear t1 t2 hvs hs
    walk_at "ev")]
  have z := small_lt (n := (fs.map Fr.tup).length) (by simp; omega)
  have z4 : decide (4 ≤ sizeLine) = true := decide_eq_true (small (by decide))
  have hm : (fs ++ [(⟨kind, cell / 256 % 256, cell / 65536 % 256, vs⟩ : Fr)]).map Fr.tup = fs.map Fr.tup ++ [.tup [.int kind, .int (cell / 256 % 256), .int (cell / 65536 % 256), .lst (vs.map .int)]] := by simp [Fr.tup]
  rw [hm]
  clear t1 hvs hs co hm
  unfold sMod gApp
  walk_at "ev"
end Z
namespace Z
open PySem PySem.Spec L2 TL
local macro_rules | `(tactic| walk_at "ev") => `(tactic| simp only [fin_nx, fin_rt, fin_er, startL, List.map_cons, List.map_nil, List.length_cons, List.length_nil, List.cons_append, List.nil_append, List.replicate, sSeq, sSet, sIf, sNil, sRet, sItem, sDrop, sRaise, lift_ok, lift_er, bind_ok, bind_er, eVar, eC, e2, e1, eA, eAnd, eOr, eNot, eIf, eChain, aNil, aCons, tOf, tAnd', tOr', tNot', get0, get1, get2, get3, get4, get5, get6, get7, get8, get9, get10, get11, get12, get13, set0, set1, set2, set3, set4, set5, set6, set7, set8, set9, set10, set11, set12, set13, fIx, seqL, seqM, atI_0, atI_1, atI_2, atI_3, ixN_0, ixN_1, ixN_2, ixN_3, fI0, fI, fAdd, fLen, fEq_int, fEq_str, fEq_bl, clean, if_true, if_false, List.all_cons, List.all_nil, Bool.and_true, Bool.true_and, Bool.false_and, Bool.not_true, Bool.not_false, decide_true, decide_false, Bool.and_self, eCall, set_self, at_self, List.set_set, Bool.false_eq_true, sFor, iA, iR1, itemsOf, eNew, eFrz, aClean, aComp, wipeL, aSl, oSome, oNone, eMt, fIs, tyOf, locOk, truL, tTr, eTup, gN, fInt, fJoin, *])
theorem frames_loop : ∀ (js : List Nat) (fs : List Fr) (R : Row) (s2 s3 s4 s5 : Sl), R.Ok → fs.length + js.length ≤ 1000 → (∀ x ∈ fs, x.vs.length ≤ 255) → ∃ (fs' : List Fr) (R' : Row) (t2 t3 t4 t5 : Sl), R'.Ok ∧ fs'.length = fs.length + js.length ∧ (∀ x ∈ fs', x.vs.length ≤ 255) ∧
    loop (gN 2) w_frB (js.map fun (j : Nat) => LV.int (0 + (j : Int))) [.val (.ref 0), .own (.lst (fs.map Fr.tup)), s2, s3, s4, s5, .no] [R.o] = .nx [.val (.ref 0), .own (.lst (fs'.map Fr.tup)), t2, t3, t4, t5, .no] [R'.o]
  | [], fs, R, s2, s3, s4, s5, ok, _, hx => ⟨fs, R, s2, s3, s4, s5, ok, rfl, hx, rfl⟩
  | j :: js, fs, R, s2, s3, s4, s5, ok, hl, hx => by
    rw [List.length_cons] at hl
    obtain ⟨x, R1, t3, t4, t5, ok1, lx, e1⟩ := fr_body (s2 := .val (.int (0 + (j : Int)))) (s3 := s3) (s4 := s4) (s5 := s5) ok (show fs.length ≤ 1000 by omega)
    obtain ⟨fs', R', u2, u3, u4, u5, ok2, l2, hx2, e2⟩ := frames_loop js (fs ++ [x]) R1 (.val (.int (0 + (j : Int)))) t3 t4 t5 ok1 (by rw [List.length_append, List.length_singleton]; omega) (fun y hy => by
      rcases List.mem_append.mp hy with h | h
      · exact hx y h
      · rw [List.mem_singleton.mp h]; exact lx)
    refine ⟨fs', R', u2, u3, u4, u5, ok2, by rw [l2, List.length_append, List.length_singleton, List.length_cons]; omega, hx2, ?_⟩
    rw [List.map_cons]
    unfold loop
    have hs : gN 2 (.int (0 + (j : Int))) [.val (.ref 0), .own (.lst (fs.map Fr.tup)), s2, s3, s4, s5, .no] = some [.val (.ref 0), .own (.lst (fs.map Fr.tup)), .val (.int (0 + (j : Int))), s3, s4, s5, .no] := rfl
    simp only [hs, e1, e2]
def w_frames : MS := (sSeq (sOwn 1 (aClean aNil))
  (sSeq (sFor (iR1 (aCons (eCall 2 (mDef 4 w_taken) (aCons (eVar 0) (aCons (eC (.int 7)) aNil))) aNil)) (gN 2) w_frB)
  (sFrz 1 (sRet (eVar 1)))))
theorem frames_eq {R : Row} (ok : R.Ok) : ∃ (fs : List Fr) (R' : Row), R'.Ok ∧ fs.length ≤ 6 ∧ (∀ x ∈ fs, x.vs.length ≤ 255) ∧ mDef 7 w_frames [.ref 0] [R.o] = .ok (.lst (fs.map Fr.tup)) [R'.o] := by
  have t1 := taken0 (rest := []) ok (show (0 : Int) < 7 by decide) (cDiv_small (by decide) (by decide))
  obtain ⟨p1, q1⟩ := Row.take_lt (R := R) (show (0 : Int) < 7 by decide)
  have r1 := Row.take_ok (many := 7) ok
  generalize (R.take 7).2 = R1 at *
  generalize (R.take 7).1 = n at *
  obtain ⟨fs, R', t2, t3, t4, t5, ok2, l2, hx, lp⟩ := frames_loop (List.range n.toNat) [] R1 .no .no .no .no r1 (by simp; omega) (fun x hx => by simp at hx)
  refine ⟨fs, R', ok2, by rw [l2]; simp; omega, hx, ?_⟩
  have z0 : decide (0 ≤ sizeLine) = true := decide_eq_true (Nat.zero_le _)
  have q : (-(2 ^ 62) ≤ n ∧ n < 2 ^ 62) = True := by simp; omega
  have lp' : loop (gN 2) w_frB (rng 0 n.toNat) [.val (.ref 0), .own (.lst []), .no, .no, .no, .no, .no] [R1.o] = .nx [.val (.ref 0), .own (.lst (fs.map Fr.tup)), t2, t3, t4, t5, .no] [R'.o] := lp
  clear lp hx l2
  unfold w_frames
  rw [mDef_run]
  show fin (sSeq _ _ [.val (.ref 0), .no, .no, .no, .no, .no, .no] [R.o]) = _
  rw [seq_nx (σ1 := [.val (.ref 0), .own (.lst []), .no, .no, .no, .no, .no]) (L1 := [R.o]) (by unfold sOwn; walk_at "ev")]
  rw [seq_nx (σ1 := [.val (.ref 0), .own (.lst (fs.map Fr.tup)), t2, t3, t4, t5, .no]) (L1 := [R'.o]) (by walk_at "ev")]
  rfl
def w_same (f : TyK → Option Bool) : MS := (sSeq (sIf (tOr' (tNot' (tTr (e1 (fIs f) (eVar 0)))) (tNot' (tTr (eCall 2 (mDef 3 w_list) (aCons (eFrz (aClean (aCons (e1 (fFld ["Frame"] "kind") (eVar 0)) (aCons (e1 (fFld ["Frame"] "flag") (eVar 0)) (aCons (e1 (fFld ["Frame"] "talk") (eVar 0)) aNil))))) (aCons (eFrz (aList (aCons (eSlT (eVar 1) oNone (oSome (eC (.int 3)))) aNil))) aNil)))))) (sRet (eC (.bl false))) sNil)
  (sRet (eCall 2 (mDef 3 w_list) (aCons (e1 (fFld ["Frame"] "numbers") (eVar 0)) (aCons (e2 fIx (eVar 1) (eC (.int 3))) aNil)))))
theorem same_eq {f : TyK → Option Bool} {n : Nat} {x : Fr} {L : LH} (hf : f (.c "Frame") = some true) (h : L[n]? = some x.o) : mDef 2 (w_same f) [.ref n, x.tup] L = .ok (.bl true) L := by
  have l1 : mDef 3 w_list [.lst [.int x.k, .int x.f, .int x.t], .lst [.int x.k, .int x.f, .int x.t]] L = .ok (.bl true) L := list_eq (ns := [x.k, x.f, x.t])
  have l2 := list_eq (ns := x.vs) (L := L)
  have g1 : ∀ σ : SL, fFld ["Frame"] "kind" (.ref n) σ L = .ok (.int x.k) L := fun σ => by unfold fFld insOf; simp only [h, Fr.o, frameO]; rfl
  have g2 : ∀ σ : SL, fFld ["Frame"] "flag" (.ref n) σ L = .ok (.int x.f) L := fun σ => by unfold fFld insOf; simp only [h, Fr.o, frameO]; rfl
  have g3 : ∀ σ : SL, fFld ["Frame"] "talk" (.ref n) σ L = .ok (.int x.t) L := fun σ => by unfold fFld insOf; simp only [h, Fr.o, frameO]; rfl
  have g4 : ∀ σ : SL, fFld ["Frame"] "numbers" (.ref n) σ L = .ok (.lst (x.vs.map .int)) L := fun σ => by unfold fFld insOf; simp only [h, Fr.o, frameO]; rfl
  have z3 : decide (3 ≤ sizeLine) = true := decide_eq_true (small (by decide))
  have hL : L[n]? = some (.ins "Frame" ["kind", "flag", "talk", "numbers"] [.int x.k, .int x.f, .int x.t, .lst (x.vs.map .int)]) := h
  have sl : eSlT (eVar 1) oNone (oSome (eC (.int 3))) [.val (.ref n), .val (.tup [.int x.k, .int x.f, .int x.t, .lst (x.vs.map .int)])] L = .ok (.tup [.int x.k, .int x.f, .int x.t]) L := rfl
  unfold w_same
  rw [mDef_run]
  clear h
  show fin (sSeq _ _ [.val (.ref n), .val (.tup [.int x.k, .int x.f, .int x.t, .lst (x.vs.map .int)])] L) = _
  rw [seq_nx (σ1 := [.val (.ref n), .val (.tup [.int x.k, .int x.f, .int x.t, .lst (x.vs.map .int)])]) (L1 := L) (by
    clear l2 g4
    unfold aList
    walk_at "ev")]
  clear sl hL
  walk_at "ev"
end Z
namespace Z
open PySem PySem.Spec L2 TL
local macro_rules | `(tactic| walk_at "ev") => `(tactic| simp only [fin_nx, fin_rt, fin_er, startL, List.map_cons, List.map_nil, List.length_cons, List.length_nil, List.cons_append, List.nil_append, List.replicate, sSeq, sSet, sIf, sNil, sRet, sItem, sDrop, sRaise, lift_ok, lift_er, bind_ok, bind_er, eVar, eC, e2, e1, eA, eAnd, eOr, eNot, eIf, eChain, aNil, aCons, tOf, tAnd', tOr', tNot', get0, get1, get2, get3, get4, get5, get6, get7, get8, get9, get10, get11, get12, get13, set0, set1, set2, set3, set4, set5, set6, set7, set8, set9, set10, set11, set12, set13, fIx, seqL, seqM, atI_0, atI_1, atI_2, atI_3, ixN_0, ixN_1, ixN_2, ixN_3, fI0, fI, fAdd, fLen, fEq_int, fEq_str, fEq_bl, clean, if_true, if_false, List.all_cons, List.all_nil, Bool.and_true, Bool.true_and, Bool.false_and, Bool.not_true, Bool.not_false, decide_true, decide_false, Bool.and_self, eCall, set_self, at_self, List.set_set, Bool.false_eq_true, sFor, iA, iR1, itemsOf, eNew, eFrz, aClean, aComp, wipeL, aSl, oSome, oNone, eMt, fIs, tyOf, locOk, truL, tTr, eTup, gN, fInt, fJoin, *])
theorem ne_ints {ns : List Int} {σ : SL} {L : LH} : fEqN true (.lst (ns.map .int)) (.lst (ns.map .int)) σ L = .ok (.bl false) L := by
  have h : toDV σ L (.lst (ns.map .int)) = some (.list (ns.map .int)) := by simp only [toDV, toD, toDs_ints]; rfl
  unfold fEqN
  simp only [show eqS (.lst (ns.map .int)) (.lst (ns.map .int)) = none from rfl, h, shaped_ints ns, eqv_self (shaped_ints ns), Bool.and_self, if_true, Bool.not_true]
def endsOf (ds : List Fr) : List Int := (List.range ds.length).map fun i => ((encs (ds.take (i + 1))).length : Int)
theorem endsOf_snoc (ds : List Fr) (x : Fr) : endsOf (ds ++ [x]) = endsOf ds ++ [((encs (ds ++ [x])).length : Int)] := by
  unfold endsOf
  rw [List.length_append, List.length_singleton, List.range_succ, List.map_append]
  congr 1
  · refine List.map_congr_left fun i hi => ?_
    have := List.mem_range.mp hi
    rw [List.take_append_of_le_length (by omega)]
  · rw [List.map_singleton, List.take_of_length_le (by simp)]
theorem encs_snoc (ds : List Fr) (x : Fr) : encs (ds ++ [x]) = encs ds ++ x.enc := by unfold encs; simp
theorem encs_len {ds : List Fr} (h : ∀ x ∈ ds, x.vs.length ≤ 255) : (encs ds).length ≤ 259 * ds.length := by
  induction ds with
  | nil => exact Nat.zero_le _
  | cons x ds ih =>
    rw [encs_cons, List.length_append, x.enc_len, List.length_cons]
    have := ih fun y hy => h y (List.mem_cons_of_mem _ hy)
    have := h x List.mem_cons_self
    omega
def w_lineB : MS := (sSeq (sSet 8 (eFrz (aList (aCons (e2 fIx (eVar 7) (eC (.int 3))) aNil))))
  (sSeq (sSet 9 (eCall 4 (mDef 4 w_framed) (aCons (e2 fIx (eVar 7) (eC (.int 0))) (aCons (e2 fIx (eVar 7) (eC (.int 1))) (aCons (e2 fIx (eVar 7) (eC (.int 2))) (aCons (eVar 8) aNil))))))
  (sSeq (sSet 10 (e2 fAdd (eFrz (aClean (aCons (eA fLen (aCons (e2 fIx (eVar 7) (eC (.int 3))) aNil)) (aCons (e2 fIx (eVar 7) (eC (.int 0))) (aCons (e2 fIx (eVar 7) (eC (.int 1))) (aCons (e2 fIx (eVar 7) (eC (.int 2))) aNil)))))) (e2 fIx (eVar 7) (eC (.int 3)))))
  (sSeq (sIf (tOr' (tNot' (tTr (eCall 2 (mDef 3 w_list) (aCons (eVar 9) (aCons (eVar 10) aNil))))) (tOf (e2 fNe (eVar 8) (e2 fIx (eVar 7) (eC (.int 3)))))) (sRet (eC (.bl false))) sNil)
  (sSeq (sSet 5 (e2 fAdd (eVar 5) (eVar 10)))
  (sMod gApp (eVar 6) (aCons (eA fLen (aCons (eVar 5) aNil)) aNil)))))))
theorem line_body {x : Fr} {ds : List Fr} {a0 a1 a2 a3 a4 a8 a9 a10 : Sl} {rest : SL} {L : LH} (hx : x.vs.length ≤ 255) (hd : (encs ds).length ≤ 10000) (hl : ds.length ≤ 100) :
    w_lineB (a0 :: a1 :: a2 :: a3 :: a4 :: .val (.lst ((encs ds).map .int)) :: .own (.lst ((endsOf ds).map .int)) :: .val x.tup :: a8 :: a9 :: a10 :: rest) L =
      .nx (a0 :: a1 :: a2 :: a3 :: a4 :: .val (.lst ((encs (ds ++ [x])).map .int)) :: .own (.lst ((endsOf (ds ++ [x])).map .int)) :: .val x.tup :: .val (.lst (x.vs.map .int)) :: .val (.lst (x.enc.map .int)) :: .val (.lst (x.enc.map .int)) :: rest) L := by
  have fr := framed_eq (x := x) (L := L) (by omega)
  have z4 : decide (4 ≤ sizeLine) = true := decide_eq_true (small (by decide))
  have z5 : 0 + 1 + 1 + 1 + 1 + (x.vs.map LV.int).length ≤ sizeLine := small (by simp; omega)
  have hlv : ((x.vs.map LV.int).length : Int) = x.vs.length := by simp
  have he : x.enc.map LV.int = .int x.vs.length :: .int x.k :: .int x.f :: .int x.t :: x.vs.map .int := by unfold Fr.enc; simp
  have ht : x.tup = .tup [.int x.k, .int x.f, .int x.t, .lst (x.vs.map .int)] := rfl
  have le := list_eq (ns := x.enc) (L := L)
  have z6 : ((encs ds).map LV.int).length + (x.enc.map LV.int).length ≤ sizeLine := small (by have := x.enc_len; simp; omega)
  have hm : (encs ds).map LV.int ++ x.enc.map LV.int = (encs (ds ++ [x])).map LV.int := by rw [encs_snoc, List.map_append]
  have z7 : ((endsOf ds).map LV.int).length < sizeLine := small_lt (by unfold endsOf; simp; omega)
  have hn : (endsOf (ds ++ [x])).map LV.int = (endsOf ds).map LV.int ++ [.int ((encs (ds ++ [x])).length : Int)] := by rw [endsOf_snoc, List.map_append]; rfl
  have hc : (((encs (ds ++ [x])).map LV.int).length : Int) = ((encs (ds ++ [x])).length : Int) := by simp
  rw [ht]
  unfold w_lineB
  rw [seq_nx (σ1 := a0 :: a1 :: a2 :: a3 :: a4 :: .val (.lst ((encs ds).map .int)) :: .own (.lst ((endsOf ds).map .int)) :: .val (.tup [.int x.k, .int x.f, .int x.t, .lst (x.vs.map .int)]) :: .val (.lst (x.vs.map .int)) :: a9 :: a10 :: rest) (L1 := L) (by
    clear fr he le z6 hm z7 hn hc ht
    unfold aList
    walk_at "ev")]
  rw [seq_nx (σ1 := a0 :: a1 :: a2 :: a3 :: a4 :: .val (.lst ((encs ds).map .int)) :: .own (.lst ((endsOf ds).map .int)) :: .val (.tup [.int x.k, .int x.f, .int x.t, .lst (x.vs.map .int)]) :: .val (.lst (x.vs.map .int)) :: .val (.lst (x.enc.map .int)) :: a10 :: rest) (L1 := L) (by
    clear he le z6 hm z7 hn hc ht
    walk_at "ev")]
  rw [seq_nx (σ1 := a0 :: a1 :: a2 :: a3 :: a4 :: .val (.lst ((encs ds).map .int)) :: .own (.lst ((endsOf ds).map .int)) :: .val (.tup [.int x.k, .int x.f, .int x.t, .lst (x.vs.map .int)]) :: .val (.lst (x.vs.map .int)) :: .val (.lst (x.enc.map .int)) :: .val (.lst (x.enc.map .int)) :: rest) (L1 := L) (by
    clear fr le z6 hm z7 hn hc ht
    generalize Fr.enc x = en at *
    rw [he]
    clear he
    walk_at "ev")]
  rw [seq_nx (σ1 := a0 :: a1 :: a2 :: a3 :: a4 :: .val (.lst ((encs ds).map .int)) :: .own (.lst ((endsOf ds).map .int)) :: .val (.tup [.int x.k, .int x.f, .int x.t, .lst (x.vs.map .int)]) :: .val (.lst (x.vs.map .int)) :: .val (.lst (x.enc.map .int)) :: .val (.lst (x.enc.map .int)) :: rest) (L1 := L) (by
    have ne : ∀ σ : SL, fEqN true (.lst (x.vs.map .int)) (.lst (x.vs.map .int)) σ L = .ok (.bl false) L := fun σ => ne_ints
    clear fr he z6 hm z7 hn hc ht
    walk_at "ev")]
  rw [seq_nx (σ1 := a0 :: a1 :: a2 :: a3 :: a4 :: .val (.lst ((encs (ds ++ [x])).map .int)) :: .own (.lst ((endsOf ds).map .int)) :: .val (.tup [.int x.k, .int x.f, .int x.t, .lst (x.vs.map .int)]) :: .val (.lst (x.vs.map .int)) :: .val (.lst (x.enc.map .int)) :: .val (.lst (x.enc.map .int)) :: rest) (L1 := L) (by
    clear fr he le z7 hn hc ht
    walk_at "ev")]
  rw [hn]
  clear fr he le z6 hm hn ht
  unfold sMod gApp
  walk_at "ev"
theorem line_loop {a0 a1 a2 a3 a4 : Sl} {rest : SL} {L : LH} : ∀ (fs ds : List Fr) (a7 a8 a9 a10 : Sl), (∀ x ∈ fs, x.vs.length ≤ 255) → (encs ds).length + 259 * fs.length ≤ 9000 → ds.length + fs.length ≤ 100 →
    ∃ b7 b8 b9 b10, loop (gN 7) w_lineB (fs.map Fr.tup) (a0 :: a1 :: a2 :: a3 :: a4 :: .val (.lst ((encs ds).map .int)) :: .own (.lst ((endsOf ds).map .int)) :: a7 :: a8 :: a9 :: a10 :: rest) L =
      .nx (a0 :: a1 :: a2 :: a3 :: a4 :: .val (.lst ((encs (ds ++ fs)).map .int)) :: .own (.lst ((endsOf (ds ++ fs)).map .int)) :: b7 :: b8 :: b9 :: b10 :: rest) L
  | [], ds, a7, a8, a9, a10, _, _, _ => ⟨a7, a8, a9, a10, by rw [List.append_nil]; rfl⟩
  | x :: fs, ds, a7, a8, a9, a10, hx, h1, h2 => by
    rw [List.length_cons] at h1 h2
    have hb := line_body (x := x) (ds := ds) (a0 := a0) (a1 := a1) (a2 := a2) (a3 := a3) (a4 := a4) (a8 := a8) (a9 := a9) (a10 := a10) (rest := rest) (L := L) (hx x List.mem_cons_self) (by omega) (by omega)
    have hl : (encs (ds ++ [x])).length = (encs ds).length + x.enc.length := by rw [encs_snoc, List.length_append]
    have := x.enc_len
    have := hx x List.mem_cons_self
    obtain ⟨b7, b8, b9, b10, ih⟩ := line_loop (a0 := a0) (a1 := a1) (a2 := a2) (a3 := a3) (a4 := a4) (rest := rest) (L := L) fs (ds ++ [x]) (.val x.tup) (.val (.lst (x.vs.map .int))) (.val (.lst (x.enc.map .int))) (.val (.lst (x.enc.map .int))) (fun y hy => hx y (List.mem_cons_of_mem _ hy)) (by omega) (by rw [List.length_append, List.length_singleton]; omega)
    refine ⟨b7, b8, b9, b10, ?_⟩
    rw [List.map_cons]
    unfold loop
    have hs : gN 7 x.tup (a0 :: a1 :: a2 :: a3 :: a4 :: .val (.lst ((encs ds).map .int)) :: .own (.lst ((endsOf ds).map .int)) :: a7 :: a8 :: a9 :: a10 :: rest) = some (a0 :: a1 :: a2 :: a3 :: a4 :: .val (.lst ((encs ds).map .int)) :: .own (.lst ((endsOf ds).map .int)) :: .val x.tup :: a8 :: a9 :: a10 :: rest) := rfl
    simp only [hs, hb, ih, List.append_assoc, List.singleton_append]
/-- the four tails -/
def tailOf (i : Int) : List Int := if i = 0 then [] else if i = 1 then [3] else if i = 2 then [2, 1, 0] else [2, 1, 0, 5, 9]
theorem part_of {tl : List Int} {n : Int} (h0 : tl[0]? = some n) (h1 : 0 ≤ n) (h2 : (tl.length : Int) < 4 + n) : Part tl := fun m => by
  unfold fend
  rw [List.getElem?_take]
  have hl : (tl.take m).length ≤ tl.length := by rw [List.length_take]; omega
  by_cases hm : 0 < m
  · rw [if_pos hm, h0]
    simp only
    split <;> omega
  · have : m = 0 := by omega
    subst this
    rw [if_neg (by omega)]
    simp
theorem part_tail (i : Int) : Part (tailOf i) := by
  unfold tailOf
  split
  · intro m
    simp [fend]
  · split
    · exact part_of (n := 3) rfl (by decide) (by decide)
    · split
      · exact part_of (n := 2) rfl (by decide) (by decide)
      · exact part_of (n := 2) rfl (by decide) (by decide)
theorem tail_len (i : Int) : (tailOf i).length ≤ 5 := by
  unfold tailOf
  split
  · decide
  · split
    · decide
    · split <;> decide
/-- a comprehension that keeps what a test lets through -/
theorem compL_filter {B C : Type} {n : LV → SL → Option SL} {t : MT} {m : ME} {σ0 : SL} {L : LH} (ti : B → LV) (to : C → LV) (f : B → C) (q : B → Bool) (hc : ∀ c, clean (to c) = true) :
    ∀ (xs : List B) (acc : List LV), acc.length + xs.length ≤ 1000000 → (∀ x ∈ xs, ∃ σ1, n (ti x) σ0 = some σ1 ∧ t σ1 L = .ok (q x) L ∧ m σ1 L = .ok (to (f x)) L) →
      compL n t m σ0 (xs.map ti) acc L = .ok (acc ++ ((xs.filter q).map f).map to) L
  | [], acc, _, _ => by simp [compL]
  | x :: xs, acc, hl, h => by
    rw [List.length_cons] at hl
    obtain ⟨σ1, e1, e2, e3⟩ := h x List.mem_cons_self
    rw [List.map_cons]
    unfold compL
    simp only [e1, e2, e3]
    cases hq : q x with
    | true =>
      simp only [if_true, hc, Bool.true_and]
      rw [if_pos (decide_eq_true (small_lt (by omega))), compL_filter ti to f q hc xs _ (by rw [List.length_append, List.length_singleton]; omega) fun y hy => h y (List.mem_cons_of_mem _ hy)]
      rw [List.filter_cons_of_pos hq]
      simp
    | false =>
      rw [if_neg Bool.false_ne_true, compL_filter ti to f q hc xs acc (by omega) fun y hy => h y (List.mem_cons_of_mem _ hy)]
      rw [List.filter_cons_of_neg (by simp [hq])]
end Z
namespace Z
open PySem PySem.Spec L2 TL
/-- frames with the places behind them -/
def pairsF (o : Nat) : List Fr → List (Fr × Nat)
  | [] => []
  | x :: xs => (x, o + x.enc.length) :: pairsF (o + x.enc.length) xs
theorem endsOf_pairs (fs : List Fr) : endsOf fs = (pairsF 0 fs).map fun p => (p.2 : Int) := by
  have key : ∀ (fs : List Fr) (o : Nat), ((List.range fs.length).map fun i => ((o + (encs (fs.take (i + 1))).length : Nat) : Int)) = (pairsF o fs).map fun p => (p.2 : Int) := fun fs => by
    induction fs with
    | nil => intro o; rfl
    | cons x xs ih =>
      intro o
      rw [List.length_cons, List.range_succ_eq_map, List.map_cons, List.map_map]
      unfold pairsF
      rw [List.map_cons, ← ih]
      congr 1
      · rw [List.take_succ_cons, encs_cons, List.take_zero]
        simp [encs]
      · refine List.map_congr_left fun i _ => ?_
        show ((o + (encs ((x :: xs).take (i + 1 + 1))).length : Nat) : Int) = ((o + x.enc.length + (encs (xs.take (i + 1))).length : Nat) : Int)
        rw [List.take_succ_cons, encs_cons, List.length_append, Nat.add_assoc]
  have := key fs 0
  unfold endsOf
  rw [← this]
  refine List.map_congr_left fun i _ => ?_
  rw [Nat.zero_add]
theorem pairs_tup (fs : List Fr) : pairs (fs.map Fr.tup) ((endsOf fs).map .int) = (pairsF 0 fs).map fun p => LV.tup [p.1.tup, .int (p.2 : Int)] := by
  rw [endsOf_pairs]
  have key : ∀ (fs : List Fr) (o : Nat), pairs (fs.map Fr.tup) (((pairsF o fs).map fun p => (p.2 : Int)).map .int) = (pairsF o fs).map fun p => LV.tup [p.1.tup, .int (p.2 : Int)] := fun fs => by
    induction fs with
    | nil => intro o; rfl
    | cons x xs ih =>
      intro o
      unfold pairsF
      rw [List.map_cons, List.map_cons, List.map_cons, List.map_cons]
      unfold pairs
      rw [ih]
  exact key fs 0
/-- those that become whole between two places -/
theorem due_eq {lo hi : Nat} : ∀ (fs : List Fr) (o j d : Nat), (∀ i, 1 ≤ i → i ≤ fs.length → (o + (encs (fs.take i)).length ≤ lo ↔ i ≤ j)) → (∀ i, 1 ≤ i → i ≤ fs.length → (o + (encs (fs.take i)).length ≤ hi ↔ i ≤ j + d)) →
    ((pairsF o fs).filter fun p => decide ((lo : Int) < (p.2 : Int)) && decide ((p.2 : Int) ≤ (hi : Int))).map (·.1) = (fs.drop j).take d
  | [], o, j, d, _, _ => by simp [pairsF]
  | x :: xs, o, j, d, h1, h2 => by
    have one : (encs ((x :: xs).take 1)).length = x.enc.length := by rw [List.take_succ_cons, encs_cons, List.take_zero]; simp [encs]
    have a1 := h1 1 (Nat.le_refl _) (by simp)
    have a2 := h2 1 (Nat.le_refl _) (by simp)
    rw [one] at a1 a2
    have nx1 : ∀ i, 1 ≤ i → i ≤ xs.length → (o + x.enc.length + (encs (xs.take i)).length ≤ lo ↔ i + 1 ≤ j) := fun i _ q => by
      have := h1 (i + 1) (by omega) (by simpa using q)
      rw [List.take_succ_cons, encs_cons, List.length_append, ← Nat.add_assoc] at this
      exact this
    have nx2 : ∀ i, 1 ≤ i → i ≤ xs.length → (o + x.enc.length + (encs (xs.take i)).length ≤ hi ↔ i + 1 ≤ j + d) := fun i _ q => by
      have := h2 (i + 1) (by omega) (by simpa using q)
      rw [List.take_succ_cons, encs_cons, List.length_append, ← Nat.add_assoc] at this
      exact this
    unfold pairsF
    match j with
    | 0 =>
      match d with
      | 0 =>
        have ih := due_eq xs (o + x.enc.length) 0 0 (fun i p q => by rw [nx1 i p q]; omega) (fun i p q => by rw [nx2 i p q]; omega)
        rw [List.filter_cons_of_neg (by simp; omega), ih]
        simp
      | d + 1 =>
        have ih := due_eq xs (o + x.enc.length) 0 d (fun i p q => by rw [nx1 i p q]; omega) (fun i p q => by rw [nx2 i p q]; omega)
        rw [List.filter_cons_of_pos (by simp; omega), List.map_cons, ih]
        simp
    | j + 1 =>
      have ih := due_eq xs (o + x.enc.length) j d (fun i p q => by rw [nx1 i p q]; omega) (fun i p q => by rw [nx2 i p q]; omega)
      rw [List.filter_cons_of_neg (by simp; omega), ih]
      simp
end Z
namespace Z
open PySem PySem.Spec L2 TL
theorem q_get14 {α : Type} {a0 a1 a2 a3 a4 a5 a6 a7 a8 a9 a10 a11 a12 a13 a14 a15 a16 a17 a18 a19 : α} : ([a0, a1, a2, a3, a4, a5, a6, a7, a8, a9, a10, a11, a12, a13, a14, a15, a16, a17, a18, a19] : List α)[14]? = some a14 := rfl
theorem q_set14 {α : Type} {a0 a1 a2 a3 a4 a5 a6 a7 a8 a9 a10 a11 a12 a13 a14 a15 a16 a17 a18 a19 x : α} : ([a0, a1, a2, a3, a4, a5, a6, a7, a8, a9, a10, a11, a12, a13, a14, a15, a16, a17, a18, a19] : List α).set 14 x = [a0, a1, a2, a3, a4, a5, a6, a7, a8, a9, a10, a11, a12, a13, x, a15, a16, a17, a18, a19] := rfl
theorem q_get15 {α : Type} {a0 a1 a2 a3 a4 a5 a6 a7 a8 a9 a10 a11 a12 a13 a14 a15 a16 a17 a18 a19 : α} : ([a0, a1, a2, a3, a4, a5, a6, a7, a8, a9, a10, a11, a12, a13, a14, a15, a16, a17, a18, a19] : List α)[15]? = some a15 := rfl
theorem q_set15 {α : Type} {a0 a1 a2 a3 a4 a5 a6 a7 a8 a9 a10 a11 a12 a13 a14 a15 a16 a17 a18 a19 x : α} : ([a0, a1, a2, a3, a4, a5, a6, a7, a8, a9, a10, a11, a12, a13, a14, a15, a16, a17, a18, a19] : List α).set 15 x = [a0, a1, a2, a3, a4, a5, a6, a7, a8, a9, a10, a11, a12, a13, a14, x, a16, a17, a18, a19] := rfl
theorem q_get16 {α : Type} {a0 a1 a2 a3 a4 a5 a6 a7 a8 a9 a10 a11 a12 a13 a14 a15 a16 a17 a18 a19 : α} : ([a0, a1, a2, a3, a4, a5, a6, a7, a8, a9, a10, a11, a12, a13, a14, a15, a16, a17, a18, a19] : List α)[16]? = some a16 := rfl
theorem q_set16 {α : Type} {a0 a1 a2 a3 a4 a5 a6 a7 a8 a9 a10 a11 a12 a13 a14 a15 a16 a17 a18 a19 x : α} : ([a0, a1, a2, a3, a4, a5, a6, a7, a8, a9, a10, a11, a12, a13, a14, a15, a16, a17, a18, a19] : List α).set 16 x = [a0, a1, a2, a3, a4, a5, a6, a7, a8, a9, a10, a11, a12, a13, a14, a15, x, a17, a18, a19] := rfl
theorem q_get17 {α : Type} {a0 a1 a2 a3 a4 a5 a6 a7 a8 a9 a10 a11 a12 a13 a14 a15 a16 a17 a18 a19 : α} : ([a0, a1, a2, a3, a4, a5, a6, a7, a8, a9, a10, a11, a12, a13, a14, a15, a16, a17, a18, a19] : List α)[17]? = some a17 := rfl
theorem q_set17 {α : Type} {a0 a1 a2 a3 a4 a5 a6 a7 a8 a9 a10 a11 a12 a13 a14 a15 a16 a17 a18 a19 x : α} : ([a0, a1, a2, a3, a4, a5, a6, a7, a8, a9, a10, a11, a12, a13, a14, a15, a16, a17, a18, a19] : List α).set 17 x = [a0, a1, a2, a3, a4, a5, a6, a7, a8, a9, a10, a11, a12, a13, a14, a15, a16, x, a18, a19] := rfl
theorem q_get18 {α : Type} {a0 a1 a2 a3 a4 a5 a6 a7 a8 a9 a10 a11 a12 a13 a14 a15 a16 a17 a18 a19 : α} : ([a0, a1, a2, a3, a4, a5, a6, a7, a8, a9, a10, a11, a12, a13, a14, a15, a16, a17, a18, a19] : List α)[18]? = some a18 := rfl
theorem q_set18 {α : Type} {a0 a1 a2 a3 a4 a5 a6 a7 a8 a9 a10 a11 a12 a13 a14 a15 a16 a17 a18 a19 x : α} : ([a0, a1, a2, a3, a4, a5, a6, a7, a8, a9, a10, a11, a12, a13, a14, a15, a16, a17, a18, a19] : List α).set 18 x = [a0, a1, a2, a3, a4, a5, a6, a7, a8, a9, a10, a11, a12, a13, a14, a15, a16, a17, x, a19] := rfl
theorem q_get19 {α : Type} {a0 a1 a2 a3 a4 a5 a6 a7 a8 a9 a10 a11 a12 a13 a14 a15 a16 a17 a18 a19 : α} : ([a0, a1, a2, a3, a4, a5, a6, a7, a8, a9, a10, a11, a12, a13, a14, a15, a16, a17, a18, a19] : List α)[19]? = some a19 := rfl
theorem q_set19 {α : Type} {a0 a1 a2 a3 a4 a5 a6 a7 a8 a9 a10 a11 a12 a13 a14 a15 a16 a17 a18 a19 x : α} : ([a0, a1, a2, a3, a4, a5, a6, a7, a8, a9, a10, a11, a12, a13, a14, a15, a16, a17, a18, a19] : List α).set 19 x = [a0, a1, a2, a3, a4, a5, a6, a7, a8, a9, a10, a11, a12, a13, a14, a15, a16, a17, a18, x] := rfl
local macro_rules | `(tactic| walk_at "ev") => `(tactic| simp only [fin_nx, fin_rt, fin_er, startL, List.map_cons, List.map_nil, List.length_cons, List.length_nil, List.cons_append, List.nil_append, List.replicate, sSeq, sSet, sIf, sNil, sRet, sItem, sDrop, sRaise, lift_ok, lift_er, bind_ok, bind_er, eVar, eC, e2, e1, eA, eAnd, eOr, eNot, eIf, eChain, aNil, aCons, tOf, tAnd', tOr', tNot', get0, get1, get2, get3, get4, get5, get6, get7, get8, get9, get10, get11, get12, get13, set0, set1, set2, set3, set4, set5, set6, set7, set8, set9, set10, set11, set12, set13, fIx, seqL, seqM, atI_0, atI_1, atI_2, atI_3, ixN_0, ixN_1, ixN_2, ixN_3, fI0, fI, fAdd, fLen, fEq_int, fEq_str, fEq_bl, clean, if_true, if_false, List.all_cons, List.all_nil, Bool.and_true, Bool.true_and, Bool.false_and, Bool.not_true, Bool.not_false, decide_true, decide_false, Bool.and_self, eCall, set_self, at_self, List.set_set, Bool.false_eq_true, sFor, iA, iR1, itemsOf, eNew, eFrz, aClean, aComp, wipeL, aSl, oSome, oNone, eMt, fIs, tyOf, locOk, truL, tTr, eTup, gN, fInt, fJoin, q_get14, q_set14, q_get15, q_set15, q_get16, q_set16, q_get17, q_set17, q_get18, q_set18, q_get19, q_set19, *])

def w_t1 : MS := (sSet 15 (e2 fAdd (e2 fMod (e2 fDiv (eVar 3) (e2 fAdd (eC (.int 1)) (e2 fMod (eVar 14) (eC (.int 5))))) (eC (.int 10))) (eA fInt (aCons (e2 fEq (e2 fMod (eVar 14) (eC (.int 7))) (eC (.int 6))) aNil))))
def w_t2 : MS := (sIf (tOf (e2 fEq (eVar 2) (eC (.int 3)))) (sSet 15 (eC (.int 300))) sNil)
def w_t3 : MS := (sSet 16 (eFrz (aSl (eVar 5) (oSome (eVar 12)) (oSome (e2 fAdd (eVar 12) (eVar 15))))))
def w_t4 : MS := (sSet 17 (eFrz (aList (aCons (eVar 16) aNil))))
def w_t5 : MS := (sSet 12 (e2 fAdd (eVar 12) (eA fLen (aCons (eVar 16) aNil))))
def w_t6 : MS := (sFrz 6 (sSet 10 (eFrz (aComp (iZ (aCons (eVar 4) (aCons (eVar 6) aNil))) (gT 2 (gsCons (gN 7) (gsCons (gN 19) gsNil))) (tOf (eChain fLt fLe (e2 fSub (eVar 12) (eA fLen (aCons (eVar 16) aNil))) (eVar 19) (eVar 12))) (eVar 7) [7, 19]))))
def w_t7 : MS := (sSet 9 (eMeth "Cutter" "fed" 2 (mDef 5 w_fed) (eVar 11) (aCons (eVar 17) aNil)))
def w_t8 : MS := (sIf (tOr' (tNot' (tTr (e1 (fIs (isB "list")) (eVar 9)))) (tOr' (tOf (e2 fNe (eA fLen (aCons (eVar 9) aNil)) (eA fLen (aCons (eVar 10) aNil)))) (tOf (e2 fNe (eVar 17) (eVar 16))))) (sRet (eC (.bl false))) sNil)
def w_t9B (f : TyK → Option Bool) : MS := (sIf (tNot' (tTr (eCall 2 (mDef 2 (w_same f)) (aCons (eVar 18) (aCons (eVar 7) aNil))))) (sRet (eC (.bl false))) sNil)
def w_t9 (f : TyK → Option Bool) : MS := (sFor (iZ (aCons (eVar 9) (aCons (eVar 10) aNil))) (gT 2 (gsCons (gN 18) (gsCons (gN 7) gsNil))) (w_t9B f))
def w_t10 : MS := (sSet 13 (e2 fAdd (eVar 13) (eA fLen (aCons (eVar 10) aNil))))
section
variable {a0 a1 a2 a4 a5 a6 a7 a8 a9 a10 a11 a12 a13 a15 a16 a17 a18 a19 : Sl} {L : LH}
theorem t12 {way cut : Int} {k : Nat} : ∃ s : Nat, s ≤ 300 ∧ sSeq w_t1 w_t2 [a0, a1, .val (.int way), .val (.int cut), a4, a5, a6, a7, a8, a9, a10, a11, a12, a13, .val (.int (0 + (k : Int))), a15, a16, a17, a18, a19] L =
    .nx [a0, a1, .val (.int way), .val (.int cut), a4, a5, a6, a7, a8, a9, a10, a11, a12, a13, .val (.int (0 + (k : Int))), .val (.int (s : Nat)), a16, a17, a18, a19] L := by
  have d1 : cDiv cut (1 + (0 + (k : Int)) % 5) = true := cDiv_of 4 (by omega) (by decide) (by omega) (by decide)
  have d2 : ∀ i, cDiv i 10 = true := cDiv_small (by decide) (by decide)
  have d3 : ∀ i, cDiv i 5 = true := cDiv_small (by decide) (by decide)
  have d4 : ∀ i, cDiv i 7 = true := cDiv_small (by decide) (by decide)
  have q5 : decide ((0 : Int) < 5) = true := by decide
  have q7 : decide ((0 : Int) < 7) = true := by decide
  have q10 : decide ((0 : Int) < 10) = true := by decide
  have e1 : ∃ s : Nat, s ≤ 300 ∧ w_t1 [a0, a1, .val (.int way), .val (.int cut), a4, a5, a6, a7, a8, a9, a10, a11, a12, a13, .val (.int (0 + (k : Int))), a15, a16, a17, a18, a19] L =
    .nx [a0, a1, .val (.int way), .val (.int cut), a4, a5, a6, a7, a8, a9, a10, a11, a12, a13, .val (.int (0 + (k : Int))), .val (.int (s : Nat)), a16, a17, a18, a19] L := by
    generalize hx : cut / (1 + (0 + (k : Int)) % 5) % 10 = x
    have x0 : 0 ≤ x := by rw [← hx]; exact Int.emod_nonneg _ (by decide)
    have x1 : x < 10 := by rw [← hx]; exact Int.emod_lt_of_pos _ (by decide)
    by_cases h6 : (0 + (k : Int)) % 7 = 6
    · refine ⟨(x + 1).toNat, by omega, ?_⟩
      have c : (((x + 1).toNat : Nat) : Int) = x + 1 := by omega
      have h6' := decide_eq_true h6
      unfold w_t1
      rw [c]
      walk_at "ev"
    · refine ⟨(x + 0).toNat, by omega, ?_⟩
      have c : (((x + 0).toNat : Nat) : Int) = x + 0 := by omega
      have h6' := decide_eq_false h6
      unfold w_t1
      rw [c]
      walk_at "ev"
  obtain ⟨s, hs, e1⟩ := e1
  rw [seq_nx e1]
  clear e1 d1 d2 d3 d4
  by_cases h3 : way = 3
  · subst h3
    refine ⟨300, Nat.le_refl _, ?_⟩
    unfold w_t2
    walk_at "ev"
    rfl
  · refine ⟨s, hs, ?_⟩
    have h3' := decide_eq_false h3
    unfold w_t2
    walk_at "ev"
theorem t345 {line : List Int} {at_ s : Nat} {a2 a3 a14 : Sl} (hl : line.length ≤ 100000) (ha : at_ ≤ line.length) :
    sSeq w_t3 (sSeq w_t4 w_t5) [a0, a1, a2, a3, a4, .val (.lst (line.map .int)), a6, a7, a8, a9, a10, a11, .val (.int (at_ : Nat)), a13, a14, .val (.int (s : Nat)), a16, a17, a18, a19] L =
      .nx [a0, a1, a2, a3, a4, .val (.lst (line.map .int)), a6, a7, a8, a9, a10, a11, .val (.int ((min (at_ + s) line.length : Nat) : Int)), a13, a14, .val (.int (s : Nat)), .val (.lst (((line.drop at_).take s).map .int)), .val (.lst (((line.drop at_).take s).map .int)), a18, a19] L := by
  have c1 : cutL (line.map LV.int) (some (at_ : Nat)) (some ((at_ : Int) + (s : Int))) = ((line.drop at_).take s).map LV.int := by
    unfold cutL
    rw [show (at_ : Int) + (s : Int) = ((at_ + s : Nat) : Int) by omega, List.length_map, HT.sIx_nat line.length 0 at_, HT.sIx_nat line.length line.length (at_ + s), Nat.min_eq_left ha, ← List.map_drop, ← List.map_take]
    congr 1
    refine List.take_eq_take_iff.mpr ?_
    rw [List.length_drop]
    omega
  have c2 : ((((line.drop at_).take s).map LV.int).length : Int) = ((((line.drop at_).take s).length : Nat) : Int) := by simp
  have c3 : ((min (at_ + s) line.length : Nat) : Int) = (at_ : Int) + (((line.drop at_).take s).length : Nat) := by
    rw [List.length_take, List.length_drop]
    omega
  rw [c3]
  generalize (line.drop at_).take s = piece at *
  clear c3
  rw [seq_nx (σ1 := [a0, a1, a2, a3, a4, .val (.lst (line.map .int)), a6, a7, a8, a9, a10, a11, .val (.int (at_ : Nat)), a13, a14, .val (.int (s : Nat)), .val (.lst (piece.map .int)), a17, a18, a19]) (L1 := L) (by
    unfold w_t3
    walk_at "ev")]
  clear c1
  rw [seq_nx (σ1 := [a0, a1, a2, a3, a4, .val (.lst (line.map .int)), a6, a7, a8, a9, a10, a11, .val (.int (at_ : Nat)), a13, a14, .val (.int (s : Nat)), .val (.lst (piece.map .int)), .val (.lst (piece.map .int)), a18, a19]) (L1 := L) (by
    unfold w_t4 aList
    walk_at "ev")]
  unfold w_t5
  walk_at "ev"
end
end Z
namespace Z
open PySem PySem.Spec L2 TL
local macro_rules | `(tactic| walk_at "ev") => `(tactic| simp only [fin_nx, fin_rt, fin_er, startL, List.map_cons, List.map_nil, List.length_cons, List.length_nil, List.cons_append, List.nil_append, List.replicate, sSeq, sSet, sIf, sNil, sRet, sItem, sDrop, sRaise, lift_ok, lift_er, bind_ok, bind_er, eVar, eC, e2, e1, eA, eAnd, eOr, eNot, eIf, eChain, aNil, aCons, tOf, tAnd', tOr', tNot', get0, get1, get2, get3, get4, get5, get6, get7, get8, get9, get10, get11, get12, get13, set0, set1, set2, set3, set4, set5, set6, set7, set8, set9, set10, set11, set12, set13, fIx, seqL, seqM, atI_0, atI_1, atI_2, atI_3, ixN_0, ixN_1, ixN_2, ixN_3, fI0, fI, fAdd, fLen, fEq_int, fEq_str, fEq_bl, clean, if_true, if_false, List.all_cons, List.all_nil, Bool.and_true, Bool.true_and, Bool.false_and, Bool.not_true, Bool.not_false, decide_true, decide_false, Bool.and_self, eCall, set_self, at_self, List.set_set, Bool.false_eq_true, sFor, iA, iR1, itemsOf, eNew, eFrz, aClean, aComp, wipeL, aSl, oSome, oNone, eMt, fIs, tyOf, locOk, truL, tTr, eTup, gN, fInt, fJoin, q_get14, q_set14, q_get15, q_set15, q_get16, q_set16, q_get17, q_set17, q_get18, q_set18, q_get19, q_set19, *])

section
variable {a0 a1 a2 a3 a4 a5 a6 a7 a8 a9 a10 a11 a12 a13 a14 a15 a16 a17 a18 a19 : Sl} {L : LH}
theorem t6_eq {fs : List Fr} {lo hi : Nat} {piece : List Int} (hp : piece.length = hi - lo) (hlh : lo ≤ hi) (hn : fs.length ≤ 100) :
    w_t6 [a0, a1, a2, a3, .val (.lst (fs.map Fr.tup)), a5, .val (.lst ((endsOf fs).map .int)), a7, a8, a9, a10, a11, .val (.int (hi : Nat)), a13, a14, a15, .val (.lst (piece.map .int)), a17, a18, a19] L =
      .nx [a0, a1, a2, a3, .val (.lst (fs.map Fr.tup)), a5, .val (.lst ((endsOf fs).map .int)), a7, a8, a9, .val (.lst ((((pairsF 0 fs).filter fun p => decide ((lo : Int) < (p.2 : Int)) && decide ((p.2 : Int) ≤ (hi : Int))).map (·.1)).map Fr.tup)), a11, .val (.int (hi : Nat)), a13, a14, a15, .val (.lst (piece.map .int)), a17, a18, a19] L := by
  have hl : ∀ (fs : List Fr) (o : Nat), (pairsF o fs).length = fs.length := fun fs => by
    induction fs with
    | nil => intro o; rfl
    | cons x xs ih => intro o; unfold pairsF; rw [List.length_cons, ih, List.length_cons]
  have co := compL_filter (n := gT 2 (gsCons (gN 7) (gsCons (gN 19) gsNil))) (t := tOf (eChain fLt fLe (e2 fSub (eVar 12) (eA fLen (aCons (eVar 16) aNil))) (eVar 19) (eVar 12))) (m := eVar 7)
    (σ0 := [a0, a1, a2, a3, .val (.lst (fs.map Fr.tup)), a5, .val (.lst ((endsOf fs).map .int)), .no, a8, a9, a10, a11, .val (.int (hi : Nat)), a13, a14, a15, .val (.lst (piece.map .int)), a17, a18, .no]) (L := L)
    (fun p : Fr × Nat => LV.tup [p.1.tup, .int (p.2 : Int)]) Fr.tup (fun p => p.1) (fun p => decide ((lo : Int) < (p.2 : Int)) && decide ((p.2 : Int) ≤ (hi : Int))) (fun _ => rfl) (pairsF 0 fs) [] (by rw [hl]; simp; omega) (fun p _ =>
      ⟨[a0, a1, a2, a3, .val (.lst (fs.map Fr.tup)), a5, .val (.lst ((endsOf fs).map .int)), .val p.1.tup, a8, a9, a10, a11, .val (.int (hi : Nat)), a13, a14, a15, .val (.lst (piece.map .int)), a17, a18, .val (.int (p.2 : Int))], rfl, by
        have c : ((piece.map LV.int).length : Int) = (hi : Int) - lo := by simp; omega
        have c2 : (hi : Int) - ((hi : Int) - lo) = lo := by omega
        cases h1 : decide ((lo : Int) < (p.2 : Int)) <;> walk_at "ev", rfl⟩)
  rw [← pairs_tup] at co
  rw [List.nil_append] at co
  generalize ((((pairsF 0 fs).filter fun p => decide ((lo : Int) < (p.2 : Int)) && decide ((p.2 : Int) ≤ (hi : Int))).map (·.1)).map Fr.tup) = out at *
  clear hl
  unfold w_t6 sFrz
  rw [show frzSlot 6 [a0, a1, a2, a3, .val (.lst (fs.map Fr.tup)), a5, .val (.lst ((endsOf fs).map .int)), a7, a8, a9, a10, a11, .val (.int (hi : Nat)), a13, a14, a15, .val (.lst (piece.map .int)), a17, a18, a19] = [a0, a1, a2, a3, .val (.lst (fs.map Fr.tup)), a5, .val (.lst ((endsOf fs).map .int)), a7, a8, a9, a10, a11, .val (.int (hi : Nat)), a13, a14, a15, .val (.lst (piece.map .int)), a17, a18, a19] from rfl]
  unfold iZ frzOf
  walk_at "ev"
theorem t7_eq {r : Nat} {vs : List LV} {p : List LV} {L' : LH} (hc : L[1]? = some (.ins "Cutter" ["rest"] [.ref r])) (hf : mDef 5 w_fed [.ref 1, .lst p] L = .ok (.lst vs) L') :
    w_t7 [a0, a1, a2, a3, a4, a5, a6, a7, a8, a9, a10, .val (.ref 1), a12, a13, a14, a15, a16, .val (.lst p), a18, a19] L = .nx [a0, a1, a2, a3, a4, a5, a6, a7, a8, .val (.lst vs), a10, .val (.ref 1), a12, a13, a14, a15, a16, .val (.lst p), a18, a19] L' := by
  have em : eMeth "Cutter" "fed" 2 (mDef 5 w_fed) (eVar 11) (aCons (eVar 17) aNil) [a0, a1, a2, a3, a4, a5, a6, a7, a8, a9, a10, .val (.ref 1), a12, a13, a14, a15, a16, .val (.lst p), a18, a19] L = .ok (.lst vs) L' := by
    have e1 : (eVar 11 : ME) [a0, a1, a2, a3, a4, a5, a6, a7, a8, a9, a10, .val (.ref 1), a12, a13, a14, a15, a16, .val (.lst p), a18, a19] L = .ok (.ref 1) L := rfl
    have e2 : aCons (eVar 17) aNil [a0, a1, a2, a3, a4, a5, a6, a7, a8, a9, a10, .val (.ref 1), a12, a13, a14, a15, a16, .val (.lst p), a18, a19] L = .ok [.lst p] L := rfl
    unfold eMeth
    rw [e1]
    simp only [bind_ok, insOf, hc]
    have kf : fieldL "fed" ["rest"] [LV.ref r] = none := by
      unfold fieldL
      rw [if_neg (by decide +kernel)]
      rfl
    rw [kf, if_pos (by simp [clean]), e2]
    simp only [bind_ok]
    rw [if_pos (by rfl)]
    exact hf
  unfold w_t7
  clear hf hc
  walk_at "ev"
theorem t8_eq {vs ws : List LV} {ns : List Int} (h : vs.length = ws.length) : w_t8 [a0, a1, a2, a3, a4, a5, a6, a7, a8, .val (.lst vs), .val (.lst ws), a11, a12, a13, a14, a15, .val (.lst (ns.map .int)), .val (.lst (ns.map .int)), a18, a19] L = .nx [a0, a1, a2, a3, a4, a5, a6, a7, a8, .val (.lst vs), .val (.lst ws), a11, a12, a13, a14, a15, .val (.lst (ns.map .int)), .val (.lst (ns.map .int)), a18, a19] L := by
  have ne : ∀ σ : SL, fEqN true (.lst (ns.map .int)) (.lst (ns.map .int)) σ L = .ok (.bl false) L := fun σ => ne_ints
  have k : isB "list" (.b "list") = some true := by decide +kernel
  have hh : ((vs.length : Int) = ws.length) = True := by rw [h]; simp
  unfold w_t8
  walk_at "ev"
theorem t9_loop {f : TyK → Option Bool} (hf : f (.c "Frame") = some true) : ∀ (xs : List Fr) (n : Nat) (a7 a18 : Sl), (∀ i x, xs[i]? = some x → L[n + i]? = some x.o) → ∃ b7 b18, loop (gT 2 (gsCons (gN 18) (gsCons (gN 7) gsNil))) (w_t9B f) (pairs (refs n xs.length) (xs.map Fr.tup)) [a0, a1, a2, a3, a4, a5, a6, a7, a8, a9, a10, a11, a12, a13, a14, a15, a16, a17, a18, a19] L =
    .nx [a0, a1, a2, a3, a4, a5, a6, b7, a8, a9, a10, a11, a12, a13, a14, a15, a16, a17, b18, a19] L
  | [], n, a7, a18, _ => ⟨a7, a18, rfl⟩
  | x :: xs, n, a7, a18, h => by
    obtain ⟨b7, b18, ih⟩ := t9_loop hf xs (n + 1) (.val x.tup) (.val (.ref n)) fun i y hy => by
      have := h (i + 1) y hy
      rw [show n + 1 + i = n + (i + 1) by omega]
      exact this
    refine ⟨b7, b18, ?_⟩
    have sm := same_eq hf (h 0 x rfl)
    rw [Nat.add_zero] at sm
    rw [List.length_cons, refs_cons, List.map_cons]
    unfold pairs loop
    have hs : gT 2 (gsCons (gN 18) (gsCons (gN 7) gsNil)) (.tup [.ref n, x.tup]) [a0, a1, a2, a3, a4, a5, a6, a7, a8, a9, a10, a11, a12, a13, a14, a15, a16, a17, a18, a19] = some [a0, a1, a2, a3, a4, a5, a6, .val x.tup, a8, a9, a10, a11, a12, a13, a14, a15, a16, a17, .val (.ref n), a19] := rfl
    have hb : w_t9B f [a0, a1, a2, a3, a4, a5, a6, .val x.tup, a8, a9, a10, a11, a12, a13, a14, a15, a16, a17, .val (.ref n), a19] L = .nx [a0, a1, a2, a3, a4, a5, a6, .val x.tup, a8, a9, a10, a11, a12, a13, a14, a15, a16, a17, .val (.ref n), a19] L := by
      have ct : clean x.tup = true := rfl
      clear ih hs h hf
      unfold w_t9B
      generalize x.tup = y at *
      have e : eCall 2 (mDef 2 (w_same f)) (aCons (eVar 18) (aCons (eVar 7) aNil)) [a0, a1, a2, a3, a4, a5, a6, .val y, a8, a9, a10, a11, a12, a13, a14, a15, a16, a17, .val (.ref n), a19] L = .ok (.bl true) L := by
        have e2 : aCons (eVar 18) (aCons (eVar 7) aNil) [a0, a1, a2, a3, a4, a5, a6, .val y, a8, a9, a10, a11, a12, a13, a14, a15, a16, a17, .val (.ref n), a19] L = .ok [.ref n, y] L := rfl
        unfold eCall
        rw [e2]
        simp only [bind_ok, List.all_cons, List.all_nil, ct, Bool.and_true]
        rw [if_pos (by rfl)]
        exact sm
      unfold sIf tNot' tTr
      rw [e]
      rfl
    simp only [hs, hb, ih]
end
end Z
namespace Z
open PySem PySem.Spec L2 TL
theorem seq_assoc {a b c : MS} {σ : SL} {L : LH} : sSeq (sSeq a b) c σ L = sSeq a (sSeq b c) σ L := by
  unfold sSeq
  cases a σ L <;> rfl
theorem encs_app (a b : List Fr) : encs (a ++ b) = encs a ++ encs b := by unfold encs; simp
theorem encs_mono (fs : List Fr) {i j : Nat} (h : i ≤ j) : (encs (fs.take i)).length ≤ (encs (fs.take j)).length := by
  have e : fs.take j = fs.take i ++ (fs.drop i).take (j - i) := by
    rw [← List.take_add]
    congr 1
    omega
  rw [e, encs_app, List.length_append]
  omega
structure TI (fs : List Fr) (tl : List Int) (p j r : Nat) (L : LH) : Prop where
  le : p ≤ (encs fs ++ tl).length
  j_le : j ≤ fs.length
  whole : ∀ i, 1 ≤ i → i ≤ fs.length → ((encs (fs.take i)).length ≤ p ↔ i ≤ j)
  c : L[1]? = some (.ins "Cutter" ["rest"] [.ref r])
  r1 : r ≠ 1
  rest : L[r]? = some (.lst ((((encs fs ++ tl).take p).drop (encs (fs.take j)).length).map .int))
theorem TI.low {fs : List Fr} {tl : List Int} {p j r : Nat} {L : LH} (t : TI fs tl p j r L) : (encs (fs.take j)).length ≤ p := by
  by_cases h : j = 0
  · subst h
    exact Nat.zero_le _
  · exact (t.whole j (by omega) t.j_le).mpr (Nat.le_refl _)
theorem fend_low {fs : List Fr} {tl : List Int} {m : Nat} (hx : ∀ x ∈ fs, x.vs.length ≤ 255) (ht : ∀ z ∈ tl, z ≤ 9) : fend ((encs fs ++ tl).take m) 0 ≤ 1000 := by
  unfold fend
  split
  · omega
  · rename_i n h
    have hn : n ≤ 255 := by
      rw [List.getElem?_take] at h
      split at h
      · match fs with
        | [] =>
          have := ht n (List.mem_of_getElem? (show tl[0]? = some n from h))
          omega
        | x :: xs =>
          have e : (encs (x :: xs) ++ tl)[0]? = some (x.vs.length : Int) := rfl
          rw [e] at h
          cases h
          have := hx x List.mem_cons_self
          omega
      · cases h
    split <;> omega
/-- what one turn feeds -/
theorem fed_turn {fs : List Fr} {tl : List Int} {p j r s : Nat} {L : LH} (t : TI fs tl p j r L) (hx : ∀ x ∈ fs, x.vs.length ≤ 255) (hn : fs.length ≤ 6) (ht : ∀ z ∈ tl, z ≤ 9) (hl : tl.length ≤ 5) (hp : Part tl) :
    ∃ d L', mDef 5 w_fed [.ref 1, .lst ((((encs fs ++ tl).drop p).take s).map .int)] L = .ok (.lst (refs L.length ((fs.drop j).take d).length)) L' ∧ TI fs tl (min (p + s) (encs fs ++ tl).length) (j + d) (L.length + ((fs.drop j).take d).length) L' ∧
      (∀ i x, ((fs.drop j).take d)[i]? = some x → L'[L.length + i]? = some x.o) ∧ j + d ≤ fs.length := by
  have low := t.low
  have lenE := encs_len hx
  have hN : (encs fs ++ tl).length ≤ 2000 := by rw [List.length_append]; omega
  generalize hhi : min (p + s) (encs fs ++ tl).length = hi
  have p_hi : p ≤ hi := by have := t.le; omega
  have sp : encs fs = encs (fs.take j) ++ encs (fs.drop j) := by rw [← encs_app, List.take_append_drop]
  have buf : (((encs fs ++ tl).take p).drop (encs (fs.take j)).length) ++ ((encs fs ++ tl).drop p).take s = ((encs fs ++ tl).take hi).drop (encs (fs.take j)).length := by
    have e1 : ((encs fs ++ tl).drop p).take s = ((encs fs ++ tl).drop p).take (hi - p) := by
      refine List.take_eq_take_iff.mpr ?_
      rw [List.length_drop]
      omega
    have e2 : (encs fs ++ tl).take hi = (encs fs ++ tl).take p ++ ((encs fs ++ tl).drop p).take (hi - p) := by
      rw [← List.take_add]
      congr 1
      omega
    have h3 : (encs (fs.take j)).length ≤ ((encs fs ++ tl).take p).length := by
      rw [List.length_take]
      have := t.le
      omega
    rw [e1, e2]
    exact (List.drop_append_of_le_length h3).symm
  have buf2 : ((encs fs ++ tl).take hi).drop (encs (fs.take j)).length = (encs (fs.drop j) ++ tl).take (hi - (encs (fs.take j)).length) := by
    rw [List.drop_take]
    congr 1
    rw [sp, List.append_assoc, List.drop_left]
  have blen : (((encs fs ++ tl).take hi).drop (encs (fs.take j)).length).length = hi - (encs (fs.take j)).length := by
    rw [List.length_drop, List.length_take]
    omega
  obtain ⟨xs, z, L', cz, zl, fe, l1, l2, l3, _, l5⟩ := fed_eq (piece := ((encs fs ++ tl).drop p).take s) t.c t.rest (Ne.symm t.r1) (by rw [buf, blen]; omega) (by
    rw [buf, buf2]
    exact Int.le_trans (fend_low (fs := fs.drop j) (tl := tl) (m := hi - (encs (fs.take j)).length) (fun x h => hx x (List.mem_of_mem_drop h)) ht) (by decide))
  rw [buf] at cz zl l3
  obtain ⟨d, d1, d2, d3, d4, d5⟩ := cuts_det hp cz (fs.drop j) (hi - (encs (fs.take j)).length) (by rw [List.drop_zero]; exact buf2) (Nat.zero_le _)
  rw [blen] at d4 d5
  rw [Nat.zero_add] at d3
  rw [Nat.sub_zero] at d4 d5
  rw [List.length_drop] at d1
  have tk : ∀ i, encs (fs.take (j + i)) = encs (fs.take j) ++ encs ((fs.drop j).take i) := fun i => by rw [List.take_add, encs_app]
  subst d2
  refine ⟨d, L', fe, ⟨by omega, by have := t.j_le; omega, fun i i1 i2 => ?_, l2, by have := (List.getElem?_eq_some_iff.mp t.c).1; omega, ?_⟩, l5, by have := t.j_le; omega⟩
  · by_cases hij : i ≤ j
    · have := (t.whole i i1 i2).mpr hij
      exact ⟨fun _ => by omega, fun _ => by omega⟩
    · have e := tk (i - j)
      rw [show j + (i - j) = i by omega] at e
      rw [e, List.length_append]
      by_cases hid : i - j ≤ d
      · have := encs_mono (fs.drop j) hid
        exact ⟨fun _ => by omega, fun _ => by omega⟩
      · have := d5 (i - j) (by omega) (by rw [List.length_drop]; omega)
        exact ⟨fun _ => by omega, fun _ => by omega⟩
  · rw [l3, List.drop_drop, tk, List.length_append, d3]
end Z
namespace Z
open PySem PySem.Spec L2 TL
local macro_rules | `(tactic| walk_at "ev") => `(tactic| simp only [fin_nx, fin_rt, fin_er, startL, List.map_cons, List.map_nil, List.length_cons, List.length_nil, List.cons_append, List.nil_append, List.replicate, sSeq, sSet, sIf, sNil, sRet, sItem, sDrop, sRaise, lift_ok, lift_er, bind_ok, bind_er, eVar, eC, e2, e1, eA, eAnd, eOr, eNot, eIf, eChain, aNil, aCons, tOf, tAnd', tOr', tNot', get0, get1, get2, get3, get4, get5, get6, get7, get8, get9, get10, get11, get12, get13, set0, set1, set2, set3, set4, set5, set6, set7, set8, set9, set10, set11, set12, set13, fIx, seqL, seqM, atI_0, atI_1, atI_2, atI_3, ixN_0, ixN_1, ixN_2, ixN_3, fI0, fI, fAdd, fLen, fEq_int, fEq_str, fEq_bl, clean, if_true, if_false, List.all_cons, List.all_nil, Bool.and_true, Bool.true_and, Bool.false_and, Bool.not_true, Bool.not_false, decide_true, decide_false, Bool.and_self, eCall, set_self, at_self, List.set_set, Bool.false_eq_true, sFor, iA, iR1, itemsOf, eNew, eFrz, aClean, aComp, wipeL, aSl, oSome, oNone, eMt, fIs, tyOf, locOk, truL, tTr, eTup, gN, fInt, fJoin, q_get14, q_set14, q_get15, q_set15, q_get16, q_set16, q_get17, q_set17, q_get18, q_set18, q_get19, q_set19, *])

theorem seq_assoc3 {a b c d : MS} {σ : SL} {L : LH} : sSeq a (sSeq b (sSeq c d)) σ L = sSeq (sSeq a (sSeq b c)) d σ L := by
  unfold sSeq
  cases h : a σ L with
  | nx σ1 L1 =>
    simp only
    cases h2 : b σ1 L1 <;> rfl
  | _ => rfl
theorem t9_run {f : TyK → Option Bool} {vs ws : List LV} {a0 a1 a2 a3 a4 a5 a6 a7 a8 a11 a12 a13 a14 a15 a16 a17 a18 a19 : Sl} {L : LH} {o : SO}
    (h : loop (gT 2 (gsCons (gN 18) (gsCons (gN 7) gsNil))) (w_t9B f) (pairs vs ws) [a0, a1, a2, a3, a4, a5, a6, a7, a8, .val (.lst vs), .val (.lst ws), a11, a12, a13, a14, a15, a16, a17, a18, a19] L = o) :
    w_t9 f [a0, a1, a2, a3, a4, a5, a6, a7, a8, .val (.lst vs), .val (.lst ws), a11, a12, a13, a14, a15, a16, a17, a18, a19] L = o := by
  rw [← h]
  unfold w_t9 sFor iZ frzOf
  rfl
def w_turn (f : TyK → Option Bool) : MS := sSeq w_t1 (sSeq w_t2 (sSeq w_t3 (sSeq w_t4 (sSeq w_t5 (sSeq w_t6 (sSeq w_t7 (sSeq w_t8 (sSeq (w_t9 f) w_t10))))))))
section
variable {f : TyK → Option Bool} {fs : List Fr} {tl : List Int} {way cut : Int} {a0 a1 : Sl}
abbrev stT (fs : List Fr) (tl : List Int) (way cut : Int) (a0 a1 : Sl) (p j : Nat) (a7 a8 a9 a10 a14 a15 a16 a17 a18 a19 : Sl) : SL :=
  [a0, a1, .val (.int way), .val (.int cut), .val (.lst (fs.map Fr.tup)), .val (.lst ((encs fs ++ tl).map .int)), .val (.lst ((endsOf fs).map .int)), a7, a8, a9, a10, .val (.ref 1), .val (.int (p : Nat)), .val (.int (j : Nat)), a14, a15, a16, a17, a18, a19]
theorem turn_eq (hf : f (.c "Frame") = some true) (hx : ∀ x ∈ fs, x.vs.length ≤ 255) (hn : fs.length ≤ 6) (ht : ∀ z ∈ tl, z ≤ 9) (hl : tl.length ≤ 5) (hp : Part tl) {p j r k : Nat} {a7 a8 a9 a10 a15 a16 a17 a18 a19 : Sl} {L : LH} (t : TI fs tl p j r L) :
    ∃ p' j' r' L' b7 b9 b10 b15 b16 b17 b18, TI fs tl p' j' r' L' ∧ w_turn f (stT fs tl way cut a0 a1 p j a7 a8 a9 a10 (.val (.int (0 + (k : Int)))) a15 a16 a17 a18 a19) L = .nx (stT fs tl way cut a0 a1 p' j' b7 a8 b9 b10 (.val (.int (0 + (k : Int)))) b15 b16 b17 b18 a19) L' := by
  have lenE := encs_len hx
  have hN : (encs fs ++ tl).length ≤ 2000 := by rw [List.length_append]; omega
  obtain ⟨s, hs, e12⟩ := t12 (a0 := a0) (a1 := a1) (a4 := .val (.lst (fs.map Fr.tup))) (a5 := .val (.lst ((encs fs ++ tl).map .int))) (a6 := .val (.lst ((endsOf fs).map .int))) (a7 := a7) (a8 := a8) (a9 := a9) (a10 := a10) (a11 := .val (.ref 1)) (a12 := .val (.int (p : Nat))) (a13 := .val (.int (j : Nat))) (a15 := a15) (a16 := a16) (a17 := a17) (a18 := a18) (a19 := a19) (L := L) (way := way) (cut := cut) (k := k)
  obtain ⟨d, L', fe, t', ho, jd⟩ := fed_turn (s := s) t hx hn ht hl hp
  have e345 := t345 (a0 := a0) (a1 := a1) (a2 := .val (.int way)) (a3 := .val (.int cut)) (a4 := .val (.lst (fs.map Fr.tup))) (a6 := .val (.lst ((endsOf fs).map .int))) (a7 := a7) (a8 := a8) (a9 := a9) (a10 := a10) (a11 := .val (.ref 1)) (a13 := .val (.int (j : Nat))) (a14 := .val (.int (0 + (k : Int)))) (a16 := a16) (a17 := a17) (a18 := a18) (a19 := a19) (L := L) (s := s) (show (encs fs ++ tl).length ≤ 100000 by omega) t.le
  have p_hi : p ≤ min (p + s) (encs fs ++ tl).length := by have := t.le; omega
  have pl : (((encs fs ++ tl).drop p).take s).length = min (p + s) (encs fs ++ tl).length - p := by rw [List.length_take, List.length_drop]; omega
  have e6 := t6_eq (a0 := a0) (a1 := a1) (a2 := .val (.int way)) (a3 := .val (.int cut)) (a5 := .val (.lst ((encs fs ++ tl).map .int))) (a7 := a7) (a8 := a8) (a9 := a9) (a10 := a10) (a11 := .val (.ref 1)) (a13 := .val (.int (j : Nat))) (a14 := .val (.int (0 + (k : Int)))) (a15 := .val (.int (s : Nat))) (a17 := .val (.lst ((((encs fs ++ tl).drop p).take s).map .int))) (a18 := a18) (a19 := a19) (L := L) pl p_hi (show fs.length ≤ 100 by omega)
  have du := due_eq (lo := p) (hi := min (p + s) (encs fs ++ tl).length) fs 0 j d (fun i i1 i2 => by rw [Nat.zero_add]; exact t.whole i i1 i2) (fun i i1 i2 => by rw [Nat.zero_add]; exact t'.whole i i1 i2)
  rw [du] at e6
  have e7 := t7_eq (a0 := a0) (a1 := a1) (a2 := .val (.int way)) (a3 := .val (.int cut)) (a4 := .val (.lst (fs.map Fr.tup))) (a5 := .val (.lst ((encs fs ++ tl).map .int))) (a6 := .val (.lst ((endsOf fs).map .int))) (a7 := a7) (a8 := a8) (a9 := a9) (a10 := .val (.lst (((fs.drop j).take d).map Fr.tup))) (a12 := .val (.int ((min (p + s) (encs fs ++ tl).length : Nat) : Int))) (a13 := .val (.int (j : Nat))) (a14 := .val (.int (0 + (k : Int)))) (a15 := .val (.int (s : Nat))) (a16 := .val (.lst ((((encs fs ++ tl).drop p).take s).map .int))) (a18 := a18) (a19 := a19) t.c fe
  have dl : ((fs.drop j).take d).length = d := by rw [List.length_take, List.length_drop]; omega
  have lr : (refs L.length ((fs.drop j).take d).length).length = (((fs.drop j).take d).map Fr.tup).length := by unfold refs; simp
  have e8 := t8_eq (a0 := a0) (a1 := a1) (a2 := .val (.int way)) (a3 := .val (.int cut)) (a4 := .val (.lst (fs.map Fr.tup))) (a5 := .val (.lst ((encs fs ++ tl).map .int))) (a6 := .val (.lst ((endsOf fs).map .int))) (a7 := a7) (a8 := a8) (a11 := .val (.ref 1)) (a12 := .val (.int ((min (p + s) (encs fs ++ tl).length : Nat) : Int))) (a13 := .val (.int (j : Nat))) (a14 := .val (.int (0 + (k : Int)))) (a15 := .val (.int (s : Nat))) (a18 := a18) (a19 := a19) (ns := ((encs fs ++ tl).drop p).take s) (L := L') lr
  obtain ⟨b7, b18, e9⟩ := t9_loop (a0 := a0) (a1 := a1) (a2 := .val (.int way)) (a3 := .val (.int cut)) (a4 := .val (.lst (fs.map Fr.tup))) (a5 := .val (.lst ((encs fs ++ tl).map .int))) (a6 := .val (.lst ((endsOf fs).map .int))) (a8 := a8) (a9 := .val (.lst (refs L.length ((fs.drop j).take d).length))) (a10 := .val (.lst (((fs.drop j).take d).map Fr.tup))) (a11 := .val (.ref 1)) (a12 := .val (.int ((min (p + s) (encs fs ++ tl).length : Nat) : Int))) (a13 := .val (.int (j : Nat))) (a14 := .val (.int (0 + (k : Int)))) (a15 := .val (.int (s : Nat))) (a16 := .val (.lst ((((encs fs ++ tl).drop p).take s).map .int))) (a17 := .val (.lst ((((encs fs ++ tl).drop p).take s).map .int))) (a19 := a19) (L := L') hf ((fs.drop j).take d) L.length a7 a18 ho
  refine ⟨_, j + d, _, L', b7, .val (.lst (refs L.length ((fs.drop j).take d).length)), .val (.lst (((fs.drop j).take d).map Fr.tup)), .val (.int (s : Nat)), .val (.lst ((((encs fs ++ tl).drop p).take s).map .int)), .val (.lst ((((encs fs ++ tl).drop p).take s).map .int)), b18, t', ?_⟩
  unfold w_turn
  rw [← seq_assoc, seq_nx e12]
  rw [seq_assoc3, seq_nx e345, seq_nx e6, seq_nx e7, seq_nx e8]
  rw [seq_nx (t9_run e9)]
  have jt : ((j + d : Nat) : Int) = (j : Int) + ((((fs.drop j).take d).map Fr.tup).length : Int) := by rw [List.length_map, dl]; omega
  show w_t10 _ L' = .nx (stT _ _ _ _ _ _ _ _ _ _ _ _ _ _ _ _ _ _) L'
  unfold stT
  rw [jt]
  clear e12 e345 e6 e7 e8 e9 du fe dl lr pl
  unfold w_t10
  walk_at "ev"
theorem turns_eq (hf : f (.c "Frame") = some true) (hx : ∀ x ∈ fs, x.vs.length ≤ 255) (hn : fs.length ≤ 6) (ht : ∀ z ∈ tl, z ≤ 9) (hl : tl.length ≤ 5) (hp : Part tl) {a8 a19 : Sl} : ∀ (ks : List Nat) (p j r : Nat) (a7 a9 a10 a14 a15 a16 a17 a18 : Sl) (L : LH), TI fs tl p j r L →
    ∃ p' j' r' L' b7 b9 b10 b14 b15 b16 b17 b18, TI fs tl p' j' r' L' ∧ loop (gN 14) (w_turn f) (ks.map fun (k : Nat) => LV.int (0 + (k : Int))) (stT fs tl way cut a0 a1 p j a7 a8 a9 a10 a14 a15 a16 a17 a18 a19) L = .nx (stT fs tl way cut a0 a1 p' j' b7 a8 b9 b10 b14 b15 b16 b17 b18 a19) L'
  | [], p, j, r, a7, a9, a10, a14, a15, a16, a17, a18, L, t => ⟨p, j, r, L, a7, a9, a10, a14, a15, a16, a17, a18, t, rfl⟩
  | k :: ks, p, j, r, a7, a9, a10, a14, a15, a16, a17, a18, L, t => by
    obtain ⟨p1, j1, r1, L1, c7, c9, c10, c15, c16, c17, c18, t1, e1⟩ := turn_eq (way := way) (cut := cut) (a0 := a0) (a1 := a1) (a7 := a7) (a8 := a8) (a9 := a9) (a10 := a10) (a15 := a15) (a16 := a16) (a17 := a17) (a18 := a18) (a19 := a19) (k := k) hf hx hn ht hl hp t
    obtain ⟨p2, j2, r2, L2, d7, d9, d10, d14, d15, d16, d17, d18, t2, e2⟩ := turns_eq hf hx hn ht hl hp (a8 := a8) (a19 := a19) ks p1 j1 r1 c7 c9 c10 (.val (.int (0 + (k : Int)))) c15 c16 c17 c18 L1 t1
    refine ⟨p2, j2, r2, L2, d7, d9, d10, d14, d15, d16, d17, d18, t2, ?_⟩
    rw [List.map_cons]
    unfold loop
    have hs : gN 14 (.int (0 + (k : Int))) (stT fs tl way cut a0 a1 p j a7 a8 a9 a10 a14 a15 a16 a17 a18 a19) = some (stT fs tl way cut a0 a1 p j a7 a8 a9 a10 (.val (.int (0 + (k : Int)))) a15 a16 a17 a18 a19) := rfl
    simp only [hs, e1, e2]
end
end Z
namespace Law
open PySem PySem.Spec L2 Z
/-! ### the text -/
def topS (i : Nat) : Stmt := PySem.Challenge.pw_oneline_k03_frames_cut_anyhow.main.body.getD i (.Pass ⟨0, 0, 0, 0⟩)
def is_Frame : TyK → Option Bool := fun k => match k with
  | .b _ => none
  | .c n => if n = "Frame" then some true else none
abbrev s__law_row : Stmt := topS 8
abbrev N__law_row : List Str := ["_law_script", "_law_mixed", "_law_cell"]
abbrev p__law_row : List Str := ["_law_script"]
theorem sc__law_row : FnScope N__law_row p__law_row (defScope s__law_row) := ⟨rfl, rfl, rfl, by decide +kernel, rfl, by decide +kernel, by decide +kernel⟩
abbrev s__law_taken : Stmt := topS 9
abbrev N__law_taken : List Str := ["_law_row_here", "_law_many", "_law_found", "_law_cell"]
abbrev p__law_taken : List Str := ["_law_row_here", "_law_many"]
theorem sc__law_taken : FnScope N__law_taken p__law_taken (defScope s__law_taken) := ⟨rfl, rfl, rfl, by decide +kernel, rfl, by decide +kernel, by decide +kernel⟩
abbrev s__law_frames : Stmt := topS 12
abbrev N__law_frames : List Str := ["_law_row_here", "_law_found", "_law_k", "_law_cell", "_law_size", "_law_numbers", "_law_j"]
abbrev p__law_frames : List Str := ["_law_row_here"]
theorem sc__law_frames : FnScope N__law_frames p__law_frames (defScope s__law_frames) := ⟨rfl, rfl, rfl, by decide +kernel, rfl, by decide +kernel, by decide +kernel⟩
abbrev s_Cutter___init__ : Stmt := inClass (topS 3) 0
abbrev N_Cutter___init__ : List Str := ["self"]
abbrev p_Cutter___init__ : List Str := ["self"]
theorem sc_Cutter___init__ : FnScope N_Cutter___init__ p_Cutter___init__ (defScope s_Cutter___init__) := ⟨rfl, rfl, rfl, by decide +kernel, rfl, by decide +kernel, by decide +kernel⟩
abbrev s_framed : Stmt := topS 4
abbrev N_framed : List Str := ["kind", "flag", "talk", "numbers"]
abbrev p_framed : List Str := ["kind", "flag", "talk", "numbers"]
theorem sc_framed : FnScope N_framed p_framed (defScope s_framed) := ⟨rfl, rfl, rfl, by decide +kernel, rfl, by decide +kernel, by decide +kernel⟩
abbrev s_frame_end : Stmt := topS 5
abbrev N_frame_end : List Str := ["numbers", "at"]
abbrev p_frame_end : List Str := ["numbers", "at"]
theorem sc_frame_end : FnScope N_frame_end p_frame_end (defScope s_frame_end) := ⟨rfl, rfl, rfl, by decide +kernel, rfl, by decide +kernel, by decide +kernel⟩
abbrev s_Frame___init__ : Stmt := inClass (topS 2) 0
abbrev N_Frame___init__ : List Str := ["self", "kind", "flag", "talk", "numbers"]
abbrev p_Frame___init__ : List Str := ["self", "kind", "flag", "talk", "numbers"]
theorem sc_Frame___init__ : FnScope N_Frame___init__ p_Frame___init__ (defScope s_Frame___init__) := ⟨rfl, rfl, rfl, by decide +kernel, rfl, by decide +kernel, by decide +kernel⟩
abbrev s_frame_between : Stmt := topS 6
abbrev N_frame_between : List Str := ["numbers", "at", "behind"]
abbrev p_frame_between : List Str := ["numbers", "at", "behind"]
theorem sc_frame_between : FnScope N_frame_between p_frame_between (defScope s_frame_between) := ⟨rfl, rfl, rfl, by decide +kernel, rfl, by decide +kernel, by decide +kernel⟩
abbrev s_Cutter_fed : Stmt := inClass (topS 3) 1
abbrev N_Cutter_fed : List Str := ["self", "numbers", "frames", "at", "behind"]
abbrev p_Cutter_fed : List Str := ["self", "numbers"]
theorem sc_Cutter_fed : FnScope N_Cutter_fed p_Cutter_fed (defScope s_Cutter_fed) := ⟨rfl, rfl, rfl, by decide +kernel, rfl, by decide +kernel, by decide +kernel⟩
abbrev s__law_whole : Stmt := topS 10
abbrev N__law_whole : List Str := ["_law_found"]
abbrev p__law_whole : List Str := ["_law_found"]
theorem sc__law_whole : FnScope N__law_whole p__law_whole (defScope s__law_whole) := ⟨rfl, rfl, rfl, by decide +kernel, rfl, by decide +kernel, by decide +kernel⟩
abbrev s__law_list : Stmt := topS 11
abbrev N__law_list : List Str := ["_law_found", "_law_due", "_law_number"]
abbrev p__law_list : List Str := ["_law_found", "_law_due"]
theorem sc__law_list : FnScope N__law_list p__law_list (defScope s__law_list) := ⟨rfl, rfl, rfl, by decide +kernel, rfl, by decide +kernel, by decide +kernel⟩
abbrev s__law_same : Stmt := topS 13
abbrev N__law_same : List Str := ["_law_frame", "_law_due"]
abbrev p__law_same : List Str := ["_law_frame", "_law_due"]
theorem sc__law_same : FnScope N__law_same p__law_same (defScope s__law_same) := ⟨rfl, rfl, rfl, by decide +kernel, rfl, by decide +kernel, by decide +kernel⟩
abbrev s_law : Stmt := topS 14
abbrev N_law : List Str := ["_law_script", "_law_row_here", "_law_way", "_law_cut", "_law_frames_here", "_law_line", "_law_ends", "_law_one", "_law_numbers", "_law_found", "_law_due", "_law_cutter", "_law_at", "_law_told", "_law_k", "_law_size", "_law_piece", "_law_handed", "_law_frame", "_law_behind"]
abbrev p_law : List Str := ["_law_script"]
theorem sc_law : FnScope N_law p_law (defScope s_law) := ⟨rfl, rfl, rfl, by decide +kernel, rfl, by decide +kernel, by decide +kernel⟩
/-! ### the mirrors -/
def w__law_row : MS := (sSeq (sSet 1 (eC (.int 7)))
  (sSeq (sFor (iA (eVar 0)) (gN 2) (sSet 1 (e2 fMod (e2 fAdd (e2 fAdd (e2 fMul (eVar 1) (eC (.int 48271))) (eVar 2)) (eC (.int 11))) (eC (.int 2147483647)))))
  (sRet (eNew (aClean (aCons (eVar 0) (aCons (eC (.int 0)) (aCons (eC (.int 0)) (aCons (eVar 1) aNil)))))))))
def m__law_row : List LV → LH → O LV := mDef 3 w__law_row
def w__law_taken : MS := (sSeq (sIf (tOf (e2 fGt (e2 fIx (eVar 0) (eC (.int 2))) (eC (.int 0)))) (sSeq (sSet 2 (e2 fMod (e2 fIx (eVar 0) (eC (.int 2))) (eVar 1)))
  (sSeq (sItem (eVar 0) (eC (.int 2)) (e2 fDiv (e2 fIx (eVar 0) (eC (.int 2))) (eVar 1)))
  (sRet (eVar 2)))) sNil)
  (sSeq (sIf (tOf (e2 fLt (e2 fIx (eVar 0) (eC (.int 1))) (eA fLen (aCons (e2 fIx (eVar 0) (eC (.int 0))) aNil)))) (sSeq (sSet 3 (e2 fIx (e2 fIx (eVar 0) (eC (.int 0))) (e2 fIx (eVar 0) (eC (.int 1)))))
  (sSeq (sItem (eVar 0) (eC (.int 1)) (e2 fAdd (e2 fIx (eVar 0) (eC (.int 1))) (eC (.int 1))))
  (sSeq (sIf (tOf (e2 fGe (eVar 3) (e2 fPow (eC (.int 10)) (eC (.int 18))))) (sItem (eVar 0) (eC (.int 2)) (e2 fDiv (eVar 3) (eVar 1))) sNil)
  (sRet (e2 fMod (eVar 3) (eVar 1)))))) sNil)
  (sSeq (sItem (eVar 0) (eC (.int 3)) (e2 fMod (e2 fAdd (e2 fMul (e2 fIx (eVar 0) (eC (.int 3))) (eC (.int 48271))) (eC (.int 12345))) (eC (.int 2147483647))))
  (sRet (e2 fMod (e2 fDiv (e2 fIx (eVar 0) (eC (.int 3))) (eC (.int 1009))) (eVar 1))))))
def m__law_taken : List LV → LH → O LV := mDef 4 w__law_taken
def w__law_frames : MS := (sSeq (sOwn 1 (aClean aNil))
  (sSeq (sFor (iR1 (aCons (eCall 2 m__law_taken (aCons (eVar 0) (aCons (eC (.int 7)) aNil))) aNil)) (gN 2) (sSeq (sSet 3 (eCall 2 m__law_taken (aCons (eVar 0) (aCons (e2 fPow (eC (.int 10)) (eC (.int 9))) aNil))))
  (sSeq (sSet 4 (e2 fMod (eVar 3) (eC (.int 13))))
  (sSeq (sIf (tOf (e2 fEq (e2 fMod (e2 fDiv (eVar 3) (eC (.int 13))) (eC (.int 6))) (eC (.int 5)))) (sSet 4 (e2 fAdd (eC (.int 200)) (e2 fMod (e2 fDiv (eVar 3) (eC (.int 78))) (eC (.int 56))))) sNil)
  (sSeq (sSet 5 (eFrz (aComp (iR1 (aCons (eVar 4) aNil)) (gN 6) tYes' (e2 fMod (e2 fAdd (e2 fDiv (eVar 3) (eC (.int 7))) (e2 fMul (eVar 6) (e2 fAdd (eC (.int 1)) (e2 fMod (eVar 3) (eC (.int 11)))))) (eC (.int 256))) [6])))
  (sMod gApp (eVar 1) (aCons (eTup (aCons (eCall 2 m__law_taken (aCons (eVar 0) (aCons (eC (.int 256)) aNil))) (aCons (e2 fMod (e2 fDiv (eVar 3) (eC (.int 256))) (eC (.int 256))) (aCons (e2 fMod (e2 fDiv (eVar 3) (eC (.int 65536))) (eC (.int 256))) (aCons (eVar 5) aNil))))) aNil)))))))
  (sFrz 1 (sRet (eVar 1)))))
def m__law_frames : List LV → LH → O LV := mDef 7 w__law_frames
def w_Cutter___init__ : MS := (sFldM ["Cutter"] "rest" (eVar 0) (eNew (aClean aNil)))
def m_Cutter___init__ : List LV → LH → O LV := mDef 1 w_Cutter___init__
def w_framed : MS := (sRet (e2 fAdd (eFrz (aClean (aCons (eA fLen (aCons (eVar 3) aNil)) (aCons (eVar 0) (aCons (eVar 1) (aCons (eVar 2) aNil)))))) (eFrz (aList (aCons (eVar 3) aNil)))))
def m_framed : List LV → LH → O LV := mDef 4 w_framed
def w_frame_end : MS := (sSeq (sIf (tOf (e2 fGe (eVar 1) (eA fLen (aCons (eVar 0) aNil)))) (sRet (e2 fAdd (eVar 1) (eC (.int 4)))) sNil)
  (sRet (e2 fAdd (e2 fAdd (eVar 1) (eC (.int 4))) (eA fMax2 (aCons (eC (.int 0)) (aCons (e2 fIx (eVar 0) (eVar 1)) aNil))))))
def m_frame_end : List LV → LH → O LV := mDef 2 w_frame_end
def w_Frame___init__ : MS := (sSeq (sFldM ["Frame"] "kind" (eVar 0) (eVar 1))
  (sSeq (sFldM ["Frame"] "flag" (eVar 0) (eVar 2))
  (sSeq (sFldM ["Frame"] "talk" (eVar 0) (eVar 3))
  (sFldM ["Frame"] "numbers" (eVar 0) (eFrz (aList (aCons (eVar 4) aNil)))))))
def m_Frame___init__ : List LV → LH → O LV := mDef 5 w_Frame___init__
def w_frame_between : MS := (sRet (eMake "Frame" 5 m_Frame___init__ (aCons (e2 fIx (eVar 0) (e2 fAdd (eVar 1) (eC (.int 1)))) (aCons (e2 fIx (eVar 0) (e2 fAdd (eVar 1) (eC (.int 2)))) (aCons (e2 fIx (eVar 0) (e2 fAdd (eVar 1) (eC (.int 3)))) (aCons (eFrz (aSl (eVar 0) (oSome (e2 fAdd (eVar 1) (eC (.int 4)))) (oSome (eVar 2)))) aNil))))))
def m_frame_between : List LV → LH → O LV := mDef 3 w_frame_between
def w_Cutter_fed : MS := (sSeq (sExt (e1 (fFld ["Cutter"] "rest") (eVar 0)) (eVar 1))
  (sSeq (sOwn 2 (aClean aNil))
  (sSeq (sSet 3 (eC (.int 0)))
  (sSeq (sSet 4 (eCall 2 m_frame_end (aCons (e1 (fFld ["Cutter"] "rest") (eVar 0)) (aCons (eVar 3) aNil))))
  (sSeq (sWhile (fun (σ : SL) (_ : LH) => match σ[4]? with | some (Sl.val (LV.int b)) => 1000000 - b.toNat | _ => 0) (tOf (e2 fLe (eVar 4) (eA fLen (aCons (e1 (fFld ["Cutter"] "rest") (eVar 0)) aNil)))) (sSeq (sMod gApp (eVar 2) (aCons (eCall 3 m_frame_between (aCons (e1 (fFld ["Cutter"] "rest") (eVar 0)) (aCons (eVar 3) (aCons (eVar 4) aNil)))) aNil))
  (sSeq (sSet 3 (eVar 4))
  (sSet 4 (eCall 2 m_frame_end (aCons (e1 (fFld ["Cutter"] "rest") (eVar 0)) (aCons (eVar 3) aNil)))))))
  (sSeq (sFldM ["Cutter"] "rest" (eVar 0) (eNew (aSl (e1 (fFld ["Cutter"] "rest") (eVar 0)) (oSome (eVar 3)) oNone)))
  (sFrz 2 (sRet (eVar 2)))))))))
def m_Cutter_fed : List LV → LH → O LV := mDef 5 w_Cutter_fed
def w__law_whole : MS := (sRet (eAnd (e1 (fIs (isB "int")) (eVar 0)) (eNot (e1 (fIs (isB "bool")) (eVar 0)))))
def m__law_whole : List LV → LH → O LV := mDef 1 w__law_whole
def w__law_list : MS := (sSeq (sIf (tOr' (tNot' (tTr (e1 (fIs (isB "list")) (eVar 0)))) (tOf (e2 fNe (eA fLen (aCons (eVar 0) aNil)) (eA fLen (aCons (eVar 1) aNil))))) (sRet (eC (.bl false))) sNil)
  (sSeq (sFor (iA (eVar 0)) (gN 2) (sIf (tNot' (tTr (eCall 1 m__law_whole (aCons (eVar 2) aNil)))) (sRet (eC (.bl false))) sNil))
  (sRet (e2 fEq (eVar 0) (eVar 1)))))
def m__law_list : List LV → LH → O LV := mDef 3 w__law_list
def w__law_same : MS := (sSeq (sIf (tOr' (tNot' (tTr (e1 (fIs is_Frame) (eVar 0)))) (tNot' (tTr (eCall 2 m__law_list (aCons (eFrz (aClean (aCons (e1 (fFld ["Frame"] "kind") (eVar 0)) (aCons (e1 (fFld ["Frame"] "flag") (eVar 0)) (aCons (e1 (fFld ["Frame"] "talk") (eVar 0)) aNil))))) (aCons (eFrz (aList (aCons (eSlT (eVar 1) oNone (oSome (eC (.int 3)))) aNil))) aNil)))))) (sRet (eC (.bl false))) sNil)
  (sRet (eCall 2 m__law_list (aCons (e1 (fFld ["Frame"] "numbers") (eVar 0)) (aCons (e2 fIx (eVar 1) (eC (.int 3))) aNil)))))
def m__law_same : List LV → LH → O LV := mDef 2 w__law_same
def w_law : MS := (sSeq (sSet 1 (eCall 1 m__law_row (aCons (eVar 0) aNil)))
  (sSeq (sSet 2 (eCall 2 m__law_taken (aCons (eVar 1) (aCons (eC (.int 4)) aNil))))
  (sSeq (sSet 3 (eCall 2 m__law_taken (aCons (eVar 1) (aCons (e2 fPow (eC (.int 10)) (eC (.int 9))) aNil))))
  (sSeq (sSet 4 (eCall 1 m__law_frames (aCons (eVar 1) aNil)))
  (sSeq (sSet 5 (eFrz (aClean aNil)))
  (sSeq (sOwn 6 (aClean aNil))
  (sSeq (sFor (iA (eVar 4)) (gN 7) (sSeq (sSet 8 (eFrz (aList (aCons (e2 fIx (eVar 7) (eC (.int 3))) aNil))))
  (sSeq (sSet 9 (eCall 4 m_framed (aCons (e2 fIx (eVar 7) (eC (.int 0))) (aCons (e2 fIx (eVar 7) (eC (.int 1))) (aCons (e2 fIx (eVar 7) (eC (.int 2))) (aCons (eVar 8) aNil))))))
  (sSeq (sSet 10 (e2 fAdd (eFrz (aClean (aCons (eA fLen (aCons (e2 fIx (eVar 7) (eC (.int 3))) aNil)) (aCons (e2 fIx (eVar 7) (eC (.int 0))) (aCons (e2 fIx (eVar 7) (eC (.int 1))) (aCons (e2 fIx (eVar 7) (eC (.int 2))) aNil)))))) (e2 fIx (eVar 7) (eC (.int 3)))))
  (sSeq (sIf (tOr' (tNot' (tTr (eCall 2 m__law_list (aCons (eVar 9) (aCons (eVar 10) aNil))))) (tOf (e2 fNe (eVar 8) (e2 fIx (eVar 7) (eC (.int 3)))))) (sRet (eC (.bl false))) sNil)
  (sSeq (sSet 5 (e2 fAdd (eVar 5) (eVar 10)))
  (sMod gApp (eVar 6) (aCons (eA fLen (aCons (eVar 5) aNil)) aNil))))))))
  (sSeq (sSet 5 (e2 fAdd (eVar 5) (e2 fIx (eFrz (aClean (aCons (eFrz (aClean aNil)) (aCons (eFrz (aClean (aCons (eC (.int 3)) aNil))) (aCons (eFrz (aClean (aCons (eC (.int 2)) (aCons (eC (.int 1)) (aCons (eC (.int 0)) aNil))))) (aCons (eFrz (aClean (aCons (eC (.int 2)) (aCons (eC (.int 1)) (aCons (eC (.int 0)) (aCons (eC (.int 5)) (aCons (eC (.int 9)) aNil))))))) aNil)))))) (e2 fMod (eVar 3) (eC (.int 4))))))
  (sSeq (sSet 11 (eMake "Cutter" 1 m_Cutter___init__ aNil))
  (sSeq (sSet 12 (eC (.int 0)))
  (sSeq (sSet 13 (eC (.int 0)))
  (sSeq (sFrz 6 (sFor (iR1 (aCons (e2 fAdd (eA fLen (aCons (eVar 5) aNil)) (eC (.int 4))) aNil)) (gN 14) (sSeq (sSet 15 (e2 fAdd (e2 fMod (e2 fDiv (eVar 3) (e2 fAdd (eC (.int 1)) (e2 fMod (eVar 14) (eC (.int 5))))) (eC (.int 10))) (eA fInt (aCons (e2 fEq (e2 fMod (eVar 14) (eC (.int 7))) (eC (.int 6))) aNil))))
  (sSeq (sIf (tOf (e2 fEq (eVar 2) (eC (.int 3)))) (sSet 15 (eC (.int 300))) sNil)
  (sSeq (sSet 16 (eFrz (aSl (eVar 5) (oSome (eVar 12)) (oSome (e2 fAdd (eVar 12) (eVar 15))))))
  (sSeq (sSet 17 (eFrz (aList (aCons (eVar 16) aNil))))
  (sSeq (sSet 12 (e2 fAdd (eVar 12) (eA fLen (aCons (eVar 16) aNil))))
  (sSeq (sFrz 6 (sSet 10 (eFrz (aComp (iZ (aCons (eVar 4) (aCons (eVar 6) aNil))) (gT 2 (gsCons (gN 7) (gsCons (gN 19) gsNil))) (tOf (eChain fLt fLe (e2 fSub (eVar 12) (eA fLen (aCons (eVar 16) aNil))) (eVar 19) (eVar 12))) (eVar 7) [7, 19]))))
  (sSeq (sSet 9 (eMeth "Cutter" "fed" 2 m_Cutter_fed (eVar 11) (aCons (eVar 17) aNil)))
  (sSeq (sIf (tOr' (tNot' (tTr (e1 (fIs (isB "list")) (eVar 9)))) (tOr' (tOf (e2 fNe (eA fLen (aCons (eVar 9) aNil)) (eA fLen (aCons (eVar 10) aNil)))) (tOf (e2 fNe (eVar 17) (eVar 16))))) (sRet (eC (.bl false))) sNil)
  (sSeq (sFor (iZ (aCons (eVar 9) (aCons (eVar 10) aNil))) (gT 2 (gsCons (gN 18) (gsCons (gN 7) gsNil))) (sIf (tNot' (tTr (eCall 2 m__law_same (aCons (eVar 18) (aCons (eVar 7) aNil))))) (sRet (eC (.bl false))) sNil))
  (sSet 13 (e2 fAdd (eVar 13) (eA fLen (aCons (eVar 10) aNil)))))))))))))))
  (sRet (eOr (e2 fLt (eVar 12) (eA fLen (aCons (eVar 5) aNil))) (e2 fEq (eVar 13) (eA fLen (aCons (eVar 4) aNil)))))))))))))))))
def m_law : List LV → LH → O LV := mDef 20 w_law
/-! ### what the top has written -/
structure Ads where
  f__law_row : Addr
  d__law_row : FuncData
  f__law_taken : Addr
  d__law_taken : FuncData
  f__law_frames : Addr
  d__law_frames : FuncData
  f_Cutter___init__ : Addr
  d_Cutter___init__ : FuncData
  f_framed : Addr
  d_framed : FuncData
  f_frame_end : Addr
  d_frame_end : FuncData
  f_Frame___init__ : Addr
  d_Frame___init__ : FuncData
  f_frame_between : Addr
  d_frame_between : FuncData
  f_Cutter_fed : Addr
  d_Cutter_fed : FuncData
  f__law_whole : Addr
  d__law_whole : FuncData
  f__law_list : Addr
  d__law_list : FuncData
  f__law_same : Addr
  d__law_same : FuncData
  f_law : Addr
  d_law : FuncData
  C_Cutter : Addr
  C_Frame : Addr
structure ExcT (K : PySem.W.Frag) (C : Addr) : Prop where
  ex : PySem.W.excIn K C [.type "ValueError", .type "Exception", .type "BaseException", .type "object"] "ValueError.__new__" = true
  kp : PySem.W.keepIn K (.ref C) = true
  sub : PySem.W.subIn K (.ref C) (.type "BaseException") = some true
  ty : PySem.W.typeIn K (.ref C) = some (.type "type")
structure Txt (K : PySem.W.Frag) (mg : Str → Option Value) (A : Ads) : Prop where
  F__law_row : Fun K "_law_row" "_law_row" s__law_row A.f__law_row A.d__law_row
  b__law_row : Binds K A.d__law_row p__law_row []
  g__law_row : mg "_law_row" = some (.ref A.f__law_row)
  F__law_taken : Fun K "_law_taken" "_law_taken" s__law_taken A.f__law_taken A.d__law_taken
  b__law_taken : Binds K A.d__law_taken p__law_taken []
  g__law_taken : mg "_law_taken" = some (.ref A.f__law_taken)
  F__law_frames : Fun K "_law_frames" "_law_frames" s__law_frames A.f__law_frames A.d__law_frames
  b__law_frames : Binds K A.d__law_frames p__law_frames []
  g__law_frames : mg "_law_frames" = some (.ref A.f__law_frames)
  F_Cutter___init__ : Fun K "__init__" "Cutter.__init__" s_Cutter___init__ A.f_Cutter___init__ A.d_Cutter___init__
  b_Cutter___init__ : Binds K A.d_Cutter___init__ p_Cutter___init__ []
  F_framed : Fun K "framed" "framed" s_framed A.f_framed A.d_framed
  b_framed : Binds K A.d_framed p_framed []
  g_framed : mg "framed" = some (.ref A.f_framed)
  F_frame_end : Fun K "frame_end" "frame_end" s_frame_end A.f_frame_end A.d_frame_end
  b_frame_end : Binds K A.d_frame_end p_frame_end []
  g_frame_end : mg "frame_end" = some (.ref A.f_frame_end)
  F_Frame___init__ : Fun K "__init__" "Frame.__init__" s_Frame___init__ A.f_Frame___init__ A.d_Frame___init__
  b_Frame___init__ : Binds K A.d_Frame___init__ p_Frame___init__ []
  F_frame_between : Fun K "frame_between" "frame_between" s_frame_between A.f_frame_between A.d_frame_between
  b_frame_between : Binds K A.d_frame_between p_frame_between []
  g_frame_between : mg "frame_between" = some (.ref A.f_frame_between)
  F_Cutter_fed : Fun K "fed" "Cutter.fed" s_Cutter_fed A.f_Cutter_fed A.d_Cutter_fed
  b_Cutter_fed : Binds K A.d_Cutter_fed p_Cutter_fed []
  F__law_whole : Fun K "_law_whole" "_law_whole" s__law_whole A.f__law_whole A.d__law_whole
  b__law_whole : Binds K A.d__law_whole p__law_whole []
  g__law_whole : mg "_law_whole" = some (.ref A.f__law_whole)
  F__law_list : Fun K "_law_list" "_law_list" s__law_list A.f__law_list A.d__law_list
  b__law_list : Binds K A.d__law_list p__law_list []
  g__law_list : mg "_law_list" = some (.ref A.f__law_list)
  F__law_same : Fun K "_law_same" "_law_same" s__law_same A.f__law_same A.d__law_same
  b__law_same : Binds K A.d__law_same p__law_same []
  g__law_same : mg "_law_same" = some (.ref A.f__law_same)
  F_law : Fun K "law" "law" s_law A.f_law A.d_law
  b_law : Binds K A.d_law p_law []
  g_law : mg "law" = some (.ref A.f_law)
  z_bool : mg "bool" = none
  z_int : mg "int" = none
  z_isinstance : mg "isinstance" = none
  z_len : mg "len" = none
  z_list : mg "list" = none
  z_max : mg "max" = none
  z_range : mg "range" = none
  z_zip : mg "zip" = none
  k_AHEAD : ∃ t, mg "AHEAD" = some (.int 4 t)
  C_Cutter : mg "Cutter" = some (.ref A.C_Cutter)
  C_Frame : mg "Frame" = some (.ref A.C_Frame)
  cl_Cutter : Cls K A.C_Cutter
  cl_Frame : Cls K A.C_Frame
  fl_Cutter_rest : FldF K mg ["Cutter"] "rest"
  fl_Frame_flag : FldF K mg ["Frame"] "flag"
  fl_Frame_kind : FldF K mg ["Frame"] "kind"
  fl_Frame_numbers : FldF K mg ["Frame"] "numbers"
  fl_Frame_talk : FldF K mg ["Frame"] "talk"
  mk_Cutter : Mk K A.C_Cutter A.f_Cutter___init__
  mk_Frame : Mk K A.C_Frame A.f_Frame___init__
  me_Cutter_fed : Meth K A.C_Cutter "fed" A.f_Cutter_fed
  is_Frame : IsI K mg (.ref A.C_Frame) is_Frame
section
variable {P : Program} {w : World} {K : PySem.W.Frag} {mg : Str → Option Value} {base : Heap} {A : Ads}
theorem Txt.c_AHEAD (T : Txt K mg A) (X : Cx) (W : WX) {pos : Pos} (hk : X.K = K := by rfl) (hm : X.mg = mg := by rfl) (hg : Gl X "AHEAD" := by rfl) : JE X W (.Name "AHEAD" pos) (eC (.int 4)) := by
  obtain ⟨t, e⟩ := T.k_AHEAD
  exact je_glob (w := .int 4) hg (by rw [hm]; exact e) ⟨t, rfl⟩ fun _ _ => .int
/-- the promises so far -/
structure D__law_row (P : Program) (w : World) (K : PySem.W.Frag) (mg : Str → Option Value) (base : Heap) (A : Ads) : Prop where
  o : True
theorem ok__law_row (T : Txt K mg A) (D : D__law_row P w K mg base A) : DefOk P w K mg base 1 A.f__law_row A.d__law_row p__law_row m__law_row :=
  have S := sc__law_row
  def_ok T.F__law_row S rfl fun cdv Ar outer s H E h => by
    exact (js_cons (js_set 1 S.nd je_int)
    (js_cons (js_for (ji_any (je_var 0)) (jg_name 2 S.nd) (js_one (js_set 1 S.nd (je_op op_mod op2_mod (je_op op_addU op2_add (je_op op_addU op2_add (je_op op_mulX op2_mul (je_var 1) je_int) (je_var 2)) je_int) je_int))) h.hp)
    (js_one (js_ret (je_new (jn_lst (ja_cons (je_var 0) (ja_cons je_int (ja_cons je_int (ja_cons (je_var 1) ja_nil))))))))))
/-- the promises so far -/
structure D__law_taken (P : Program) (w : World) (K : PySem.W.Frag) (mg : Str → Option Value) (base : Heap) (A : Ads) : Prop where
  o : True
theorem ok__law_taken (T : Txt K mg A) (D : D__law_taken P w K mg base A) : DefOk P w K mg base 1 A.f__law_taken A.d__law_taken p__law_taken m__law_taken :=
  have S := sc__law_taken
  def_ok T.F__law_taken S rfl fun cdv Ar outer s H E h => by
    exact (js_cons (js_if (jt_cmp op_gt op2_gt (je_ix (je_var 0) je_int (fun _ _ => rfl)) je_int (nomark _)) (js_cons (js_set 2 S.nd (je_op op_mod op2_mod (je_ix (je_var 0) je_int (fun _ _ => rfl)) (je_var 1)))
    (js_cons (js_item (je_var 0) je_int (je_op op_fdivW op2_div (je_ix (je_var 0) je_int (fun _ _ => rfl)) (je_var 1)))
    (js_one (js_ret (je_var 2))))) js_nil)
    (js_cons (js_if (jt_cmp op_lt op2_lt (je_ix (je_var 0) je_int (fun _ _ => rfl)) (je_callB call_len opA_len (by rfl) (by exact T.z_len) (by decide +kernel) (ja_cons (je_ix (je_var 0) je_int (fun _ _ => rfl)) ja_nil)) (nomark _)) (js_cons (js_set 3 S.nd (je_ix (je_ix (je_var 0) je_int (fun _ _ => rfl)) (je_ix (je_var 0) je_int (fun _ _ => rfl)) (fun _ _ => rfl)))
    (js_cons (js_item (je_var 0) je_int (je_op op_addU op2_add (je_ix (je_var 0) je_int (fun _ _ => rfl)) je_int))
    (js_cons (js_if (jt_cmp op_ge op2_ge (je_var 3) (je_op op_pow op2_pow je_int je_int) (nomark _)) (js_one (js_item (je_var 0) je_int (je_op op_fdivW op2_div (je_var 3) (je_var 1)))) js_nil)
    (js_one (js_ret (je_op op_mod op2_mod (je_var 3) (je_var 1))))))) js_nil)
    (js_cons (js_item (je_var 0) je_int (je_op op_mod op2_mod (je_op op_addU op2_add (je_op op_mulX op2_mul (je_ix (je_var 0) je_int (fun _ _ => rfl)) je_int) je_int) je_int))
    (js_one (js_ret (je_op op_mod op2_mod (je_op op_fdivW op2_div (je_ix (je_var 0) je_int (fun _ _ => rfl)) je_int) (je_var 1)))))))
/-- the promises so far -/
structure D__law_frames (P : Program) (w : World) (K : PySem.W.Frag) (mg : Str → Option Value) (base : Heap) (A : Ads) : Prop where
  o__law_taken : DefOk P w K mg base 1 A.f__law_taken A.d__law_taken p__law_taken m__law_taken
theorem ok__law_frames (T : Txt K mg A) (D : D__law_frames P w K mg base A) : DefOk P w K mg base 2 A.f__law_frames A.d__law_frames p__law_frames m__law_frames :=
  have S := sc__law_frames
  def_ok T.F__law_frames S rfl fun cdv Ar outer s H E h => by
    exact (js_cons (js_own 1 S.nd (jn_lst ja_nil))
    (js_cons (js_for (ji_range1 (by exact T.z_range) (ja_cons (je_call (by exact h.tk) (D.o__law_taken) (by exact h.hr.mono (by decide)) (by exact T.g__law_taken) (by exact T.F__law_taken.kp) (by exact T.b__law_taken) (ja_cons (je_var 0) (ja_cons je_int ja_nil))) ja_nil)) (jg_name 2 S.nd) (js_cons (js_set 3 S.nd (je_call (by exact h.tk) (D.o__law_taken) (by exact h.hr.mono (by decide)) (by exact T.g__law_taken) (by exact T.F__law_taken.kp) (by exact T.b__law_taken) (ja_cons (je_var 0) (ja_cons (je_op op_pow op2_pow je_int je_int) ja_nil))))
    (js_cons (js_set 4 S.nd (je_op op_mod op2_mod (je_var 3) je_int))
    (js_cons (js_if (jt_cmp (op_eqU (by exact h.hr.units)) op2_eq (je_op op_mod op2_mod (je_op op_fdivW op2_div (je_var 3) je_int) je_int) je_int (nomark _)) (js_one (js_set 4 S.nd (je_op op_addU op2_add je_int (je_op op_mod op2_mod (je_op op_fdivW op2_div (je_var 3) je_int) je_int)))) js_nil)
    (js_cons (jl_frz (jl_lc 5 (own := [("_law_j", 6)]) S.nd (ji_range1 (by exact T.z_range) (ja_cons (je_var 4) ja_nil)) (blkOk_by (own := [("_law_j", 6)]) (N := N__law_frames) (sc := defScope s__law_frames) (by decide +kernel)) (cg_name 6) (fun _ _ _ _ _ => pg_name (i := 6) S.nd rfl (.inl rfl)) if_none (fun _ _ _ _ _ => (je_op op_mod op2_mod (je_op op_addU op2_add (je_op op_fdivW op2_div (je_var 3) je_int) (je_op op_mulX op2_mul (je_var 6) (je_op op_addU op2_add je_int (je_op op_mod op2_mod (je_var 3) je_int)))) je_int)) (sw_true rfl rfl rfl (by decide +kernel))))
    (js_one (js_mod PySem.F.slot_list_append PySem.F.type_list_append (by exact mt_append) lmod_app (je_var 1) (ja_cons (je_tup (ja_cons (je_call (by exact h.tk) (D.o__law_taken) (by exact h.hr.mono (by decide)) (by exact T.g__law_taken) (by exact T.F__law_taken.kp) (by exact T.b__law_taken) (ja_cons (je_var 0) (ja_cons je_int ja_nil))) (ja_cons (je_op op_mod op2_mod (je_op op_fdivW op2_div (je_var 3) je_int) je_int) (ja_cons (je_op op_mod op2_mod (je_op op_fdivW op2_div (je_var 3) je_int) je_int) (ja_cons (je_var 5) ja_nil))))) ja_nil))))))) h.hp)
    (js_one (js_frz 1 (js_ret (je_var 1))))))
/-- the promises so far -/
structure D_Cutter___init__ (P : Program) (w : World) (K : PySem.W.Frag) (mg : Str → Option Value) (base : Heap) (A : Ads) : Prop where
  o : True
theorem ok_Cutter___init__ (T : Txt K mg A) (D : D_Cutter___init__ P w K mg base A) : DefOk P w K mg base 1 A.f_Cutter___init__ A.d_Cutter___init__ p_Cutter___init__ m_Cutter___init__ :=
  have S := sc_Cutter___init__
  def_ok T.F_Cutter___init__ S rfl fun cdv Ar outer s H E h => by
    exact (js_one (js_fld (cs := ["Cutter"]) (by exact T.fl_Cutter_rest) (je_var 0) (je_new (jn_lst ja_nil))))
/-- the promises so far -/
structure D_framed (P : Program) (w : World) (K : PySem.W.Frag) (mg : Str → Option Value) (base : Heap) (A : Ads) : Prop where
  o : True
theorem ok_framed (T : Txt K mg A) (D : D_framed P w K mg base A) : DefOk P w K mg base 1 A.f_framed A.d_framed p_framed m_framed :=
  have S := sc_framed
  def_ok T.F_framed S rfl fun cdv Ar outer s H E h => by
    exact (js_one (js_ret (je_op op_addU op2_add (je_frz (jn_lst (ja_cons (je_callB call_len opA_len (by rfl) (by exact T.z_len) (by decide +kernel) (ja_cons (je_var 3) ja_nil)) (ja_cons (je_var 0) (ja_cons (je_var 1) (ja_cons (je_var 2) ja_nil)))))) (je_frz (jn_list (by exact T.z_list) (ja_cons (je_var 3) ja_nil))))))
/-- the promises so far -/
structure D_frame_end (P : Program) (w : World) (K : PySem.W.Frag) (mg : Str → Option Value) (base : Heap) (A : Ads) : Prop where
  o : True
theorem ok_frame_end (T : Txt K mg A) (D : D_frame_end P w K mg base A) : DefOk P w K mg base 1 A.f_frame_end A.d_frame_end p_frame_end m_frame_end :=
  have S := sc_frame_end
  def_ok T.F_frame_end S rfl fun cdv Ar outer s H E h => by
    exact (js_cons (js_if (jt_cmp op_ge op2_ge (je_var 1) (je_callB call_len opA_len (by rfl) (by exact T.z_len) (by decide +kernel) (ja_cons (je_var 0) ja_nil)) (nomark _)) (js_one (js_ret (je_op op_addU op2_add (je_var 1) (T.c_AHEAD _ _)))) js_nil)
    (js_one (js_ret (je_op op_addU op2_add (je_op op_addU op2_add (je_var 1) (T.c_AHEAD _ _)) (je_callB (call_max2 rfl) opA_max2 (by rfl) (by exact T.z_max) (by decide +kernel) (ja_cons je_int (ja_cons (je_ix (je_var 0) (je_var 1) (fun _ _ => rfl)) ja_nil)))))))
/-- the promises so far -/
structure D_Frame___init__ (P : Program) (w : World) (K : PySem.W.Frag) (mg : Str → Option Value) (base : Heap) (A : Ads) : Prop where
  o : True
theorem ok_Frame___init__ (T : Txt K mg A) (D : D_Frame___init__ P w K mg base A) : DefOk P w K mg base 1 A.f_Frame___init__ A.d_Frame___init__ p_Frame___init__ m_Frame___init__ :=
  have S := sc_Frame___init__
  def_ok T.F_Frame___init__ S rfl fun cdv Ar outer s H E h => by
    exact (js_cons (js_fld (cs := ["Frame"]) (by exact T.fl_Frame_kind) (je_var 0) (je_var 1))
    (js_cons (js_fld (cs := ["Frame"]) (by exact T.fl_Frame_flag) (je_var 0) (je_var 2))
    (js_cons (js_fld (cs := ["Frame"]) (by exact T.fl_Frame_talk) (je_var 0) (je_var 3))
    (js_one (js_fld (cs := ["Frame"]) (by exact T.fl_Frame_numbers) (je_var 0) (je_frz (jn_list (by exact T.z_list) (ja_cons (je_var 4) ja_nil))))))))
/-- the promises so far -/
structure D_frame_between (P : Program) (w : World) (K : PySem.W.Frag) (mg : Str → Option Value) (base : Heap) (A : Ads) : Prop where
  o_Frame___init__ : DefOk P w K mg base 1 A.f_Frame___init__ A.d_Frame___init__ p_Frame___init__ m_Frame___init__
theorem ok_frame_between (T : Txt K mg A) (D : D_frame_between P w K mg base A) : DefOk P w K mg base 3 A.f_frame_between A.d_frame_between p_frame_between m_frame_between :=
  have S := sc_frame_between
  def_ok T.F_frame_between S rfl fun cdv Ar outer s H E h => by
    exact (js_one (js_ret (je_make (by exact T.mk_Frame) (D.o_Frame___init__) (by exact h.hr.mono (by decide)) (by exact T.C_Frame) (by exact T.b_Frame___init__) (ja_cons (je_ix (je_var 0) (je_op op_addU op2_add (je_var 1) je_int) (fun _ _ => rfl)) (ja_cons (je_ix (je_var 0) (je_op op_addU op2_add (je_var 1) je_int) (fun _ _ => rfl)) (ja_cons (je_ix (je_var 0) (je_op op_addU op2_add (je_var 1) je_int) (fun _ _ => rfl)) (ja_cons (je_frz (jn_slice (je_var 0) (jo_some (je_op op_addU op2_add (je_var 1) (T.c_AHEAD _ _))) (jo_some (je_var 2)))) ja_nil)))))))
/-- the promises so far -/
structure D_Cutter_fed (P : Program) (w : World) (K : PySem.W.Frag) (mg : Str → Option Value) (base : Heap) (A : Ads) : Prop where
  o_frame_end : DefOk P w K mg base 1 A.f_frame_end A.d_frame_end p_frame_end m_frame_end
  o_frame_between : DefOk P w K mg base 3 A.f_frame_between A.d_frame_between p_frame_between m_frame_between
theorem ok_Cutter_fed (T : Txt K mg A) (D : D_Cutter_fed P w K mg base A) : DefOk P w K mg base 4 A.f_Cutter_fed A.d_Cutter_fed p_Cutter_fed m_Cutter_fed :=
  have S := sc_Cutter_fed
  def_ok T.F_Cutter_fed S rfl fun cdv Ar outer s H E h => by
    exact (js_cons (js_ext (je_fld (cs := ["Cutter"]) (by exact T.fl_Cutter_rest) (je_var 0)) (je_var 1))
    (js_cons (js_own 2 S.nd (jn_lst ja_nil))
    (js_cons (js_set 3 S.nd je_int)
    (js_cons (js_set 4 S.nd (je_call (by exact h.tk) (D.o_frame_end) (by exact h.hr.mono (by decide)) (by exact T.g_frame_end) (by exact T.F_frame_end.kp) (by exact T.b_frame_end) (ja_cons (je_fld (cs := ["Cutter"]) (by exact T.fl_Cutter_rest) (je_var 0)) (ja_cons (je_var 3) ja_nil))))
    (js_cons (js_while (fun (σ : SL) (_ : LH) => match σ[4]? with | some (Sl.val (LV.int b)) => 1000000 - b.toNat | _ => 0) (jt_cmp op_le op2_le (je_var 4) (je_callB call_len opA_len (by rfl) (by exact T.z_len) (by decide +kernel) (ja_cons (je_fld (cs := ["Cutter"]) (by exact T.fl_Cutter_rest) (je_var 0)) ja_nil)) (nomark _)) (js_cons (js_mod PySem.F.slot_list_append PySem.F.type_list_append (by exact mt_append) lmod_app (je_var 2) (ja_cons (je_call (by exact h.tk) (D.o_frame_between) (by exact h.hr.mono (by decide)) (by exact T.g_frame_between) (by exact T.F_frame_between.kp) (by exact T.b_frame_between) (ja_cons (je_fld (cs := ["Cutter"]) (by exact T.fl_Cutter_rest) (je_var 0)) (ja_cons (je_var 3) (ja_cons (je_var 4) ja_nil)))) ja_nil))
    (js_cons (js_set 3 S.nd (je_var 4))
    (js_one (js_set 4 S.nd (je_call (by exact h.tk) (D.o_frame_end) (by exact h.hr.mono (by decide)) (by exact T.g_frame_end) (by exact T.F_frame_end.kp) (by exact T.b_frame_end) (ja_cons (je_fld (cs := ["Cutter"]) (by exact T.fl_Cutter_rest) (je_var 0)) (ja_cons (je_var 3) ja_nil))))))) h.hp)
    (js_cons (js_fld (cs := ["Cutter"]) (by exact T.fl_Cutter_rest) (je_var 0) (je_new (jn_slice (je_fld (cs := ["Cutter"]) (by exact T.fl_Cutter_rest) (je_var 0)) (jo_some (je_var 3)) jo_none)))
    (js_one (js_frz 2 (js_ret (je_var 2))))))))))
/-- the promises so far -/
structure D__law_whole (P : Program) (w : World) (K : PySem.W.Frag) (mg : Str → Option Value) (base : Heap) (A : Ads) : Prop where
  o : True
theorem ok__law_whole (T : Txt K mg A) (D : D__law_whole P w K mg base A) : DefOk P w K mg base 1 A.f__law_whole A.d__law_whole p__law_whole m__law_whole :=
  have S := sc__law_whole
  def_ok T.F__law_whole S rfl fun cdv Ar outer s H E h => by
    exact (js_one (js_ret (je_and (je_isiT (je_var 0) (by rfl) (by exact T.z_isinstance) (by rfl) (by exact T.z_int) (by decide +kernel)) (je_one (je_not (je_isiT (je_var 0) (by rfl) (by exact T.z_isinstance) (by rfl) (by exact T.z_bool) (by decide +kernel)))))))
/-- the promises so far -/
structure D__law_list (P : Program) (w : World) (K : PySem.W.Frag) (mg : Str → Option Value) (base : Heap) (A : Ads) : Prop where
  o__law_whole : DefOk P w K mg base 1 A.f__law_whole A.d__law_whole p__law_whole m__law_whole
theorem ok__law_list (T : Txt K mg A) (D : D__law_list P w K mg base A) : DefOk P w K mg base 2 A.f__law_list A.d__law_list p__law_list m__law_list :=
  have S := sc__law_list
  def_ok T.F__law_list S rfl fun cdv Ar outer s H E h => by
    exact (js_cons (js_if (jt_w (jw_or (jt_not (jt_tr (je_isiT (je_var 0) (by rfl) (by exact T.z_isinstance) (by rfl) (by exact T.z_list) (by decide +kernel)))) (jw_or1 (jt_cmp (op_neU (by exact h.hr.units)) op2_ne (je_callB call_len opA_len (by rfl) (by exact T.z_len) (by decide +kernel) (ja_cons (je_var 0) ja_nil)) (je_callB call_len opA_len (by rfl) (by exact T.z_len) (by decide +kernel) (ja_cons (je_var 1) ja_nil)) (nomark _))))) (js_one (js_ret je_bl)) js_nil)
    (js_cons (js_for (ji_any (je_var 0)) (jg_name 2 S.nd) (js_one (js_if (jt_not (jt_tr (je_call (by exact h.tk) (D.o__law_whole) (by exact h.hr.mono (by decide)) (by exact T.g__law_whole) (by exact T.F__law_whole.kp) (by exact T.b__law_whole) (ja_cons (je_var 2) ja_nil)))) (js_one (js_ret je_bl)) js_nil)) h.hp)
    (js_one (js_ret (je_cmp (op_eqU (by exact h.hr.units)) op2_eq (je_var 0) (je_var 1) (nomark _))))))
/-- the promises so far -/
structure D__law_same (P : Program) (w : World) (K : PySem.W.Frag) (mg : Str → Option Value) (base : Heap) (A : Ads) : Prop where
  o__law_list : DefOk P w K mg base 2 A.f__law_list A.d__law_list p__law_list m__law_list
theorem ok__law_same (T : Txt K mg A) (D : D__law_same P w K mg base A) : DefOk P w K mg base 3 A.f__law_same A.d__law_same p__law_same m__law_same :=
  have S := sc__law_same
  def_ok T.F__law_same S rfl fun cdv Ar outer s H E h => by
    exact (js_cons (js_if (jt_w (jw_or (jt_not (jt_tr (je_isiC (je_var 0) (by rfl) (by exact T.z_isinstance) (by rfl) (by exact T.C_Frame) (by exact T.is_Frame)))) (jw_or1 (jt_not (jt_tr (je_call (by exact h.tk) (D.o__law_list) (by exact h.hr.mono (by decide)) (by exact T.g__law_list) (by exact T.F__law_list.kp) (by exact T.b__law_list) (ja_cons (je_frz (jn_lst (ja_cons (je_fld (cs := ["Frame"]) (by exact T.fl_Frame_kind) (je_var 0)) (ja_cons (je_fld (cs := ["Frame"]) (by exact T.fl_Frame_flag) (je_var 0)) (ja_cons (je_fld (cs := ["Frame"]) (by exact T.fl_Frame_talk) (je_var 0)) ja_nil))))) (ja_cons (je_frz (jn_list (by exact T.z_list) (ja_cons (je_slT (je_var 1) jo_none (jo_some je_int)) ja_nil))) ja_nil)))))))) (js_one (js_ret je_bl)) js_nil)
    (js_one (js_ret (je_call (by exact h.tk) (D.o__law_list) (by exact h.hr.mono (by decide)) (by exact T.g__law_list) (by exact T.F__law_list.kp) (by exact T.b__law_list) (ja_cons (je_fld (cs := ["Frame"]) (by exact T.fl_Frame_numbers) (je_var 0)) (ja_cons (je_ix (je_var 1) je_int (fun _ _ => rfl)) ja_nil))))))
/-- the promises so far -/
structure D_law (P : Program) (w : World) (K : PySem.W.Frag) (mg : Str → Option Value) (base : Heap) (A : Ads) : Prop where
  o__law_row : DefOk P w K mg base 1 A.f__law_row A.d__law_row p__law_row m__law_row
  o__law_taken : DefOk P w K mg base 1 A.f__law_taken A.d__law_taken p__law_taken m__law_taken
  o__law_frames : DefOk P w K mg base 2 A.f__law_frames A.d__law_frames p__law_frames m__law_frames
  o_Cutter___init__ : DefOk P w K mg base 1 A.f_Cutter___init__ A.d_Cutter___init__ p_Cutter___init__ m_Cutter___init__
  o_framed : DefOk P w K mg base 1 A.f_framed A.d_framed p_framed m_framed
  o_Cutter_fed : DefOk P w K mg base 4 A.f_Cutter_fed A.d_Cutter_fed p_Cutter_fed m_Cutter_fed
  o__law_list : DefOk P w K mg base 2 A.f__law_list A.d__law_list p__law_list m__law_list
  o__law_same : DefOk P w K mg base 3 A.f__law_same A.d__law_same p__law_same m__law_same
theorem ok_law (T : Txt K mg A) (D : D_law P w K mg base A) : DefOk P w K mg base 5 A.f_law A.d_law p_law m_law :=
  have S := sc_law
  def_ok T.F_law S rfl fun cdv Ar outer s H E h => by
    exact (js_cons (js_set 1 S.nd (je_call (by exact h.tk) (D.o__law_row) (by exact h.hr.mono (by decide)) (by exact T.g__law_row) (by exact T.F__law_row.kp) (by exact T.b__law_row) (ja_cons (je_var 0) ja_nil)))
    (js_cons (js_set 2 S.nd (je_call (by exact h.tk) (D.o__law_taken) (by exact h.hr.mono (by decide)) (by exact T.g__law_taken) (by exact T.F__law_taken.kp) (by exact T.b__law_taken) (ja_cons (je_var 1) (ja_cons je_int ja_nil))))
    (js_cons (js_set 3 S.nd (je_call (by exact h.tk) (D.o__law_taken) (by exact h.hr.mono (by decide)) (by exact T.g__law_taken) (by exact T.F__law_taken.kp) (by exact T.b__law_taken) (ja_cons (je_var 1) (ja_cons (je_op op_pow op2_pow je_int je_int) ja_nil))))
    (js_cons (js_set 4 S.nd (je_call (by exact h.tk) (D.o__law_frames) (by exact h.hr.mono (by decide)) (by exact T.g__law_frames) (by exact T.F__law_frames.kp) (by exact T.b__law_frames) (ja_cons (je_var 1) ja_nil)))
    (js_cons (js_set 5 S.nd (je_frz (jn_lst ja_nil)))
    (js_cons (js_own 6 S.nd (jn_lst ja_nil))
    (js_cons (js_for (ji_any (je_var 4)) (jg_name 7 S.nd) (js_cons (js_set 8 S.nd (je_frz (jn_list (by exact T.z_list) (ja_cons (je_ix (je_var 7) je_int (fun _ _ => rfl)) ja_nil))))
    (js_cons (js_set 9 S.nd (je_call (by exact h.tk) (D.o_framed) (by exact h.hr.mono (by decide)) (by exact T.g_framed) (by exact T.F_framed.kp) (by exact T.b_framed) (ja_cons (je_ix (je_var 7) je_int (fun _ _ => rfl)) (ja_cons (je_ix (je_var 7) je_int (fun _ _ => rfl)) (ja_cons (je_ix (je_var 7) je_int (fun _ _ => rfl)) (ja_cons (je_var 8) ja_nil))))))
    (js_cons (js_set 10 S.nd (je_op op_addU op2_add (je_frz (jn_lst (ja_cons (je_callB call_len opA_len (by rfl) (by exact T.z_len) (by decide +kernel) (ja_cons (je_ix (je_var 7) je_int (fun _ _ => rfl)) ja_nil)) (ja_cons (je_ix (je_var 7) je_int (fun _ _ => rfl)) (ja_cons (je_ix (je_var 7) je_int (fun _ _ => rfl)) (ja_cons (je_ix (je_var 7) je_int (fun _ _ => rfl)) ja_nil)))))) (je_ix (je_var 7) je_int (fun _ _ => rfl))))
    (js_cons (js_if (jt_w (jw_or (jt_not (jt_tr (je_call (by exact h.tk) (D.o__law_list) (by exact h.hr.mono (by decide)) (by exact T.g__law_list) (by exact T.F__law_list.kp) (by exact T.b__law_list) (ja_cons (je_var 9) (ja_cons (je_var 10) ja_nil))))) (jw_or1 (jt_cmp (op_neU (by exact h.hr.units)) op2_ne (je_var 8) (je_ix (je_var 7) je_int (fun _ _ => rfl)) (nomark _))))) (js_one (js_ret je_bl)) js_nil)
    (js_cons (js_set 5 S.nd (je_op op_addU op2_add (je_var 5) (je_var 10)))
    (js_one (js_mod PySem.F.slot_list_append PySem.F.type_list_append (by exact mt_append) lmod_app (je_var 6) (ja_cons (je_callB call_len opA_len (by rfl) (by exact T.z_len) (by decide +kernel) (ja_cons (je_var 5) ja_nil)) ja_nil)))))))) h.hp)
    (js_cons (js_set 5 S.nd (je_op op_addU op2_add (je_var 5) (je_ix (je_frz (jn_lst (ja_cons (je_frz (jn_lst ja_nil)) (ja_cons (je_frz (jn_lst (ja_cons je_int ja_nil))) (ja_cons (je_frz (jn_lst (ja_cons je_int (ja_cons je_int (ja_cons je_int ja_nil))))) (ja_cons (je_frz (jn_lst (ja_cons je_int (ja_cons je_int (ja_cons je_int (ja_cons je_int (ja_cons je_int ja_nil))))))) ja_nil)))))) (je_op op_mod op2_mod (je_var 3) je_int) (fun _ _ => rfl))))
    (js_cons (js_set 11 S.nd (je_make0 (by exact T.mk_Cutter) (D.o_Cutter___init__) (by exact h.hr.mono (by decide)) (by exact T.C_Cutter) (by exact T.b_Cutter___init__)))
    (js_cons (js_set 12 S.nd je_int)
    (js_cons (js_set 13 S.nd je_int)
    (js_cons (js_frz 6 (js_for (ji_range1 (by exact T.z_range) (ja_cons (je_op op_addU op2_add (je_callB call_len opA_len (by rfl) (by exact T.z_len) (by decide +kernel) (ja_cons (je_var 5) ja_nil)) je_int) ja_nil)) (jg_name 14 S.nd) (js_cons (js_set 15 S.nd (je_op op_addU op2_add (je_op op_mod op2_mod (je_op op_fdivW op2_div (je_var 3) (je_op op_addU op2_add je_int (je_op op_mod op2_mod (je_var 14) je_int))) je_int) (je_callTy call_int1 opA_int (by rfl) (by exact T.z_int) (by decide +kernel) (ja_cons (je_cmp (op_eqU (by exact h.hr.units)) op2_eq (je_op op_mod op2_mod (je_var 14) je_int) je_int (nomark _)) ja_nil))))
    (js_cons (js_if (jt_cmp (op_eqU (by exact h.hr.units)) op2_eq (je_var 2) je_int (nomark _)) (js_one (js_set 15 S.nd je_int)) js_nil)
    (js_cons (js_set 16 S.nd (je_frz (jn_slice (je_var 5) (jo_some (je_var 12)) (jo_some (je_op op_addU op2_add (je_var 12) (je_var 15))))))
    (js_cons (js_set 17 S.nd (je_frz (jn_list (by exact T.z_list) (ja_cons (je_var 16) ja_nil))))
    (js_cons (js_set 12 S.nd (je_op op_addU op2_add (je_var 12) (je_callB call_len opA_len (by rfl) (by exact T.z_len) (by decide +kernel) (ja_cons (je_var 16) ja_nil))))
    (js_cons (js_frz 6 (jl_frz (jl_lc 10 (own := [("_law_one", 7), ("_law_behind", 19)]) S.nd (ji_zip (by exact T.z_zip) (ja_cons (je_var 4) (ja_cons (je_var 6) ja_nil))) (blkOk_by (own := [("_law_one", 7), ("_law_behind", 19)]) (N := N_law) (sc := defScope s_law) (by decide +kernel)) (cg_two 7 19) (fun _ _ _ _ _ => pg_tup rfl (pgs_cons (pg_name (i := 7) S.nd rfl (.inl rfl)) (pgs_cons (pg_name (i := 19) S.nd rfl (.inl rfl)) pgs_nil))) (if_one fun _ _ _ _ _ => (jt_chain op_lt op2_lt op_le op2_le (je_op op_sub op2_sub (je_var 12) (je_callB call_len opA_len (by rfl) (by exact T.z_len) (by decide +kernel) (ja_cons (je_var 16) ja_nil))) (je_var 19) (je_var 12))) (fun _ _ _ _ _ => (je_var 7)) (sw_true rfl rfl rfl (by decide +kernel)))))
    (js_cons (js_set 9 S.nd (je_meth (c := "Cutter") (by exact h.tk) (by exact T.C_Cutter) (by exact T.cl_Cutter) (by exact T.me_Cutter_fed) (D.o_Cutter_fed) (by exact h.hr.mono (by decide)) (by exact T.b_Cutter_fed) (je_var 11) (ja_cons (je_var 17) ja_nil)))
    (js_cons (js_if (jt_w (jw_or (jt_not (jt_tr (je_isiT (je_var 9) (by rfl) (by exact T.z_isinstance) (by rfl) (by exact T.z_list) (by decide +kernel)))) (jw_or (jt_cmp (op_neU (by exact h.hr.units)) op2_ne (je_callB call_len opA_len (by rfl) (by exact T.z_len) (by decide +kernel) (ja_cons (je_var 9) ja_nil)) (je_callB call_len opA_len (by rfl) (by exact T.z_len) (by decide +kernel) (ja_cons (je_var 10) ja_nil)) (nomark _)) (jw_or1 (jt_cmp (op_neU (by exact h.hr.units)) op2_ne (je_var 17) (je_var 16) (nomark _)))))) (js_one (js_ret je_bl)) js_nil)
    (js_cons (js_for (ji_zip (by exact T.z_zip) (ja_cons (je_var 9) (ja_cons (je_var 10) ja_nil))) (jg_tup (jgs_cons (jg_name 18 S.nd) (jgs_cons (jg_name 7 S.nd) jgs_nil))) (js_one (js_if (jt_not (jt_tr (je_call (by exact h.tk) (D.o__law_same) (by exact h.hr.mono (by decide)) (by exact T.g__law_same) (by exact T.F__law_same.kp) (by exact T.b__law_same) (ja_cons (je_var 18) (ja_cons (je_var 7) ja_nil))))) (js_one (js_ret je_bl)) js_nil)) h.hp)
    (js_one (js_set 13 S.nd (je_op op_addU op2_add (je_var 13) (je_callB call_len opA_len (by rfl) (by exact T.z_len) (by decide +kernel) (ja_cons (je_var 10) ja_nil)))))))))))))) h.hp))
    (js_one (js_ret (je_or (je_cmp op_lt op2_lt (je_var 12) (je_callB call_len opA_len (by rfl) (by exact T.z_len) (by decide +kernel) (ja_cons (je_var 5) ja_nil)) (nomark _)) (je_one (je_cmp (op_eqU (by exact h.hr.units)) op2_eq (je_var 13) (je_callB call_len opA_len (by rfl) (by exact T.z_len) (by decide +kernel) (ja_cons (je_var 4) ja_nil)) (nomark _))))))))))))))))))
/-! ### all defs -/
theorem ok_all (T : Txt K mg A) : DefOk P w K mg base 5 A.f_law A.d_law p_law m_law :=
  have h__law_row := ok__law_row (P := P) (w := w) (base := base) T ⟨trivial⟩
  have h__law_taken := ok__law_taken (P := P) (w := w) (base := base) T ⟨trivial⟩
  have h__law_frames := ok__law_frames (P := P) (w := w) (base := base) T ⟨h__law_taken⟩
  have h_Cutter___init__ := ok_Cutter___init__ (P := P) (w := w) (base := base) T ⟨trivial⟩
  have h_framed := ok_framed (P := P) (w := w) (base := base) T ⟨trivial⟩
  have h_frame_end := ok_frame_end (P := P) (w := w) (base := base) T ⟨trivial⟩
  have h_Frame___init__ := ok_Frame___init__ (P := P) (w := w) (base := base) T ⟨trivial⟩
  have h_frame_between := ok_frame_between (P := P) (w := w) (base := base) T ⟨h_Frame___init__⟩
  have h_Cutter_fed := ok_Cutter_fed (P := P) (w := w) (base := base) T ⟨h_frame_end, h_frame_between⟩
  have h__law_whole := ok__law_whole (P := P) (w := w) (base := base) T ⟨trivial⟩
  have h__law_list := ok__law_list (P := P) (w := w) (base := base) T ⟨h__law_whole⟩
  have h__law_same := ok__law_same (P := P) (w := w) (base := base) T ⟨h__law_list⟩
  have h_law := ok_law (P := P) (w := w) (base := base) T ⟨h__law_row, h__law_taken, h__law_frames, h_Cutter___init__, h_framed, h_Cutter_fed, h__law_list, h__law_same⟩
  h_law
end
end Law
namespace Law
open PySem L2 Z
local macro_rules | `(tactic| walk_at "ev") => `(tactic| simp only [fin_nx, fin_rt, fin_er, startL, List.map_cons, List.map_nil, List.length_cons, List.length_nil, List.cons_append, List.nil_append, List.replicate, sSeq, sSet, sIf, sNil, sRet, sItem, sDrop, sRaise, lift_ok, lift_er, bind_ok, bind_er, eVar, eC, e2, e1, eA, eAnd, eOr, eNot, eIf, eChain, aNil, aCons, tOf, tAnd', tOr', tNot', get0, get1, get2, get3, get4, get5, get6, get7, get8, get9, get10, get11, get12, get13, set0, set1, set2, set3, set4, set5, set6, set7, set8, set9, set10, set11, set12, set13, fIx, seqL, seqM, atI_0, atI_1, atI_2, atI_3, ixN_0, ixN_1, ixN_2, ixN_3, fI0, fI, fAdd, fLen, fEq_int, fEq_str, fEq_bl, clean, if_true, if_false, List.all_cons, List.all_nil, Bool.and_true, Bool.true_and, Bool.false_and, Bool.not_true, Bool.not_false, decide_true, decide_false, Bool.and_self, eCall, set_self, at_self, List.set_set, Bool.false_eq_true, sFor, iA, iR1, itemsOf, eNew, eFrz, aClean, aComp, wipeL, aSl, oSome, oNone, eMt, fIs, tyOf, locOk, truL, tTr, eTup, gN, fInt, fJoin, q_get14, q_set14, q_get15, q_set15, q_get16, q_set16, q_get17, q_set17, q_get18, q_set18, q_get19, q_set19, *])

theorem e_row : m__law_row = mDef 3 w_row := rfl
theorem e_taken : m__law_taken = mDef 4 w_taken := rfl
theorem e_frames : m__law_frames = mDef 7 Z.w_frames := rfl
theorem e_framed : m_framed = mDef 4 Z.w_framed := rfl
theorem e_list : m__law_list = mDef 3 w_list := rfl
theorem e_fed : m_Cutter_fed = mDef 5 w_fed := rfl
theorem e_same : m__law_same = mDef 2 (w_same is_Frame) := rfl
theorem stepE {a b : MS} {σ : SL} {L : LH} {v : LV} (σ1 : SL) (L1 : LH) (h : a σ L = .nx σ1 L1) (k : ∃ L', fin (b σ1 L1) = .ok v L') : ∃ L', fin (sSeq a b σ L) = .ok v L' := by
  unfold sSeq
  rw [h]
  exact k
theorem mk_cutter {R : Row} {σ : SL} : eMake "Cutter" 1 m_Cutter___init__ aNil σ [R.o] = .ok (.ref 1) [R.o, .ins "Cutter" ["rest"] [.ref 2], .lst []] := by
  have z0 : decide (0 ≤ sizeLine) = true := decide_eq_true (Nat.zero_le _)
  have i0 : m_Cutter___init__ [.ref 1] [R.o, .ins "Cutter" [] []] = .ok .non [R.o, .ins "Cutter" ["rest"] [.ref 2], .lst []] := by
    unfold m_Cutter___init__ w_Cutter___init__
    rw [mDef_run]
    show fin (sFldM _ _ _ _ [.val (.ref 1)] _) = _
    unfold sFldM eNew aClean aNil
    simp only [bind_ok, List.all_nil, List.length_nil, z0, Bool.and_self, if_true, eVar, get0, lift_ok, clean]
    rfl
  have i1 : m_Cutter___init__ (LV.ref [R.o].length :: []) ([R.o] ++ [LO.ins "Cutter" [] []]) = .ok .non [R.o, .ins "Cutter" ["rest"] [.ref 2], .lst []] := i0
  unfold eMake aNil
  simp only [bind_ok]
  rw [if_pos (by rfl), i1]
  rfl
theorem tail_ix {σ : SL} {L : LH} {cut : Int} (hσ : σ[3]? = some (.val (.int cut))) : e2 fIx (eFrz (aClean (aCons (eFrz (aClean aNil)) (aCons (eFrz (aClean (aCons (eC (.int 3)) aNil))) (aCons (eFrz (aClean (aCons (eC (.int 2)) (aCons (eC (.int 1)) (aCons (eC (.int 0)) aNil))))) (aCons (eFrz (aClean (aCons (eC (.int 2)) (aCons (eC (.int 1)) (aCons (eC (.int 0)) (aCons (eC (.int 5)) (aCons (eC (.int 9)) aNil))))))) aNil)))))) (e2 fMod (eVar 3) (eC (.int 4))) σ L = .ok (.lst ((tailOf (cut % 4)).map .int)) L := by
  have d4 := cDiv_small (m := 4) (by decide) (by decide) cut
  have q4 : decide ((0 : Int) < 4) = true := by decide
  have z1 : decide (0 + 1 ≤ sizeLine) = true := decide_eq_true (small (by decide))
  have z3 : decide (0 + 1 + 1 + 1 ≤ sizeLine) = true := decide_eq_true (small (by decide))
  have z4 : decide (0 + 1 + 1 + 1 + 1 ≤ sizeLine) = true := decide_eq_true (small (by decide))
  have z5 : decide (0 + 1 + 1 + 1 + 1 + 1 ≤ sizeLine) = true := decide_eq_true (small (by decide))
  have m0 := Int.emod_nonneg cut (show (4 : Int) ≠ 0 by decide)
  have m1 := Int.emod_lt_of_pos cut (show (0 : Int) < 4 by decide)
  rcases (show cut % 4 = 0 ∨ cut % 4 = 1 ∨ cut % 4 = 2 ∨ cut % 4 = 3 by omega) with e | e | e | e
  all_goals
    clear m0 m1
    walk_at "ev"
    rfl
def w_for (f : TyK → Option Bool) : MS := sFrz 6 (sFor (iR1 (aCons (e2 fAdd (eA fLen (aCons (eVar 5) aNil)) (eC (.int 4))) aNil)) (gN 14) (w_turn f))
theorem for_eq {f : TyK → Option Bool} {fs : List Fr} {tl : List Int} {way cut : Int} {a0 a1 b7 b8 b9 b10 : Sl} {L : LH} {o : SO} (hN : (encs fs ++ tl).length ≤ 2000)
    (lp : loop (gN 14) (w_turn f) (rng 0 ((encs fs ++ tl).length + 4)) (stT fs tl way cut a0 a1 0 0 b7 b8 b9 b10 .no .no .no .no .no .no) L = o) :
    w_for f [a0, a1, .val (.int way), .val (.int cut), .val (.lst (fs.map Fr.tup)), .val (.lst ((encs fs ++ tl).map .int)), .own (.lst ((endsOf fs).map .int)), b7, b8, b9, b10, .val (.ref 1), .val (.int 0), .val (.int 0), .no, .no, .no, .no, .no, .no] L = o := by
  have tn : (((encs fs ++ tl).length : Int) + 4).toNat = (encs fs ++ tl).length + 4 := by omega
  have fz : frzSlot 6 [a0, a1, .val (.int way), .val (.int cut), .val (.lst (fs.map Fr.tup)), .val (.lst ((encs fs ++ tl).map .int)), .own (.lst ((endsOf fs).map .int)), b7, b8, b9, b10, .val (.ref 1), .val (.int 0), .val (.int 0), .no, .no, .no, .no, .no, .no] = stT fs tl way cut a0 a1 0 0 b7 b8 b9 b10 .no .no .no .no .no .no := rfl
  unfold w_for sFrz
  rw [fz]
  have ir : iR1 (aCons (e2 fAdd (eA fLen (aCons (eVar 5) aNil)) (eC (.int 4))) aNil) (stT fs tl way cut a0 a1 0 0 b7 b8 b9 b10 .no .no .no .no .no .no) L = .ok (rng 0 ((encs fs ++ tl).length + 4)) L := by
    have e1 : (aCons (e2 fAdd (eA fLen (aCons (eVar 5) aNil)) (eC (.int 4))) aNil) (stT fs tl way cut a0 a1 0 0 b7 b8 b9 b10 .no .no .no .no .no .no) L = .ok [.int (((encs fs ++ tl).length : Int) + 4)] L := by
      unfold stT
      simp only [aCons, aNil, e2, eA, eVar, eC, bind_ok, get5, fLen, seqL, List.length_map, fAdd]
    unfold iR1
    rw [e1, bind_ok]
    show (if _ then _ else _) = _
    rw [if_pos (by omega), tn]
  unfold sFor
  rw [ir]
  exact lp
theorem ret_eq {fs : List Fr} {tl : List Int} {way cut : Int} {a0 a1 c7 c8 c9 c10 c14 c15 c16 c17 c18 c19 : Sl} {L : LH} {p j : Nat} (h : p < (encs fs ++ tl).length ∨ j = fs.length) :
    ∃ L', fin (sRet (eOr (e2 fLt (eVar 12) (eA fLen (aCons (eVar 5) aNil))) (e2 fEq (eVar 13) (eA fLen (aCons (eVar 4) aNil)))) (stT fs tl way cut a0 a1 p j c7 c8 c9 c10 c14 c15 c16 c17 c18 c19) L) = .ok (.bl true) L' := by
  refine ⟨L, ?_⟩
  unfold stT
  by_cases g : p < (encs fs ++ tl).length
  · have g2 : decide ((p : Int) < (((encs fs ++ tl).map LV.int).length : Int)) = true := by rw [List.length_map]; exact decide_eq_true (by omega)
    walk_at "ev"
  · have g2 : decide ((p : Int) < (((encs fs ++ tl).map LV.int).length : Int)) = false := by rw [List.length_map]; exact decide_eq_false (by omega)
    have g3 : decide ((j : Int) = ((fs.map Fr.tup).length : Int)) = true := by rw [List.length_map]; exact decide_eq_true (by omega)
    have h := 0
    walk_at "ev"
theorem law_true (ns : List Int) (h63 : ns.length ≤ 63) (hbits : ∀ z ∈ ns, Builtin.Int.intBits z ≤ 1048576) : ∃ L, m_law [.rdl (ns.map .int)] [] = .ok (.bl true) L := by
  have r0 := row_ok ns
  generalize hR0 : (⟨ns, 0, 0, rowMix ns 7⟩ : Row) = R0 at r0
  have er : mDef 3 w_row [.rdl (ns.map .int)] [] = .ok (.ref 0) [R0.o] := by rw [← hR0]; exact row_eq
  clear hR0 hbits
  have t1 := taken0 (rest := []) r0 (show (0 : Int) < 4 by decide) (cDiv_small (by decide) (by decide))
  have r1 := Row.take_ok (many := 4) r0
  generalize (R0.take 4).2 = R1 at *
  generalize (R0.take 4).1 = way at *
  have big : ∀ i, cDiv i ((10 : Int) ^ (9 : Int).toNat) = true := fun i => cDiv_of 60 (by decide) (by decide) (by decide +kernel) (by decide)
  have bigp : cPow 10 9 = true := by decide
  have t2 := taken0 (rest := []) r1 (show (0 : Int) < (10 : Int) ^ (9 : Int).toNat by decide) big
  have r2 := Row.take_ok (many := (10 : Int) ^ (9 : Int).toNat) r1
  obtain ⟨M, hM⟩ : ∃ M : Int, (10 : Int) ^ (9 : Int).toNat = M := ⟨_, rfl⟩
  rw [hM] at t2 r2
  clear big
  generalize (R1.take M).2 = R2 at *
  generalize (R1.take M).1 = cut at *
  obtain ⟨fs, R3, r3, hn, hx, fe⟩ := frames_eq r2
  have lenE := encs_len hx
  have z0 : decide (0 ≤ sizeLine) = true := decide_eq_true (Nat.zero_le _)
  unfold m_law w_law
  rw [e_row, e_taken, e_frames, e_framed, e_list, e_fed, e_same, mDef_run]
  show ∃ L, fin (sSeq _ _ [.val (.rdl (ns.map .int)), .no, .no, .no, .no, .no, .no, .no, .no, .no, .no, .no, .no, .no, .no, .no, .no, .no, .no, .no] []) = _
  refine stepE [.val (.rdl (ns.map .int)), .val (.ref 0), .no, .no, .no, .no, .no, .no, .no, .no, .no, .no, .no, .no, .no, .no, .no, .no, .no, .no] [R0.o] (by clear t1 t2 fe; walk_at "ev") ?_
  refine stepE [.val (.rdl (ns.map .int)), .val (.ref 0), .val (.int way), .no, .no, .no, .no, .no, .no, .no, .no, .no, .no, .no, .no, .no, .no, .no, .no, .no] [R1.o] (by clear t2 fe; walk_at "ev") ?_
  refine stepE [.val (.rdl (ns.map .int)), .val (.ref 0), .val (.int way), .val (.int cut), .no, .no, .no, .no, .no, .no, .no, .no, .no, .no, .no, .no, .no, .no, .no, .no] [R2.o] (by clear t1 fe; walk_at "ev") ?_
  refine stepE [.val (.rdl (ns.map .int)), .val (.ref 0), .val (.int way), .val (.int cut), .val (.lst (fs.map Fr.tup)), .no, .no, .no, .no, .no, .no, .no, .no, .no, .no, .no, .no, .no, .no, .no] [R3.o] (by clear t1 t2; walk_at "ev") ?_
  clear t1 t2 fe r0 r1 r2 r3 er hM bigp
  refine stepE [.val (.rdl (ns.map .int)), .val (.ref 0), .val (.int way), .val (.int cut), .val (.lst (fs.map Fr.tup)), .val (.lst []), .no, .no, .no, .no, .no, .no, .no, .no, .no, .no, .no, .no, .no, .no] [R3.o] (by walk_at "ev") ?_
  refine stepE [.val (.rdl (ns.map .int)), .val (.ref 0), .val (.int way), .val (.int cut), .val (.lst (fs.map Fr.tup)), .val (.lst []), .own (.lst []), .no, .no, .no, .no, .no, .no, .no, .no, .no, .no, .no, .no, .no] [R3.o] (by unfold sOwn; walk_at "ev") ?_
  obtain ⟨b7, b8, b9, b10, lp⟩ := line_loop (a0 := .val (.rdl (ns.map .int))) (a1 := .val (.ref 0)) (a2 := .val (.int way)) (a3 := .val (.int cut)) (a4 := .val (.lst (fs.map Fr.tup))) (rest := [.no, .no, .no, .no, .no, .no, .no, .no, .no]) (L := [R3.o]) fs [] .no .no .no .no hx (by show 0 + _ ≤ _; omega) (by show 0 + _ ≤ _; omega)
  rw [List.nil_append] at lp
  refine stepE [.val (.rdl (ns.map .int)), .val (.ref 0), .val (.int way), .val (.int cut), .val (.lst (fs.map Fr.tup)), .val (.lst ((encs fs).map .int)), .own (.lst ((endsOf fs).map .int)), b7, b8, b9, b10, .no, .no, .no, .no, .no, .no, .no, .no, .no] [R3.o] lp ?_
  clear lp
  have ti := fun (σ : SL) (hσ : σ[3]? = some (.val (.int cut))) => tail_ix (L := [R3.o]) hσ
  have hp := part_tail (cut % 4)
  have tl5 := tail_len (cut % 4)
  have t9 : ∀ z ∈ tailOf (cut % 4), z ≤ 9 := fun z hz => by
    unfold tailOf at hz
    split at hz
    · cases hz
    · split at hz
      · simp at hz; omega
      · split at hz <;> simp at hz <;> omega
  generalize tailOf (cut % 4) = tl at *
  have k1 : ((encs fs).map LV.int).length + (tl.map LV.int).length ≤ sizeLine := small (by simp; omega)
  have k2 : (encs fs).map LV.int ++ tl.map LV.int = (encs fs ++ tl).map LV.int := by simp
  refine stepE [.val (.rdl (ns.map .int)), .val (.ref 0), .val (.int way), .val (.int cut), .val (.lst (fs.map Fr.tup)), .val (.lst ((encs fs ++ tl).map .int)), .own (.lst ((endsOf fs).map .int)), b7, b8, b9, b10, .no, .no, .no, .no, .no, .no, .no, .no, .no] [R3.o] (by
    have tq := ti [.val (.rdl (ns.map .int)), .val (.ref 0), .val (.int way), .val (.int cut), .val (.lst (fs.map Fr.tup)), .val (.lst ((encs fs).map .int)), .own (.lst ((endsOf fs).map .int)), b7, b8, b9, b10, .no, .no, .no, .no, .no, .no, .no, .no, .no] rfl
    clear ti
    generalize (e2 fIx (eFrz (aClean (aCons (eFrz (aClean aNil)) (aCons (eFrz (aClean (aCons (eC (.int 3)) aNil))) (aCons (eFrz (aClean (aCons (eC (.int 2)) (aCons (eC (.int 1)) (aCons (eC (.int 0)) aNil))))) (aCons (eFrz (aClean (aCons (eC (.int 2)) (aCons (eC (.int 1)) (aCons (eC (.int 0)) (aCons (eC (.int 5)) (aCons (eC (.int 9)) aNil))))))) aNil)))))) (e2 fMod (eVar 3) (eC (.int 4)))) = ex at *
    walk_at "ev") ?_
  clear ti k1 k2
  refine stepE [.val (.rdl (ns.map .int)), .val (.ref 0), .val (.int way), .val (.int cut), .val (.lst (fs.map Fr.tup)), .val (.lst ((encs fs ++ tl).map .int)), .own (.lst ((endsOf fs).map .int)), b7, b8, b9, b10, .val (.ref 1), .no, .no, .no, .no, .no, .no, .no, .no] [R3.o, .ins "Cutter" ["rest"] [.ref 2], .lst []] (by
    have mk := fun (σ : SL) => mk_cutter (R := R3) (σ := σ)
    walk_at "ev") ?_
  refine stepE [.val (.rdl (ns.map .int)), .val (.ref 0), .val (.int way), .val (.int cut), .val (.lst (fs.map Fr.tup)), .val (.lst ((encs fs ++ tl).map .int)), .own (.lst ((endsOf fs).map .int)), b7, b8, b9, b10, .val (.ref 1), .val (.int 0), .no, .no, .no, .no, .no, .no, .no] [R3.o, .ins "Cutter" ["rest"] [.ref 2], .lst []] (by walk_at "ev") ?_
  refine stepE [.val (.rdl (ns.map .int)), .val (.ref 0), .val (.int way), .val (.int cut), .val (.lst (fs.map Fr.tup)), .val (.lst ((encs fs ++ tl).map .int)), .own (.lst ((endsOf fs).map .int)), b7, b8, b9, b10, .val (.ref 1), .val (.int 0), .val (.int 0), .no, .no, .no, .no, .no, .no] [R3.o, .ins "Cutter" ["rest"] [.ref 2], .lst []] (by walk_at "ev") ?_
  have ti0 : TI fs tl 0 0 2 [R3.o, .ins "Cutter" ["rest"] [.ref 2], .lst []] := ⟨Nat.zero_le _, Nat.zero_le _, fun i i1 i2 => by
    match fs, i, i1, i2 with
    | [], i, i1, i2 => exact absurd i2 (by show ¬ i ≤ 0; omega)
    | x :: xs, i + 1, _, _ =>
      rw [List.take_succ_cons, encs_cons, List.length_append]
      have := x.enc_len
      exact ⟨fun h => by omega, fun h => by omega⟩, rfl, by decide, rfl⟩
  obtain ⟨p', j', r', L', c7, c9, c10, c14, c15, c16, c17, c18, tf, lp⟩ := turns_eq (f := is_Frame) (way := way) (cut := cut) (a0 := .val (.rdl (ns.map .int))) (a1 := .val (.ref 0)) rfl hx hn t9 tl5 hp (a8 := b8) (a19 := .no) (List.range ((encs fs ++ tl).length + 4)) 0 0 2 b7 b9 b10 .no .no .no .no .no _ ti0
  have hN : (encs fs ++ tl).length ≤ 2000 := by rw [List.length_append]; omega
  show ∃ L', fin (sSeq (w_for is_Frame) _ _ _) = _
  refine stepE (stT fs tl way cut (.val (.rdl (ns.map .int))) (.val (.ref 0)) p' j' c7 b8 c9 c10 c14 c15 c16 c17 c18 .no) L' (by exact for_eq hN lp) ?_
  have hw := tf.whole fs.length
  rw [List.take_length] at hw
  have hj := tf.j_le
  refine ret_eq ?_
  by_cases g : p' < (encs fs ++ tl).length
  · exact .inl g
  · right
    by_cases z : fs.length = 0
    · omega
    · have le := tf.le
      rw [List.length_append] at g le
      have := (hw (by omega) (Nat.le_refl _)).mp (by omega)
      omega
end Law
namespace Law
open PySem PySem.Spec L2 Z
def spLaw (K : PySem.W.Frag) : Sp := fun vs H Q _ => ∃ (a : Addr) (ns : List Int), vs = [.ref a] ∧ SqL K H a (ns.map V.int) ∧ ns.length ≤ 63 ∧ (∀ z ∈ ns, Builtin.Int.intBits z ≤ 1048576) ∧ ∀ H', Q (.bl true) H'
theorem all_mk {l : PySem.W.OpenLaw} {w : World} {K : PySem.W.Frag} {h : Heap} {mg : Str → Option Value} {fa : Addr} (X : K.In h) (G : h.Ns mainGlobals mg) (hfa : mg "law" = some (.ref fa))
    {f0 : Addr} {od0 an0 : Option Addr} {sl0 : Array (Option Value)} {oc0 kV0 dc0 pm0 cd0 ct0 : Value}
    (a0 : PySem.W.nsIn K mainGlobals "_law_row" = some (some (.ref f0)))
    (l0 : K.lookup f0 = some ⟨oc0, od0, .func (PySem.W.fnOf "_law_row" "_law_row" (defArgs s__law_row) (defBody s__law_row) (defScope s__law_row) .none kV0 dc0 pm0 an0 cd0 ct0), sl0⟩) (c0 : PySem.W.codeIn K cd0 "_law_row" = true) (k0 : PySem.W.keepIn K (.ref f0) = true)
    {f1 : Addr} {od1 an1 : Option Addr} {sl1 : Array (Option Value)} {oc1 kV1 dc1 pm1 cd1 ct1 : Value}
    (a1 : PySem.W.nsIn K mainGlobals "_law_taken" = some (some (.ref f1)))
    (l1 : K.lookup f1 = some ⟨oc1, od1, .func (PySem.W.fnOf "_law_taken" "_law_taken" (defArgs s__law_taken) (defBody s__law_taken) (defScope s__law_taken) .none kV1 dc1 pm1 an1 cd1 ct1), sl1⟩) (c1 : PySem.W.codeIn K cd1 "_law_taken" = true) (k1 : PySem.W.keepIn K (.ref f1) = true)
    {f2 : Addr} {od2 an2 : Option Addr} {sl2 : Array (Option Value)} {oc2 kV2 dc2 pm2 cd2 ct2 : Value}
    (a2 : PySem.W.nsIn K mainGlobals "_law_frames" = some (some (.ref f2)))
    (l2 : K.lookup f2 = some ⟨oc2, od2, .func (PySem.W.fnOf "_law_frames" "_law_frames" (defArgs s__law_frames) (defBody s__law_frames) (defScope s__law_frames) .none kV2 dc2 pm2 an2 cd2 ct2), sl2⟩) (c2 : PySem.W.codeIn K cd2 "_law_frames" = true) (k2 : PySem.W.keepIn K (.ref f2) = true)
    {f3 : Addr} {od3 an3 : Option Addr} {sl3 : Array (Option Value)} {oc3 kV3 dc3 pm3 cd3 ct3 : Value}
    (l3 : K.lookup f3 = some ⟨oc3, od3, .func (PySem.W.fnOf "__init__" "Cutter.__init__" (defArgs s_Cutter___init__) (defBody s_Cutter___init__) (defScope s_Cutter___init__) .none kV3 dc3 pm3 an3 cd3 ct3), sl3⟩) (c3 : PySem.W.codeIn K cd3 "Cutter.__init__" = true) (k3 : PySem.W.keepIn K (.ref f3) = true)
    {f4 : Addr} {od4 an4 : Option Addr} {sl4 : Array (Option Value)} {oc4 kV4 dc4 pm4 cd4 ct4 : Value}
    (a4 : PySem.W.nsIn K mainGlobals "framed" = some (some (.ref f4)))
    (l4 : K.lookup f4 = some ⟨oc4, od4, .func (PySem.W.fnOf "framed" "framed" (defArgs s_framed) (defBody s_framed) (defScope s_framed) .none kV4 dc4 pm4 an4 cd4 ct4), sl4⟩) (c4 : PySem.W.codeIn K cd4 "framed" = true) (k4 : PySem.W.keepIn K (.ref f4) = true)
    {f5 : Addr} {od5 an5 : Option Addr} {sl5 : Array (Option Value)} {oc5 kV5 dc5 pm5 cd5 ct5 : Value}
    (a5 : PySem.W.nsIn K mainGlobals "frame_end" = some (some (.ref f5)))
    (l5 : K.lookup f5 = some ⟨oc5, od5, .func (PySem.W.fnOf "frame_end" "frame_end" (defArgs s_frame_end) (defBody s_frame_end) (defScope s_frame_end) .none kV5 dc5 pm5 an5 cd5 ct5), sl5⟩) (c5 : PySem.W.codeIn K cd5 "frame_end" = true) (k5 : PySem.W.keepIn K (.ref f5) = true)
    {f6 : Addr} {od6 an6 : Option Addr} {sl6 : Array (Option Value)} {oc6 kV6 dc6 pm6 cd6 ct6 : Value}
    (l6 : K.lookup f6 = some ⟨oc6, od6, .func (PySem.W.fnOf "__init__" "Frame.__init__" (defArgs s_Frame___init__) (defBody s_Frame___init__) (defScope s_Frame___init__) .none kV6 dc6 pm6 an6 cd6 ct6), sl6⟩) (c6 : PySem.W.codeIn K cd6 "Frame.__init__" = true) (k6 : PySem.W.keepIn K (.ref f6) = true)
    {f7 : Addr} {od7 an7 : Option Addr} {sl7 : Array (Option Value)} {oc7 kV7 dc7 pm7 cd7 ct7 : Value}
    (a7 : PySem.W.nsIn K mainGlobals "frame_between" = some (some (.ref f7)))
    (l7 : K.lookup f7 = some ⟨oc7, od7, .func (PySem.W.fnOf "frame_between" "frame_between" (defArgs s_frame_between) (defBody s_frame_between) (defScope s_frame_between) .none kV7 dc7 pm7 an7 cd7 ct7), sl7⟩) (c7 : PySem.W.codeIn K cd7 "frame_between" = true) (k7 : PySem.W.keepIn K (.ref f7) = true)
    {f8 : Addr} {od8 an8 : Option Addr} {sl8 : Array (Option Value)} {oc8 kV8 dc8 pm8 cd8 ct8 : Value}
    (l8 : K.lookup f8 = some ⟨oc8, od8, .func (PySem.W.fnOf "fed" "Cutter.fed" (defArgs s_Cutter_fed) (defBody s_Cutter_fed) (defScope s_Cutter_fed) .none kV8 dc8 pm8 an8 cd8 ct8), sl8⟩) (c8 : PySem.W.codeIn K cd8 "Cutter.fed" = true) (k8 : PySem.W.keepIn K (.ref f8) = true)
    {f9 : Addr} {od9 an9 : Option Addr} {sl9 : Array (Option Value)} {oc9 kV9 dc9 pm9 cd9 ct9 : Value}
    (a9 : PySem.W.nsIn K mainGlobals "_law_whole" = some (some (.ref f9)))
    (l9 : K.lookup f9 = some ⟨oc9, od9, .func (PySem.W.fnOf "_law_whole" "_law_whole" (defArgs s__law_whole) (defBody s__law_whole) (defScope s__law_whole) .none kV9 dc9 pm9 an9 cd9 ct9), sl9⟩) (c9 : PySem.W.codeIn K cd9 "_law_whole" = true) (k9 : PySem.W.keepIn K (.ref f9) = true)
    {f10 : Addr} {od10 an10 : Option Addr} {sl10 : Array (Option Value)} {oc10 kV10 dc10 pm10 cd10 ct10 : Value}
    (a10 : PySem.W.nsIn K mainGlobals "_law_list" = some (some (.ref f10)))
    (l10 : K.lookup f10 = some ⟨oc10, od10, .func (PySem.W.fnOf "_law_list" "_law_list" (defArgs s__law_list) (defBody s__law_list) (defScope s__law_list) .none kV10 dc10 pm10 an10 cd10 ct10), sl10⟩) (c10 : PySem.W.codeIn K cd10 "_law_list" = true) (k10 : PySem.W.keepIn K (.ref f10) = true)
    {f11 : Addr} {od11 an11 : Option Addr} {sl11 : Array (Option Value)} {oc11 kV11 dc11 pm11 cd11 ct11 : Value}
    (a11 : PySem.W.nsIn K mainGlobals "_law_same" = some (some (.ref f11)))
    (l11 : K.lookup f11 = some ⟨oc11, od11, .func (PySem.W.fnOf "_law_same" "_law_same" (defArgs s__law_same) (defBody s__law_same) (defScope s__law_same) .none kV11 dc11 pm11 an11 cd11 ct11), sl11⟩) (c11 : PySem.W.codeIn K cd11 "_law_same" = true) (k11 : PySem.W.keepIn K (.ref f11) = true)
    {f12 : Addr} {od12 an12 : Option Addr} {sl12 : Array (Option Value)} {oc12 kV12 dc12 pm12 cd12 ct12 : Value}
    (a12 : PySem.W.nsIn K mainGlobals "law" = some (some (.ref f12)))
    (l12 : K.lookup f12 = some ⟨oc12, od12, .func (PySem.W.fnOf "law" "law" (defArgs s_law) (defBody s_law) (defScope s_law) .none kV12 dc12 pm12 an12 cd12 ct12), sl12⟩) (c12 : PySem.W.codeIn K cd12 "law" = true) (k12 : PySem.W.keepIn K (.ref f12) = true)
    (z0 : PySem.W.nsIn K mainGlobals "bool" = some none)
    (z1 : PySem.W.nsIn K mainGlobals "int" = some none)
    (z2 : PySem.W.nsIn K mainGlobals "isinstance" = some none)
    (z3 : PySem.W.nsIn K mainGlobals "len" = some none)
    (z4 : PySem.W.nsIn K mainGlobals "list" = some none)
    (z5 : PySem.W.nsIn K mainGlobals "max" = some none)
    (z6 : PySem.W.nsIn K mainGlobals "range" = some none)
    (z7 : PySem.W.nsIn K mainGlobals "zip" = some none)
    {t0 : Tok} (n0 : PySem.W.nsIn K mainGlobals "AHEAD" = some (some (.int 4 t0)))
    {C0 : Addr} (e0 : PySem.W.nsIn K mainGlobals "Cutter" = some (some (.ref C0)))
    {C1 : Addr} (e1 : PySem.W.nsIn K mainGlobals "Frame" = some (some (.ref C1)))
    (mi0 : PySem.W.findIn K (.ref C0) "__init__" = some (some (.ref f3))) (mm0 : PySem.W.makesIn K C0 = true) (mf0 : PySem.W.isFn K (.ref f3) = true) (mk0 : PySem.W.keepIn K (.ref C0) = true)
    (mi1 : PySem.W.findIn K (.ref C1) "__init__" = some (some (.ref f6))) (mm1 : PySem.W.makesIn K C1 = true) (mf1 : PySem.W.isFn K (.ref f6) = true) (mk1 : PySem.W.keepIn K (.ref C1) = true)
    (ma8 : PySem.W.findIn K (.ref C0) "fed" = some (some (.ref f8))) (mg8 : PySem.W.isFn K (.ref f8) = true) (mh8 : PySem.W.keepIn K (.ref f8) = true)
    (cp0 : PySem.W.plainGet K C0 Str.empty = true) (ch0 : PySem.W.hasDictIn K C0 = true) (co0 : PySem.W.plainOver K C0 = true) (cs0 : PySem.W.findIn K (.ref C0) "__setattr__" = some (some (.builtin "object.__setattr__")))
    (cp1 : PySem.W.plainGet K C1 Str.empty = true) (ch1 : PySem.W.hasDictIn K C1 = true) (co1 : PySem.W.plainOver K C1 = true) (cs1 : PySem.W.findIn K (.ref C1) "__setattr__" = some (some (.builtin "object.__setattr__")))
    (naCutterrest : PySem.W.findIn K (.ref C0) "rest" = some none)
    (naFrameflag : PySem.W.findIn K (.ref C1) "flag" = some none)
    (naFramekind : PySem.W.findIn K (.ref C1) "kind" = some none)
    (naFramenumbers : PySem.W.findIn K (.ref C1) "numbers" = some none)
    (naFrametalk : PySem.W.findIn K (.ref C1) "talk" = some none)
    (va1 : PySem.W.findIn K (.ref C1) "__class__" = some (some (.builtin "object.__class__"))) (vg1 : PySem.W.specialIn K (.builtin "object.__class__") "__get__" = some (some (.builtin "getset_descriptor.__get__"))) (vt1 : PySem.W.takesIn K (.builtin "object.__class__") = some true) (vm1 : PySem.W.mroIn K C1 (.type "object") = some true) (vk1 : PySem.W.kitOne K (.ref C1) (.ref C1) = some true)
    : ∃ fd : FuncData, (∀ (s : Shared) (v : Value), BindsTo s fd ⟨[v], []⟩ [("_law_script", v)]) ∧ ∀ base : Heap, K.In base → base.Ns mainGlobals mg → FnOk l.prog w K mg base (L2.CX l.prog w) 5 fa fd ["_law_script"] (spLaw K) := by
  have e := hfa.symm.trans (PySem.W.mg_of X G a12)
  cases e
  have F0 := fun_mk (st := s__law_row) l0 c0 k0
  have F1 := fun_mk (st := s__law_taken) l1 c1 k1
  have F2 := fun_mk (st := s__law_frames) l2 c2 k2
  have F3 := fun_mk (st := s_Cutter___init__) l3 c3 k3
  have F4 := fun_mk (st := s_framed) l4 c4 k4
  have F5 := fun_mk (st := s_frame_end) l5 c5 k5
  have F6 := fun_mk (st := s_Frame___init__) l6 c6 k6
  have F7 := fun_mk (st := s_frame_between) l7 c7 k7
  have F8 := fun_mk (st := s_Cutter_fed) l8 c8 k8
  have F9 := fun_mk (st := s__law_whole) l9 c9 k9
  have F10 := fun_mk (st := s__law_list) l10 c10 k10
  have F11 := fun_mk (st := s__law_same) l11 c11 k11
  have F12 := fun_mk (st := s_law) l12 c12 k12
  have T : Txt K mg ⟨f0, _, f1, _, f2, _, f3, _, f4, _, f5, _, f6, _, f7, _, f8, _, f9, _, f10, _, f11, _, fa, _, C0, C1⟩ := ⟨F0,
    F0.binds (ps := p__law_row) fun _ _ _ _ _ _ us hl => match us, hl with | [_], _ => rfl,
    PySem.W.mg_of X G a0,
    F1,
    F1.binds (ps := p__law_taken) fun _ _ _ _ _ _ us hl => match us, hl with | [_, _], _ => rfl,
    PySem.W.mg_of X G a1,
    F2,
    F2.binds (ps := p__law_frames) fun _ _ _ _ _ _ us hl => match us, hl with | [_], _ => rfl,
    PySem.W.mg_of X G a2,
    F3,
    F3.binds (ps := p_Cutter___init__) fun _ _ _ _ _ _ us hl => match us, hl with | [_], _ => rfl,
    F4,
    F4.binds (ps := p_framed) fun _ _ _ _ _ _ us hl => match us, hl with | [_, _, _, _], _ => rfl,
    PySem.W.mg_of X G a4,
    F5,
    F5.binds (ps := p_frame_end) fun _ _ _ _ _ _ us hl => match us, hl with | [_, _], _ => rfl,
    PySem.W.mg_of X G a5,
    F6,
    F6.binds (ps := p_Frame___init__) fun _ _ _ _ _ _ us hl => match us, hl with | [_, _, _, _, _], _ => rfl,
    F7,
    F7.binds (ps := p_frame_between) fun _ _ _ _ _ _ us hl => match us, hl with | [_, _, _], _ => rfl,
    PySem.W.mg_of X G a7,
    F8,
    F8.binds (ps := p_Cutter_fed) fun _ _ _ _ _ _ us hl => match us, hl with | [_, _], _ => rfl,
    F9,
    F9.binds (ps := p__law_whole) fun _ _ _ _ _ _ us hl => match us, hl with | [_], _ => rfl,
    PySem.W.mg_of X G a9,
    F10,
    F10.binds (ps := p__law_list) fun _ _ _ _ _ _ us hl => match us, hl with | [_, _], _ => rfl,
    PySem.W.mg_of X G a10,
    F11,
    F11.binds (ps := p__law_same) fun _ _ _ _ _ _ us hl => match us, hl with | [_, _], _ => rfl,
    PySem.W.mg_of X G a11,
    F12,
    F12.binds (ps := p_law) fun _ _ _ _ _ _ us hl => match us, hl with | [_], _ => rfl,
    PySem.W.mg_of X G a12,
    PySem.W.mg_none_of X G z0,
    PySem.W.mg_none_of X G z1,
    PySem.W.mg_none_of X G z2,
    PySem.W.mg_none_of X G z3,
    PySem.W.mg_none_of X G z4,
    PySem.W.mg_none_of X G z5,
    PySem.W.mg_none_of X G z6,
    PySem.W.mg_none_of X G z7,
    ⟨_, PySem.W.mg_of X G n0⟩,
    PySem.W.mg_of X G e0,
    PySem.W.mg_of X G e1,
    ⟨cp0, ch0, co0, cs0⟩,
    ⟨cp1, ch1, co1, cs1⟩,
    fun c hc D hD => by
      cases List.mem_singleton.mp hc
      cases (PySem.W.mg_of X G e0).symm.trans hD
      exact ⟨⟨cp0, ch0, co0, cs0⟩, naCutterrest⟩,
    fun c hc D hD => by
      cases List.mem_singleton.mp hc
      cases (PySem.W.mg_of X G e1).symm.trans hD
      exact ⟨⟨cp1, ch1, co1, cs1⟩, naFrameflag⟩,
    fun c hc D hD => by
      cases List.mem_singleton.mp hc
      cases (PySem.W.mg_of X G e1).symm.trans hD
      exact ⟨⟨cp1, ch1, co1, cs1⟩, naFramekind⟩,
    fun c hc D hD => by
      cases List.mem_singleton.mp hc
      cases (PySem.W.mg_of X G e1).symm.trans hD
      exact ⟨⟨cp1, ch1, co1, cs1⟩, naFramenumbers⟩,
    fun c hc D hD => by
      cases List.mem_singleton.mp hc
      cases (PySem.W.mg_of X G e1).symm.trans hD
      exact ⟨⟨cp1, ch1, co1, cs1⟩, naFrametalk⟩,
    ⟨mm0, mi0, mf0, mk0⟩,
    ⟨mm1, mi1, mf1, mk1⟩,
    ⟨ma8, mg8, mh8⟩,
    ⟨fun n b h => (by cases h), fun n b h D hD => by
      unfold is_Frame at h
      simp only at h
      split at h
      · rename_i e
        subst e
        cases h
        cases (PySem.W.mg_of X G e1).symm.trans hD
        exact ⟨⟨⟨cp1, ch1, co1, cs1⟩, va1, vg1, vt1, vm1⟩, vk1⟩
      · cases h⟩⟩
  exact ⟨_, fun s v => .of_eq rfl, fun base _ _ => FnOk.imp (ok_all T) fun vs H Q E ⟨a, ns, e, hS, hl, hb, q⟩ => by
    obtain ⟨L, hm⟩ := law_true ns hl hb
    subst e
    exact law_start hS hm q⟩
end Law
open PySem PySem.W PyProof.Rows
set_option maxRecDepth 100000 in
set_option maxHeartbeats 0 in
theorem PySem.Challenge.cw_oneline_k03_frames_cut_anyhow_holds : PySem.Challenge.rw_oneline_k03_frames_cut_anyhow.Holds := by
  w_on; o_law; k_head; (case hw => w_witness2)
  k_fill
  refine L2.walk_ofB (l := PySem.Challenge.rw_oneline_k03_frames_cut_anyhow) (n := 63) (k := 5) (x := "_law_script") (CX := fun w => L2.CX PySem.Challenge.rw_oneline_k03_frames_cut_anyhow.prog w) (sp := fun w => Law.spLaw _) rfl (by decide) rfl ⟨rfl, by decide, by decide⟩ (fun w h Y => PySem.W.kIn_of Y) ?F (fun _ _ a ns hl hb _ hS => ⟨a, ns, rfl, hS, hl, hb, fun _ => rfl⟩) (fun _ _ _ _ _ ⟨_, _, _, _, _, _, _, _, _, _, _, _, z⟩ => z)
  case F =>
    intro w mg fa h KX G hmg
    refine' Law.all_mk KX G hmg (a0 := ?a0) (l0 := ?l0) (c0 := ?c0) (k0 := ?k0) (a1 := ?a1) (l1 := ?l1) (c1 := ?c1) (k1 := ?k1) (a2 := ?a2) (l2 := ?l2) (c2 := ?c2) (k2 := ?k2) (l3 := ?l3) (c3 := ?c3) (k3 := ?k3) (a4 := ?a4) (l4 := ?l4) (c4 := ?c4) (k4 := ?k4) (a5 := ?a5) (l5 := ?l5) (c5 := ?c5) (k5 := ?k5) (l6 := ?l6) (c6 := ?c6) (k6 := ?k6) (a7 := ?a7) (l7 := ?l7) (c7 := ?c7) (k7 := ?k7) (l8 := ?l8) (c8 := ?c8) (k8 := ?k8) (a9 := ?a9) (l9 := ?l9) (c9 := ?c9) (k9 := ?k9) (a10 := ?a10) (l10 := ?l10) (c10 := ?c10) (k10 := ?k10) (a11 := ?a11) (l11 := ?l11) (c11 := ?c11) (k11 := ?k11) (a12 := ?a12) (l12 := ?l12) (c12 := ?c12) (k12 := ?k12) (z0 := ?z0) (z1 := ?z1) (z2 := ?z2) (z3 := ?z3) (z4 := ?z4) (z5 := ?z5) (z6 := ?z6) (z7 := ?z7) (n0 := ?n0) (e0 := ?e0) (e1 := ?e1) (cp0 := ?cp0) (ch0 := ?ch0) (co0 := ?co0) (cs0 := ?cs0) (cp1 := ?cp1) (ch1 := ?ch1) (co1 := ?co1) (cs1 := ?cs1) (naCutterrest := ?naCutterrest) (naFrameflag := ?naFrameflag) (naFramekind := ?naFramekind) (naFramenumbers := ?naFramenumbers) (naFrametalk := ?naFrametalk) (va1 := ?va1) (vg1 := ?vg1) (vt1 := ?vt1) (vm1 := ?vm1) (vk1 := ?vk1) (mi0 := ?mi0) (mm0 := ?mm0) (mf0 := ?mf0) (mk0 := ?mk0) (mi1 := ?mi1) (mm1 := ?mm1) (mf1 := ?mf1) (mk1 := ?mk1) (ma8 := ?ma8) (mg8 := ?mg8) (mh8 := ?mh8)
    (case a0 => k_is); (case a1 => k_is); (case a2 => k_is); (case a4 => k_is); (case a5 => k_is); (case a7 => k_is); (case a9 => k_is); (case a10 => k_is); (case a11 => k_is); (case a12 => k_is); (case e0 => k_is); (case e1 => k_is); (case mi0 => k_is); (case mm0 => k_is); (case mf0 => k_is); (case mk0 => k_is); (case mi1 => k_is); (case mm1 => k_is); (case mf1 => k_is); (case mk1 => k_is); (case ma8 => k_is); (case mg8 => k_is); (case mh8 => k_is); (case l0 => k_is); (case c0 => k_is); (case k0 => k_is); (case l1 => k_is); (case c1 => k_is); (case k1 => k_is); (case l2 => k_is); (case c2 => k_is); (case k2 => k_is); (case l3 => k_is); (case c3 => k_is); (case k3 => k_is); (case l4 => k_is); (case c4 => k_is); (case k4 => k_is); (case l5 => k_is); (case c5 => k_is); (case k5 => k_is); (case l6 => k_is); (case c6 => k_is); (case k6 => k_is); (case l7 => k_is); (case c7 => k_is); (case k7 => k_is); (case l8 => k_is); (case c8 => k_is); (case k8 => k_is); (case l9 => k_is); (case c9 => k_is); (case k9 => k_is); (case l10 => k_is); (case c10 => k_is); (case k10 => k_is); (case l11 => k_is); (case c11 => k_is); (case k11 => k_is); (case l12 => k_is); (case c12 => k_is); (case k12 => k_is); (case z0 => k_is); (case z1 => k_is); (case z2 => k_is); (case z3 => k_is); (case z4 => k_is); (case z5 => k_is); (case z6 => k_is); (case z7 => k_is); (case n0 => k_is); (case cp0 => k_is); (case ch0 => k_is); (case co0 => k_is); (case cs0 => k_is); (case cp1 => k_is); (case ch1 => k_is); (case co1 => k_is); (case cs1 => k_is); (case naCutterrest => k_is); (case naFrameflag => k_is); (case naFramekind => k_is); (case naFramenumbers => k_is); (case naFrametalk => k_is); (case va1 => k_is); (case vg1 => k_is); (case vt1 => k_is); (case vm1 => k_is); (case vk1 => first | rfl | k_is)
