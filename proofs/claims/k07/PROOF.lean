import PyProof.Rows.All
import Wide.All
import OpenK.AllK
import Wide.FinOn
import HandS.Base
import HandS.Call
import HandS.List
import HandS.Words
import HandS.Exc
import HandS.ExcOwn
import HandS.Comp
import HandS.Wide
import HandS.WideBits
import HandS.IsInst
import HandS.WordsExc
import HandS.TryOnly
import HandS.Iter
import HandS.Zip
import HandS.Flow
import HandS.Text
import HandS.More
import HandS.Replace
import HandS.ExcIs
import HandS.ExcField
import HandS.ExcInit
import HandS.TupAny
import HandS.Deep
import HandS.EndBits
import PySem.Challenge.RW_oneline_k07_heads_read_or_refused
set_option Elab.async false
set_option linter.all false
set_option maxRecDepth 100000
set_option maxHeartbeats 4000000
namespace Z
open PySem PySem.Spec L2

/-- a value as the mirror holds it: trees where nothing is written, numbers of the mirror's own objects where it is -/
inductive LV where
  | non | bl (b : Bool) | int (i : Int) | str (x : Str) | ref (n : Nat) | loc (i : Nat)
  | tup (vs : List LV) | lst (vs : List LV) | rdl (vs : List LV) | ins (c : Str) (ns : List Str) (vs : List LV)
/-- the mirror's own objects -/
inductive LO where
  | lst (vs : List LV) | ins (c : Str) (ns : List Str) (vs : List LV) | dic (ks : List Key) (vs : List LV)
abbrev LH := List LO
/-- a slot of a frame: nothing, a value, an object that this frame alone holds -/
inductive Sl where
  | no | val (v : LV) | own (o : LO)
abbrev SL := List Sl

def Sub (F F' : Hp) : Prop := ∀ a o, F a = some o → F' a = some o
theorem Sub.refl (F : Hp) : Sub F F := fun _ _ h => h
theorem Sub.trans {F G H : Hp} (a : Sub F G) (b : Sub G H) : Sub F H := fun x o h => b x o (a x o h)

section
variable (K : PySem.W.Frag) (mg : Str → Option Value)
mutual
inductive R0 (F : Hp) (ι : List Addr) : LV → V → Prop
  | non : R0 F ι .non .non
  | bl {b : Bool} : R0 F ι (.bl b) (.bl b)
  | int {i : Int} : R0 F ι (.int i) (.int i)
  | str {x : Str} : R0 F ι (.str x) (.str x)
  | ref {n : Nat} {a : Addr} : ι[n]? = some a → R0 F ι (.ref n) (.ref a)
  | tup {a : Addr} {vs : List LV} {us : List V} : SqT K F a us → Rs0 F ι vs us → R0 F ι (.tup vs) (.ref a)
  | lst {a : Addr} {vs : List LV} {us : List V} : F a = some (.lst us) → Rs0 F ι vs us → R0 F ι (.lst vs) (.ref a)
  | rdl {a : Addr} {vs : List LV} {us : List V} : SqL K F a us → Rs0 F ι vs us → R0 F ι (.rdl vs) (.ref a)
  | ins {a C dx : Addr} {c : Str} {ns : List Str} {vs : List LV} {us : List V} : mg c = some (.ref C) → F a = some (.ins C dx (ns.zip us)) → ns.length = us.length → Rs0 F ι vs us → R0 F ι (.ins c ns vs) (.ref a)
inductive Rs0 (F : Hp) (ι : List Addr) : List LV → List V → Prop
  | nil : Rs0 F ι [] []
  | cons {v : LV} {u : V} {vs : List LV} {us : List V} : R0 F ι v u → Rs0 F ι vs us → Rs0 F ι (v :: vs) (u :: us)
end
end

structure Ext (F : Hp) (ι : List Addr) (F' : Hp) (ι' : List Addr) : Prop where
  sub : Sub F F'
  pre : ∀ (n : Nat) (a : Addr), ι[n]? = some a → ι'[n]? = some a
theorem Ext.refl (F : Hp) (ι : List Addr) : Ext F ι F ι := ⟨Sub.refl F, fun _ _ h => h⟩
theorem Ext.trans {F F1 F2 : Hp} {ι ι1 ι2 : List Addr} (a : Ext F ι F1 ι1) (b : Ext F1 ι1 F2 ι2) : Ext F ι F2 ι2 := ⟨a.sub.trans b.sub, fun n x h => b.pre n x (a.pre n x h)⟩

section
variable {K : PySem.W.Frag} {mg : Str → Option Value} {F F' G G' H H' : Hp} {ι ι' : List Addr}
theorem Sub.sqT {a : Addr} {us : List V} (s : Sub F F') (h : SqT K F a us) : SqT K F' a us := by
  rcases h with (h | ⟨o, h⟩) | h
  · exact .inl (.inl (s _ _ h))
  · exact .inl (.inr ⟨o, s _ _ h⟩)
  · exact .inr h
theorem Sub.sqL {a : Addr} {us : List V} (s : Sub F F') (h : SqL K F a us) : SqL K F' a us := by
  rcases h with (h | ⟨o, h⟩) | h
  · exact .inl (.inl (s _ _ h))
  · exact .inl (.inr ⟨o, s _ _ h⟩)
  · exact .inr h
mutual
theorem R0.mono (e : Ext F ι F' ι') : ∀ {v : LV} {u : V}, R0 K mg F ι v u → R0 K mg F' ι' v u
  | _, _, .non => .non
  | _, _, .bl => .bl
  | _, _, .int => .int
  | _, _, .str => .str
  | _, _, .ref h => .ref (e.pre _ _ h)
  | _, _, .tup h r => .tup (e.sub.sqT h) (Rs0.mono e r)
  | _, _, .lst h r => .lst (e.sub _ _ h) (Rs0.mono e r)
  | _, _, .rdl h r => .rdl (e.sub.sqL h) (Rs0.mono e r)
  | _, _, .ins h1 h2 h3 r => .ins h1 (e.sub _ _ h2) h3 (Rs0.mono e r)
theorem Rs0.mono (e : Ext F ι F' ι') : ∀ {vs : List LV} {us : List V}, Rs0 K mg F ι vs us → Rs0 K mg F' ι' vs us
  | _, _, .nil => .nil
  | _, _, .cons h r => .cons (R0.mono e h) (Rs0.mono e r)
end
theorem Rs0.length {F : Hp} {ι : List Addr} : ∀ {vs : List LV} {us : List V}, Rs0 K mg F ι vs us → vs.length = us.length
  | _, _, .nil => rfl
  | _, _, .cons _ r => congrArg (· + 1) (Rs0.length r)
theorem Rs0.append {F : Hp} {ι : List Addr} : ∀ {vs ws : List LV} {us xs : List V}, Rs0 K mg F ι vs us → Rs0 K mg F ι ws xs → Rs0 K mg F ι (vs ++ ws) (us ++ xs)
  | _, _, _, _, .nil, s => s
  | _, _, _, _, .cons h r, s => .cons h (Rs0.append r s)
theorem Rs0.get : ∀ {vs : List LV} {us : List V} {i : Nat} {v : LV}, Rs0 K mg F ι vs us → vs[i]? = some v → ∃ u, us[i]? = some u ∧ R0 K mg F ι v u
  | _, _, 0, _, .cons h _, e => by cases (Option.some.inj e); exact ⟨_, rfl, h⟩
  | _, _, i + 1, v, .cons _ r, e => Rs0.get (i := i) r e
theorem Rs0.drop : ∀ {vs : List LV} {us : List V} (n : Nat), Rs0 K mg F ι vs us → Rs0 K mg F ι (vs.drop n) (us.drop n)
  | _, _, 0, r => r
  | _, _, _ + 1, .nil => .nil
  | _, _, n + 1, .cons _ t => Rs0.drop n t
theorem Rs0.take : ∀ {vs : List LV} {us : List V} (n : Nat), Rs0 K mg F ι vs us → Rs0 K mg F ι (vs.take n) (us.take n)
  | _, _, 0, _ => .nil
  | _, _, _ + 1, .nil => .nil
  | _, _, n + 1, .cons r t => .cons r (Rs0.take n t)
theorem Rs0.set {v : LV} {u : V} (h : R0 K mg F ι v u) : ∀ {vs : List LV} {us : List V} (i : Nat), Rs0 K mg F ι vs us → Rs0 K mg F ι (vs.set i v) (us.set i u)
  | _, _, _, .nil => .nil
  | _, _, 0, .cons _ t => .cons h t
  | _, _, i + 1, .cons q t => .cons q (Rs0.set h i t)
theorem Rs0.eraseIdx : ∀ {vs : List LV} {us : List V} (i : Nat), Rs0 K mg F ι vs us → Rs0 K mg F ι (vs.eraseIdx i) (us.eraseIdx i)
  | _, _, _, .nil => .nil
  | _, _, 0, .cons _ t => t
  | _, _, i + 1, .cons q t => .cons q (Rs0.eraseIdx i t)

end
end Z
namespace Z
open PySem PySem.Spec L2

section
variable (K : PySem.W.Frag) (mg : Str → Option Value)
/-- an object of the mirror's stands at a -/
inductive RO (F : Hp) (ι : List Addr) (H : Hp) (a : Addr) : LO → Prop
  | lst {vs : List LV} {us : List V} : H a = some (.lst us) → Rs0 K mg F ι vs us → RO F ι H a (.lst vs)
  | ins {c : Str} {ns : List Str} {vs : List LV} {C dx : Addr} {us : List V} : mg c = some (.ref C) → H a = some (.ins C dx (ns.zip us)) → ns.length = us.length → Rs0 K mg F ι vs us → RO F ι H a (.ins c ns vs)
  | dic {ks : List Key} {vs : List LV} {us : List V} : H a = some (.dK (ks.zip us)) → ks.length = us.length → Rs0 K mg F ι vs us → RO F ι H a (.dic ks vs)
/-- the heap holds the mirror's: G what others hold and nobody here writes, F what nobody writes any more, ι where the mirror's objects stand -/
structure Rep (G F : Hp) (ι : List Addr) (L : LH) (H : Hp) : Prop where
  f : Sub F H
  g : Sub G H
  gf : ∀ a o, G a = some o → F a = none
  len : ι.length = L.length
  inj : ∀ (n m : Nat) (a : Addr), ι[n]? = some a → ι[m]? = some a → n = m
  nf : ∀ (n : Nat) (a : Addr), ι[n]? = some a → F a = none ∧ G a = none
  obj : ∀ (n : Nat) (a : Addr) (o : LO), ι[n]? = some a → L[n]? = some o → RO K mg F ι H a o
/-- the frame's slots -/
structure VR (G F : Hp) (ι : List Addr) (σl : SL) (σ : St) : Prop where
  len : σl.length = σ.length
  val : ∀ (i : Nat) (v : LV), σl[i]? = some (.val v) → ∃ u, σ[i]? = some (some u) ∧ R0 K mg F ι v u
  own : ∀ (i : Nat) (o : LO), σl[i]? = some (.own o) → ∃ a, σ[i]? = some (some (.ref a)) ∧ RO K mg F ι G a o
/-- a value on its way: one that may be kept, or the list of a slot -/
inductive RV (σ : St) (F : Hp) (ι : List Addr) : LV → V → Prop
  | r0 {v : LV} {u : V} : R0 K mg F ι v u → RV σ F ι v u
  | loc {i : Nat} {a : Addr} : σ[i]? = some (some (.ref a)) → RV σ F ι (.loc i) (.ref a)
abbrev RVs (σ : St) (F : Hp) (ι : List Addr) : List LV → List V → Prop := Paired (RV K mg σ F ι)
/-- an exception's own dict -/
def RX (F : Hp) (ι : List Addr) (d : Option Addr) (ns : List Str) (vs : List LV) : Prop := match ns with
  | [] => d = none
  | ns => ∃ dx us, d = some dx ∧ F dx = some (.xd (ns.zip us)) ∧ ns.length = us.length ∧ Rs0 K mg F ι vs us
end

/-- what comes of a piece of the program -/
inductive O (α : Type) where
  | ok (a : α) (L : LH) | er (c : Str) (ns : List Str) (vs : List LV) (L : LH) | no
def O.bind {α β : Type} (o : O α) (k : α → LH → O β) : O β := match o with
  | .ok a L => k a L
  | .er c ns vs L => .er c ns vs L
  | .no => .no
inductive SO where
  | nx (σ : SL) (L : LH) | rt (v : LV) (L : LH) | bk (σ : SL) (L : LH) | ct (σ : SL) (L : LH) | er (c : Str) (ns : List Str) (vs : List LV) (σ : SL) (L : LH) | no
def lift {α : Type} (o : O α) (σ : SL) (k : α → LH → SO) : SO := match o with
  | .ok a L => k a L
  | .er c ns vs L => .er c ns vs σ L
  | .no => .no
abbrev ME := SL → LH → O LV
abbrev MT := SL → LH → O Bool
abbrev MA := SL → LH → O (List LV)
abbrev MS := SL → LH → SO
def clean : LV → Bool
  | .loc _ => false
  | _ => true

section
variable (K : PySem.W.Frag) (mg : Str → Option Value)
def Pst {α : Type} (G F : Hp) (ι : List Addr) (o : O α) (p : α → Hp → List Addr → LH → Hp → Prop) (x : XK) : Prop := match o with
  | .ok a L' => ∀ F' ι' H', Ext F ι F' ι' → Rep K mg G F' ι' L' H' → p a F' ι' L' H'
  | .er c ns vs L' => ∀ F' ι' H' C d, Ext F ι F' ι' → Rep K mg G F' ι' L' H' → mg c = some (.ref C) → RX K mg F' ι' d ns vs → x (.ref C) d H'
  | .no => False
/-- a frame's state: GO holds the lists of its slots, too -/
structure SR (GO G F : Hp) (ι : List Addr) (L : LH) (σl : SL) (σ : St) (H : Hp) : Prop where
  sub : Sub G GO
  rep : Rep K mg GO F ι L H
  vr : VR K mg GO F ι σl σ
  fr : ∀ (i : Nat) (vs : LO) (a : Addr), σl[i]? = some (.own vs) → σ[i]? = some (some (.ref a)) → G a = none
  dis : ∀ (i j : Nat) (vs ws : LO) (a : Addr), σl[i]? = some (.own vs) → σl[j]? = some (.own ws) → σ[i]? = some (some (.ref a)) → σ[j]? = some (some (.ref a)) → i = j
def SRep (G F : Hp) (ι : List Addr) (L : LH) (σl : SL) (σ : St) (H : Hp) : Prop := ∃ GO, SR K mg GO G F ι L σl σ H
def PstS (G F : Hp) (ι : List Addr) (o : SO) (D : Ends) (W : WX) : Prop := match o with
  | .nx σl' L' => ∀ F' ι' H' σ', Ext F ι F' ι' → SRep K mg G F' ι' L' σl' σ' H' → D.nx σ' H'
  | .rt v L' => ∀ F' ι' H' u, Ext F ι F' ι' → Rep K mg G F' ι' L' H' → R0 K mg F' ι' v u → D.rt u H'
  | .bk σl' L' => ∀ F' ι' H' σ', Ext F ι F' ι' → SRep K mg G F' ι' L' σl' σ' H' → D.bk σ' H'
  | .ct σl' L' => ∀ F' ι' H' σ', Ext F ι F' ι' → SRep K mg G F' ι' L' σl' σ' H' → D.ct σ' H'
  | .er c ns vs σl' L' => ∀ F' ι' H' σ' C d, Ext F ι F' ι' → SRep K mg G F' ι' L' σl' σ' H' → mg c = some (.ref C) → RX K mg F' ι' d ns vs → W (.ref C) d σ' H'
  | .no => False
def SimE (W : WX) (t : TE) (m : ME) : Prop := ∀ (G F : Hp) (ι : List Addr) (L : LH) (H : Hp) (σl : SL) (σ : St) (Q : VK), Rep K mg G F ι L H → VR K mg G F ι σl σ →
  Pst K mg G F ι (m σl L) (fun v F' ι' L' H' => ∀ u, RV K mg σ F' ι' v u → Q u H') (fun c d H' => W c d σ H') → t σ H Q
def SimT (W : WX) (t : TT) (m : MT) : Prop := ∀ (G F : Hp) (ι : List Addr) (L : LH) (H : Hp) (σl : SL) (σ : St) (Q : Bool → Hp → Prop), Rep K mg G F ι L H → VR K mg G F ι σl σ →
  Pst K mg G F ι (m σl L) (fun b F' ι' L' H' => Q b H') (fun c d H' => W c d σ H') → t σ H Q
def SimA (W : WX) (t : TA) (m : MA) : Prop := ∀ (G F : Hp) (ι : List Addr) (L : LH) (H : Hp) (σl : SL) (σ : St) (Q : List V → Hp → Prop), Rep K mg G F ι L H → VR K mg G F ι σl σ →
  Pst K mg G F ι (m σl L) (fun vs F' ι' L' H' => ∀ us, RVs K mg σ F' ι' vs us → Q us H') (fun c d H' => W c d σ H') → t σ H Q
/-- a new list that nobody holds yet -/
def SimN (W : WX) (t : TE) (m : MA) : Prop := ∀ (G F : Hp) (ι : List Addr) (L : LH) (H : Hp) (σl : SL) (σ : St) (Q : VK), Rep K mg G F ι L H → VR K mg G F ι σl σ →
  Pst K mg G F ι (m σl L) (fun vs F' ι' L' H' => ∀ p us, H' p = some (.lst us) → G p = none → F' p = none → (∀ n : Nat, ι'[n]? ≠ some p) → Rs0 K mg F' ι' vs us → Q (.ref p) H') (fun c d H' => W c d σ H') → t σ H Q
def SimS (W : WX) (t : TS) (m : MS) : Prop := ∀ (G F : Hp) (ι : List Addr) (L : LH) (σl : SL) (σ : St) (H : Hp) (D : Ends), SRep K mg G F ι L σl σ H → PstS K mg G F ι (m σl L) D W → t D σ H
/-- a def's promise by its mirror -/
def spM (n : Nat) (m : List LV → LH → O LV) : Sp := fun vs H Q E => ∃ G F ι L args, args.length = n ∧ Rep K mg G F ι L H ∧ Rs0 K mg F ι args vs ∧
  Pst K mg G F ι (m args L) (fun v F' ι' L' H' => ∀ u, R0 K mg F' ι' v u → Q u H') E
end

section
variable {K : PySem.W.Frag} {mg : Str → Option Value} {G GO F F' H H' : Hp} {ι ι' : List Addr} {L L' : LH} {σ σ' : St} {σl σl' : SL} {W : WX} {x : XK} {α β : Type}
theorem RV.mono (e : Ext F ι F' ι') {v : LV} {u : V} (h : RV K mg σ F ι v u) : RV K mg σ F' ι' v u := by
  cases h with
  | r0 h => exact .r0 (h.mono e)
  | loc h => exact .loc h
theorem RV.clean {v : LV} {u : V} (h : RV K mg σ F ι v u) (c : clean v = true) : R0 K mg F ι v u := by
  cases h with
  | r0 h => exact h
  | loc h => cases c
theorem RVs.mono (e : Ext F ι F' ι') : ∀ {vs : List LV} {us : List V}, RVs K mg σ F ι vs us → RVs K mg σ F' ι' vs us
  | _, _, .nil => .nil
  | _, _, .cons h r => .cons (RV.mono e h) (RVs.mono e r)
theorem RVs.clean : ∀ {vs : List LV} {us : List V}, RVs K mg σ F ι vs us → vs.all Z.clean = true → Rs0 K mg F ι vs us
  | _, _, .nil, _ => .nil
  | _, _, .cons h r, c => by
    rw [List.all_cons, Bool.and_eq_true] at c
    exact .cons (RV.clean h c.1) (RVs.clean r c.2)
theorem RO.mono {a : Addr} {o : LO} (e : Ext F ι F' ι') (h : RO K mg F ι H a o) (k : ∀ u, H a = some u → H' a = some u) : RO K mg F' ι' H' a o := by
  cases h with
  | lst h r => exact .lst (k _ h) (r.mono e)
  | ins h1 h2 h3 r => exact .ins h1 (k _ h2) h3 (r.mono e)
  | dic h1 h2 r => exact .dic (k _ h1) h2 (r.mono e)
theorem VR.mono (e : Ext F ι F' ι') (h : VR K mg G F ι σl σ) : VR K mg G F' ι' σl σ :=
  ⟨h.len, fun i v q => let ⟨u, a, b⟩ := h.val i v q; ⟨u, a, b.mono e⟩, fun i o q => let ⟨a, b, c⟩ := h.own i o q; ⟨a, b, c.mono e fun _ z => z⟩⟩
theorem RO.there {a : Addr} {o : LO} (h : RO K mg F ι H a o) : ∃ u, H a = some u := by
  cases h with
  | lst h r => exact ⟨_, h⟩
  | ins h1 h2 h3 r => exact ⟨_, h2⟩
  | dic h1 h2 r => exact ⟨_, h1⟩
theorem Pst.ext {o : O α} {p : α → Hp → List Addr → LH → Hp → Prop} (e : Ext F ι F' ι') (h : Pst K mg G F ι o p x) : Pst K mg G F' ι' o p x := by
  cases o with
  | ok a L => exact fun F2 ι2 H2 e2 r => h F2 ι2 H2 (e.trans e2) r
  | er c ns vs L => exact fun F2 ι2 H2 C d e2 r => h F2 ι2 H2 C d (e.trans e2) r
  | no => exact h
theorem Pst.imp {o : O α} {p p' : α → Hp → List Addr → LH → Hp → Prop} (h : Pst K mg G F ι o p x) (k : ∀ a F' ι' L' H', Ext F ι F' ι' → Rep K mg G F' ι' L' H' → p a F' ι' L' H' → p' a F' ι' L' H') : Pst K mg G F ι o p' x := by
  cases o with
  | ok a L => exact fun F2 ι2 H2 e2 r => k _ _ _ _ _ e2 r (h F2 ι2 H2 e2 r)
  | er c ns vs L => exact h
  | no => exact h
theorem Pst.bind {o : O α} {f : α → LH → O β} {p : β → Hp → List Addr → LH → Hp → Prop} (h : Pst K mg G F ι (o.bind f) p x) :
    Pst K mg G F ι o (fun a F' ι' L' H' => Pst K mg G F' ι' (f a L') p x) x := by
  cases o with
  | ok a L => exact fun F2 ι2 H2 e2 r => Pst.ext e2 h
  | er c ns vs L => exact h
  | no => exact h
theorem Pst.ok {a : α} {L : LH} {p : α → Hp → List Addr → LH → Hp → Prop} (h : Pst K mg G F ι (.ok a L) p x) (r : Rep K mg G F ι L H) : p a F ι L H := h F ι H (Ext.refl F ι) r
theorem PstS.ext {o : SO} {D : Ends} (e : Ext F ι F' ι') (h : PstS K mg G F ι o D W) : PstS K mg G F' ι' o D W := by
  cases o with
  | nx s L => exact fun F2 ι2 H2 σ2 e2 r => h F2 ι2 H2 σ2 (e.trans e2) r
  | bk s L => exact fun F2 ι2 H2 σ2 e2 r => h F2 ι2 H2 σ2 (e.trans e2) r
  | ct s L => exact fun F2 ι2 H2 σ2 e2 r => h F2 ι2 H2 σ2 (e.trans e2) r
  | rt v L => exact fun F2 ι2 H2 u e2 r => h F2 ι2 H2 u (e.trans e2) r
  | er c ns vs s L => exact fun F2 ι2 H2 σ2 C d e2 r => h F2 ι2 H2 σ2 C d (e.trans e2) r
  | no => exact h
theorem SR.ext (s : SR K mg GO G F ι L σl σ H) (e : Ext F ι F' ι') (r : Rep K mg GO F' ι' L' H') : SR K mg GO G F' ι' L' σl σ H' := ⟨s.sub, r, s.vr.mono e, s.fr, s.dis⟩
theorem PstS.lift {o : O α} {f : α → LH → SO} {D : Ends} (s : SR K mg GO G F ι L σl σ H) (h : PstS K mg G F ι (Z.lift o σl f) D W) :
    Pst K mg GO F ι o (fun a F' ι' L' H' => PstS K mg G F' ι' (f a L') D W) (fun c d H' => W c d σ H') := by
  cases o with
  | ok a L => exact fun F2 ι2 H2 e2 r => PstS.ext e2 h
  | er c ns vs L => exact fun F2 ι2 H2 C d e2 r m q => h F2 ι2 H2 σ C d e2 ⟨GO, s.ext e2 r⟩ m q
  | no => exact h
theorem Rep.sub {G' : Hp} (r : Rep K mg GO F ι L H) (s : Sub G' GO) : Rep K mg G' F ι L H :=
  ⟨r.f, fun a o q => r.g a o (s a o q), fun a o q => r.gf a o (s a o q), r.len, r.inj, fun n a q => ⟨(r.nf n a q).1, by
    cases e : G' a with
    | none => rfl
    | some o =>
      have z := (r.nf n a q).2
      rw [s a o e] at z
      cases z⟩, r.obj⟩
theorem Rep.there (r : Rep K mg G F ι L H) {n : Nat} {a : Addr} (h : ι[n]? = some a) : ∃ u, H a = some u := by
  have hl : n < ι.length := (List.getElem?_eq_some_iff.mp h).1
  rw [r.len] at hl
  exact (r.obj n a _ h (List.getElem?_eq_getElem hl)).there
theorem Rep.fresh (r : Rep K mg G F ι L H) {p : Addr} (h : H p = none) : F p = none ∧ G p = none ∧ ∀ n : Nat, ι[n]? ≠ some p := by
  refine ⟨?_, ?_, fun n q => ?_⟩
  · cases e : F p with
    | none => rfl
    | some o => rw [r.f p o e] at h; cases h
  · cases e : G p with
    | none => rfl
    | some o => rw [r.g p o e] at h; cases h
  · obtain ⟨u, e⟩ := r.there q
    rw [e] at h; cases h
/-- an address that the mirror does not know of is written -/
theorem Rep.put (r : Rep K mg G F ι L H) {p : Addr} {o : HO} (h1 : F p = none) (h2 : G p = none) (h3 : ∀ n : Nat, ι[n]? ≠ some p) : Rep K mg G F ι L (upd H p o) := by
  refine ⟨fun a u q => ?_, fun a u q => ?_, r.gf, r.len, r.inj, r.nf, fun n a u q1 q2 => (r.obj n a u q1 q2).mono (Ext.refl F ι) fun u' q => ?_⟩
  · rw [upd_ne (fun z => by rw [z, h1] at q; cases q)]
    exact r.f a u q
  · rw [upd_ne (fun z => by rw [z, h2] at q; cases q)]
    exact r.g a u q
  · rw [upd_ne (fun z => h3 n (by rw [← z]; exact q1))]
    exact q
theorem Rep.new (r : Rep K mg G F ι L H) {p : Addr} {o : HO} (h : H p = none) : Rep K mg G F ι L (upd H p o) := let ⟨a, b, c⟩ := r.fresh h; r.put a b c
/-- what nobody holds is frozen -/
theorem Rep.freeze (r : Rep K mg G F ι L H) {p : Addr} {o : HO} (h : H p = some o) (h1 : F p = none) (h2 : G p = none) (h3 : ∀ n : Nat, ι[n]? ≠ some p) : Rep K mg G (upd F p o) ι L H ∧ Ext F ι (upd F p o) ι := by
  have e : Ext F ι (upd F p o) ι := ⟨fun a u q => by rw [upd_ne (fun z => by rw [z, h1] at q; cases q)]; exact q, fun _ _ q => q⟩
  refine ⟨⟨fun a u q => ?_, r.g, fun a u q => ?_, r.len, r.inj, fun n a q => ⟨?_, (r.nf n a q).2⟩, fun n a u q1 q2 => (r.obj n a u q1 q2).mono e fun _ q => q⟩, e⟩
  · by_cases z : a = p
    · rw [z, upd_same] at q; cases q; rw [z]; exact h
    · rw [upd_ne z] at q; exact r.f a u q
  · rw [upd_ne (fun z => by rw [z, h2] at q; cases q)]
    exact r.gf a u q
  · rw [upd_ne (fun z => h3 n (by rw [← z]; exact q))]
    exact (r.nf n a q).1
/-- .. or given to the mirror -/
theorem Rep.alloc (r : Rep K mg G F ι L H) {p : Addr} {o : LO} (h1 : F p = none) (h2 : G p = none) (h3 : ∀ n : Nat, ι[n]? ≠ some p) (ho : ∀ ι', Ext F ι F ι' → RO K mg F ι' H p o) : Rep K mg G F (ι ++ [p]) (L ++ [o]) H ∧ Ext F ι F (ι ++ [p]) := by
  have e : Ext F ι F (ι ++ [p]) := ⟨Sub.refl F, fun n a q => by rw [List.getElem?_append_left (List.getElem?_eq_some_iff.mp q).1]; exact q⟩
  have at_ : ∀ (n : Nat) (a : Addr), (ι ++ [p])[n]? = some a → (n < ι.length ∧ ι[n]? = some a) ∨ (n = ι.length ∧ a = p) := fun n a q => by
    by_cases hn : n < ι.length
    · rw [List.getElem?_append_left hn] at q
      exact .inl ⟨hn, q⟩
    · rw [List.getElem?_append_right (Nat.le_of_not_lt hn)] at q
      have hz : n - ι.length = 0 := by
        have := (List.getElem?_eq_some_iff.mp q).1
        simpa using this
      rw [hz] at q
      exact .inr ⟨by omega, (Option.some.inj q).symm⟩
  refine ⟨⟨r.f, r.g, r.gf, by simp [r.len], fun n m a q1 q2 => ?_, fun n a q => ?_, fun n a u q1 q2 => ?_⟩, e⟩
  · rcases at_ n a q1 with ⟨n1, q1⟩ | ⟨n1, q1⟩ <;> rcases at_ m a q2 with ⟨n2, q2⟩ | ⟨n2, q2⟩
    · exact r.inj n m a q1 q2
    · exact absurd (q2 ▸ q1) (h3 n)
    · exact absurd (q1 ▸ q2) (h3 m)
    · omega
  · rcases at_ n a q with ⟨n1, q1⟩ | ⟨n1, q1⟩
    · exact r.nf n a q1
    · rw [q1]; exact ⟨h1, h2⟩
  · rcases at_ n a q1 with ⟨n1, q3⟩ | ⟨n1, q3⟩
    · rw [List.getElem?_append_left (by rw [← r.len]; exact n1)] at q2
      exact (r.obj n a u q3 q2).mono e fun _ q => q
    · subst n1
      rw [q3]
      rw [r.len, List.getElem?_append_right (Nat.le_refl _), Nat.sub_self] at q2
      cases Option.some.inj q2
      exact ho _ e
/-- an object of the mirror's is written -/
theorem Rep.write (r : Rep K mg G F ι L H) {n : Nat} {p : Addr} {o : LO} {u : HO} (h : ι[n]? = some p) (ho : RO K mg F ι (upd H p u) p o) : Rep K mg G F ι (L.set n o) (upd H p u) := by
  have hn := r.nf n p h
  refine ⟨fun a v q => ?_, fun a v q => ?_, r.gf, by simp [r.len], r.inj, r.nf, fun m a v q1 q2 => ?_⟩
  · rw [upd_ne (fun z => by rw [z, hn.1] at q; cases q)]
    exact r.f a v q
  · rw [upd_ne (fun z => by rw [z, hn.2] at q; cases q)]
    exact r.g a v q
  · by_cases z : m = n
    · subst z
      rw [h] at q1
      cases Option.some.inj q1
      have hl : m < L.length := by rw [← r.len]; exact (List.getElem?_eq_some_iff.mp h).1
      rw [List.getElem?_set_self hl] at q2
      cases Option.some.inj q2
      exact ho
    · rw [List.getElem?_set_ne (Ne.symm z)] at q2
      refine (r.obj m a v q1 q2).mono (Ext.refl F ι) fun w q => ?_
      rw [upd_ne (fun y => z (r.inj m n p (by rw [← y]; exact q1) h))]
      exact q
end
end Z
namespace Z
open PySem PySem.Spec L2

/-! ### words -/
def JE (X : Cx) (W : WX) (e : Expr) (m : ME) : Prop := ∃ t, PE X e t ∧ SimE X.K X.mg W t m
def JT (X : Cx) (W : WX) (e : Expr) (m : MT) : Prop := ∃ t, PT X e t ∧ SimT X.K X.mg W t m
def JW (X : Cx) (W : WX) (e : Expr) (m : MT) : Prop := ∃ t, PW X e t ∧ SimT X.K X.mg W t m
def JA (X : Cx) (W : WX) (es : List Expr) (m : MA) : Prop := ∃ t, PA X es t ∧ SimA X.K X.mg W t m
def JN (X : Cx) (W : WX) (e : Expr) (m : MA) : Prop := ∃ t, PE X e t ∧ SimN X.K X.mg W t m
def JS (X : Cx) (W : WX) (s : Stmt) (m : MS) : Prop := ∃ t, PS X s t ∧ SimS X.K X.mg W t m
def JSs (X : Cx) (W : WX) (s : List Stmt) (m : MS) : Prop := ∃ t, PSs X s t ∧ SimS X.K X.mg W t m

/-! ### the mirror's pieces -/
def eVar (i : Nat) : ME := fun σ L => match σ[i]? with
  | some (.val v) => .ok v L
  | some (.own _) => .ok (.loc i) L
  | _ => .no
def eC (v : LV) : ME := fun _ L => .ok v L
def seqL (σ : SL) (L : LH) : LV → Option (List LV)
  | .lst vs => some vs
  | .rdl vs => some vs
  | .ref n => match L[n]? with
    | some (.lst vs) => some vs
    | _ => none
  | .loc i => match σ[i]? with
    | some (.own (.lst vs)) => some vs
    | _ => none
  | _ => none
/-- .. that may be copied by + and extend -/
def seqM (σ : SL) (L : LH) : LV → Option (List LV)
  | .rdl _ => none
  | v => seqL σ L v
def aNil : MA := fun _ L => .ok [] L
def aCons (m : ME) (r : MA) : MA := fun σ L => (m σ L).bind fun v L1 => (r σ L1).bind fun vs L2 => .ok (v :: vs) L2
/-- two operands -/
def e2 (f : LV → LV → SL → LH → O LV) (ma mb : ME) : ME := fun σ L => (ma σ L).bind fun x L1 => (mb σ L1).bind fun y L2 => f x y σ L2
def e1 (f : LV → SL → LH → O LV) (ma : ME) : ME := fun σ L => (ma σ L).bind fun x L1 => f x σ L1
def eA (f : List LV → SL → LH → O LV) (ma : MA) : ME := fun σ L => (ma σ L).bind fun x L1 => f x σ L1

section
variable {X : Cx} {W : WX} {K : PySem.W.Frag} {mg : Str → Option Value} {G F H : Hp} {ι : List Addr} {L : LH} {σ : St} {σl : SL}

theorem sim_var {i : Nat} : SimE K mg W (tVar i) (eVar i) := by
  intro G F ι L H σl σ Q r vr h
  unfold eVar at h
  split at h
  · rename_i v e
    obtain ⟨u, h1, h2⟩ := vr.val i v e
    exact ⟨u, h1, h.ok r u (.r0 h2)⟩
  · rename_i vs e
    obtain ⟨a, h1, h2⟩ := vr.own i vs e
    exact ⟨.ref a, h1, h.ok r _ (.loc h1)⟩
  · exact h.elim
theorem sim_c {v : LV} {u : V} (hv : ∀ F ι, R0 K mg F ι v u) : SimE K mg W (tC u) (eC v) := by
  intro G F ι L H σl σ Q r vr h
  exact h.ok r u (.r0 (hv F ι))
theorem je_var (i : Nat) {x : Str} {pos : Pos} (hN : X.N[i]? = some x := by rfl) (hv : Vis X.env.scope x := by first | exact Or.inl rfl | exact Or.inr (Or.inl rfl) | exact Or.inr (Or.inr rfl)) (hd : (x == ("__debug__" : Str)) = false := by decide)
    (hcd : (x == ("__classdict__" : Str)) = false := by decide) : JE X W (.Name x pos) (eVar i) := ⟨_, pe_var hN hv hd hcd, sim_var⟩
theorem je_int {i : Int} {j pos} : JE X W (.Constant (.int i) j pos) (eC (.int i)) := ⟨_, pe_int, sim_c fun _ _ => .int⟩
theorem je_str {i : Str} {j pos} : JE X W (.Constant (.str i) j pos) (eC (.str i)) := ⟨_, pe_str, sim_c fun _ _ => .str⟩
theorem je_bl {i : Bool} {j pos} : JE X W (.Constant (.bool i) j pos) (eC (.bl i)) := ⟨_, pe_bl, sim_c fun _ _ => .bl⟩
theorem je_non {j pos} : JE X W (.Constant .none j pos) (eC .non) := ⟨_, pe_non, sim_c fun _ _ => .non⟩
/-- a module's int, text, .. -/
theorem je_glob {x : Str} {v : LV} {w : V} {u : Value} {pos : Pos} (hg : Gl X x) (hm : X.mg x = some u) (r : RelV w u) (hv : ∀ F ι, R0 X.K X.mg F ι v w) (hd : (x == ("__debug__" : Str)) = false := by decide) : JE X W (.Name x pos) (eC v) :=
  ⟨_, pe_glob hg hm r hd, sim_c hv⟩

/-! ### reading lists -/
theorem seqL_ok {v : LV} {u : V} {vs : List LV} (r : Rep K mg G F ι L H) (vr : VR K mg G F ι σl σ) (hv : RV K mg σ F ι v u) (h : seqL σl L v = some vs) : ∃ a us, u = .ref a ∧ SqL K H a us ∧ Rs0 K mg F ι vs us := by
  unfold seqL at h
  split at h
  · cases h
    cases hv with
    | r0 hv =>
      cases hv with
      | lst h1 h2 => exact ⟨_, _, rfl, .of (r.f _ _ h1), h2⟩
  · cases h
    cases hv with
    | r0 hv =>
      cases hv with
      | rdl h1 h2 => exact ⟨_, _, rfl, Sub.sqL r.f h1, h2⟩
  · rename_i n
    split at h
    · rename_i ws e
      cases h
      cases hv with
      | r0 hv =>
        cases hv with
        | ref h1 =>
          have z := r.obj _ _ _ h1 e
          cases z with
          | lst z1 z2 => exact ⟨_, _, rfl, .of z1, z2⟩
    · cases h
  · rename_i i
    split at h
    · rename_i ws e
      cases h
      obtain ⟨a, h1, h2⟩ := vr.own _ _ e
      cases hv with
      | r0 hv => cases hv
      | loc q =>
        rw [q] at h1
        cases h1
        cases h2 with
        | lst h2 h3 => exact ⟨_, _, rfl, .of (r.g _ _ h2), h3⟩
    · cases h
  · cases h
theorem seqM_ok {v : LV} {u : V} {vs : List LV} (r : Rep K mg G F ι L H) (vr : VR K mg G F ι σl σ) (hv : RV K mg σ F ι v u) (h : seqM σl L v = some vs) : ∃ a us, u = .ref a ∧ H a = some (.lst us) ∧ Rs0 K mg F ι vs us := by
  unfold seqM at h
  split at h
  · cases h
  · rename_i hn
    unfold seqL at h
    split at h
    · cases h
      cases hv with
      | r0 hv =>
        cases hv with
        | lst h1 h2 => exact ⟨_, _, rfl, r.f _ _ h1, h2⟩
    · exact absurd rfl (hn _)
    · rename_i n
      split at h
      · rename_i ws e
        cases h
        cases hv with
        | r0 hv =>
          cases hv with
          | ref h1 =>
            have z := r.obj _ _ _ h1 e
            cases z with
            | lst z1 z2 => exact ⟨_, _, rfl, z1, z2⟩
      · cases h
    · rename_i i
      split at h
      · rename_i ws e
        cases h
        obtain ⟨a, h1, h2⟩ := vr.own _ _ e
        cases hv with
        | r0 hv => cases hv
        | loc q =>
          rw [q] at h1
          cases h1
          cases h2 with
          | lst h2 h3 => exact ⟨_, _, rfl, r.g _ _ h2, h3⟩
      · cases h
    · cases h

/-! ### operators -/
/-- an operator's mirror -/
def Op2 (K : PySem.W.Frag) (mg : Str → Option Value) (r : R2) (f : LV → LV → SL → LH → O LV) : Prop := ∀ (W : XK) (G F : Hp) (ι : List Addr) (L : LH) (H : Hp) (σl : SL) (σ : St) (Q : VK) (x y : LV) (u w : V), Rep K mg G F ι L H → VR K mg G F ι σl σ → RV K mg σ F ι x u → RV K mg σ F ι y w →
  Pst K mg G F ι (f x y σl L) (fun v F' ι' L' H' => ∀ u, RV K mg σ F' ι' v u → Q u H') W → r u w H Q
theorem sim_op {r : R2} {f : LV → LV → SL → LH → O LV} {ta tb : TE} {ma mb : ME} (hr : Op2 K mg r f) (ha : SimE K mg W ta ma) (hb : SimE K mg W tb mb) : SimE K mg W (tOp r ta tb) (e2 f ma mb) := by
  intro G F ι L H σl σ Q rp vr h
  refine ha _ _ _ _ _ _ _ _ rp vr ((Pst.bind h).imp fun x F1 ι1 L1 H1 x1 rp1 h1 u ru => ?_)
  refine hb _ _ _ _ _ _ _ _ rp1 (vr.mono x1) ((Pst.bind h1).imp fun y F2 ι2 L2 H2 x2 rp2 h2 w rw => ?_)
  exact hr _ _ _ _ _ _ _ _ _ _ _ _ _ rp2 (vr.mono (x1.trans x2)) (ru.mono x2) rw h2
theorem je_op {op : Operator} {r : R2} {f : LV → LV → SL → LH → O LV} {a b : Expr} {pos : Pos} {ma mb : ME} (ho : OpR X (binaryOp op) r) (hr : Op2 X.K X.mg r f) (ha : JE X W a ma) (hb : JE X W b mb) : JE X W (.BinOp a op b pos) (e2 f ma mb) := by
  obtain ⟨ta, pa, sa⟩ := ha
  obtain ⟨tb, pb, sb⟩ := hb
  exact ⟨_, pe_op ho pa pb, sim_op hr sa sb⟩
theorem je_cmp {op : CmpOp} {r : R2} {f : LV → LV → SL → LH → O LV} {a b : Expr} {pos : Pos} {ma mb : ME} (ho : OpR X (compareOp op) r) (hr : Op2 X.K X.mg r f) (ha : JE X W a ma) (hb : JE X W b mb) (hm : behindInMarks op b = false) : JE X W (.Compare a [op] [b] pos) (e2 f ma mb) := by
  obtain ⟨ta, pa, sa⟩ := ha
  obtain ⟨tb, pb, sb⟩ := hb
  exact ⟨_, pe_cmpR ho pa pb hm, sim_op hr sa sb⟩
theorem op2_or {r r' : R2} {f f' : LV → LV → SL → LH → O LV} {g : LV → LV → SL → LH → O LV} (h : Op2 K mg r f) (h' : Op2 K mg r' f') (hg : ∀ x y σ L, g x y σ L = f x y σ L ∨ g x y σ L = f' x y σ L) : Op2 K mg (fun x y H Q => r x y H Q ∨ r' x y H Q) g := by
  intro W G F ι L H σl σ Q x y u w rp vr ru rw q
  rcases hg x y σl L with e | e
  · exact .inl (h W G F ι L H σl σ Q x y u w rp vr ru rw (by rw [← e]; exact q))
  · exact .inr (h' W G F ι L H σl σ Q x y u w rp vr ru rw (by rw [← e]; exact q))

/-- ints -/
def fI (C : Int → Int → Bool) (g : Int → Int → LV) : LV → LV → SL → LH → O LV := fun x y _ L => match x, y with
  | .int i, .int j => if C i j = true then .ok (g i j) L else .no
  | _, _ => .no
theorem op2_I {C : Int → Int → Bool} {C' : Int → Int → Prop} {g : Int → Int → LV} {g' : Int → Int → V} (hC : ∀ i j, C i j = true → C' i j) (hg : ∀ i j F ι, C i j = true → R0 K mg F ι (g i j) (g' i j)) : Op2 K mg (rI C' g') (fI C g) := by
  intro W G F ι L H σl σ Q x y u w rp vr ru rw q
  unfold fI at q
  split at q
  · rename_i i j
    split at q
    · rename_i hc
      cases ru with
      | r0 ru =>
        cases ru
        cases rw with
        | r0 rw =>
          cases rw
          exact ⟨i, j, rfl, rfl, hC i j hc, q.ok rp _ (.r0 (hg i j F ι hc))⟩
    · exact q.elim
  · exact q.elim
def fI0 (g : Int → Int → LV) : LV → LV → SL → LH → O LV := fun x y _ L => match x, y with
  | .int i, .int j => .ok (g i j) L
  | _, _ => .no
theorem op2_I0 {g : Int → Int → LV} {g' : Int → Int → V} (hg : ∀ i j F ι, R0 K mg F ι (g i j) (g' i j)) : Op2 K mg (rI0 g') (fI0 g) := by
  intro W G F ι L H σl σ Q x y u w rp vr ru rw q
  unfold fI0 at q
  split at q
  · rename_i i j
    cases ru with
    | r0 ru =>
      cases ru
      cases rw with
      | r0 rw =>
        cases rw
        exact ⟨i, j, rfl, rfl, q.ok rp _ (.r0 (hg i j F ι))⟩
  · exact q.elim
/-- the new object p -/
theorem Rep.frzL {p : Addr} {us : List V} {vs : List LV} (r : Rep K mg G F ι L H) (h : H p = none) (hr : Rs0 K mg F ι vs us) : Rep K mg G (upd F p (.lst us)) ι L (upd H p (.lst us)) ∧ Ext F ι (upd F p (.lst us)) ι ∧ R0 K mg (upd F p (.lst us)) ι (.lst vs) (.ref p) := by
  obtain ⟨f1, f2, f3⟩ := r.fresh h
  obtain ⟨q1, q2⟩ := (r.new (o := .lst us) h).freeze upd_same f1 f2 f3
  exact ⟨q1, q2, .lst upd_same (hr.mono q2)⟩
theorem Rep.frzT {p : Addr} {us : List V} {vs : List LV} (r : Rep K mg G F ι L H) (h : H p = none) (hr : Rs0 K mg F ι vs us) : Rep K mg G (upd F p (.tup us)) ι L (upd H p (.tup us)) ∧ Ext F ι (upd F p (.tup us)) ι ∧ R0 K mg (upd F p (.tup us)) ι (.tup vs) (.ref p) := by
  obtain ⟨f1, f2, f3⟩ := r.fresh h
  obtain ⟨q1, q2⟩ := (r.new (o := .tup us) h).freeze upd_same f1 f2 f3
  exact ⟨q1, q2, .tup (.of upd_same) (hr.mono q2)⟩
/-- a + b: ints, texts, lists -/
def fAdd : LV → LV → SL → LH → O LV := fun x y σ L => match x, y with
  | .int i, .int j => .ok (.int (i + j)) L
  | .str i, .str j => if i.length + j.length ≤ sizeLine then .ok (.str (i ++ j)) L else .no
  | x, y => match seqM σ L x, seqM σ L y with
    | some vs, some ws => if vs.length + ws.length ≤ sizeLine then .ok (.lst (vs ++ ws)) L else .no
    | _, _ => .no
def rAddS : R2 := fun x y H Q => ∃ i j, x = .str i ∧ y = .str j ∧ i.length + j.length ≤ sizeLine ∧ Q (.str (i ++ j)) H
def rAddU : R2 := fun x y H Q => (rI0 fun i j => .int (i + j)) x y H Q ∨ (rAddS x y H Q ∨ rCat x y H Q)
theorem op_addU : OpR X (binaryOp .Add) rAddU := op_add.or (OpR.or (r := rAddS) op_add_str op_cat)
theorem op2_add : Op2 K mg rAddU fAdd := by
  intro W G F ι L H σl σ Q x y u w rp vr ru rw q
  unfold fAdd at q
  split at q
  · cases ru with
    | r0 ru =>
      cases ru
      cases rw with
      | r0 rw => cases rw; exact .inl ⟨_, _, rfl, rfl, q.ok rp _ (.r0 .int)⟩
  · split at q
    · rename_i hz
      cases ru with
      | r0 ru =>
        cases ru
        cases rw with
        | r0 rw => cases rw; exact .inr (.inl ⟨_, _, rfl, rfl, hz, q.ok rp _ (.r0 .str)⟩)
    · exact q.elim
  · split at q
    · rename_i vs ws e1 e2
      split at q
      · rename_i hz
        obtain ⟨a, us, rfl, h1, h2⟩ := seqM_ok rp vr ru e1
        obtain ⟨b, zs, rfl, h3, h4⟩ := seqM_ok rp vr rw e2
        refine .inr (.inr ⟨a, b, us, zs, rfl, rfl, h1, h3, by rw [← h2.length, ← h4.length]; exact hz, fun p hp => ?_⟩)
        obtain ⟨r1, x1, z⟩ := rp.frzL hp (h2.append h4)
        exact q _ _ _ x1 r1 _ (.r0 z)
      · exact q.elim
    · exact q.elim
abbrev fSub := fI0 fun i j => .int (i - j)
theorem op2_sub : Op2 K mg (rI0 fun i j => .int (i - j)) fSub := op2_I0 fun _ _ _ _ => .int
def cMul (i j : Int) : Bool := Nat.ble (Builtin.Int.intBits i + Builtin.Int.intBits j) 134217728
abbrev fMul := fI cMul fun i j => .int (i * j)
theorem op2_mul : Op2 K mg (rI CMulX fun i j => .int (i * j)) fMul := op2_I (fun i j h => by have z := Nat.le_of_ble_eq_true h; unfold CMulX; omega) fun _ _ _ _ _ => .int
def cDiv (_ j : Int) : Bool := decide (0 < j ∧ j.natAbs.log2 < 9000)
abbrev fDiv := fI cDiv fun i j => .int (i / j)
theorem op2_div : Op2 K mg (rI CDivW fun i j => .int (i / j)) fDiv := op2_I (fun i j h => by have z := of_decide_eq_true h; exact z) fun _ _ _ _ _ => .int
abbrev fMod := fI (fun _ j => decide (0 < j)) fun i j => .int (i % j)
theorem op2_mod : Op2 K mg (rI (fun _ j => 0 < j) fun i j => .int (i % j)) fMod := op2_I (fun i j h => by have z := of_decide_eq_true h; exact z) fun _ _ _ _ _ => .int
def cPow (i j : Int) : Bool := decide (0 ≤ j ∧ j ≤ 1000000 ∧ i.natAbs < 2 ^ 64)
abbrev fPow := fI cPow fun i j => .int (i ^ j.toNat)
theorem op2_pow : Op2 K mg (rI CPow fun i j => .int (i ^ j.toNat)) fPow := op2_I (fun i j h => by have z := of_decide_eq_true h; exact z) fun _ _ _ _ _ => .int
abbrev fLt := fI0 fun i j => .bl (decide (i < j))
abbrev fLe := fI0 fun i j => .bl (decide (i ≤ j))
abbrev fGt := fI0 fun i j => .bl (decide (j < i))
abbrev fGe := fI0 fun i j => .bl (decide (j ≤ i))
theorem op2_lt : Op2 K mg (rI0 fun i j => .bl (decide (i < j))) fLt := op2_I0 fun _ _ _ _ => .bl
theorem op2_le : Op2 K mg (rI0 fun i j => .bl (decide (i ≤ j))) fLe := op2_I0 fun _ _ _ _ => .bl
theorem op2_gt : Op2 K mg (rI0 fun i j => .bl (decide (j < i))) fGt := op2_I0 fun _ _ _ _ => .bl
theorem op2_ge : Op2 K mg (rI0 fun i j => .bl (decide (j ≤ i))) fGe := op2_I0 fun _ _ _ _ => .bl

/-! ### == -/
mutual
def toD (σ : SL) (L : LH) : LV → Option PyData
  | .non => some .none
  | .bl b => some (.bool b)
  | .int i => some (.int i)
  | .str x => some (.str x)
  | .tup vs => (toDs σ L vs).map .tuple
  | .lst vs => (toDs σ L vs).map .list
  | .rdl vs => (toDs σ L vs).map .list
  | _ => none
def toDs (σ : SL) (L : LH) : List LV → Option (List PyData)
  | [] => some []
  | v :: vs => match toD σ L v, toDs σ L vs with
    | some d, some ds => some (d :: ds)
    | _, _ => none
end
mutual
theorem toD_ok (s : Sub F H) : ∀ {v : LV} {u : V} {d : PyData}, R0 K mg F ι v u → toD σl L v = some d → Dp K H u d
  | .non, _, _, .non, h => by rw [toD] at h; cases h; exact .non
  | .bl b, _, _, .bl, h => by rw [toD] at h; cases h; exact .bl b
  | .int b, _, _, .int, h => by rw [toD] at h; cases h; exact .int b
  | .str b, _, _, .str, h => by rw [toD] at h; cases h; exact .str b
  | .tup vs, _, _, .tup h1 h2, h => by
    rw [toD] at h
    cases e : toDs σl L vs with
    | none => rw [e] at h; cases h
    | some ds => rw [e] at h; cases h; exact .tup (s.sqT h1) (toDs_ok s h2 e)
  | .lst vs, _, _, .lst h1 h2, h => by
    rw [toD] at h
    cases e : toDs σl L vs with
    | none => rw [e] at h; cases h
    | some ds => rw [e] at h; cases h; exact .lst (.of (s _ _ h1)) (toDs_ok s h2 e)
  | .rdl vs, _, _, .rdl h1 h2, h => by
    rw [toD] at h
    cases e : toDs σl L vs with
    | none => rw [e] at h; cases h
    | some ds => rw [e] at h; cases h; exact .lst (s.sqL h1) (toDs_ok s h2 e)
  | .ref _, _, _, _, h => by simp [toD] at h
  | .ins _ _ _, _, _, _, h => by simp [toD] at h
theorem toDs_ok (s : Sub F H) : ∀ {vs : List LV} {us : List V} {ds : List PyData}, Rs0 K mg F ι vs us → toDs σl L vs = some ds → DpAll K H us ds
  | [], _, _, .nil, h => by rw [toDs] at h; cases h; exact .nil
  | v :: vs, _, _, .cons h1 h2, h => by
    rw [toDs] at h
    cases e1 : toD σl L v with
    | none => rw [e1] at h; cases h
    | some d =>
      cases e2 : toDs σl L vs with
      | none => rw [e1, e2] at h; cases h
      | some ds => rw [e1, e2] at h; cases h; exact .cons (toD_ok s h1 e1) (toDs_ok s h2 e2)
end
/-- data, or a list that may be written -/
def toDV (σ : SL) (L : LH) (v : LV) : Option PyData := match v with
  | .ref n => match L[n]? with
    | some (.lst vs) => (toDs σ L vs).map .list
    | _ => none
  | .loc i => match σ[i]? with
    | some (.own (.lst vs)) => (toDs σ L vs).map .list
    | _ => none
  | v => toD σ L v
theorem toDV_ok {v : LV} {u : V} {d : PyData} (r : Rep K mg G F ι L H) (vr : VR K mg G F ι σl σ) (hv : RV K mg σ F ι v u) (h : toDV σl L v = some d) : Dp K H u d := by
  have other : ∀ vs, seqL σl L v = some vs → (toDs σl L vs).map PyData.list = some d → Dp K H u d := fun vs e q => by
    obtain ⟨a, us, rfl, h1, h2⟩ := seqL_ok r vr hv e
    cases e2 : toDs σl L vs with
    | none => rw [e2] at q; cases q
    | some ds => rw [e2] at q; cases q; exact .lst h1 (toDs_ok r.f h2 e2)
  unfold toDV at h
  split at h
  · split at h
    · rename_i n vs e
      exact other vs (by simp only [seqL, e]) h
    · cases h
  · split at h
    · rename_i n vs e
      exact other vs (by simp only [seqL, e]) h
    · cases h
  · rename_i v' h1 h2
    cases hv with
    | r0 hv => exact toD_ok r.f hv h
    | loc q => exact absurd rfl (h2 _)
def eqS : LV → LV → Option Bool
  | .int i, .int j => some (decide (i = j))
  | .str i, .str j => some (decide (i = j))
  | .bl i, .bl j => some (decide (i = j))
  | _, _ => none
def fEqN (neg : Bool) : LV → LV → SL → LH → O LV := fun x y σ L => match eqS x y with
  | some b => .ok (.bl (if neg then !b else b)) L
  | none => match toDV σ L x, toDV σ L y with
    | some d, some e => if (SeqAt.shaped d && SeqAt.shaped e) = true then .ok (.bl (if neg then !PyData.eqv d e else PyData.eqv d e)) L else .no
    | _, _ => .no
abbrev fEq := fEqN false
abbrev fNe := fEqN true
def rEqU (K : PySem.W.Frag) : R2 := fun x y H Q => rEq x y H Q ∨ rEqD K x y H Q
def rNeU (K : PySem.W.Frag) : R2 := fun x y H Q => rNe x y H Q ∨ rNeD K x y H Q
theorem op_eqU (hu : X.A.units + 64 < cLine) : OpR X (compareOp .Eq) (rEqU X.K) := op_eq.or (op_eqD hu)
theorem op_neU (hu : X.A.units + 64 < cLine) : OpR X (compareOp .NotEq) (rNeU X.K) := op_ne.or (op_neD hu)
theorem eqS_ok {x y : LV} {u w : V} {b : Bool} (ru : RV K mg σ F ι x u) (rw : RV K mg σ F ι y w) (h : eqS x y = some b) : scal u w = true ∧ decide (u = w) = b := by
  unfold eqS at h
  split at h
  · cases h
    cases ru with
    | r0 ru =>
      cases ru
      cases rw with
      | r0 rw => cases rw; exact ⟨rfl, by simp [V.int.injEq]⟩
  · cases h
    cases ru with
    | r0 ru =>
      cases ru
      cases rw with
      | r0 rw => cases rw; exact ⟨rfl, by simp [V.str.injEq]⟩
  · cases h
    cases ru with
    | r0 ru =>
      cases ru
      cases rw with
      | r0 rw => cases rw; exact ⟨rfl, by simp [V.bl.injEq]⟩
  · cases h
theorem op2_eq : Op2 K mg (rEqU K) fEq := by
  intro W G F ι L H σl σ Q x y u w rp vr ru rw q
  unfold fEq fEqN at q
  split at q
  · rename_i b e
    obtain ⟨h1, h2⟩ := eqS_ok ru rw e
    exact .inl ⟨h1, by rw [h2]; exact q.ok rp _ (.r0 .bl)⟩
  · split at q
    · rename_i d e h1 h2
      split at q
      · rename_i hs
        rw [Bool.and_eq_true] at hs
        exact .inr ⟨d, e, toDV_ok rp vr ru h1, toDV_ok rp vr rw h2, hs.1, hs.2, q.ok rp _ (.r0 .bl)⟩
      · exact q.elim
    · exact q.elim
theorem op2_ne : Op2 K mg (rNeU K) fNe := by
  intro W G F ι L H σl σ Q x y u w rp vr ru rw q
  unfold fNe fEqN at q
  split at q
  · rename_i b e
    obtain ⟨h1, h2⟩ := eqS_ok ru rw e
    exact .inl ⟨h1, by rw [h2]; exact q.ok rp _ (.r0 .bl)⟩
  · split at q
    · rename_i d e h1 h2
      split at q
      · rename_i hs
        rw [Bool.and_eq_true] at hs
        exact .inr ⟨d, e, toDV_ok rp vr ru h1, toDV_ok rp vr rw h2, hs.1, hs.2, q.ok rp _ (.r0 .bl)⟩
      · exact q.elim
    · exact q.elim
/-- is None -/
def isNon : LV → Bool
  | .non => true
  | _ => false
def fIsN (neg : Bool) : LV → LV → SL → LH → O LV := fun x y _ L => match y with
  | .non => .ok (.bl (if neg then !isNon x else isNon x)) L
  | _ => .no
theorem non_iff {x : LV} {u : V} (ru : RV K mg σ F ι x u) : decide (u = .non) = isNon x := by
  cases ru with
  | r0 ru => cases ru <;> simp [isNon]
  | loc q => simp [isNon]
theorem op2_isN : Op2 K mg (fun x y H Q => y = .non ∧ Q (.bl (decide (x = .non))) H) (fIsN false) := by
  intro W G F ι L H σl σ Q x y u w rp vr ru rw q
  unfold fIsN at q
  split at q
  · cases rw with
    | r0 rw =>
      cases rw
      refine ⟨rfl, ?_⟩
      rw [non_iff ru]
      exact q.ok rp _ (.r0 .bl)
  · exact q.elim
theorem op2_notN : Op2 K mg (fun x y H Q => y = .non ∧ Q (.bl (!decide (x = .non))) H) (fIsN true) := by
  intro W G F ι L H σl σ Q x y u w rp vr ru rw q
  unfold fIsN at q
  split at q
  · cases rw with
    | r0 rw =>
      cases rw
      refine ⟨rfl, ?_⟩
      rw [non_iff ru]
      exact q.ok rp _ (.r0 .bl)
  · exact q.elim

/-! ### items -/
theorem Rs0.atI {vs : List LV} {us : List V} {i : Int} {v : LV} (h : Rs0 K mg F ι vs us) (e : L2.atI vs i = some v) : ∃ u, L2.atI us i = some u ∧ R0 K mg F ι v u := by
  unfold L2.atI at e ⊢
  rw [← h.length]
  cases q : ixN vs.length i with
  | none => rw [q] at e; cases e
  | some j =>
    rw [q] at e
    exact h.get e
def fIx : LV → LV → SL → LH → O LV := fun x y σ L => match y with
  | .int i => match x with
    | .tup vs => match L2.atI vs i with
      | some v => .ok v L
      | none => .no
    | .str z => if z.length ≤ sizeLine then (match L2.atI z.cps.toList i with
      | some c => .ok (.str ⟨#[c]⟩) L
      | none => .no) else .no
    | x => match seqL σ L x with
      | some vs => match L2.atI vs i with
        | some v => .ok v L
        | none => .no
      | none => .no
  | _ => .no
theorem op2_ix : Op2 K mg (rIx K) fIx := by
  intro W G F ι L H σl σ Q x y u w rp vr ru rw q
  unfold fIx at q
  split at q
  · rename_i i
    cases rw with
    | r0 rw =>
      cases rw
      split at q
      · split at q
        · rename_i vs v e
          cases ru with
          | r0 ru =>
            cases ru with
            | tup h1 h2 =>
              obtain ⟨u2, a1, a2⟩ := h2.atI e
              exact .inr (.inl ⟨_, _, i, u2, rfl, rfl, rp.f.sqT h1, a1, q.ok rp _ (.r0 a2)⟩)
        · exact q.elim
      · split at q
        · rename_i hz
          split at q
          · rename_i c e
            cases ru with
            | r0 ru =>
              cases ru
              exact .inr (.inr ⟨_, i, c, rfl, rfl, hz, e, q.ok rp _ (.r0 .str)⟩)
          · exact q.elim
        · exact q.elim
      · split at q
        · rename_i vs e1
          split at q
          · rename_i v e
            obtain ⟨a, us, rfl, h1, h2⟩ := seqL_ok rp vr ru e1
            obtain ⟨u2, a1, a2⟩ := h2.atI e
            exact .inl ⟨a, us, i, u2, rfl, rfl, h1, a1, q.ok rp _ (.r0 a2)⟩
          · exact q.elim
        · exact q.elim
  · exact q.elim
theorem je_ix {a b : Expr} {pos : Pos} {ma mb : ME} (ha : JE X W a ma) (hb : JE X W b mb) (hs : PlainIx b) : JE X W (.Subscript a b pos) (e2 fIx ma mb) := by
  obtain ⟨ta, pa, sa⟩ := ha
  obtain ⟨tb, pb, sb⟩ := hb
  exact ⟨_, pe_ix ix_seq pa pb hs, sim_op op2_ix sa sb⟩

/-! ### arguments, displays -/
theorem sim_anil : SimA K mg W tNil aNil := by
  intro G F ι L H σl σ Q r vr h
  exact h.ok r [] .nil
theorem sim_acons {te : TE} {m : ME} {tr : TA} {mr : MA} (he : SimE K mg W te m) (hr : SimA K mg W tr mr) : SimA K mg W (tCons te tr) (aCons m mr) := by
  intro G F ι L H σl σ Q rp vr h
  refine he _ _ _ _ _ _ _ _ rp vr ((Pst.bind h).imp fun x F1 ι1 L1 H1 x1 rp1 h1 u ru => ?_)
  refine hr _ _ _ _ _ _ _ _ rp1 (vr.mono x1) ((Pst.bind h1).imp fun y F2 ι2 L2 H2 x2 rp2 h2 w rw => ?_)
  exact h2.ok rp2 (u :: w) (.cons (ru.mono x2) rw)
theorem ja_nil : JA X W [] aNil := ⟨_, pa_nil, sim_anil⟩
theorem ja_cons {e : Expr} {es : List Expr} {m : ME} {mr : MA} (he : JE X W e m) (hr : JA X W es mr) (hs : starEach (e :: es) X.env = (false, eval e X.env) :: starEach es X.env := by rfl) : JA X W (e :: es) (aCons m mr) := by
  obtain ⟨t, p, s⟩ := he
  obtain ⟨t', p', s'⟩ := hr
  exact ⟨_, pa_cons p p' hs, sim_acons s s'⟩
/-- arguments that may be kept -/
def aClean (m : MA) : MA := fun σ L => (m σ L).bind fun vs L1 => if (vs.all clean && decide (vs.length ≤ sizeLine)) = true then .ok vs L1 else .no
def eTup (m : MA) : ME := fun σ L => (m σ L).bind fun vs L1 => if (vs.all clean && decide (vs.length ≤ sizeLine)) = true then .ok (.tup vs) L1 else .no
theorem je_tup {es : List Expr} {pos : Pos} {c : Nat} {m : MA} (h : JA X W es m) : JE X W (.Tuple es c pos) (eTup m) := by
  obtain ⟨t, p, s⟩ := h
  refine ⟨_, pe_tup p, ?_⟩
  intro G F ι L H σl σ Q rp vr h
  refine s _ _ _ _ _ _ _ _ rp vr ((Pst.bind h).imp fun vs F1 ι1 L1 H1 x1 rp1 h1 us ru => ?_)
  split at h1
  · rename_i hc
    rw [Bool.and_eq_true] at hc
    have r0 := RVs.clean ru hc.1
    refine ⟨by rw [← r0.length]; exact of_decide_eq_true hc.2, fun q hq => ?_⟩
    obtain ⟨r1, x2, z⟩ := rp1.frzT hq r0
    exact h1 _ _ _ x2 r1 _ (.r0 z)
  · exact h1.elim
theorem jn_lst {es : List Expr} {pos : Pos} {m : MA} (h : JA X W es m) : JN X W (.List es pos) (aClean m) := by
  obtain ⟨t, p, s⟩ := h
  refine ⟨_, pe_lst p, ?_⟩
  intro G F ι L H σl σ Q rp vr h
  refine s _ _ _ _ _ _ _ _ rp vr ((Pst.bind h).imp fun vs F1 ι1 L1 H1 x1 rp1 h1 us ru => ?_)
  split at h1
  · rename_i hc
    rw [Bool.and_eq_true] at hc
    have r0 := RVs.clean ru hc.1
    refine ⟨by rw [← r0.length]; exact of_decide_eq_true hc.2, fun q hq => ?_⟩
    obtain ⟨f1, f2, f3⟩ := rp1.fresh hq
    exact h1 _ _ _ (Ext.refl _ _) (rp1.new hq) q us upd_same f2 f1 f3 r0
  · exact h1.elim
/-! a new list: frozen; a mirror's object -/
def eFrz (m : MA) : ME := fun σ L => (m σ L).bind fun vs L1 => .ok (.lst vs) L1
def eNew (m : MA) : ME := fun σ L => (m σ L).bind fun vs L1 => .ok (.ref L1.length) (L1 ++ [.lst vs])
theorem je_frz {e : Expr} {m : MA} (h : JN X W e m) : JE X W e (eFrz m) := by
  obtain ⟨t, p, s⟩ := h
  refine ⟨_, p, ?_⟩
  intro G F ι L H σl σ Q rp vr h
  refine s _ _ _ _ _ _ _ _ rp vr ((Pst.bind h).imp fun vs F1 ι1 L1 H1 x1 rp1 h1 q us e1 e2 e3 e4 e5 => ?_)
  obtain ⟨r1, x2⟩ := rp1.freeze e1 e3 e2 e4
  exact h1 _ _ _ x2 r1 _ (.r0 (.lst upd_same (e5.mono x2)))
theorem je_new {e : Expr} {m : MA} (h : JN X W e m) : JE X W e (eNew m) := by
  obtain ⟨t, p, s⟩ := h
  refine ⟨_, p, ?_⟩
  intro G F ι L H σl σ Q rp vr h
  refine s _ _ _ _ _ _ _ _ rp vr ((Pst.bind h).imp fun vs F1 ι1 L1 H1 x1 rp1 h1 q us e1 e2 e3 e4 e5 => ?_)
  obtain ⟨r1, x2⟩ := rp1.alloc (o := .lst vs) e3 e2 e4 fun ι' x2 => .lst e1 (e5.mono x2)
  refine h1 _ _ _ x2 r1 _ (.r0 (.ref ?_))
  rw [← rp1.len, List.getElem?_append_right (Nat.le_refl _), Nat.sub_self]
  rfl
end
end Z
namespace Z
open PySem PySem.Spec L2
section
variable {X : Cx} {W : WX} {K : PySem.W.Frag} {mg : Str → Option Value} {G F H : Hp} {ι : List Addr} {L : LH} {σ : St} {σl : SL}

/-! ### tests -/
def tOf (m : ME) : MT := fun σ L => (m σ L).bind fun v L1 => match v with
  | .bl b => .ok b L1
  | _ => .no
theorem sim_test {t : TE} {m : ME} (h : SimE K mg W t m) : SimT K mg W (tTest t) (tOf m) := by
  intro G F ι L H σl σ Q rp vr q
  refine h _ _ _ _ _ _ _ _ rp vr ((Pst.bind q).imp fun v F1 ι1 L1 H1 x1 rp1 q1 u ru => ?_)
  split at q1
  · cases ru with
    | r0 ru => cases ru; exact ⟨_, rfl, q1.ok rp1⟩
  · exact q1.elim
theorem sim_B {t : TE} {m : ME} (h : SimE K mg W t m) : SimT K mg W (tB t) (tOf m) := sim_test h
theorem jt_cmp {op : CmpOp} {r : R2} {f : LV → LV → SL → LH → O LV} {a b : Expr} {pos : Pos} {ma mb : ME} (ho : OpR X (compareOp op) r) (hr : Op2 X.K X.mg r f) (ha : JE X W a ma) (hb : JE X W b mb) (hm : behindInMarks op b = false) : JT X W (.Compare a [op] [b] pos) (tOf (e2 f ma mb)) := by
  obtain ⟨ta, pa, sa⟩ := ha
  obtain ⟨tb, pb, sb⟩ := hb
  exact ⟨_, pt_cmpR ho pa pb hm, sim_test (sim_op hr sa sb)⟩
theorem jt_val {e : Expr} {m : ME} (h : JE X W e m) (he : ∀ whole, isTrue e X.env whole = (do let v ← whole; standAt e.pos; holding [v] (truthy v)) := by intro _; rfl) : JT X W e (tOf m) := by
  obtain ⟨t, p, s⟩ := h
  exact ⟨_, pt_val p he, sim_B s⟩
/-- a value's truth -/
def truL (σ : SL) (L : LH) : LV → Option Bool
  | .non => some false
  | .bl b => some b
  | .int i => some (i != 0)
  | .str y => if y.length ≤ sizeLine then some ((y.length : Int) != 0) else none
  | .tup vs => some (!vs.isEmpty)
  | .ref n => match L[n]? with
    | some (.lst vs) => some (!vs.isEmpty)
    | some (.dic ks vs) => some (!ks.isEmpty)
    | _ => none
  | v => (seqL σ L v).map fun vs => !vs.isEmpty
theorem isE {vs : List LV} {us : List V} (h : Rs0 K mg F ι vs us) : vs.isEmpty = us.isEmpty := by cases h <;> rfl
theorem truL_ok {v : LV} {u : V} {b : Bool} (r : Rep K mg G F ι L H) (vr : VR K mg G F ι σl σ) (hv : RV K mg σ F ι v u) (h : truL σl L v = some b) : TruV K u H b := by
  have other : ∀ vs, seqL σl L v = some vs → b = !vs.isEmpty → TruV K u H b := fun vs e q => by
    obtain ⟨a, us, rfl, h1, h2⟩ := seqL_ok r vr hv e
    exact .inl ⟨us, h1, by rw [q, isE h2]⟩
  unfold truL at h
  split at h
  · cases h; cases hv with | r0 hv => cases hv; exact (show false = false from rfl)
  · cases h; cases hv with | r0 hv => cases hv; exact (show b = b from rfl)
  · cases h; cases hv with | r0 hv => cases hv; exact rfl
  · split at h
    · rename_i hz
      cases h; cases hv with | r0 hv => cases hv; exact ⟨hz, rfl⟩
    · cases h
  · cases h
    cases hv with
    | r0 hv =>
      cases hv with
      | tup h1 h2 => exact .inr (.inl ⟨_, r.f.sqT h1, by rw [isE h2]⟩)
  · split at h
    · rename_i e
      cases h
      exact other _ (by simp only [seqL, e]) rfl
    · rename_i e
      cases h
      cases hv with
      | r0 hv =>
        cases hv with
        | ref h1 =>
          have z := r.obj _ _ _ h1 e
          cases z with
          | dic z1 z2 z3 =>
            refine .inr (.inr ⟨_, z1, ?_⟩)
            rename_i ks vs _ us
            cases ks with
            | nil => rfl
            | cons k ks =>
              cases us with
              | nil => cases z2
              | cons u us => rfl
    · cases h
  · cases e : seqL σl L v with
    | none => rw [e] at h; cases h
    | some vs => rw [e] at h; cases h; exact other vs e rfl
def tTr (m : ME) : MT := fun σ L => (m σ L).bind fun v L1 => match truL σ L1 v with
  | some b => .ok b L1
  | none => .no
theorem jt_tr {e : Expr} {m : ME} (h : JE X W e m) (he : ∀ whole, isTrue e X.env whole = (do let v ← whole; standAt e.pos; holding [v] (truthy v)) := by intro _; rfl) : JT X W e (tTr m) := by
  obtain ⟨t, p, s⟩ := h
  refine ⟨_, pt_truth p he, ?_⟩
  intro G F ι L H σl σ Q rp vr q
  refine s _ _ _ _ _ _ _ _ rp vr ((Pst.bind q).imp fun v F1 ι1 L1 H1 x1 rp1 q1 u ru => ?_)
  split at q1
  · rename_i b e
    exact ⟨b, truL_ok rp1 (vr.mono x1) ru e, q1.ok rp1⟩
  · exact q1.elim
def tAnd' (a b : MT) : MT := fun σ L => (a σ L).bind fun c L1 => if c = true then b σ L1 else .ok false L1
def tOr' (a b : MT) : MT := fun σ L => (a σ L).bind fun c L1 => if c = true then .ok true L1 else b σ L1
def tNot' (a : MT) : MT := fun σ L => (a σ L).bind fun c L1 => .ok (!c) L1
theorem sim_and {t u : TT} {a b : MT} (ha : SimT K mg W t a) (hb : SimT K mg W u b) : SimT K mg W (tAnd t u) (tAnd' a b) := by
  intro G F ι L H σl σ Q rp vr q
  refine ha _ _ _ _ _ _ _ _ rp vr ((Pst.bind q).imp fun c F1 ι1 L1 H1 x1 rp1 q1 => ?_)
  cases c with
  | true => exact hb _ _ _ _ _ _ _ _ rp1 (vr.mono x1) q1
  | false => exact q1.ok rp1
theorem sim_or {t u : TT} {a b : MT} (ha : SimT K mg W t a) (hb : SimT K mg W u b) : SimT K mg W (tOr t u) (tOr' a b) := by
  intro G F ι L H σl σ Q rp vr q
  refine ha _ _ _ _ _ _ _ _ rp vr ((Pst.bind q).imp fun c F1 ι1 L1 H1 x1 rp1 q1 => ?_)
  cases c with
  | false => exact hb _ _ _ _ _ _ _ _ rp1 (vr.mono x1) q1
  | true => exact q1.ok rp1
theorem sim_not {t : TT} {a : MT} (ha : SimT K mg W t a) : SimT K mg W (tNot t) (tNot' a) := by
  intro G F ι L H σl σ Q rp vr q
  exact ha _ _ _ _ _ _ _ _ rp vr ((Pst.bind q).imp fun c F1 ι1 L1 H1 x1 rp1 q1 => q1.ok rp1)
theorem jw_and1 {a : Expr} {pos : Pos} {m : MT} (h : JT X W a m) : JW X W (.BoolOp .And [a] pos) m := let ⟨_, p, s⟩ := h; ⟨_, pw_and1 p, s⟩
theorem jw_or1 {a : Expr} {pos : Pos} {m : MT} (h : JT X W a m) : JW X W (.BoolOp .Or [a] pos) m := let ⟨_, p, s⟩ := h; ⟨_, pw_or1 p, s⟩
theorem jw_and {a b : Expr} {rest : List Expr} {pos : Pos} {m n : MT} (h : JT X W a m) (h' : JW X W (.BoolOp .And (b :: rest) pos) n) : JW X W (.BoolOp .And (a :: b :: rest) pos) (tAnd' m n) :=
  let ⟨_, p, s⟩ := h; let ⟨_, p', s'⟩ := h'; ⟨_, pw_and p p', sim_and s s'⟩
theorem jw_or {a b : Expr} {rest : List Expr} {pos : Pos} {m n : MT} (h : JT X W a m) (h' : JW X W (.BoolOp .Or (b :: rest) pos) n) : JW X W (.BoolOp .Or (a :: b :: rest) pos) (tOr' m n) :=
  let ⟨_, p, s⟩ := h; let ⟨_, p', s'⟩ := h'; ⟨_, pw_or p p', sim_or s s'⟩
theorem jt_w {e : Expr} {m : MT} (h : JW X W e m) : JT X W e m := let ⟨_, p, s⟩ := h; ⟨_, p.pt, s⟩
theorem jt_not {a : Expr} {pos : Pos} {m : MT} (h : JT X W a m) : JT X W (.UnaryOp .Not a pos) (tNot' m) := let ⟨_, p, s⟩ := h; ⟨_, pt_not p, sim_not s⟩
/-- and, or, not as values: bools -/
def eAnd (a b : ME) : ME := fun σ L => (a σ L).bind fun v L1 => match v with
  | .bl c => if c = true then b σ L1 else .ok (.bl false) L1
  | _ => .no
def eOr (a b : ME) : ME := fun σ L => (a σ L).bind fun v L1 => match v with
  | .bl c => if c = true then .ok (.bl true) L1 else b σ L1
  | _ => .no
def eNot (a : ME) : ME := fun σ L => (a σ L).bind fun v L1 => match truL σ L1 v with
  | some b => .ok (.bl (!b)) L1
  | none => .no
theorem je_one {op} {a : Expr} {pos : Pos} {m : ME} (h : JE X W a m) : JE X W (.BoolOp op [a] pos) m := let ⟨_, p, s⟩ := h; ⟨_, pe_one p, s⟩
theorem je_and {a b : Expr} {rest : List Expr} {pos : Pos} {m n : ME} (h : JE X W a m) (h' : JE X W (.BoolOp .And (b :: rest) pos) n) : JE X W (.BoolOp .And (a :: b :: rest) pos) (eAnd m n) := by
  obtain ⟨t, p, s⟩ := h
  obtain ⟨t', p', s'⟩ := h'
  refine ⟨_, pe_and p p', ?_⟩
  intro G F ι L H σl σ Q rp vr q
  refine s _ _ _ _ _ _ _ _ rp vr ((Pst.bind q).imp fun v F1 ι1 L1 H1 x1 rp1 q1 u ru => ?_)
  split at q1
  · rename_i c
    cases ru with
    | r0 ru =>
      cases ru
      refine ⟨c, rfl, ?_⟩
      cases c with
      | true => exact s' _ _ _ _ _ _ _ _ rp1 (vr.mono x1) q1
      | false => exact q1.ok rp1 _ (.r0 .bl)
  · exact q1.elim
theorem je_or {a b : Expr} {rest : List Expr} {pos : Pos} {m n : ME} (h : JE X W a m) (h' : JE X W (.BoolOp .Or (b :: rest) pos) n) : JE X W (.BoolOp .Or (a :: b :: rest) pos) (eOr m n) := by
  obtain ⟨t, p, s⟩ := h
  obtain ⟨t', p', s'⟩ := h'
  refine ⟨_, pe_or p p', ?_⟩
  intro G F ι L H σl σ Q rp vr q
  refine s _ _ _ _ _ _ _ _ rp vr ((Pst.bind q).imp fun v F1 ι1 L1 H1 x1 rp1 q1 u ru => ?_)
  split at q1
  · rename_i c
    cases ru with
    | r0 ru =>
      cases ru
      refine ⟨c, rfl, ?_⟩
      cases c with
      | false => exact s' _ _ _ _ _ _ _ _ rp1 (vr.mono x1) q1
      | true => exact q1.ok rp1 _ (.r0 .bl)
  · exact q1.elim
theorem je_not {a : Expr} {pos : Pos} {m : ME} (h : JE X W a m) : JE X W (.UnaryOp .Not a pos) (eNot m) := by
  obtain ⟨t, p, s⟩ := h
  refine ⟨_, pe_notT p, ?_⟩
  intro G F ι L H σl σ Q rp vr q
  refine s _ _ _ _ _ _ _ _ rp vr ((Pst.bind q).imp fun v F1 ι1 L1 H1 x1 rp1 q1 u ru => ?_)
  split at q1
  · rename_i b e
    exact ⟨b, truL_ok rp1 (vr.mono x1) ru e, q1.ok rp1 _ (.r0 .bl)⟩
  · exact q1.elim
def eIf (t : MT) (a b : ME) : ME := fun σ L => (t σ L).bind fun c L1 => if c = true then a σ L1 else b σ L1
theorem je_if {c a b : Expr} {pos : Pos} {t : MT} {m n : ME} (hc : JT X W c t) (ha : JE X W a m) (hb : JE X W b n) : JE X W (.IfExp c a b pos) (eIf t m n) := by
  obtain ⟨tc, p, s⟩ := hc
  obtain ⟨ta, p1, s1⟩ := ha
  obtain ⟨tb, p2, s2⟩ := hb
  refine ⟨_, pe_ifExp p p1 p2, ?_⟩
  intro G F ι L H σl σ Q rp vr q
  refine s _ _ _ _ _ _ _ _ rp vr ((Pst.bind q).imp fun c F1 ι1 L1 H1 x1 rp1 q1 => ?_)
  cases c with
  | true => exact s1 _ _ _ _ _ _ _ _ rp1 (vr.mono x1) q1
  | false => exact s2 _ _ _ _ _ _ _ _ rp1 (vr.mono x1) q1
/-- a op b op c -/
def eChain (f g : LV → LV → SL → LH → O LV) (a b c : ME) : ME := fun σ L => (a σ L).bind fun x L1 => (b σ L1).bind fun y L2 => (f x y σ L2).bind fun z L3 => match z with
  | .bl k => if k = true then (c σ L3).bind fun w L4 => g y w σ L4 else .ok (.bl false) L3
  | _ => .no
theorem sim_chain {r r' : R2} {f g : LV → LV → SL → LH → O LV} {ta tb tc : TE} {a b c : ME} (hf : Op2 K mg r f) (hg : Op2 K mg r' g) (ha : SimE K mg W ta a) (hb : SimE K mg W tb b) (hc : SimE K mg W tc c) : SimE K mg W (tChain r r' ta tb tc) (eChain f g a b c) := by
  intro G F ι L H σl σ Q rp vr q
  refine ha _ _ _ _ _ _ _ _ rp vr ((Pst.bind q).imp fun x F1 ι1 L1 H1 x1 rp1 q1 u ru => ?_)
  refine hb _ _ _ _ _ _ _ _ rp1 (vr.mono x1) ((Pst.bind q1).imp fun y F2 ι2 L2 H2 x2 rp2 q2 w rw => ?_)
  refine hf _ _ _ _ _ _ _ _ _ _ _ _ _ rp2 (vr.mono (x1.trans x2)) (ru.mono x2) rw ((Pst.bind q2).imp fun z F3 ι3 L3 H3 x3 rp3 q3 zz rz => ?_)
  split at q3
  · rename_i k
    cases rz with
    | r0 rz =>
      cases rz
      refine ⟨k, rfl, ?_⟩
      cases k with
      | false => exact q3.ok rp3 _ (.r0 .bl)
      | true =>
        refine hc _ _ _ _ _ _ _ _ rp3 (vr.mono ((x1.trans x2).trans x3)) ((Pst.bind q3).imp fun y F4 ι4 L4 H4 x4 rp4 q4 w4 rw4 => ?_)
        exact hg _ _ _ _ _ _ _ _ _ _ _ _ _ rp4 (vr.mono (((x1.trans x2).trans x3).trans x4)) ((rw.mono x3).mono x4) rw4 q4
  · exact q3.elim
theorem je_chain {op op' : CmpOp} {r r' : R2} {f g : LV → LV → SL → LH → O LV} {a b c : Expr} {pos : Pos} {ma mb mc : ME} (ho : OpR X (compareOp op) r) (hf : Op2 X.K X.mg r f) (ho' : OpR X (compareOp op') r') (hg : Op2 X.K X.mg r' g) (ha : JE X W a ma) (hb : JE X W b mb) (hc : JE X W c mc)
    (hm : lastMarks [op, op'] [b, c] = false := by with_unfolding_all rfl) : JE X W (.Compare a [op, op'] [b, c] pos) (eChain f g ma mb mc) :=
  let ⟨_, pa, sa⟩ := ha; let ⟨_, pb, sb⟩ := hb; let ⟨_, pc, sc⟩ := hc; ⟨_, pe_chain ho ho' pa pb pc hm, sim_chain hf hg sa sb sc⟩
theorem jt_chain {op op' : CmpOp} {r r' : R2} {f g : LV → LV → SL → LH → O LV} {a b c : Expr} {pos : Pos} {ma mb mc : ME} (ho : OpR X (compareOp op) r) (hf : Op2 X.K X.mg r f) (ho' : OpR X (compareOp op') r') (hg : Op2 X.K X.mg r' g) (ha : JE X W a ma) (hb : JE X W b mb) (hc : JE X W c mc)
    (hm : lastMarks [op, op'] [b, c] = false := by with_unfolding_all rfl) : JT X W (.Compare a [op, op'] [b, c] pos) (tOf (eChain f g ma mb mc)) :=
  let ⟨_, pa, sa⟩ := ha; let ⟨_, pb, sb⟩ := hb; let ⟨_, pc, sc⟩ := hc; ⟨_, pt_chain ho ho' pa pb pc hm, sim_test (sim_chain hf hg sa sb sc)⟩

/-! ### calls -/
/-- a call by values -/
def OpA (K : PySem.W.Frag) (mg : Str → Option Value) (r : List V → Hp → VK → Prop) (f : List LV → SL → LH → O LV) : Prop := ∀ (W : XK) (G F : Hp) (ι : List Addr) (L : LH) (H : Hp) (σl : SL) (σ : St) (Q : VK) (xs : List LV) (us : List V), Rep K mg G F ι L H → VR K mg G F ι σl σ → RVs K mg σ F ι xs us →
  Pst K mg G F ι (f xs σl L) (fun v F' ι' L' H' => ∀ u, RV K mg σ F' ι' v u → Q u H') W → r us H Q
theorem sim_cb {r : List V → Hp → VK → Prop} {f : List LV → SL → LH → O LV} {t : TA} {m : MA} (hr : OpA K mg r f) (ha : SimA K mg W t m) : SimE K mg W (tCB r t) (eA f m) := by
  intro G F ι L H σl σ Q rp vr q
  refine ha _ _ _ _ _ _ _ _ rp vr ((Pst.bind q).imp fun x F1 ι1 L1 H1 x1 rp1 q1 us ru => ?_)
  exact hr _ _ _ _ _ _ _ _ _ _ _ rp1 (vr.mono x1) ru q1
theorem je_callB {x : Str} {id : String} {p pos : Pos} {e : Expr} {es : List Expr} {r : List V → Hp → VK → Prop} {f : List LV → SL → LH → O LV} {m : MA} (hc : CallR X (.builtin id) r) (hr : OpA X.K X.mg r f) (hg : Gl X x) (hm : X.mg x = none) (hv : bootBuiltins x = some (.builtin id)) (ha : JA X W (e :: es) m) (hn : x ≠ "__name__" := by decide) (hdb : (x == ("__debug__" : Str)) = false := by decide)
    (he : starEach (e :: es) X.env = (false, eval e X.env) :: starEach es X.env := by rfl) (hpl : (backTo pos (starEach es X.env)).any (·.1) = false := by rfl) : JE X W (.Call (.Name x p) (e :: es) [] pos) (eA f m) :=
  let ⟨_, pa, sa⟩ := ha; ⟨_, pe_callB hc hg hm hv pa hn hdb he hpl, sim_cb hr sa⟩
theorem je_callTy {x : Str} {T : String} {p pos : Pos} {e : Expr} {es : List Expr} {r : List V → Hp → VK → Prop} {f : List LV → SL → LH → O LV} {m : MA} (hc : CallR X (.type T) r) (hr : OpA X.K X.mg r f) (hg : Gl X x) (hm : X.mg x = none) (hv : bootBuiltins x = some (.type T)) (ha : JA X W (e :: es) m) (hn : x ≠ "__name__" := by decide) (hdb : (x == ("__debug__" : Str)) = false := by decide)
    (he : starEach (e :: es) X.env = (false, eval e X.env) :: starEach es X.env := by rfl) (hpl : (backTo pos (starEach es X.env)).any (·.1) = false := by rfl) : JE X W (.Call (.Name x p) (e :: es) [] pos) (eA f m) :=
  let ⟨_, pa, sa⟩ := ha; ⟨_, pe_callTy hc hg hm hv pa hn hdb he hpl, sim_cb hr sa⟩
def fLen : List LV → SL → LH → O LV := fun xs σ L => match xs with
  | [.str z] => if z.length ≤ sizeLine then .ok (.int z.length) L else .no
  | [.tup vs] => .ok (.int vs.length) L
  | [x] => match seqL σ L x with
    | some vs => .ok (.int vs.length) L
    | none => .no
  | _ => .no
def rLen (K : PySem.W.Frag) : List V → Hp → VK → Prop := fun xs H Q => ∃ x n, xs = [x] ∧ LenV K x H n ∧ Q (.int n) H
theorem opA_len : OpA K mg (rLen K) fLen := by
  intro W G F ι L H σl σ Q xs us rp vr rv q
  unfold fLen at q
  split at q
  · rename_i z
    split at q
    · rename_i hz
      cases rv with
      | cons h t =>
        cases t
        cases h with
        | r0 h => cases h; exact ⟨_, z.length, rfl, ⟨hz, rfl⟩, q.ok rp _ (.r0 .int)⟩
    · exact q.elim
  · cases rv with
    | cons h t =>
      cases t
      cases h with
      | r0 h =>
        cases h with
        | tup h1 h2 => exact ⟨_, _, rfl, .inr ⟨_, rp.f.sqT h1, rfl⟩, by rw [← h2.length]; exact q.ok rp _ (.r0 .int)⟩
  · split at q
    · rename_i vs e
      cases rv with
      | cons h t =>
        cases t
        obtain ⟨a, ws, rfl, h1, h2⟩ := seqL_ok rp vr h e
        exact ⟨_, _, rfl, .inl ⟨_, h1, rfl⟩, by rw [← h2.length]; exact q.ok rp _ (.r0 .int)⟩
    · exact q.elim
  · exact q.elim
/-- max, min of two ints -/
def fMax2 : List LV → SL → LH → O LV := fun xs _ L => match xs with
  | [.int i, .int j] => .ok (.int (if j > i then j else i)) L
  | _ => .no
def fMin2 : List LV → SL → LH → O LV := fun xs _ L => match xs with
  | [.int i, .int j] => .ok (.int (if j < i then j else i)) L
  | _ => .no
theorem rv_ints {i j : Int} {us : List V} (h : RVs K mg σ F ι [.int i, .int j] us) : us = [.int i, .int j] := by
  cases h with
  | cons h t =>
    cases t with
    | cons h' t =>
      cases t
      cases h with
      | r0 h =>
        cases h
        cases h' with
        | r0 h' => cases h'; rfl
theorem opA_max2 : OpA K mg (fun xs H Q => ∃ i j, xs = [.int i, .int j] ∧ Q (.int (if j > i then j else i)) H) fMax2 := by
  intro W G F ι L H σl σ Q xs us rp vr rv q
  unfold fMax2 at q
  split at q
  · exact ⟨_, _, rv_ints rv, q.ok rp _ (.r0 .int)⟩
  · exact q.elim
theorem opA_min2 : OpA K mg (fun xs H Q => ∃ i j, xs = [.int i, .int j] ∧ Q (.int (if j < i then j else i)) H) fMin2 := by
  intro W G F ι L H σl σ Q xs us rp vr rv q
  unfold fMin2 at q
  split at q
  · exact ⟨_, _, rv_ints rv, q.ok rp _ (.r0 .int)⟩
  · exact q.elim
/-- int(..) of an int, a bool -/
def fInt : List LV → SL → LH → O LV := fun xs _ L => match xs with
  | [.int i] => .ok (.int i) L
  | [.bl k] => .ok (.int (if k then 1 else 0)) L
  | _ => .no
theorem opA_int : OpA K mg (fun xs H Q => (∃ i, xs = [.int i] ∧ Q (.int i) H) ∨ ∃ k, xs = [.bl k] ∧ Q (.int (if k then 1 else 0)) H) fInt := by
  intro W G F ι L H σl σ Q xs us rp vr rv q
  unfold fInt at q
  split at q
  · cases rv with
    | cons h t =>
      cases t
      cases h with
      | r0 h => cases h; exact .inl ⟨_, rfl, q.ok rp _ (.r0 .int)⟩
  · cases rv with
    | cons h t =>
      cases t
      cases h with
      | r0 h => cases h; exact .inr ⟨_, rfl, q.ok rp _ (.r0 .int)⟩
  · exact q.elim
/-! isinstance -/
/-- what kind a value is: a built-in type, or an own class by its name -/
inductive TyK where
  | b (n : String) | c (n : Str)
def tyOf (L : LH) : LV → Option TyK
  | .non => some (.b "NoneType")
  | .bl _ => some (.b "bool")
  | .int _ => some (.b "int")
  | .str _ => some (.b "str")
  | .tup _ => some (.b "tuple")
  | .lst _ => some (.b "list")
  | .loc _ => some (.b "list")
  | .ins c _ _ => some (.c c)
  | .ref n => match L[n]? with
    | some (.lst _) => some (.b "list")
    | some (.dic _ _) => some (.b "dict")
    | some (.ins c _ _) => some (.c c)
    | none => none
  | _ => none
/-- what an own class must have to be asked for -/
structure ClsI (K : PySem.W.Frag) (C : Addr) : Prop where
  cl : Cls K C
  ha : PySem.W.findIn K (.ref C) "__class__" = some (some (.builtin "object.__class__"))
  hn : PySem.W.specialIn K (.builtin "object.__class__") "__get__" = some (some (.builtin "getset_descriptor.__get__"))
  htk : PySem.W.takesIn K (.builtin "object.__class__") = some true
  hm : PySem.W.mroIn K C (.type "object") = some true
/-- isinstance(.., T): u is T's value, f the answers -/
structure IsI (K : PySem.W.Frag) (mg : Str → Option Value) (u : Value) (f : TyK → Option Bool) : Prop where
  b : ∀ n b, f (.b n) = some b → PySem.W.kitOne K (.type n) u = some b
  c : ∀ n b, f (.c n) = some b → ∀ C, mg n = some (.ref C) → ClsI K C ∧ PySem.W.kitOne K (.ref C) u = some b
def isB (T : String) : TyK → Option Bool
  | .b n => kitB n T
  | .c _ => none
theorem isI_ty {T : String} : IsI K mg (.type T) (isB T) := ⟨fun n b h => kit_ty h, fun n b h => nomatch h⟩
def locOk (σ : SL) : LV → Bool
  | .loc i => match σ[i]? with
    | some (.own (.lst _)) => true
    | _ => false
  | _ => true
theorem locOk_ok {x : LV} (h : locOk σl x = true) : ∀ i, x = .loc i → ∃ vs, σl[i]? = some (.own (.lst vs)) := by
  rintro i rfl
  unfold locOk at h
  simp only at h
  split at h
  · exact ⟨_, by assumption⟩
  · cases h
def fIs (f : TyK → Option Bool) : LV → SL → LH → O LV := fun x σ L => if locOk σ x = true then (match tyOf L x with
  | some k => match f k with
    | some b => .ok (.bl b) L
    | none => .no
  | none => .no) else .no
theorem tyOf_b {n : String} {v : LV} {u : V} (r : Rep K mg G F ι L H) (vr : VR K mg G F ι σl σ) (hl : ∀ i, v = .loc i → ∃ vs, σl[i]? = some (.own (.lst vs))) (hv : RV K mg σ F ι v u) (h : tyOf L v = some (.b n)) : TyX K H u (.type n) := by
  unfold tyOf at h
  split at h
  · cases h; cases hv with | r0 hv => cases hv; exact .base .non
  · cases h; cases hv with | r0 hv => cases hv; exact .base (.bl _)
  · cases h; cases hv with | r0 hv => cases hv; exact .base (.int _)
  · cases h; cases hv with | r0 hv => cases hv; exact .base (.str _)
  · cases h
    cases hv with
    | r0 hv =>
      cases hv with
      | tup h1 h2 =>
        rcases h1 with (h1 | ⟨o, h1⟩) | ⟨o, its, n, h1, h3, h4⟩
        · exact .base (.tup (r.f _ _ h1))
        · exact .fTuple (r.f _ _ h1)
        · exact .kTuple h1 h3
  · cases h; cases hv with | r0 hv => cases hv with | lst h1 h2 => exact .base (.lst (r.f _ _ h1))
  · cases h
    obtain ⟨vs, e⟩ := hl _ rfl
    obtain ⟨a, h1, h2⟩ := vr.own _ _ e
    cases hv with
    | r0 hv => cases hv
    | loc q => rw [q] at h1; cases h1; cases h2 with | lst h2 h3 => exact .base (.lst (r.g _ _ h2))
  · cases h
  · split at h
    · rename_i e
      cases h
      cases hv with
      | r0 hv =>
        cases hv with
        | ref h1 => cases r.obj _ _ _ h1 e with | lst z1 z2 => exact .base (.lst z1)
    · rename_i e
      cases h
      cases hv with
      | r0 hv =>
        cases hv with
        | ref h1 => cases r.obj _ _ _ h1 e with | dic z1 z2 z3 => exact .base (.dK z1)
    · cases h
    · cases h
  · cases h
theorem tyOf_c {n : Str} {v : LV} {u : V} (r : Rep K mg G F ι L H) (hv : RV K mg σ F ι v u) (h : tyOf L v = some (.c n)) : ∃ C, mg n = some (.ref C) ∧ (ClsI K C → TyX K H u (.ref C)) := by
  unfold tyOf at h
  split at h
  · cases h
  · cases h
  · cases h
  · cases h
  · cases h
  · cases h
  · cases h
  · cases h
    cases hv with
    | r0 hv =>
      cases hv with
      | ins h1 h2 h3 h4 => exact ⟨_, h1, fun c => .base (.ins (r.f _ _ h2) c.cl c.ha c.hn c.htk c.hm)⟩
  · split at h
    · cases h
    · cases h
    · rename_i e
      cases h
      cases hv with
      | r0 hv =>
        cases hv with
        | ref h1 => cases r.obj _ _ _ h1 e with | ins z1 z2 z3 z4 => exact ⟨_, z1, fun c => .base (.ins z2 c.cl c.ha c.hn c.htk c.hm)⟩
    · cases h
  · cases h

/-- isinstance(e, T), T a class by its name -/
theorem sim_isi {ta : TE} {m : ME} {c : V} {u : Value} {f : TyK → Option Bool} (ha : SimE K mg W ta m) (hc : ClsV c u) (hf : IsI K mg u f) : SimE K mg W (tCB (rIsi K) (tCons ta (tCons (tC c) tNil))) (e1 (fIs f) m) := by
  intro G F ι L H σl σ Q rp vr q
  refine ha _ _ _ _ _ _ _ _ rp vr ((Pst.bind q).imp fun x F1 ι1 L1 H1 x1 rp1 q1 w rw => ?_)
  show rIsi K [w, c] H1 Q
  unfold fIs at q1
  split at q1
  · rename_i hl
    split at q1
    · rename_i k ek
      split at q1
      · rename_i b eb
        cases k with
        | b n => exact ⟨w, c, _, u, b, rfl, hc, tyOf_b rp1 (vr.mono x1) (locOk_ok hl) rw ek, hf.b n b eb, q1.ok rp1 _ (.r0 .bl)⟩
        | c n =>
          obtain ⟨C, e1, e2⟩ := tyOf_c rp1 rw ek
          obtain ⟨z1, z2⟩ := hf.c n b eb C e1
          exact ⟨w, c, _, u, b, rfl, hc, e2 z1, z2, q1.ok rp1 _ (.r0 .bl)⟩
      · exact q1.elim
    · exact q1.elim
  · exact q1.elim
theorem je_isiT {T : Str} {tn : String} {p pos pt : Pos} {e : Expr} {m : ME} (ha : JE X W e m) (hgi : Gl X "isinstance") (hmi : X.mg "isinstance" = none) (hg : Gl X T) (hm : X.mg T = none) (hv : bootBuiltins T = some (.type tn)) (hn : T ≠ "__name__" := by decide) (hd : (T == ("__debug__" : Str)) = false := by decide)
    (he : starEach (e :: [.Name T pt]) X.env = (false, eval e X.env) :: starEach [.Name T pt] X.env := by rfl) (hpl : (backTo pos (starEach [.Name T pt] X.env)).any (·.1) = false := by rfl) (he2 : starEach [.Name T pt] X.env = (false, eval (.Name T pt) X.env) :: starEach [] X.env := by rfl) :
    JE X W (.Call (.Name "isinstance" p) (e :: [.Name T pt]) [] pos) (e1 (fIs (isB tn)) m) :=
  let ⟨_, pa, sa⟩ := ha; ⟨_, pe_callB call_isi hgi hmi (by decide +kernel) (pa_cons pa (pa_cons (pe_bltn (v := .ty tn) hg hm hv rfl hn hd) pa_nil he2) he) (he := he) (hpl := hpl), sim_isi sa (.ty tn) isI_ty⟩
theorem je_isiC {T : Str} {C : Addr} {f : TyK → Option Bool} {p pos pt : Pos} {e : Expr} {m : ME} (ha : JE X W e m) (hgi : Gl X "isinstance") (hmi : X.mg "isinstance" = none) (hg : Gl X T) (hm : X.mg T = some (.ref C)) (hf : IsI X.K X.mg (.ref C) f) (hd : (T == ("__debug__" : Str)) = false := by decide)
    (he : starEach (e :: [.Name T pt]) X.env = (false, eval e X.env) :: starEach [.Name T pt] X.env := by rfl) (hpl : (backTo pos (starEach [.Name T pt] X.env)).any (·.1) = false := by rfl) (he2 : starEach [.Name T pt] X.env = (false, eval (.Name T pt) X.env) :: starEach [] X.env := by rfl) :
    JE X W (.Call (.Name "isinstance" p) (e :: [.Name T pt]) [] pos) (e1 (fIs f) m) :=
  let ⟨_, pa, sa⟩ := ha; ⟨_, pe_callB call_isi hgi hmi (by decide +kernel) (pa_cons pa (pa_cons (pe_glob (v := .ref C) hg hm rfl hd) pa_nil he2) he) (he := he) (hpl := hpl), sim_isi sa (.own C) hf⟩
end
end Z
namespace Z
open PySem PySem.Spec L2
section
variable {X : Cx} {W : WX} {K : PySem.W.Frag} {mg : Str → Option Value} {G F H : Hp} {ι : List Addr} {L : LH} {σ : St} {σl : SL}

/-! ### defs called -/
def eCall (n : Nat) (f : List LV → LH → O LV) (m : MA) : ME := fun σ L => (m σ L).bind fun vs L1 => if (vs.all clean && decide (vs.length = n)) = true then f vs L1 else .no
theorem sim_call {n : Nat} {f : List LV → LH → O LV} {t : TA} {m : MA} (ha : SimA K mg W t m) : SimE K mg W (tCallS (spM K mg n f) (WE W) t) (eCall n f m) := by
  intro G F ι L H σl σ Q rp vr q
  refine ha _ _ _ _ _ _ _ _ rp vr ((Pst.bind q).imp fun vs F1 ι1 L1 H1 x1 rp1 q1 us ru => ?_)
  split at q1
  · rename_i hc
    rw [Bool.and_eq_true] at hc
    exact ⟨G, F1, ι1, L1, vs, of_decide_eq_true hc.2, rp1, RVs.clean ru hc.1, q1.imp fun v F2 ι2 L2 H2 x2 rp2 q2 u ru => q2 u (.r0 ru)⟩
  · exact q1.elim
/-- a def of the text that keeps its mirror -/
abbrev DefOk (P : Program) (w : World) (K : PySem.W.Frag) (mg : Str → Option Value) (base : Heap) (k : Nat) (f : Addr) (fd : FuncData) (ps : List Str) (m : List LV → LH → O LV) : Prop := FnOk P w K mg base (L2.CX P w) k f fd ps (spM K mg ps.length m)
theorem je_call {k n : Nat} {f : Addr} {fd : FuncData} {ps : List Str} {g : List LV → LH → O LV} {x : Str} {p pos : Pos} {e : Expr} {es : List Expr} {m : MA} (tk : Takes X W) (D : DefOk X.prog X.w X.K X.mg X.base k f fd ps g) (hr : Room k X.A) (hm : X.mg x = some (.ref f)) (hk : PySem.W.keepIn X.K (.ref f) = true) (hb : Binds X.K fd ps [])
    (ha : JA X W (e :: es) m) (hg : Gl X x := by rfl) (hdb : (x == ("__debug__" : Str)) = false := by decide) (he : starEach (e :: es) X.env = (false, eval e X.env) :: starEach es X.env := by rfl) (hpl : (backTo pos (starEach es X.env)).any (·.1) = false := by rfl) (hn : ps.length = n := by rfl) :
    JE X W (.Call (.Name x p) (e :: es) [] pos) (eCall n g m) := by
  subst hn
  obtain ⟨_, pa, sa⟩ := ha
  exact ⟨_, pe_callS D hr hg hm hk hb (fun σ => passAt tk σ) pa hdb he hpl, sim_call sa⟩
/-- .. without arguments -/
theorem pe_callS0 {CX : CXT} {k : Nat} {f : Addr} {fd : FuncData} {ps : List Str} {sp : Sp} {E : L2.St → XK} {x : Str} {p pos : Pos} (D : FnOk X.prog X.w X.K X.mg X.base CX k f fd ps sp) (hr : Room k X.A) (hg : Gl X x) (hm : X.mg x = some (.ref f)) (hk : PySem.W.keepIn X.K (.ref f) = true) (hb : Binds X.K fd ps []) (hx : ∀ σ, PassesAt CX X σ (E σ))
    (hdb : (x == ("__debug__" : Str)) = false := by decide) : PE X (.Call (.Name x p) [] [] pos) (tCallS sp E tNil) :=
  ⟨fun pins s σ H Q I h => wpAny_Call_Name_kw (ld_glob I hg hm (PySem.W.callWith_K0 I.kIn hk (run_fnS (us := []) D hr hb (hx σ) I .nil h)) hdb)⟩
theorem je_call0 {k n : Nat} {f : Addr} {fd : FuncData} {ps : List Str} {g : List LV → LH → O LV} {x : Str} {p pos : Pos} (tk : Takes X W) (D : DefOk X.prog X.w X.K X.mg X.base k f fd ps g) (hr : Room k X.A) (hm : X.mg x = some (.ref f)) (hk : PySem.W.keepIn X.K (.ref f) = true) (hb : Binds X.K fd ps [])
    (hg : Gl X x := by rfl) (hdb : (x == ("__debug__" : Str)) = false := by decide) (hn : ps.length = n := by rfl) : JE X W (.Call (.Name x p) [] [] pos) (eCall n g aNil) :=
  hn ▸ ⟨_, pe_callS0 D hr hg hm hk hb (fun σ => passAt tk σ) hdb, sim_call sim_anil⟩

/-! ### statements -/
def sNil : MS := fun σ L => .nx σ L
def sSeq (a b : MS) : MS := fun σ L => match a σ L with
  | .nx σ1 L1 => b σ1 L1
  | o => o
theorem sim_nil : SimS K mg W tNext sNil := fun G F ι L σl σ H D s q => q F ι H σ (Ext.refl _ _) s
theorem sim_seq {t u : TS} {a b : MS} (ha : SimS K mg W t a) (hb : SimS K mg W u b) : SimS K mg W (tSeq t u) (sSeq a b) := by
  intro G F ι L σl σ H D s q
  refine ha G F ι L σl σ H { D with nx := u D } s ?_
  unfold sSeq at q
  cases e : a σl L with
  | nx σ1 L1 =>
    rw [e] at q
    exact fun F1 ι1 H1 σ2 x1 s1 => hb G F1 ι1 L1 σ1 σ2 H1 D s1 (q.ext x1)
  | rt v L1 => rw [e] at q; exact q
  | bk s L1 => rw [e] at q; exact q
  | ct s L1 => rw [e] at q; exact q
  | er c ns vs s L1 => rw [e] at q; exact q
  | no => rw [e] at q; exact q
theorem js_nil : JSs X W [] sNil := ⟨_, pss_nil, sim_nil⟩
theorem js_cons {st : Stmt} {r : List Stmt} {a b : MS} (h : JS X W st a) (h' : JSs X W r b) : JSs X W (st :: r) (sSeq a b) := let ⟨_, p, s⟩ := h; let ⟨_, p', s'⟩ := h'; ⟨_, pss_cons p p', sim_seq s s'⟩
theorem js_one {st : Stmt} {a : MS} (h : JS X W st a) : JSs X W [st] a := let ⟨_, p, s⟩ := h; ⟨_, pss_one p, s⟩
theorem js_pass {pos : Pos} : JS X W (.Pass pos) sNil := ⟨_, ps_pass, sim_nil⟩
theorem js_doc {x j pos pos'} : JS X W (.Expr (.Constant (.str x) j pos) pos') sNil := ⟨_, ps_doc, sim_nil⟩
def sBk : MS := fun σ L => .bk σ L
def sCt : MS := fun σ L => .ct σ L
theorem js_break {pos : Pos} : JS X W (.Break pos) sBk := ⟨_, ps_break, fun G F ι L σl σ H D s q => q F ι H σ (Ext.refl _ _) s⟩
theorem js_continue {pos : Pos} : JS X W (.Continue pos) sCt := ⟨_, ps_continue, fun G F ι L σl σ H D s q => q F ι H σ (Ext.refl _ _) s⟩
/-- the slot i holds v from now on -/
theorem SR.set {GO : Hp} {v : LV} {u : V} {i : Nat} (s : SR K mg GO G F ι L σl σ H) (h : R0 K mg F ι v u) : SR K mg GO G F ι L (σl.set i (.val v)) (σ.set i (some u)) H := by
  have keep : ∀ (j : Nat) (x : Sl), (σl.set i (.val v))[j]? = some x → (j = i ∧ x = .val v ∧ j < σl.length) ∨ (j ≠ i ∧ σl[j]? = some x) := fun j x e => by
    by_cases hj : j = i
    · subst hj
      have hl : j < σl.length := by
        have := (List.getElem?_eq_some_iff.mp e).1
        simpa using this
      rw [List.getElem?_set_self hl] at e
      exact .inl ⟨rfl, (Option.some.inj e).symm, hl⟩
    · rw [List.getElem?_set_ne (Ne.symm hj)] at e
      exact .inr ⟨hj, e⟩
  refine ⟨s.sub, s.rep, ⟨by rw [List.length_set, List.length_set]; exact s.vr.len, fun j w e => ?_, fun j ws e => ?_⟩, fun j ws a e1 e2 => ?_, fun j k ws xs a e1 e2 e3 e4 => ?_⟩
  · rcases keep j _ e with ⟨rfl, e1, hl⟩ | ⟨hj, e1⟩
    · cases e1
      exact ⟨u, List.getElem?_set_self (by rw [← s.vr.len]; exact hl), h⟩
    · rw [List.getElem?_set_ne (Ne.symm hj)]
      exact s.vr.val j w e1
  · rcases keep j _ e with ⟨rfl, e1, hl⟩ | ⟨hj, e1⟩
    · cases e1
    · rw [List.getElem?_set_ne (Ne.symm hj)]
      exact s.vr.own j ws e1
  · rcases keep j _ e1 with ⟨rfl, z, hl⟩ | ⟨hj, z⟩
    · cases z
    · rw [List.getElem?_set_ne (Ne.symm hj)] at e2
      exact s.fr j ws a z e2
  · rcases keep j _ e1 with ⟨rfl, z, hl⟩ | ⟨hj, z⟩
    · cases z
    · rcases keep k _ e2 with ⟨rfl, z', hl⟩ | ⟨hk, z'⟩
      · cases z'
      · rw [List.getElem?_set_ne (Ne.symm hj)] at e3
        rw [List.getElem?_set_ne (Ne.symm hk)] at e4
        exact s.dis j k ws xs a z z' e3 e4
/-- .. or an object of its own, at p -/
theorem SR.setOwn {GO : Hp} {o : LO} {w : HO} {p : Addr} {i : Nat} (s : SR K mg GO G F ι L σl σ H) (hp : H p = some w) (h1 : GO p = none) (h2 : F p = none) (h3 : ∀ n : Nat, ι[n]? ≠ some p) (h : RO K mg F ι (upd GO p w) p o) :
    SR K mg (upd GO p w) G F ι L (σl.set i (.own o)) (σ.set i (some (.ref p))) H := by
  have keep : ∀ (j : Nat) (x : Sl), (σl.set i (.own o))[j]? = some x → (j = i ∧ x = .own o ∧ j < σl.length) ∨ (j ≠ i ∧ σl[j]? = some x) := fun j x e => by
    by_cases hj : j = i
    · subst hj
      have hl : j < σl.length := by
        have := (List.getElem?_eq_some_iff.mp e).1
        simpa using this
      rw [List.getElem?_set_self hl] at e
      exact .inl ⟨rfl, (Option.some.inj e).symm, hl⟩
    · rw [List.getElem?_set_ne (Ne.symm hj)] at e
      exact .inr ⟨hj, e⟩
  have gp : G p = none := by
    cases e : G p with
    | none => rfl
    | some o => rw [s.sub p o e] at h1; cases h1
  have old : ∀ (j : Nat) (ws : LO), σl[j]? = some (.own ws) → σ[j]? ≠ some (some (.ref p)) := fun j ws e q => by
    obtain ⟨a, z1, z2⟩ := s.vr.own j ws e
    rw [q] at z1
    cases z1
    obtain ⟨u, z3⟩ := z2.there
    rw [h1] at z3
    cases z3
  have neG : ∀ a o, GO a = some o → a ≠ p := fun a o e z => by rw [z, h1] at e; cases e
  refine ⟨fun a o e => by rw [upd_ne (neG a o (s.sub a o e))]; exact s.sub a o e, ⟨s.rep.f, fun a o e => ?_, fun a o e => ?_, s.rep.len, s.rep.inj, fun n a e => ⟨(s.rep.nf n a e).1, ?_⟩, s.rep.obj⟩,
    ⟨by rw [List.length_set, List.length_set]; exact s.vr.len, fun j w e => ?_, fun j ws e => ?_⟩, fun j ws a e1 e2 => ?_, fun j k ws xs a e1 e2 e3 e4 => ?_⟩
  · by_cases z : a = p
    · rw [z, upd_same] at e; cases e; rw [z]; exact hp
    · rw [upd_ne z] at e; exact s.rep.g a o e
  · by_cases z : a = p
    · rw [z]; exact h2
    · rw [upd_ne z] at e; exact s.rep.gf a o e
  · rw [upd_ne (fun z => h3 n (by rw [← z]; exact e))]
    exact (s.rep.nf n a e).2
  · rcases keep j _ e with ⟨rfl, e1, hl⟩ | ⟨hj, e1⟩
    · cases e1
    · rw [List.getElem?_set_ne (Ne.symm hj)]
      exact s.vr.val j w e1
  · rcases keep j _ e with ⟨rfl, e1, hl⟩ | ⟨hj, e1⟩
    · cases e1
      exact ⟨p, List.getElem?_set_self (by rw [← s.vr.len]; exact hl), h⟩
    · obtain ⟨a, z1, z2⟩ := s.vr.own j ws e1
      refine ⟨a, by rw [List.getElem?_set_ne (Ne.symm hj)]; exact z1, z2.mono (Ext.refl _ _) fun u z => ?_⟩
      rw [upd_ne (neG a _ z)]
      exact z
  · rcases keep j _ e1 with ⟨rfl, z, hl⟩ | ⟨hj, z⟩
    · rw [List.getElem?_set_self (by rw [← s.vr.len]; exact hl)] at e2
      cases e2
      exact gp
    · rw [List.getElem?_set_ne (Ne.symm hj)] at e2
      exact s.fr j ws a z e2
  · rcases keep j _ e1 with ⟨rfl, z, hl⟩ | ⟨hj, z⟩
    · rcases keep k _ e2 with ⟨rfl, z', hl'⟩ | ⟨hk, z'⟩
      · rfl
      · rw [List.getElem?_set_self (by rw [← s.vr.len]; exact hl)] at e3
        cases e3
        rw [List.getElem?_set_ne (Ne.symm hk)] at e4
        exact absurd e4 (old k xs z')
    · rcases keep k _ e2 with ⟨rfl, z', hl'⟩ | ⟨hk, z'⟩
      · rw [List.getElem?_set_self (by rw [← s.vr.len]; exact hl')] at e4
        cases e4
        rw [List.getElem?_set_ne (Ne.symm hj)] at e3
        exact absurd e3 (old j ws z)
      · rw [List.getElem?_set_ne (Ne.symm hj)] at e3
        rw [List.getElem?_set_ne (Ne.symm hk)] at e4
        exact s.dis j k ws xs a z z' e3 e4
/-- the slot's own object is another one now -/
theorem SR.putOwn {GO : Hp} {o o' : LO} {w : HO} {a : Addr} {i : Nat} (s : SR K mg GO G F ι L σl σ H) (e : σl[i]? = some (.own o)) (ea : σ[i]? = some (some (.ref a))) (h : RO K mg F ι (upd GO a w) a o') :
    SR K mg (upd GO a w) G F ι L (σl.set i (.own o')) σ (upd H a w) := by
  obtain ⟨a', ea', ro⟩ := s.vr.own i o e
  rw [ea] at ea'
  cases ea'
  obtain ⟨u, ga⟩ := ro.there
  have hG : G a = none := s.fr i o a e ea
  have fa : F a = none := s.rep.gf a _ ga
  have na : ∀ n : Nat, ι[n]? ≠ some a := fun n q => by rw [(s.rep.nf n a q).2] at ga; cases ga
  have keep : ∀ (j : Nat) (x : Sl), (σl.set i (.own o'))[j]? = some x → (j = i ∧ x = .own o') ∨ (j ≠ i ∧ σl[j]? = some x) := fun j x e => by
    by_cases hj : j = i
    · subst hj
      have hl : j < σl.length := by
        have := (List.getElem?_eq_some_iff.mp e).1
        simpa using this
      rw [List.getElem?_set_self hl] at e
      exact .inl ⟨rfl, (Option.some.inj e).symm⟩
    · rw [List.getElem?_set_ne (Ne.symm hj)] at e
      exact .inr ⟨hj, e⟩
  refine ⟨fun b q hq => by rw [upd_ne (fun z => by rw [z, hG] at hq; cases hq)]; exact s.sub b q hq, ⟨fun b q hq => ?_, fun b q hq => ?_, fun b q hq => ?_, s.rep.len, s.rep.inj, fun n b q => ⟨(s.rep.nf n b q).1, ?_⟩, fun n b q q1 q2 => (s.rep.obj n b q q1 q2).mono (Ext.refl _ _) fun u hu => ?_⟩,
    ⟨by rw [List.length_set]; exact s.vr.len, fun j v q => ?_, fun j v q => ?_⟩, fun j v b q1 q2 => ?_, fun j k v v' b q1 q2 q3 q4 => ?_⟩
  · rw [upd_ne (fun z => by rw [z, fa] at hq; cases hq)]; exact s.rep.f b q hq
  · by_cases z : b = a
    · rw [z, upd_same] at hq ⊢; exact hq
    · rw [upd_ne z] at hq ⊢; exact s.rep.g b q hq
  · by_cases z : b = a
    · rw [z]; exact fa
    · rw [upd_ne z] at hq; exact s.rep.gf b q hq
  · rw [upd_ne (fun z => na n (by rw [← z]; exact q))]; exact (s.rep.nf n b q).2
  · rw [upd_ne (fun z => na n (by rw [← z]; exact q1))]; exact hu
  · rcases keep j _ q with ⟨rfl, e1⟩ | ⟨hj, e1⟩
    · cases e1
    · exact s.vr.val j v e1
  · rcases keep j _ q with ⟨rfl, e1⟩ | ⟨hj, e1⟩
    · cases e1; exact ⟨a, ea, h⟩
    · obtain ⟨b, z1, z2⟩ := s.vr.own j v e1
      refine ⟨b, z1, z2.mono (Ext.refl _ _) fun u z => ?_⟩
      rw [upd_ne (fun y => hj (s.dis j i v o a e1 e (by rw [← y]; exact z1) ea))]
      exact z
  · rcases keep j _ q1 with ⟨rfl, e1⟩ | ⟨hj, e1⟩
    · exact s.fr j o b e q2
    · exact s.fr j v b e1 q2
  · rcases keep j _ q1 with ⟨rfl, e1⟩ | ⟨hj, e1⟩
    · rcases keep k _ q2 with ⟨rfl, e2⟩ | ⟨hk, e2⟩
      · rfl
      · exact s.dis j k o v' b e e2 q3 q4
    · rcases keep k _ q2 with ⟨rfl, e2⟩ | ⟨hk, e2⟩
      · exact s.dis j k v o b e1 e q3 q4
      · exact s.dis j k v v' b e1 e2 q3 q4
def sSet (i : Nat) (m : ME) : MS := fun σ L => lift (m σ L) σ fun v L1 => if clean v = true then .nx (σ.set i (.val v)) L1 else .no
theorem sim_set {i : Nat} {te : TE} {m : ME} (h : SimE K mg W te m) : SimS K mg W (tAsg te (gName i)) (sSet i m) := by
  intro G F ι L σl σ H D s q
  obtain ⟨GO, s⟩ := s
  refine h _ _ _ _ _ _ _ _ s.rep s.vr ((PstS.lift s q).imp fun v F1 ι1 L1 H1 x1 rp1 q1 u ru => ?_)
  split at q1
  · rename_i hc
    exact q1 F1 ι1 H1 _ (Ext.refl _ _) ⟨GO, (s.ext x1 rp1).set (ru.clean hc)⟩
  · exact q1.elim
theorem js_set (i : Nat) {x : Str} {e : Expr} {m : ME} {pos pos' : Pos} (hN : X.N.Nodup) (h : JE X W e m) (hi : X.N[i]? = some x := by rfl) (hx : Loc X.env.scope x := by first | exact Or.inl rfl | exact Or.inr rfl) (hs : swapsWith e (some (.Name x pos')) pos.line X.env = pure false := by rfl) (hf : X.fn x = true ∨ X.env.scope.names.lookup x = some .local := by first | exact .inl rfl | exact .inr rfl | assumption) :
    JS X W (.Assign [.Name x pos'] e pos) (sSet i m) := let ⟨_, p, s⟩ := h; ⟨_, ps_set hN hi hx p hs hf, sim_set s⟩
/-- a new list into the slot, its own -/
def sOwn (i : Nat) (m : MA) : MS := fun σ L => lift (m σ L) σ fun vs L1 => .nx (σ.set i (.own (.lst vs))) L1
theorem sim_own {i : Nat} {te : TE} {m : MA} (h : SimN K mg W te m) : SimS K mg W (tAsg te (gName i)) (sOwn i m) := by
  intro G F ι L σl σ H D s q
  obtain ⟨GO, s⟩ := s
  refine h _ _ _ _ _ _ _ _ s.rep s.vr ((PstS.lift s q).imp fun vs F1 ι1 L1 H1 x1 rp1 q1 p us e1 e2 e3 e4 e5 => ?_)
  exact q1 F1 ι1 H1 _ (Ext.refl _ _) ⟨_, (s.ext x1 rp1).setOwn e1 e2 e3 e4 (.lst upd_same e5)⟩
theorem js_own (i : Nat) {x : Str} {e : Expr} {m : MA} {pos pos' : Pos} (hN : X.N.Nodup) (h : JN X W e m) (hi : X.N[i]? = some x := by rfl) (hx : Loc X.env.scope x := by first | exact Or.inl rfl | exact Or.inr rfl) (hs : swapsWith e (some (.Name x pos')) pos.line X.env = pure false := by rfl) (hf : X.fn x = true ∨ X.env.scope.names.lookup x = some .local := by first | exact .inl rfl | exact .inr rfl | assumption) :
    JS X W (.Assign [.Name x pos'] e pos) (sOwn i m) := let ⟨_, p, s⟩ := h; ⟨_, ps_set hN hi hx p hs hf, sim_own s⟩
def sDrop (m : ME) : MS := fun σ L => lift (m σ L) σ fun _ L1 => .nx σ L1
theorem sim_drop {te : TE} {m : ME} (h : SimE K mg W te m) : SimS K mg W (tDrop te) (sDrop m) := by
  intro G F ι L σl σ H D s q
  obtain ⟨GO, s⟩ := s
  exact h _ _ _ _ _ _ _ _ s.rep s.vr ((PstS.lift s q).imp fun v F1 ι1 L1 H1 x1 rp1 q1 u ru => q1 F1 ι1 H1 _ (Ext.refl _ _) ⟨GO, s.ext x1 rp1⟩)
theorem js_expr {e : Expr} {m : ME} {pos : Pos} (h : JE X W e m) (hs : swapsWith e none pos.line X.env = pure false := by rfl) : JS X W (.Expr e pos) (sDrop m) := let ⟨_, p, s⟩ := h; ⟨_, ps_expr p hs, sim_drop s⟩
/-- an object as a value that is never written -/
def frzO : LO → Option LV
  | .lst vs => some (.lst vs)
  | .ins c ns vs => some (.ins c ns vs)
  | _ => none
theorem frzO_ok {o : LO} {v : LV} {a : Addr} {u : HO} (h : RO K mg F ι H a o) (e : frzO o = some v) (hu : H a = some u) (x : Ext F ι (upd F a u) ι) : R0 K mg (upd F a u) ι v (.ref a) := by
  cases h with
  | lst h1 h2 => cases e; rw [hu] at h1; cases h1; exact .lst upd_same (h2.mono x)
  | ins h1 h2 h3 h4 => cases e; rw [hu] at h2; cases h2; exact .ins h1 upd_same h3 (h4.mono x)
  | dic h1 h2 h3 => cases e
/-- a slot's own object, from now on never written -/
def frzSlot (i : Nat) (σ : SL) : SL := match σ[i]? with
  | some (.own o) => match frzO o with
    | some v => σ.set i (.val v)
    | none => σ
  | _ => σ
theorem SR.frz {GO : Hp} {o : LO} {v : LV} {i : Nat} (s : SR K mg GO G F ι L σl σ H) (h : σl[i]? = some (.own o)) (hv : frzO o = some v) : ∃ GO' F', Ext F ι F' ι ∧ SR K mg GO' G F' ι L (σl.set i (.val v)) σ H := by
  obtain ⟨a, h1, h2⟩ := s.vr.own i o h
  obtain ⟨u, ga⟩ := h2.there
  have hG : G a = none := s.fr i o a h h1
  have fa : F a = none := s.rep.gf a _ ga
  have na : ∀ n : Nat, ι[n]? ≠ some a := fun n e => by rw [(s.rep.nf n a e).2] at ga; cases ga
  -- GO without a
  let GO' : Hp := fun b => if b = a then none else GO b
  have go : ∀ b o, GO' b = some o → GO b = some o ∧ b ≠ a := fun b o e => by
    by_cases z : b = a
    · rw [show GO' b = none from if_pos z] at e; cases e
    · rw [show GO' b = GO b from if_neg z] at e; exact ⟨e, z⟩
  have go' : ∀ b o, GO b = some o → b ≠ a → GO' b = some o := fun b o e z => by rw [show GO' b = GO b from if_neg z]; exact e
  have r1 : Rep K mg GO' F ι L H := s.rep.sub fun b o e => (go b o e).1
  obtain ⟨r2, x⟩ := r1.freeze (s.rep.g a _ ga) fa (if_pos rfl) na
  have keep : ∀ (j : Nat) (y : Sl), (σl.set i (.val v))[j]? = some y → (j = i ∧ y = .val v) ∨ (j ≠ i ∧ σl[j]? = some y) := fun j y e => by
    by_cases hj : j = i
    · subst hj
      have hl : j < σl.length := by
        have := (List.getElem?_eq_some_iff.mp e).1
        simpa using this
      rw [List.getElem?_set_self hl] at e
      exact .inl ⟨rfl, (Option.some.inj e).symm⟩
    · rw [List.getElem?_set_ne (Ne.symm hj)] at e
      exact .inr ⟨hj, e⟩
  refine ⟨GO', _, x, fun b o e => go' b o (s.sub b o e) (fun z => by rw [z, hG] at e; cases e), r2, ⟨by rw [List.length_set]; exact s.vr.len, fun j w e => ?_, fun j ws e => ?_⟩, fun j ws b e1 e2 => ?_, fun j k ws xs b e1 e2 e3 e4 => ?_⟩
  · rcases keep j _ e with ⟨rfl, e1⟩ | ⟨hj, e1⟩
    · cases e1
      exact ⟨_, h1, frzO_ok h2 hv ga x⟩
    · obtain ⟨u, z1, z2⟩ := s.vr.val j w e1
      exact ⟨u, z1, z2.mono x⟩
  · rcases keep j _ e with ⟨rfl, e1⟩ | ⟨hj, e1⟩
    · cases e1
    · obtain ⟨b, z1, z2⟩ := s.vr.own j ws e1
      have nb : b ≠ a := fun z => hj (s.dis j i ws o a e1 h (by rw [← z]; exact z1) h1)
      exact ⟨b, z1, z2.mono x fun u hu => go' b _ hu nb⟩
  · rcases keep j _ e1 with ⟨rfl, z⟩ | ⟨hj, z⟩
    · cases z
    · exact s.fr j ws b z e2
  · rcases keep j _ e1 with ⟨rfl, z⟩ | ⟨hj, z⟩
    · cases z
    · rcases keep k _ e2 with ⟨rfl, z'⟩ | ⟨hk, z'⟩
      · cases z'
      · exact s.dis j k ws xs b z z' e3 e4
/-- ghost: the slot i's list is frozen ahead of the statement -/
def sFrz (i : Nat) (m : MS) : MS := fun σ L => m (frzSlot i σ) L
theorem js_frz (i : Nat) {st : Stmt} {m : MS} (h : JS X W st m) : JS X W st (sFrz i m) := by
  obtain ⟨t, p, s⟩ := h
  refine ⟨t, p, ?_⟩
  intro G F ι L σl σ H D sr q
  unfold sFrz frzSlot at q
  split at q
  · rename_i o e
    split at q
    · rename_i v ev
      obtain ⟨GO, sr⟩ := sr
      obtain ⟨GO', F', x, sr'⟩ := sr.frz e ev
      exact s _ _ _ _ _ _ _ _ ⟨GO', sr'⟩ (q.ext x)
    · exact s _ _ _ _ _ _ _ _ sr q
  · exact s _ _ _ _ _ _ _ _ sr q
def sRet (m : ME) : MS := fun σ L => lift (m σ L) σ fun v L1 => if clean v = true then .rt v L1 else .no
theorem js_ret {e : Expr} {m : ME} {pos : Pos} (h : JE X W e m) : JS X W (.Return (some e) pos) (sRet m) := by
  obtain ⟨t, p, s⟩ := h
  refine ⟨_, ps_ret p, ?_⟩
  intro G F ι L σl σ H D sr q
  obtain ⟨GO, sr⟩ := sr
  refine s _ _ _ _ _ _ _ _ sr.rep sr.vr ((PstS.lift sr q).imp fun v F1 ι1 L1 H1 x1 rp1 q1 u ru => ?_)
  split at q1
  · rename_i hc
    exact q1 F1 ι1 H1 u (Ext.refl _ _) (rp1.sub sr.sub) (ru.clean hc)
  · exact q1.elim
def sRetN : MS := fun _ L => .rt .non L
theorem js_retN {pos : Pos} : JS X W (.Return none pos) sRetN := ⟨_, ps_retN, fun G F ι L σl σ H D ⟨GO, s⟩ q => q F ι H _ (Ext.refl _ _) (s.rep.sub s.sub) .non⟩
def sIf (t : MT) (a b : MS) : MS := fun σ L => lift (t σ L) σ fun c L1 => if c = true then a σ L1 else b σ L1
theorem js_if {c : Expr} {p q : List Stmt} {pos : Pos} {t : MT} {a b : MS} (hc : JT X W c t) (ha : JSs X W p a) (hb : JSs X W q b) : JS X W (.If c p q pos) (sIf t a b) := by
  obtain ⟨tc, pc, sc⟩ := hc
  obtain ⟨ta, pa, sa⟩ := ha
  obtain ⟨tb, pb, sb⟩ := hb
  refine ⟨_, ps_if pc pa pb, ?_⟩
  intro G F ι L σl σ H D sr q
  obtain ⟨GO, sr⟩ := sr
  refine sc _ _ _ _ _ _ _ _ sr.rep sr.vr ((PstS.lift sr q).imp fun v F1 ι1 L1 H1 x1 rp1 q1 => ?_)
  cases v with
  | true => exact sa _ _ _ _ _ _ _ _ ⟨GO, sr.ext x1 rp1⟩ q1
  | false => exact sb _ _ _ _ _ _ _ _ ⟨GO, sr.ext x1 rp1⟩ q1
/-- a statement that is never reached -/
def sNever : MS := fun _ _ => .no
theorem js_never {st : Stmt} : JS X W st sNever := ⟨_, ps_never, fun G F ι L σl σ H D s q => q.elim⟩
theorem js_nevers {st : List Stmt} : JSs X W st sNever := ⟨_, pss_never, fun G F ι L σl σ H D s q => q.elim⟩
/-- o[i] = e, o a list that the mirror holds -/
def sItem (mo mi me : ME) : MS := fun σ L => lift ((me σ L).bind fun v L1 => (mo σ L1).bind fun o L2 => (mi σ L2).bind fun i L3 => if clean v = true then (match o, i with
  | .ref n, .int k => match L3[n]? with
    | some (.lst vs) => match ixN vs.length k with
      | some j => .ok () (L3.set n (.lst (vs.set j v)))
      | none => .no
    | _ => .no
  | _, _ => .no) else .no) σ fun _ L4 => .nx σ L4
theorem js_item {o i e : Expr} {pos pos' : Pos} {mo mi me : ME} (ho : JE X W o mo) (hi : JE X W i mi) (he : JE X W e me) (ha : ∀ v, assign (.Subscript o i pos') X.env v = (do
      let ov ← holding [v] (eval o X.env)
      let iv ← holding [v, ov] (eval i X.env)
      standAt pos'
      holding [v, ov, iv] (setItem ov iv v)
      release [v, ov, iv] []) := by intro _; rfl) (hs : swapsWithSole [.Subscript o i pos'] e pos.line X.env = pure false := by rfl) (hw : swappedStores [.Subscript o i pos'] e X.env = pure none := by rfl)
    (h1 : (assignEach [.Subscript o i pos'] X.env).map (·.2) = [assign (.Subscript o i pos') X.env] := by rfl) : JS X W (.Assign [.Subscript o i pos'] e pos) (sItem mo mi me) := by
  obtain ⟨to, po, so⟩ := ho
  obtain ⟨ti, pi, si⟩ := hi
  obtain ⟨te, pe, se⟩ := he
  refine ⟨_, ps_asg pe (pg_sub po pi set_list ha) hs hw h1, ?_⟩
  intro G F ι L σl σ H D sr q
  obtain ⟨GO, sr⟩ := sr
  have q0 := PstS.lift sr q
  refine se _ _ _ _ _ _ _ _ sr.rep sr.vr ((Pst.bind q0).imp fun v F1 ι1 L1 H1 x1 rp1 q1 u ru => ?_)
  refine so _ _ _ _ _ _ _ _ rp1 (sr.vr.mono x1) ((Pst.bind q1).imp fun ov F2 ι2 L2 H2 x2 rp2 q2 uo ruo => ?_)
  refine si _ _ _ _ _ _ _ _ rp2 ((sr.vr.mono x1).mono x2) ((Pst.bind q2).imp fun iv F3 ι3 L3 H3 x3 rp3 q3 ui rui => ?_)
  split at q3
  · rename_i hc
    split at q3
    · rename_i n k
      split at q3
      · rename_i vs e
        split at q3
        · rename_i j ej
          cases ruo with
          | r0 ruo =>
            cases ruo with
            | ref h1 =>
              cases rui with
              | r0 rui =>
                cases rui
                have h3 := x3.pre _ _ h1
                cases rp3.obj _ _ _ h3 e with
                | lst z1 z2 =>
                  refine ⟨_, _, k, j, rfl, rfl, z1, by rw [← z2.length]; exact ej, ?_⟩
                  have r0 := ((ru.mono x2).mono x3).clean hc
                  have rw := rp3.write h3 (o := .lst (vs.set j v)) (.lst upd_same (z2.set r0 j))
                  exact q3 F3 ι3 _ (Ext.refl _ _) rw F3 ι3 _ σ (Ext.refl _ _) ⟨GO, sr.ext ((x1.trans x2).trans x3) rw⟩
        · exact q3.elim
      · exact q3.elim
    · exact q3.elim
  · exact q3.elim
end
end Z
namespace Z
open PySem PySem.Spec L2
section
variable {X : Cx} {W : WX} {K : PySem.W.Frag} {mg : Str → Option Value} {G F H : Hp} {ι : List Addr} {L : LH} {σ : St} {σl : SL}

/-! ### what is walked -/
def ItOk (K : PySem.W.Frag) (mg : Str → Option Value) (F : Hp) (ι : List Addr) (J : It) (vs : List LV) : Prop := ∀ (G F2 : Hp) (ι2 : List Addr) (L2 : LH) (H2 : Hp), Ext F ι F2 ι2 → Rep K mg G F2 ι2 L2 H2 →
  J.stop vs.length H2 ∧ ∀ (i : Nat) (v : LV), vs[i]? = some v → J.go i H2 ∧ ∀ x H3, J.yld i H2 x H3 → ∃ F3 ι3, Ext F2 ι2 F3 ι3 ∧ Rep K mg G F3 ι3 L2 H3 ∧ R0 K mg F3 ι3 v x
def SimI (K : PySem.W.Frag) (mg : Str → Option Value) (W : WX) (wi : TI) (m : MA) : Prop := ∀ (G F : Hp) (ι : List Addr) (L : LH) (H : Hp) (σl : SL) (σ : St) (R : It → Hp → Prop), Rep K mg G F ι L H → VR K mg G F ι σl σ →
  Pst K mg G F ι (m σl L) (fun vs F' ι' L' H' => ∀ J, ItOk K mg F' ι' J vs → R J H') (fun c d H' => W c d σ H') → wi σ H R
def JI (X : Cx) (W : WX) (tg iter : Expr) (m : MA) : Prop := ∃ wi, PI X tg iter wi ∧ SimI X.K X.mg W wi m
/-- lists, tuples, texts -/
def iAny (K : PySem.W.Frag) (tl : TE) : TI := fun σ H R => tl σ H fun x H1 => (∃ a, x = .ref a ∧ (∃ xs, SqL K H1 a xs) ∧ R (Itl K a) H1) ∨ (∃ a, x = .ref a ∧ (∃ xs, SqT K H1 a xs) ∧ R (Itt K a) H1) ∨ ∃ z, x = .str z ∧ R (Its z) H1
theorem pi_any {tg l : Expr} {tl : TE} (hl : PE X l tl) : PI X tg l (iAny X.K tl) := by
  refine ⟨fun pins s σ H R I h => thn (hl.run pins s σ H _ I h) fun v s1 ⟨x, H1, I1, r1, q1⟩ => ?_⟩
  have top : ∀ b, b ∈ [s1.heap.objs.size] → FpOk X pins H1 b := fun b hb => by
    rw [show b = s1.heap.objs.size by simpa using hb]
    exact I1.fpOk (Nat.le_refl _) I1.fresh
  rcases q1 with ⟨a, rfl, ⟨xs, hq⟩, q⟩ | ⟨a, rfl, ⟨xs, hq⟩, q⟩ | ⟨z, rfl, q⟩
  · cases r1
    obtain ⟨its, rv, p, hz⟩ := I1.list hq
    exact wpAny_pyIter_list p.isList ⟨s1.heap.objs.size, [s1.heap.objs.size], _, Itl X.K a, H1, rfl, I1.kept (t' := s1.toks) (fun b o e => Heap.get?_push_of_some _ e), turn_list a _, ⟨_, Heap.get?_push_size _ rfl, rfl, rfl⟩, top, q⟩
  · cases r1
    obtain ⟨its, rv, p, hz⟩ := I1.tuple hq
    exact wpAny_pyIter_tuple (show s1.heap.IsTuple a its.toArray from p) ⟨s1.heap.objs.size, [s1.heap.objs.size], _, Itt X.K a, H1, rfl, I1.kept (t' := s1.toks) (fun b o e => Heap.get?_push_of_some _ e), turn_tuple a _, ⟨_, Heap.get?_push_size _ rfl, rfl, rfl⟩, top, q⟩
  · obtain ⟨t, rfl⟩ := r1
    cases ha : z.cps.all (· < 128) with
    | true => exact wpAny_pyIter_ascii ha (pi_one (tk := s1.toks) I1 _ (turn_str _ z t "str_ascii_iterator" (.inl rfl)) ⟨_, Heap.get?_push_size _ rfl, rfl, rfl⟩ q)
    | false => exact wpAny_pyIter_wide ha (pi_one (tk := s1.toks) I1 _ (turn_str _ z t "str_iterator" (.inr rfl)) ⟨_, Heap.get?_push_size _ rfl, rfl, rfl⟩ q)
theorem at_len {vs : List LV} {us : List V} {i : Nat} {v : LV} (h : Rs0 K mg F ι vs us) (e : vs[i]? = some v) : i < us.length := by
  rw [← h.length]
  exact (List.getElem?_eq_some_iff.mp e).1
theorem itok_list {a : Addr} {vs : List LV} {us : List V} (h : SqL K F a us) (r : Rs0 K mg F ι vs us) : ItOk K mg F ι (Itl K a) vs := by
  intro G F2 ι2 L2 H2 x rp
  have h2 : SqL K H2 a us := Sub.sqL rp.f (Sub.sqL x.sub h)
  refine ⟨⟨us, h2, Nat.le_of_eq r.length.symm⟩, fun i v e => ⟨?_, fun y H3 q => ?_⟩⟩
  · exact ⟨us, us[i]'(at_len r e), h2, List.getElem?_eq_getElem (at_len r e)⟩
  · obtain ⟨rfl, q⟩ := q
    obtain ⟨u, e1, e2⟩ := r.get e
    have q2 := q us h2
    rw [e1] at q2
    cases Option.some.inj q2
    exact ⟨F2, ι2, Ext.refl _ _, rp, e2.mono x⟩
theorem itok_tup {a : Addr} {vs : List LV} {us : List V} (h : SqT K F a us) (r : Rs0 K mg F ι vs us) : ItOk K mg F ι (Itt K a) vs := by
  intro G F2 ι2 L2 H2 x rp
  have h2 : SqT K H2 a us := Sub.sqT rp.f (Sub.sqT x.sub h)
  refine ⟨⟨us, h2, Nat.le_of_eq r.length.symm⟩, fun i v e => ⟨?_, fun y H3 q => ?_⟩⟩
  · exact ⟨us, us[i]'(at_len r e), h2, List.getElem?_eq_getElem (at_len r e)⟩
  · obtain ⟨rfl, q⟩ := q
    obtain ⟨u, e1, e2⟩ := r.get e
    have q2 := q us h2
    rw [e1] at q2
    cases Option.some.inj q2
    exact ⟨F2, ι2, Ext.refl _ _, rp, e2.mono x⟩
def signs (z : Str) : List LV := z.cps.toList.map fun c => .str ⟨#[c]⟩
theorem itok_str {z : Str} : ItOk K mg F ι (Its z) (signs z) := by
  intro G F2 ι2 L2 H2 x rp
  refine ⟨by show z.cps.size ≤ (signs z).length; unfold signs; simp, fun i v e => ?_⟩
  unfold signs at e
  rw [List.getElem?_map] at e
  cases ec : z.cps.toList[i]? with
  | none => rw [ec] at e; cases e
  | some c =>
    rw [ec] at e
    cases Option.some.inj e
    have ec' : z.cps[i]? = some c := by simpa using ec
    refine ⟨(Array.getElem?_eq_some_iff.mp ec').1, fun y H3 q => ?_⟩
    obtain ⟨rfl, c', e1, rfl⟩ := q
    rw [ec'] at e1
    cases Option.some.inj e1
    exact ⟨F2, ι2, Ext.refl _ _, rp, .str⟩
/-- the items of a frozen thing -/
def itemsOf : LV → Option (List LV)
  | .lst vs => some vs
  | .rdl vs => some vs
  | .tup vs => some vs
  | .str z => some (signs z)
  | _ => none
def iA (m : ME) : MA := fun σ L => (m σ L).bind fun v L1 => match itemsOf v with
  | some vs => .ok vs L1
  | none => .no
theorem ji_any {tg l : Expr} {m : ME} (h : JE X W l m) : JI X W tg l (iA m) := by
  obtain ⟨t, p, s⟩ := h
  refine ⟨_, pi_any p, ?_⟩
  intro G F ι L H σl σ R rp vr q
  refine s _ _ _ _ _ _ _ _ rp vr ((Pst.bind q).imp fun v F1 ι1 L1 H1 x1 rp1 q1 u ru => ?_)
  unfold itemsOf at q1
  cases ru with
  | loc e => exact q1.elim
  | r0 ru =>
    cases ru with
    | lst h1 h2 => exact .inl ⟨_, rfl, ⟨_, .of (rp1.f _ _ h1)⟩, q1.ok rp1 _ (itok_list (.of h1) h2)⟩
    | rdl h1 h2 => exact .inl ⟨_, rfl, ⟨_, Sub.sqL rp1.f h1⟩, q1.ok rp1 _ (itok_list h1 h2)⟩
    | tup h1 h2 => exact .inr (.inl ⟨_, rfl, ⟨_, Sub.sqT rp1.f h1⟩, q1.ok rp1 _ (itok_tup h1 h2)⟩)
    | str => exact .inr (.inr ⟨_, rfl, q1.ok rp1 _ itok_str⟩)
    | _ => exact q1.elim
/-- range(j), range(i, j) -/
def rng (lo : Int) (n : Nat) : List LV := (List.range n).map fun (i : Nat) => LV.int (lo + (i : Int))
theorem itok_range {lo : Int} {n : Nat} : ItOk K mg F ι (Itr lo n) (rng lo n) := by
  intro G F2 ι2 L2 H2 x rp
  refine ⟨by show n ≤ (rng lo n).length; unfold rng; simp, fun i v e => ?_⟩
  have hl : i < n := by
    have := (List.getElem?_eq_some_iff.mp e).1
    unfold rng at this
    simpa using this
  unfold rng at e
  rw [List.getElem?_map, List.getElem?_range hl] at e
  cases Option.some.inj e
  refine ⟨hl, fun y H3 q => ?_⟩
  obtain ⟨rfl, rfl⟩ := q
  exact ⟨F2, ι2, Ext.refl _ _, rp, .int⟩
def iR1 (m : MA) : MA := fun σ L => (m σ L).bind fun vs L1 => match vs with
  | [.int j] => if -(2 ^ 62) ≤ j ∧ j < 2 ^ 62 then .ok (rng 0 j.toNat) L1 else .no
  | _ => .no
def iR2 (m : MA) : MA := fun σ L => (m σ L).bind fun vs L1 => match vs with
  | [.int i, .int j] => if -(2 ^ 62) ≤ i ∧ i < 2 ^ 62 ∧ -(2 ^ 62) ≤ j ∧ j < 2 ^ 62 then .ok (rng i (j - i).toNat) L1 else .no
  | _ => .no
theorem ji_range1 {tg a : Expr} {p pos : Pos} {m : MA} (hm : X.mg "range" = none) (ha : JA X W [a] m) (hg : Gl X "range" := by rfl) (hs : starEach [a] X.env = [(false, eval a X.env)] := by rfl) : JI X W tg (.Call (.Name "range" p) [a] [] pos) (iR1 m) := by
  obtain ⟨t, pa, s⟩ := ha
  refine ⟨_, pi_range1 hg hm pa hs, ?_⟩
  intro G F ι L H σl σ R rp vr q
  refine s _ _ _ _ _ _ _ _ rp vr ((Pst.bind q).imp fun vs F1 ι1 L1 H1 x1 rp1 q1 us ru => ?_)
  split at q1
  · split at q1
    · rename_i hz
      cases ru with
      | cons h t =>
        cases t
        cases h with
        | r0 h => cases h; exact ⟨_, rfl, hz.1, hz.2, q1.ok rp1 _ itok_range⟩
    · exact q1.elim
  · exact q1.elim
theorem ji_range2 {tg a b : Expr} {p pos : Pos} {m : MA} (hm : X.mg "range" = none) (ha : JA X W [a, b] m) (hg : Gl X "range" := by rfl) (hs : starEach [a, b] X.env = [(false, eval a X.env), (false, eval b X.env)] := by rfl) (hs2 : starEach [b] X.env = [(false, eval b X.env)] := by rfl) : JI X W tg (.Call (.Name "range" p) [a, b] [] pos) (iR2 m) := by
  obtain ⟨t, pa, s⟩ := ha
  refine ⟨_, pi_range2 hg hm pa hs hs2, ?_⟩
  intro G F ι L H σl σ R rp vr q
  refine s _ _ _ _ _ _ _ _ rp vr ((Pst.bind q).imp fun vs F1 ι1 L1 H1 x1 rp1 q1 us ru => ?_)
  split at q1
  · split at q1
    · rename_i hz
      rw [rv_ints ru]
      exact ⟨_, _, rfl, hz, q1.ok rp1 _ itok_range⟩
    · exact q1.elim
  · exact q1.elim
/-- zip(xs, ys): pairs -/
def pairs : List LV → List LV → List LV
  | x :: xs, y :: ys => .tup [x, y] :: pairs xs ys
  | _, _ => []
theorem pairs_at : ∀ {xs ys : List LV} {i : Nat} {v : LV}, (pairs xs ys)[i]? = some v → ∃ x y, xs[i]? = some x ∧ ys[i]? = some y ∧ v = .tup [x, y]
  | [], _, _, _, e => by simp [pairs] at e
  | _ :: _, [], _, _, e => by simp [pairs] at e
  | x :: xs, y :: ys, 0, v, e => ⟨x, y, rfl, rfl, by simpa [pairs] using e.symm⟩
  | x :: xs, y :: ys, i + 1, v, e => pairs_at (xs := xs) (ys := ys) (i := i) (by simpa [pairs] using e)
theorem pairs_len : ∀ xs ys : List LV, xs.length ≤ (pairs xs ys).length ∨ ys.length ≤ (pairs xs ys).length
  | [], _ => .inl (Nat.zero_le _)
  | _ :: _, [] => .inr (Nat.zero_le _)
  | x :: xs, y :: ys => by
    rcases pairs_len xs ys with h | h
    · exact .inl (Nat.succ_le_succ h)
    · exact .inr (Nat.succ_le_succ h)
theorem itok_zip {a b : Addr} {vs ws : List LV} {us zs : List V} (h : SqL K F a us) (r : Rs0 K mg F ι vs us) (h' : SqL K F b zs) (r' : Rs0 K mg F ι ws zs) : ItOk K mg F ι (Itz K a b) (pairs vs ws) := by
  intro G F2 ι2 L2 H2 x rp
  have h2 : SqL K H2 a us := Sub.sqL rp.f (Sub.sqL x.sub h)
  have h3 : SqL K H2 b zs := Sub.sqL rp.f (Sub.sqL x.sub h')
  refine ⟨⟨us, zs, h2, h3, ?_⟩, fun i v e => ?_⟩
  · rw [← r.length, ← r'.length]
    exact pairs_len vs ws
  · obtain ⟨p, q, e1, e2, rfl⟩ := pairs_at e
    obtain ⟨u, f1, f2⟩ := r.get e1
    obtain ⟨z, f3, f4⟩ := r'.get e2
    refine ⟨⟨us, zs, u, z, h2, h3, f1, f3⟩, fun y H3 q => ?_⟩
    obtain ⟨T, u', z', rfl, hT, rfl, g1, g2⟩ := q
    have k1 := g1 us h2
    have k2 := g2 zs h3
    rw [f1] at k1
    rw [f3] at k2
    cases Option.some.inj k1
    cases Option.some.inj k2
    obtain ⟨r1, x1, z1⟩ := rp.frzT hT (.cons (f2.mono x) (.cons (f4.mono x) .nil))
    exact ⟨_, _, x1, r1, z1⟩
def frzOf : LV → Option (List LV)
  | .lst vs => some vs
  | .rdl vs => some vs
  | _ => none
theorem frzOf_ok {v : LV} {u : V} {vs : List LV} (h : RV K mg σ F ι v u) (e : frzOf v = some vs) : ∃ a us, u = .ref a ∧ SqL K F a us ∧ Rs0 K mg F ι vs us := by
  unfold frzOf at e
  cases h with
  | loc q => cases e
  | r0 h =>
    cases h with
    | lst h1 h2 => cases e; exact ⟨_, _, rfl, .of h1, h2⟩
    | rdl h1 h2 => cases e; exact ⟨_, _, rfl, h1, h2⟩
    | _ => cases e
def iZ (m : MA) : MA := fun σ L => (m σ L).bind fun vs L1 => match vs with
  | [x, y] => match frzOf x, frzOf y with
    | some xs, some ys => .ok (pairs xs ys) L1
    | _, _ => .no
  | _ => .no
theorem ji_zip {e e2 : Expr} {p pos tpos : Pos} {elts : List Expr} {kk : Nat} {m : MA} (hm : X.mg "zip" = none) (ha : JA X W [e, e2] m) (hg : Gl X "zip" := by rfl) (hs : starEach [e, e2] X.env = (false, eval e X.env) :: starEach [e2] X.env := by rfl) (hpl : (backTo pos (starEach [e2] X.env)).any (·.1) = false := by rfl) :
    JI X W (.Tuple elts kk tpos) (.Call (.Name "zip" p) [e, e2] [] pos) (iZ m) := by
  obtain ⟨t, pa, s⟩ := ha
  refine ⟨_, pi_zip hg hm pa hs hpl, ?_⟩
  intro G F ι L H σl σ R rp vr q
  refine s _ _ _ _ _ _ _ _ rp vr ((Pst.bind q).imp fun vs F1 ι1 L1 H1 x1 rp1 q1 us ru => ?_)
  split at q1
  · split at q1
    · rename_i ex ey
      cases ru with
      | cons h t =>
        cases t with
        | cons h' t =>
          cases t
          obtain ⟨a, xs, rfl, k1, k2⟩ := frzOf_ok h ex
          obtain ⟨b, ys, rfl, k3, k4⟩ := frzOf_ok h' ey
          exact ⟨a, b, xs, ys, rfl, Sub.sqL rp1.f k1, Sub.sqL rp1.f k3, q1.ok rp1 _ (itok_zip k1 k2 k3 k4)⟩
    · exact q1.elim
  · exact q1.elim

/-! ### targets -/
def JG (X : Cx) (tg : Expr) (n : LV → SL → Option SL) : Prop := ∃ g, PG X tg g ∧ ∀ (GO G F : Hp) (ι : List Addr) (L : LH) (σl : SL) (σ : St) (H : Hp) (v : LV) (u : V) (k : St → Hp → Prop) (σl' : SL), SR X.K X.mg GO G F ι L σl σ H → R0 X.K X.mg F ι v u → n v σl = some σl' →
  (∀ σ', SR X.K X.mg GO G F ι L σl' σ' H → k σ' H) → g u σ H k
def gN (i : Nat) : LV → SL → Option SL := fun v σ => some (σ.set i (.val v))
theorem jg_name (i : Nat) {x : Str} {pos : Pos} (hN : X.N.Nodup) (hi : X.N[i]? = some x := by rfl) (hx : Loc X.env.scope x := by first | exact Or.inl rfl | exact Or.inr rfl) (hf : X.fn x = true ∨ X.env.scope.names.lookup x = some .local := by first | exact .inl rfl | exact .inr rfl | assumption) : JG X (.Name x pos) (gN i) := by
  refine ⟨_, pg_name hN hi hx hf, ?_⟩
  intro GO G F ι L σl σ H v u k σl' s h e q
  cases e
  exact q _ (s.set h)
def JGs (X : Cx) (tg : List Expr) (n : List LV → SL → Option SL) : Prop := ∃ g, PGs X tg g ∧ ∀ (GO G F : Hp) (ι : List Addr) (L : LH) (σl : SL) (σ : St) (H : Hp) (vs : List LV) (us : List V) (k : St → Hp → Prop) (σl' : SL), SR X.K X.mg GO G F ι L σl σ H → Rs0 X.K X.mg F ι vs us → n vs σl = some σl' →
  (∀ σ', SR X.K X.mg GO G F ι L σl' σ' H → k σ' H) → g us σ H k
def gsNil : List LV → SL → Option SL := fun vs σ => match vs with
  | [] => some σ
  | _ => none
def gsCons (n : LV → SL → Option SL) (ns : List LV → SL → Option SL) : List LV → SL → Option SL := fun vs σ => match vs with
  | v :: vs => (n v σ).bind fun σ1 => ns vs σ1
  | [] => none
theorem jgs_nil : JGs X [] gsNil := by
  refine ⟨_, pgs_nil, ?_⟩
  intro GO G F ι L σl σ H vs us k σl' s h e q
  cases h with
  | nil => cases e; exact ⟨rfl, q _ s⟩
  | cons _ _ => cases e
theorem jgs_cons {e : Expr} {es : List Expr} {n : LV → SL → Option SL} {ns : List LV → SL → Option SL} (h1 : JG X e n) (h2 : JGs X es ns) (hs : (assignEach (e :: es) X.env).map (·.2) = assign e X.env :: (assignEach es X.env).map (·.2) := by rfl) : JGs X (e :: es) (gsCons n ns) := by
  obtain ⟨g, p, s⟩ := h1
  obtain ⟨g', p', s'⟩ := h2
  refine ⟨_, pgs_cons p p' hs, ?_⟩
  intro GO G F ι L σl σ H vs us k σl' sr h e q
  cases h with
  | nil => cases e
  | cons r rr =>
    rename_i v u vs us
    have e : ((n v σl).bind fun σ1 => ns vs σ1) = some σl' := e
    cases e1 : n v σl with
    | none => rw [e1] at e; cases e
    | some σ1 =>
      rw [e1] at e
      exact ⟨_, _, rfl, s _ _ _ _ _ _ _ _ _ _ _ _ sr r e1 fun σ' sr' => s' _ _ _ _ _ _ _ _ _ _ _ _ sr' rr e q⟩
def gT (n : Nat) (ns : List LV → SL → Option SL) : LV → SL → Option SL := fun v σ => match v with
  | .tup vs => if vs.length = n then ns vs σ else none
  | _ => none
theorem jg_tup {es : List Expr} {k n : Nat} {ns : List LV → SL → Option SL} {pos : Pos} (h : JGs X es ns) (hc : X.calm = true := by rfl) (hn : (assignEach es X.env).length = n := by rfl) (hst : (assignEach es X.env).findIdx? (·.1) = none := by rfl) : JG X (.Tuple es k pos) (gT n ns) := by
  obtain ⟨g, p, s⟩ := h
  refine ⟨_, pg_tup hc p hn hst, ?_⟩
  intro GO G F ι L σl σ H v u k σl' sr h e q
  unfold gT at e
  split at e
  · split at e
    · rename_i hl
      cases h with
      | tup h1 h2 => exact ⟨_, _, rfl, Sub.sqT sr.rep.f h1, by rw [← h2.length]; exact hl, s _ _ _ _ _ _ _ _ _ _ _ _ sr h2 e q⟩
    · cases e
  · cases e
def sAsg (m : ME) (n : LV → SL → Option SL) : MS := fun σ L => lift (m σ L) σ fun v L1 => if clean v = true then (match n v σ with
  | some σ1 => .nx σ1 L1
  | none => .no) else .no
theorem js_asg {tg e : Expr} {m : ME} {n : LV → SL → Option SL} {pos : Pos} (h : JE X W e m) (hg : JG X tg n) (hs : swapsWithSole [tg] e pos.line X.env = pure false := by rfl) (hw : swappedStores [tg] e X.env = pure none := by rfl) (h1 : (assignEach [tg] X.env).map (·.2) = [assign tg X.env] := by rfl) : JS X W (.Assign [tg] e pos) (sAsg m n) := by
  obtain ⟨t, p, s⟩ := h
  obtain ⟨g, p', s'⟩ := hg
  refine ⟨_, ps_asg p p' hs hw h1, ?_⟩
  intro G F ι L σl σ H D sr q
  obtain ⟨GO, sr⟩ := sr
  refine s _ _ _ _ _ _ _ _ sr.rep sr.vr ((PstS.lift sr q).imp fun v F1 ι1 L1 H1 x1 rp1 q1 u ru => ?_)
  split at q1
  · rename_i hc
    split at q1
    · rename_i σ1 e1
      exact s' _ _ _ _ _ _ _ _ _ _ _ _ (sr.ext x1 rp1) (ru.clean hc) e1 fun σ' sr' => q1 F1 ι1 H1 σ' (Ext.refl _ _) ⟨GO, sr'⟩
    · exact q1.elim
  · exact q1.elim

/-! ### for, while -/
def loop (n : LV → SL → Option SL) (b : MS) : List LV → SL → LH → SO
  | [], σ, L => .nx σ L
  | v :: vs, σ, L => match n v σ with
    | none => .no
    | some σ1 => match b σ1 L with
      | .nx σ2 L2 => loop n b vs σ2 L2
      | .ct σ2 L2 => loop n b vs σ2 L2
      | .bk σ2 L2 => .nx σ2 L2
      | o => o
def sFor (mi : MA) (n : LV → SL → Option SL) (b : MS) : MS := fun σ L => lift (mi σ L) σ fun vs L1 => loop n b vs σ L1
theorem js_for {tg iter : Expr} {body : List Stmt} {pos : Pos} {mi : MA} {n : LV → SL → Option SL} {b : MS} (hi : JI X W tg iter mi) (hg : JG X tg n) (hb : JSs X W body b) (hp : PassesOwn (model X.prog X.w) X.A X.env X.xe) (hc : X.calm = true := by rfl) (hs : ∀ x, foldedSetIterable iter X.env x = pure x := by intro _; rfl) : JS X W (.For tg iter body [] pos) (sFor mi n b) := by
  obtain ⟨wi, pi, si⟩ := hi
  obtain ⟨g, pg, sg⟩ := hg
  obtain ⟨tb, pb, sb⟩ := hb
  refine ⟨_, ps_for hp hc pi pg pb hs, ?_⟩
  intro G F ι L σl σ H D sr q
  obtain ⟨GO, sr⟩ := sr
  refine si _ _ _ _ _ _ _ _ sr.rep sr.vr ((PstS.lift sr q).imp fun vs F1 ι1 L1 H1 x1 rp1 q1 J hJ => ?_)
  refine ⟨fun i m σ2 H2 => m = vs.length - i ∧ i ≤ vs.length ∧ ∃ F2 ι2 L2 σl2, Ext F1 ι1 F2 ι2 ∧ SRep X.K X.mg G F2 ι2 L2 σl2 σ2 H2 ∧ PstS X.K X.mg G F2 ι2 (loop n b (vs.drop i) σl2 L2) D W,
    ⟨vs.length, rfl, Nat.zero_le _, F1, ι1, L1, σl, Ext.refl _ _, ⟨GO, sr.ext x1 rp1⟩, q1⟩, ?_⟩
  rintro i m σ2 H2 ⟨rfl, hi, F2, ι2, L2, σl2, x2, ⟨GO2, s2⟩, q2⟩
  obtain ⟨j1, j2⟩ := hJ GO2 F2 ι2 L2 H2 x2 s2.rep
  by_cases hlt : i < vs.length
  · have hv : vs[i]? = some vs[i] := List.getElem?_eq_getElem hlt
    obtain ⟨k1, k2⟩ := j2 i _ hv
    rw [List.drop_eq_getElem_cons hlt] at q2
    refine .inr ⟨k1, fun σ' H' => vs.length - (i + 1) < vs.length - i ∧ i + 1 ≤ vs.length ∧ ∃ F2 ι2 L2 σl2, Ext F1 ι1 F2 ι2 ∧ SRep X.K X.mg G F2 ι2 L2 σl2 σ' H' ∧ PstS X.K X.mg G F2 ι2 (loop n b (vs.drop (i + 1)) σl2 L2) D W,
      fun σ' H' z => ⟨vs.length - (i + 1), z.1, rfl, z.2⟩, fun x H3 y => ?_⟩
    obtain ⟨F3, ι3, x3, rp3, r3⟩ := k2 x H3 y
    unfold loop at q2
    cases e1 : n vs[i] σl2 with
    | none => rw [e1] at q2; exact q2.elim
    | some σ1 =>
      rw [e1] at q2
      refine sg _ _ _ _ _ _ _ _ _ _ _ _ (s2.ext x3 rp3) r3 e1 fun σ' sr' => ?_
      refine sb G F3 ι3 L2 σ1 σ' H3 _ ⟨GO2, sr'⟩ ?_
      have lt : vs.length - (i + 1) < vs.length - i := by omega
      simp only at q2
      cases e2 : b σ1 L2 with
      | nx σ4 L4 =>
        rw [e2] at q2
        exact fun F4 ι4 H4 σ5 x4 s4 => ⟨lt, hlt, F4, ι4, L4, σ4, x2.trans (x3.trans x4), s4, q2.ext (x3.trans x4)⟩
      | ct σ4 L4 =>
        rw [e2] at q2
        exact fun F4 ι4 H4 σ5 x4 s4 => ⟨lt, hlt, F4, ι4, L4, σ4, x2.trans (x3.trans x4), s4, q2.ext (x3.trans x4)⟩
      | bk σ4 L4 => rw [e2] at q2; exact q2.ext x3
      | rt v L4 => rw [e2] at q2; exact q2.ext x3
      | er c ns vs s L4 => rw [e2] at q2; exact q2.ext x3
      | no => rw [e2] at q2; exact q2.elim
  · have e : i = vs.length := by omega
    subst e
    rw [List.drop_length] at q2
    exact .inl ⟨j1, q2 F2 ι2 H2 σ2 (Ext.refl _ _) ⟨GO2, s2⟩⟩
def wloop (t : MT) (b : MS) : Nat → SL → LH → SO
  | 0, _, _ => .no
  | k + 1, σ, L => lift (t σ L) σ fun c L1 => if c = true then (match b σ L1 with
      | .nx σ2 L2 => wloop t b k σ2 L2
      | .ct σ2 L2 => wloop t b k σ2 L2
      | .bk σ2 L2 => .nx σ2 L2
      | o => o) else .nx σ L1
/-- while; k turns at the most -/
def sWhile (k : SL → LH → Nat) (t : MT) (b : MS) : MS := fun σ L => wloop t b (k σ L) σ L
theorem js_while {c : Expr} {body : List Stmt} {pos : Pos} {t : MT} {b : MS} (k : SL → LH → Nat) (hc : JT X W c t) (hb : JSs X W body b) (hp : PassesOwn (model X.prog X.w) X.A X.env X.xe) : JS X W (.While c body [] pos) (sWhile k t b) := by
  obtain ⟨tc, pc, sc⟩ := hc
  obtain ⟨tb, pb, sb⟩ := hb
  refine ⟨_, ps_while hp pc pb, ?_⟩
  intro G F ι L σl σ H D sr q
  refine ⟨fun m σ2 H2 => ∃ F2 ι2 L2 σl2, SRep X.K X.mg G F2 ι2 L2 σl2 σ2 H2 ∧ PstS X.K X.mg G F2 ι2 (wloop t b m σl2 L2) D W, ⟨k σl L, F, ι, L, σl, sr, q⟩, ?_⟩
  rintro m σ2 H2 ⟨F2, ι2, L2, σl2, ⟨GO, s2⟩, q2⟩
  cases m with
  | zero => exact q2.elim
  | succ m =>
    unfold wloop at q2
    refine sc _ _ _ _ _ _ _ _ s2.rep s2.vr ((PstS.lift s2 q2).imp fun c F3 ι3 L3 H3 x3 rp3 q3 => ?_)
    cases c with
    | false => exact q3 F3 ι3 H3 σ2 (Ext.refl _ _) ⟨GO, s2.ext x3 rp3⟩
    | true =>
      refine ⟨fun σ' H' => ∃ F2 ι2 L2 σl2, SRep X.K X.mg G F2 ι2 L2 σl2 σ' H' ∧ PstS X.K X.mg G F2 ι2 (wloop t b m σl2 L2) D W, fun σ' H' z => ⟨m, Nat.lt_succ_self m, z⟩, ?_⟩
      refine sb G F3 ι3 L3 σl2 σ2 H3 _ ⟨GO, s2.ext x3 rp3⟩ ?_
      simp only [if_true] at q3
      cases e2 : b σl2 L3 with
      | nx σ4 L4 => rw [e2] at q3; exact fun F4 ι4 H4 σ5 x4 s4 => ⟨F4, ι4, L4, σ4, s4, q3.ext x4⟩
      | ct σ4 L4 => rw [e2] at q3; exact fun F4 ι4 H4 σ5 x4 s4 => ⟨F4, ι4, L4, σ4, s4, q3.ext x4⟩
      | bk σ4 L4 => rw [e2] at q3; exact q3
      | rt v L4 => rw [e2] at q3; exact q3
      | er c ns vs s L4 => rw [e2] at q3; exact q3
      | no => rw [e2] at q3; exact q3.elim
end
end Z
namespace Z
open PySem PySem.Spec L2
section
variable {X : Cx} {W : WX} {K : PySem.W.Frag} {mg : Str → Option Value} {G F H : Hp} {ι : List Addr} {L : LH} {σ : St} {σl : SL}
/-! ### one reading for a mirror -/
def tM (K : PySem.W.Frag) (mg : Str → Option Value) (W : WX) (m : ME) : TE := fun σ H Q => ∃ G F ι L σl, Rep K mg G F ι L H ∧ VR K mg G F ι σl σ ∧ Pst K mg G F ι (m σl L) (fun v F' ι' L' H' => ∀ u, RV K mg σ F' ι' v u → Q u H') (fun c d H' => W c d σ H')
def tMT (K : PySem.W.Frag) (mg : Str → Option Value) (W : WX) (m : MT) : TT := fun σ H Q => ∃ G F ι L σl, Rep K mg G F ι L H ∧ VR K mg G F ι σl σ ∧ Pst K mg G F ι (m σl L) (fun b F' ι' L' H' => Q b H') (fun c d H' => W c d σ H')
theorem sim_tM {m : ME} : SimE K mg W (tM K mg W m) m := fun G F ι L H σl σ Q r v h => ⟨G, F, ι, L, σl, r, v, h⟩
theorem sim_tMT {m : MT} : SimT K mg W (tMT K mg W m) m := fun G F ι L H σl σ Q r v h => ⟨G, F, ι, L, σl, r, v, h⟩
theorem JE.can {e : Expr} {m : ME} (h : JE X W e m) : PE X e (tM X.K X.mg W m) := by
  obtain ⟨t, p, s⟩ := h
  exact ⟨fun pins s0 σ H Q I ⟨G, F, ι, L, σl, r, v, q⟩ => p.run pins s0 σ H Q I (s G F ι L H σl σ Q r v q)⟩
theorem JT.can {e : Expr} {m : MT} (h : JT X W e m) : PT X e (tMT X.K X.mg W m) := by
  obtain ⟨t, p, s⟩ := h
  exact ⟨fun pins s0 σ H Q I ⟨G, F, ι, L, σl, r, v, q⟩ => p.run pins s0 σ H Q I (s G F ι L H σl σ Q r v q)⟩

/-! ### comprehensions -/
abbrev W0 : WX := fun _ _ _ _ => False
def wipeL (σ : SL) : List Nat → SL
  | [] => σ
  | v :: vs => (wipeL σ vs).set v .no
theorem VR.wipe (h : VR K mg G F ι σl σ) : ∀ vs : List Nat, VR K mg G F ι (wipeL σl vs) (L2.wipe σ vs)
  | [] => h
  | v :: vs => by
    have ih := VR.wipe h vs
    unfold wipeL L2.wipe
    have keep : ∀ (j : Nat) (x : Sl), ((wipeL σl vs).set v .no)[j]? = some x → x = .no ∨ (j ≠ v ∧ (wipeL σl vs)[j]? = some x) := fun j x e => by
      by_cases hj : j = v
      · subst hj
        have hl : j < (wipeL σl vs).length := by
          have := (List.getElem?_eq_some_iff.mp e).1
          simpa using this
        rw [List.getElem?_set_self hl] at e
        exact .inl (Option.some.inj e).symm
      · rw [List.getElem?_set_ne (Ne.symm hj)] at e
        exact .inr ⟨hj, e⟩
    refine ⟨by rw [List.length_set, List.length_set]; exact ih.len, fun j w e => ?_, fun j ws e => ?_⟩
    · rcases keep j _ e with z | ⟨hj, z⟩
      · cases z
      · rw [List.getElem?_set_ne (Ne.symm hj)]; exact ih.val j w z
    · rcases keep j _ e with z | ⟨hj, z⟩
      · cases z
      · rw [List.getElem?_set_ne (Ne.symm hj)]; exact ih.own j ws z
theorem VR.set {v : LV} {u : V} {i : Nat} (s : VR K mg G F ι σl σ) (h : R0 K mg F ι v u) : VR K mg G F ι (σl.set i (.val v)) (σ.set i (some u)) := by
  have keep : ∀ (j : Nat) (x : Sl), (σl.set i (.val v))[j]? = some x → (j = i ∧ x = .val v ∧ j < σl.length) ∨ (j ≠ i ∧ σl[j]? = some x) := fun j x e => by
    by_cases hj : j = i
    · subst hj
      have hl : j < σl.length := by
        have := (List.getElem?_eq_some_iff.mp e).1
        simpa using this
      rw [List.getElem?_set_self hl] at e
      exact .inl ⟨rfl, (Option.some.inj e).symm, hl⟩
    · rw [List.getElem?_set_ne (Ne.symm hj)] at e
      exact .inr ⟨hj, e⟩
  refine ⟨by rw [List.length_set, List.length_set]; exact s.len, fun j w e => ?_, fun j ws e => ?_⟩
  · rcases keep j _ e with ⟨rfl, e1, hl⟩ | ⟨hj, e1⟩
    · cases e1
      exact ⟨u, List.getElem?_set_self (by rw [← s.len]; exact hl), h⟩
    · rw [List.getElem?_set_ne (Ne.symm hj)]
      exact s.val j w e1
  · rcases keep j _ e with ⟨rfl, e1, hl⟩ | ⟨hj, e1⟩
    · cases e1
    · rw [List.getElem?_set_ne (Ne.symm hj)]
      exact s.own j ws e1
theorem wipe_set {i : Nat} {x : Option V} : ∀ {vs : List Nat} {σ : St}, i ∈ vs → L2.wipe (σ.set i x) vs = L2.wipe σ vs
  | v :: vs, σ, h => by
    unfold L2.wipe
    by_cases hm : i ∈ vs
    · rw [wipe_set hm]
    · rcases List.mem_cons.mp h with e | e
      · subst e
        have swap : ∀ (ws : List Nat), i ∉ ws → L2.wipe (σ.set i x) ws = (L2.wipe σ ws).set i x := fun ws => by
          induction ws with
          | nil => intro _; rfl
          | cons w ws ih =>
            intro hn
            have h1 : i ≠ w := fun z => hn (by simp [z])
            have h2 : i ∉ ws := fun z => hn (List.mem_cons_of_mem _ z)
            unfold L2.wipe
            rw [ih h2, List.set_comm _ _ h1]
        rw [swap vs hm, List.set_set]
      · exact absurd e hm
theorem wipe_idem {τ : St} {ws : List Nat} : ∀ (vs : List Nat), (∀ w ∈ vs, w ∈ ws) → L2.wipe (L2.wipe τ vs) ws = L2.wipe τ ws
  | [], _ => rfl
  | v :: vs, h => by
    show L2.wipe ((L2.wipe τ vs).set v none) ws = _
    rw [wipe_set (h v List.mem_cons_self), wipe_idem vs fun w hw => h w (List.mem_cons_of_mem _ hw)]
/-- a comprehension's target: of the block's own names -/
def CG (K : PySem.W.Frag) (mg : Str → Option Value) (vs : List Nat) (g : TG) (n : LV → SL → Option SL) : Prop := ∀ (G F : Hp) (ι : List Addr) (σl : SL) (σ : St) (H : Hp) (v : LV) (u : V) (k : St → Hp → Prop) (σl' : SL), Sub F H → VR K mg G F ι σl σ → R0 K mg F ι v u → n v σl = some σl' →
  (∀ σ', VR K mg G F ι σl' σ' → L2.wipe σ' vs = L2.wipe σ vs → k σ' H) → g u σ H k
theorem cg_name {vs : List Nat} (i : Nat) (h : i ∈ vs := by simp) : CG K mg vs (gName i) (gN i) := by
  intro G F ι σl σ H v u k σl' sb vr r e q
  cases e
  exact q _ (vr.set r) (wipe_set h)
theorem cg_two {vs : List Nat} (i j : Nat) (hi : i ∈ vs := by simp) (hj : j ∈ vs := by simp) : CG K mg vs (gTup K 2 (gCons (gName i) (gCons (gName j) gNil))) (gT 2 (gsCons (gN i) (gsCons (gN j) gsNil))) := by
  intro G F ι σl σ H v u k σl' sb vr r e q
  unfold gT at e
  split at e
  · rename_i ws
    split at e
    · rename_i hl
      match ws, hl with
      | [a, b], _ =>
        cases r with
        | tup h1 h2 =>
          cases h2 with
          | cons r1 h2 =>
            cases h2 with
            | cons r2 h2 =>
              cases h2
              cases e
              exact ⟨_, _, rfl, Sub.sqT sb h1, rfl, _, _, rfl, _, _, rfl, rfl, q _ ((vr.set r1).set r2) (by rw [wipe_set hj, wipe_set hi])⟩
    · cases e
  · cases e
/-- the turns of a comprehension -/
def compL (n : LV → SL → Option SL) (t : MT) (m : ME) (σ0 : SL) : List LV → List LV → LH → O (List LV)
  | [], acc, L => .ok acc L
  | v :: vs, acc, L => match n v σ0 with
    | none => .no
    | some σ1 => match t σ1 L with
      | .ok b L1 => if b = true then (match m σ1 L1 with
        | .ok x L2 => if (clean x && decide (acc.length < sizeLine)) = true then compL n t m σ0 vs (acc ++ [x]) L2 else .no
        | _ => .no) else compL n t m σ0 vs acc L1
      | _ => .no
def aComp (mi : MA) (n : LV → SL → Option SL) (t : MT) (m : ME) (vs : List Nat) : MA := fun σ L => (mi σ L).bind fun items L1 => compL n t m (wipeL σ vs) items [] L1
def tYes' : MT := fun _ L => .ok true L
theorem sim_yes : SimT K mg W tYes tYes' := fun G F ι L H σl σ Q r v h => h.ok r
/-- D's list is another one now -/
theorem Rep.reG {D : Addr} {us us' : List V} (r : Rep K mg (upd G D (.lst us)) F ι L H) : Rep K mg (upd G D (.lst us')) F ι L (upd H D (.lst us')) := by
  have h1 : F D = none := r.gf D _ upd_same
  have h3 : ∀ n : Nat, ι[n]? ≠ some D := fun n e => by
    have z := (r.nf n D e).2
    rw [upd_same] at z
    cases z
  refine ⟨fun a o e => ?_, fun a o e => ?_, fun a o e => ?_, r.len, r.inj, fun n a e => ⟨(r.nf n a e).1, ?_⟩, fun n a o e1 e2 => (r.obj n a o e1 e2).mono (Ext.refl _ _) fun u e => ?_⟩
  · rw [upd_ne (fun z => by rw [z, h1] at e; cases e)]
    exact r.f a o e
  · by_cases z : a = D
    · rw [z, upd_same] at e ⊢; exact e
    · rw [upd_ne z] at e ⊢
      exact r.g a o (by rw [upd_ne z]; exact e)
  · by_cases z : a = D
    · rw [z]; exact h1
    · rw [upd_ne z] at e
      exact r.gf a o (by rw [upd_ne z]; exact e)
  · have z : a ≠ D := fun z => h3 n (by rw [← z]; exact e)
    have q := (r.nf n a e).2
    rw [upd_ne z] at q ⊢
    exact q
  · rw [upd_ne (fun z => h3 n (by rw [← z]; exact e1))]
    exact e
theorem Rep.addG {D : Addr} {us : List V} (r : Rep K mg G F ι L H) (h : H D = none) : Rep K mg (upd G D (.lst us)) F ι L (upd H D (.lst us)) := by
  obtain ⟨f1, f2, f3⟩ := r.fresh h
  have r2 := r.new (o := .lst us) h
  refine ⟨r2.f, fun a o e => ?_, fun a o e => ?_, r2.len, r2.inj, fun n a e => ⟨(r2.nf n a e).1, ?_⟩, r2.obj⟩
  · by_cases z : a = D
    · rw [z, upd_same] at e ⊢; exact e
    · rw [upd_ne z] at e
      exact r2.g a o e
  · by_cases z : a = D
    · rw [z]; exact f1
    · rw [upd_ne z] at e
      exact r2.gf a o e
  · rw [upd_ne (fun z => f3 n (by rw [← z]; exact e))]
    exact (r2.nf n a e).2
theorem VR.addG {D : Addr} {us : List V} (h : VR K mg G F ι σl σ) (hD : G D = none) : VR K mg (upd G D (.lst us)) F ι σl σ :=
  ⟨h.len, h.val, fun i vs e => let ⟨a, h1, h2⟩ := h.own i vs e; ⟨a, h1, h2.mono (Ext.refl _ _) fun u hu => by rw [upd_ne (fun z => by rw [z, hD] at hu; cases hu)]; exact hu⟩⟩
theorem sim_lc {wi : TI} {g : TG} {tt : TT} {te : TE} {mi : MA} {n : LV → SL → Option SL} {t : MT} {m : ME} {vs : List Nat} (hi : SimI K mg W wi mi) (hg : CG K mg vs g n) (ht : SimT K mg W0 tt t) (he : SimE K mg W0 te m) : SimN K mg W (tLc wi g tt te vs) (aComp mi n t m vs) := by
  intro G F ι L H σl σ Q rp vr q
  refine hi _ _ _ _ _ _ _ _ rp vr ((Pst.bind q).imp fun items F1 ι1 L1 H1 x1 rp1 q1 J hJ => ?_)
  intro D hD
  obtain ⟨fd1, fd2, fd3⟩ := rp1.fresh hD
  refine ⟨fun i k H2 => k = items.length - i ∧ i ≤ items.length ∧ ∃ F2 ι2 L2 acc us, Ext F1 ι1 F2 ι2 ∧ Rep K mg (upd G D (.lst us)) F2 ι2 L2 H2 ∧ Rs0 K mg F2 ι2 acc us ∧
    Pst K mg G F2 ι2 (compL n t m (wipeL σl vs) (items.drop i) acc L2) (fun vs F' ι' L' H' => ∀ p us, H' p = some (.lst us) → G p = none → F' p = none → (∀ n : Nat, ι'[n]? ≠ some p) → Rs0 K mg F' ι' vs us → Q (.ref p) H') (fun c d H' => W c d σ H'),
    ⟨items.length, rfl, Nat.zero_le _, F1, ι1, L1, [], [], Ext.refl _ _, rp1.addG hD, .nil, q1⟩, ?_⟩
  rintro i k H2 ⟨rfl, hle, F2, ι2, L2, acc, us, x2, rp2, r2, q2⟩
  obtain ⟨j1, j2⟩ := hJ _ F2 ι2 L2 H2 x2 rp2
  by_cases hlt : i < items.length
  · have hv : items[i]? = some items[i] := List.getElem?_eq_getElem hlt
    obtain ⟨k1, k2⟩ := j2 i _ hv
    rw [List.drop_eq_getElem_cons hlt] at q2
    refine .inr ⟨k1, fun H' => ∃ m', m' < items.length - i ∧ (m' = items.length - (i + 1) ∧ i + 1 ≤ items.length ∧ ∃ F2 ι2 L2 acc us, Ext F1 ι1 F2 ι2 ∧ Rep K mg (upd G D (.lst us)) F2 ι2 L2 H' ∧ Rs0 K mg F2 ι2 acc us ∧
      Pst K mg G F2 ι2 (compL n t m (wipeL σl vs) (items.drop (i + 1)) acc L2) (fun vs F' ι' L' H' => ∀ p us, H' p = some (.lst us) → G p = none → F' p = none → (∀ n : Nat, ι'[n]? ≠ some p) → Rs0 K mg F' ι' vs us → Q (.ref p) H') (fun c d H' => W c d σ H')),
      fun H' z => z, fun x H3 y => ?_⟩
    have lt : items.length - (i + 1) < items.length - i := by omega
    obtain ⟨F3, ι3, x3, rp3, r3⟩ := k2 x H3 y
    unfold compL at q2
    cases e1 : n items[i] (wipeL σl vs) with
    | none => rw [e1] at q2; exact q2.elim
    | some σ1 =>
      rw [e1] at q2
      simp only at q2
      have vr3 : VR K mg (upd G D (.lst us)) F3 ι3 (wipeL σl vs) (wipe σ vs) := (((vr.mono x1).mono x2).mono x3).addG fd2 |>.wipe vs
      refine hg _ F3 ι3 _ _ H3 _ _ _ σ1 rp3.f vr3 r3 e1 fun σ' vr' hw => ?_
      refine ⟨by rw [hw, wipe_idem vs fun w h => h], ?_⟩
      cases e2 : t σ1 L2 with
      | er c ns zs L4 => rw [e2] at q2; exact q2.elim
      | no => rw [e2] at q2; exact q2.elim
      | ok b L4 =>
        rw [e2] at q2
        simp only at q2
        refine ht _ F3 ι3 L2 H3 σ1 σ' _ rp3 vr' ?_
        rw [e2]
        intro F4 ι4 H4 x4 rp4
        cases b with
        | false =>
          rw [if_neg Bool.false_ne_true] at q2
          show (if false = true then _ else _)
          rw [if_neg Bool.false_ne_true]
          exact ⟨_, lt, rfl, hlt, F4, ι4, L4, acc, us, x2.trans (x3.trans x4), rp4, (r2.mono x3).mono x4, q2.ext (x3.trans x4)⟩
        | true =>
          rw [if_pos rfl] at q2
          show (if true = true then _ else _)
          rw [if_pos rfl]
          refine he _ F4 ι4 L4 H4 σ1 σ' _ rp4 (vr'.mono x4) ?_
          cases e3 : m σ1 L4 with
          | er c ns zs L5 => rw [e3] at q2; exact q2.elim
          | no => rw [e3] at q2; exact q2.elim
          | ok v L5 =>
            rw [e3] at q2
            simp only at q2
            intro F5 ι5 H5 x5 rp5 u ru
            split at q2
            · rename_i hc
              rw [Bool.and_eq_true] at hc
              have r0 := ru.clean hc.1
              refine ⟨us, rp5.g D _ upd_same, by rw [← r2.length]; exact of_decide_eq_true hc.2, ?_⟩
              exact ⟨_, lt, rfl, hlt, F5, ι5, L5, acc ++ [v], us ++ [u], x2.trans (x3.trans (x4.trans x5)), rp5.reG, (((r2.mono x3).mono x4).mono x5).append (.cons r0 .nil), q2.ext (x3.trans (x4.trans x5))⟩
            · exact q2.elim
  · have e : i = items.length := by omega
    subst e
    rw [List.drop_length] at q2
    refine .inl ⟨j1, ?_⟩
    have gs : Sub G (upd G D (.lst us)) := fun a o e => by rw [upd_ne (fun z => by rw [z, fd2] at e; cases e)]; exact e
    exact q2 F2 ι2 H2 (Ext.refl _ _) (rp2.sub gs) D us (rp2.g D _ upd_same) fd2 (rp2.gf D _ upd_same) (fun n e => by
      have z := (rp2.nf n D e).2
      rw [upd_same] at z
      cases z) r2
/-- [e for tg in iter], [e for tg in iter if t] -/
theorem jn_lc {elt tg iter : Expr} {ifs : List Expr} {scope : Scope} {own : List (Str × Nat)} {pos : Pos} {g : TG} {mi : MA} {n : LV → SL → Option SL} {t : MT} {m : ME} (hN : X.N.Nodup) (hi : JI X W tg iter mi) (ok : BlkOk X.N X.env.scope scope own) (hg : CG X.K X.mg (own.map (·.2)) g n)
    (pg : ∀ (s : Shared) (H : Hp) (C : Addr) (cl : List (Str × Addr)) (fp : List Addr), PG (X.blk s H scope (compEnvC scope cl C X.env) fp) tg g) (ht : ∃ tt, SimT X.K X.mg W0 tt t ∧ ∀ (s : Shared) (H : Hp) (C : Addr) (cl : List (Str × Addr)) (fp : List Addr), PTs (X.blk s H scope (compEnvC scope cl C X.env) fp) ifs tt)
    (he : ∀ (s : Shared) (H : Hp) (C : Addr) (cl : List (Str × Addr)) (fp : List Addr), JE (X.blk s H scope (compEnvC scope cl C X.env) fp) W0 elt m) (hc : X.calm = true := by rfl) (hs : ∀ x, foldedSetIterable iter X.env x = pure x := by intro _; rfl) :
    JN X W (.ListComp elt [⟨tg, iter, ifs, 0⟩] scope pos) (aComp mi n t m (own.map (·.2))) := by
  obtain ⟨wi, pi, si⟩ := hi
  obtain ⟨tt, st, pt⟩ := ht
  exact ⟨_, pe_lc hc hN pi ok pg pt (fun s H C cl fp => (he s H C cl fp).can) hs, sim_lc si hg st sim_tM⟩
theorem if_none {scope : Scope} : ∃ tt, SimT X.K X.mg W0 tt tYes' ∧ ∀ (s : Shared) (H : Hp) (C : Addr) (cl : List (Str × Addr)) (fp : List Addr), PTs (X.blk s H scope (compEnvC scope cl C X.env) fp) [] tt := ⟨_, sim_yes, fun _ _ _ _ _ => pts_nil⟩
theorem if_one {scope : Scope} {c : Expr} {t : MT} (h : ∀ (s : Shared) (H : Hp) (C : Addr) (cl : List (Str × Addr)) (fp : List Addr), JT (X.blk s H scope (compEnvC scope cl C X.env) fp) W0 c t) : ∃ tt, SimT X.K X.mg W0 tt t ∧ ∀ (s : Shared) (H : Hp) (C : Addr) (cl : List (Str × Addr)) (fp : List Addr), PTs (X.blk s H scope (compEnvC scope cl C X.env) fp) [c] tt :=
  ⟨_, sim_tMT, fun s H C cl fp => pts_one (h s H C cl fp).can⟩
/-- x = [..] -/
theorem sim_setN {i : Nat} {te : TE} {m : MA} (h : SimN K mg W te m) : SimS K mg W (tAsg te (gName i)) (sSet i (eFrz m)) := by
  refine sim_set (m := eFrz m) ?_
  intro G F ι L H σl σ Q rp vr h'
  refine h _ _ _ _ _ _ _ _ rp vr ((Pst.bind h').imp fun vs F1 ι1 L1 H1 x1 rp1 h1 q us e1 e2 e3 e4 e5 => ?_)
  obtain ⟨r1, x2⟩ := rp1.freeze e1 e3 e2 e4
  exact h1 _ _ _ x2 r1 _ (.r0 (.lst upd_same (e5.mono x2)))
/-- a comprehension into a name: the walk stores within the comprehension's frame -/
def JL (X : Cx) (W : WX) (i : Nat) (st : Stmt) (m : MA) : Prop := ∃ t, PS X st (tAsg t (gName i)) ∧ SimN X.K X.mg W t m
theorem jl_lc (i : Nat) {y : Str} {py : Pos} {elt tg iter : Expr} {ifs : List Expr} {scope : Scope} {own : List (Str × Nat)} {pos spos : Pos} {g : TG} {mi : MA} {n : LV → SL → Option SL} {t : MT} {m : ME} (hN : X.N.Nodup) (hi : JI X W tg iter mi) (ok : BlkOk X.N X.env.scope scope own) (hg : CG X.K X.mg (own.map (·.2)) g n)
    (pg : ∀ (s : Shared) (H : Hp) (C : Addr) (cl : List (Str × Addr)) (fp : List Addr), PG (X.blk s H scope (compEnvC scope cl C X.env) fp) tg g) (ht : ∃ tt, SimT X.K X.mg W0 tt t ∧ ∀ (s : Shared) (H : Hp) (C : Addr) (cl : List (Str × Addr)) (fp : List Addr), PTs (X.blk s H scope (compEnvC scope cl C X.env) fp) ifs tt)
    (he : ∀ (s : Shared) (H : Hp) (C : Addr) (cl : List (Str × Addr)) (fp : List Addr), JE (X.blk s H scope (compEnvC scope cl C X.env) fp) W0 elt m) (hsw : swapsWith (.ListComp elt [⟨tg, iter, ifs, 0⟩] scope pos) (some (.Name y py)) spos.line X.env = pure true)
    (hc : X.calm = true := by rfl) (hy : X.N[i]? = some y := by rfl) (hyl : X.env.scope.names.lookup y = some .local := by rfl) (hs : ∀ x, foldedSetIterable iter X.env x = pure x := by intro _; rfl) :
    JL X W i (.Assign [.Name y py] (.ListComp elt [⟨tg, iter, ifs, 0⟩] scope pos) spos) (aComp mi n t m (own.map (·.2))) := by
  obtain ⟨wi, pi, si⟩ := hi
  obtain ⟨tt, st, pt⟩ := ht
  exact ⟨_, ps_setLc hc hN hy hyl hsw pi ok pg pt (fun s H C cl fp => (he s H C cl fp).can) hs, sim_lc si hg st sim_tM⟩
theorem jl_frz {i : Nat} {st : Stmt} {m : MA} (h : JL X W i st m) : JS X W st (sSet i (eFrz m)) := let ⟨_, p, s⟩ := h; ⟨_, p, sim_setN s⟩
theorem jl_own {i : Nat} {st : Stmt} {m : MA} (h : JL X W i st m) : JS X W st (sOwn i m) := let ⟨_, p, s⟩ := h; ⟨_, p, sim_own s⟩
end
end Z
namespace Z
open PySem PySem.Spec L2
section
variable {X : Cx} {W : WX} {K : PySem.W.Frag} {mg : Str → Option Value} {G F H : Hp} {ι : List Addr} {L : LH} {σ : St} {σl : SL}

/-! ### slices -/
abbrev MO := SL → LH → O (Option Int)
def SimO (K : PySem.W.Frag) (mg : Str → Option Value) (W : WX) (t : TO) (m : MO) : Prop := ∀ (G F : Hp) (ι : List Addr) (L : LH) (H : Hp) (σl : SL) (σ : St) (Q : Option Int → Hp → Prop), Rep K mg G F ι L H → VR K mg G F ι σl σ →
  Pst K mg G F ι (m σl L) (fun o F' ι' L' H' => Q o H') (fun c d H' => W c d σ H') → t σ H Q
def JO (X : Cx) (W : WX) (e : Option Expr) (m : MO) : Prop := ∃ t, PO X e t ∧ SimO X.K X.mg W t m
def oNone : MO := fun _ L => .ok none L
def oSome (m : ME) : MO := fun σ L => (m σ L).bind fun v L1 => match v with
  | .int i => .ok (some i) L1
  | _ => .no
theorem jo_none : JO X W none oNone := ⟨_, po_none, fun G F ι L H σl σ Q r v h => h.ok r⟩
theorem jo_some {e : Expr} {m : ME} (h : JE X W e m) : JO X W (some e) (oSome m) := by
  obtain ⟨t, p, s⟩ := h
  refine ⟨_, po_some p, ?_⟩
  intro G F ι L H σl σ Q rp vr q
  refine s _ _ _ _ _ _ _ _ rp vr ((Pst.bind q).imp fun v F1 ι1 L1 H1 x1 rp1 q1 u ru => ?_)
  split at q1
  · cases ru with
    | r0 ru => cases ru; exact ⟨_, rfl, q1.ok rp1⟩
  · exact q1.elim
def cutL (xs : List LV) (lo hi : Option Int) : List LV := (xs.drop (HT.sIx xs.length 0 lo)).take (HT.sIx xs.length xs.length hi - HT.sIx xs.length 0 lo)
theorem Rs0.cut {vs : List LV} {us : List V} {lo hi : Option Int} (h : Rs0 K mg F ι vs us) : Rs0 K mg F ι (cutL vs lo hi) (cutV us lo hi) := by
  unfold cutL cutV
  rw [← h.length]
  exact (h.drop _).take _
/-- a new list -/
def aSl (mo : ME) (lo hi : MO) : MA := fun σ L => (mo σ L).bind fun o L1 => (lo σ L1).bind fun l L2 => (hi σ L2).bind fun h L3 => match seqL σ L3 o with
  | some vs => .ok (cutL vs l h) L3
  | none => .no
theorem jn_slice {e : Expr} {lo hi : Option Expr} {p2 pos : Pos} {mo : ME} {ml mh : MO} (he : JE X W e mo) (hl : JO X W lo ml) (hh : JO X W hi mh) : JN X W (.Subscript e (.Slice lo hi none p2) pos) (aSl mo ml mh) := by
  obtain ⟨t, p, s⟩ := he
  obtain ⟨tl, pl, sl⟩ := hl
  obtain ⟨th, ph, sh⟩ := hh
  refine ⟨_, pe_slice sl_list p pl ph, ?_⟩
  intro G F ι L H σl σ Q rp vr q
  refine s _ _ _ _ _ _ _ _ rp vr ((Pst.bind q).imp fun v F1 ι1 L1 H1 x1 rp1 q1 u ru => ?_)
  refine sl _ _ _ _ _ _ _ _ rp1 (vr.mono x1) ((Pst.bind q1).imp fun l F2 ι2 L2 H2 x2 rp2 q2 => ?_)
  refine sh _ _ _ _ _ _ _ _ rp2 (vr.mono (x1.trans x2)) ((Pst.bind q2).imp fun h F3 ι3 L3 H3 x3 rp3 q3 => ?_)
  split at q3
  · rename_i vs e
    obtain ⟨a, us, rfl, h1, h2⟩ := seqL_ok rp3 (vr.mono (x1.trans (x2.trans x3))) ((ru.mono x2).mono x3) e
    refine ⟨a, us, rfl, h1, fun p hp => ?_⟩
    obtain ⟨f1, f2, f3⟩ := rp3.fresh hp
    exact q3 F3 ι3 _ (Ext.refl _ _) (rp3.new hp) p _ upd_same f2 f1 f3 h2.cut
  · exact q3.elim
/-- list(e) -/
def aList (ma : MA) : MA := fun σ L => (ma σ L).bind fun xs L1 => match xs with
  | [.tup vs] => .ok vs L1
  | [x] => match seqL σ L1 x with
    | some vs => .ok vs L1
    | none => .no
  | _ => .no
theorem jn_list {p pos : Pos} {e : Expr} {m : MA} (hm : X.mg "list" = none) (ha : JA X W [e] m) (hg : Gl X "list" := by rfl) (he : starEach [e] X.env = (false, eval e X.env) :: starEach [] X.env := by rfl) (hpl : (backTo pos (starEach [] X.env)).any (·.1) = false := by rfl) : JN X W (.Call (.Name "list" p) [e] [] pos) (aList m) := by
  obtain ⟨t, pa, s⟩ := ha
  refine ⟨_, pe_callTy call_list_of hg hm (by decide +kernel) pa (he := he) (hpl := hpl), ?_⟩
  intro G F ι L H σl σ Q rp vr q
  refine s _ _ _ _ _ _ _ _ rp vr ((Pst.bind q).imp fun xs F1 ι1 L1 H1 x1 rp1 q1 us ru => ?_)
  split at q1
  · cases ru with
    | cons h t =>
      cases t
      cases h with
      | r0 h =>
        cases h with
        | tup h1 h2 =>
          refine ⟨_, _, rfl, .inr (Sub.sqT rp1.f h1), fun p hp => ?_⟩
          obtain ⟨f1, f2, f3⟩ := rp1.fresh hp
          exact q1 F1 ι1 _ (Ext.refl _ _) (rp1.new hp) p _ upd_same f2 f1 f3 h2
  · split at q1
    · rename_i vs e
      cases ru with
      | cons h t =>
        cases t
        obtain ⟨a, us, rfl, h1, h2⟩ := seqL_ok rp1 (vr.mono x1) h e
        refine ⟨_, _, rfl, .inl h1, fun p hp => ?_⟩
        obtain ⟨f1, f2, f3⟩ := rp1.fresh hp
        exact q1 F1 ι1 _ (Ext.refl _ _) (rp1.new hp) p _ upd_same f2 f1 f3 h2
    · exact q1.elim
  · exact q1.elim

/-! ### methods of built-in things -/
/-- s.m(e, ..) of a text, by values -/
def OpB (K : PySem.W.Frag) (mg : Str → Option Value) (r : V → List V → Hp → VK → Prop) (f : LV → List LV → SL → LH → O LV) : Prop := ∀ (W : XK) (G F : Hp) (ι : List Addr) (L : LH) (H : Hp) (σl : SL) (σ : St) (Q : VK) (x : LV) (u : V) (xs : List LV) (us : List V), Rep K mg G F ι L H → VR K mg G F ι σl σ → RV K mg σ F ι x u → RVs K mg σ F ι xs us →
  Pst K mg G F ι (f x xs σl L) (fun v F' ι' L' H' => ∀ u, RV K mg σ F' ι' v u → Q u H') W → r u us H Q
def eMt (f : LV → List LV → SL → LH → O LV) (mo : ME) (ma : MA) : ME := fun σ L => (mo σ L).bind fun o L1 => match o with
  | .str z => (ma σ L1).bind fun xs L2 => f (.str z) xs σ L2
  | _ => .no
theorem je_mt {o e : Expr} {es : List Expr} {name : Str} {apos cpos : Pos} {id : String} {r : V → List V → Hp → VK → Prop} {f : LV → List LV → SL → LH → O LV} {mo : ME} {ma : MA} (slot : Slot "str" name id) (hty : typeOf (.builtin id) = pure (.type "method_descriptor")) (hm : MtR X id r) (hf : OpB X.K X.mg r f) (ho : JE X W o mo) (ha : JA X W (e :: es) ma)
    (hbase : attributeBase o name X.env (eval o X.env) = eval o X.env := by rfl)
    (hfew : ((backTo cpos (starEach (e :: es) X.env)).all (fun x => !x.1) && (backToKw cpos (keywordEach [] X.env)).all (fun x => x.1.isSome) && decide ((e :: es).length + ([] : List Keyword).length + (if ([] : List Keyword).isEmpty then 0 else 1) < 30)) = true := by rfl)
    (hline : (apos.endLine == cpos.line) = true := by rfl) (hs : starEach (e :: es) X.env = (false, eval e X.env) :: starEach es X.env := by rfl) (hplain : (backTo cpos (starEach es X.env)).any (·.1) = false := by rfl) :
    JE X W (.Call (.Attribute o name apos) (e :: es) [] cpos) (eMt f mo ma) := by
  obtain ⟨to, po, so⟩ := ho
  obtain ⟨ta, pa, sa⟩ := ha
  refine ⟨_, pe_bm PySem.F.plainAttrs_str slot hty hm po pa hbase hfew hline hs hplain, ?_⟩
  intro G F ι L H σl σ Q rp vr q
  refine so _ _ _ _ _ _ _ _ rp vr ((Pst.bind q).imp fun v F1 ι1 L1 H1 x1 rp1 q1 u ru => ?_)
  split at q1
  · have ru0 := ru
    cases ru with
    | r0 ru =>
      cases ru
      refine ⟨rfl, sa _ _ _ _ _ _ _ _ rp1 (vr.mono x1) ((Pst.bind q1).imp fun xs F2 ι2 L2 H2 x2 rp2 q2 us rus => ?_)⟩
      exact hf _ _ _ _ _ _ _ _ _ _ _ _ _ rp2 (vr.mono (x1.trans x2)) (ru0.mono x2) rus q2
  · exact q1.elim
/-- s.index(t): found -/
def fSIdx : LV → List LV → SL → LH → O LV := fun x xs _ L => match x, xs with
  | .str a, [.str b] => match Builtin.Str.occurrences a b 0 a.length 1 with
    | i :: _ => .ok (.int (i : Nat)) L
    | [] => .no
  | _, _ => .no
theorem opB_sidx : OpB K mg (fun x xs H Q => ∃ a b i rest, x = .str a ∧ xs = [.str b] ∧ Builtin.Str.occurrences a b 0 a.length 1 = i :: rest ∧ Q (.int (i : Nat)) H) fSIdx := by
  intro W G F ι L H σl σ Q x u xs us rp vr ru rus q
  unfold fSIdx at q
  split at q
  · split at q
    · rename_i e
      cases ru with
      | r0 ru =>
        cases ru
        cases rus with
        | cons h t =>
          cases t
          cases h with
          | r0 h => cases h; exact ⟨_, _, _, _, rfl, rfl, e, q.ok rp _ (.r0 .int)⟩
    · exact q.elim
  · exact q.elim
/-- sep.join(xs) -/
def strs? : List LV → Option (List Str)
  | [] => some []
  | .str z :: r => (strs? r).map (z :: ·)
  | _ => none
theorem strs_ok : ∀ {vs : List LV} {us : List V} {zs : List Str}, Rs0 K mg F ι vs us → strs? vs = some zs → us = zs.map V.str
  | [], _, _, .nil, e => by cases e; rfl
  | .str z :: vs, _, _, .cons .str t, e => by
    unfold strs? at e
    cases q : strs? vs with
    | none => rw [q] at e; cases e
    | some ws => rw [q] at e; cases e; rw [strs_ok t q]; rfl
  | .non :: _, _, _, _, e => by cases e
  | .bl _ :: _, _, _, _, e => by cases e
  | .int _ :: _, _, _, _, e => by cases e
  | .ref _ :: _, _, _, _, e => by cases e
  | .loc _ :: _, _, _, _, e => by cases e
  | .tup _ :: _, _, _, _, e => by cases e
  | .lst _ :: _, _, _, _, e => by cases e
  | .rdl _ :: _, _, _, _, e => by cases e
  | .ins _ _ _ :: _, _, _, _, e => by cases e
def fJoin : LV → List LV → SL → LH → O LV := fun x xs σ L => match x, xs with
  | .str a, [y] => match seqL σ L y with
    | some vs => match strs? vs with
      | some ys => if (ys.map (·.length)).sum + ys.length * a.length ≤ 16777216 then .ok (.str (Txt.join a ys)) L else .no
      | none => .no
    | none => .no
  | _, _ => .no
theorem opB_join : OpB K mg (fun x xs H Q => ∃ a p, ∃ ys : List Str, x = .str a ∧ xs = [.ref p] ∧ (SqL K H p (ys.map V.str) ∨ SqT K H p (ys.map V.str)) ∧ (ys.map (·.length)).sum + ys.length * a.length ≤ 16777216 ∧ Q (.str (Txt.join a ys)) H) fJoin := by
  intro W G F ι L H σl σ Q x u xs us rp vr ru rus q
  unfold fJoin at q
  split at q
  · split at q
    · rename_i vs e1
      split at q
      · rename_i ys e2
        split at q
        · rename_i hz
          cases ru with
          | r0 ru =>
            cases ru
            cases rus with
            | cons h t =>
              cases t
              obtain ⟨a, zs, rfl, h1, h2⟩ := seqL_ok rp vr h e1
              have e3 := strs_ok h2 e2
              subst e3
              exact ⟨_, a, ys, rfl, rfl, .inl h1, hz, q.ok rp _ (.r0 .str)⟩
        · exact q.elim
      · exact q.elim
    · exact q.elim
  · exact q.elim

/-! ### raise -/
def sRaise (c : Str) : MS := fun σ L => .er c [] [] σ L
theorem js_raise {x m : Str} {C : Addr} {j : Nat} {p p2 pos pos' : Pos} (tk : Takes X W) (gC : X.mg x = some (.ref C)) (q : PySem.W.excIn X.K C [.type "ValueError", .type "Exception", .type "BaseException", .type "object"] "ValueError.__new__" = true) (kC : PySem.W.keepIn X.K (.ref C) = true) (h1 : PySem.W.subIn X.K (.ref C) (.type "BaseException") = some true) (h2 : PySem.W.typeIn X.K (.ref C) = some (.type "type")) (hg : Gl X x := by rfl)
    (hdb : (x == ("__debug__" : Str)) = false := by decide) (hc : X.calm = true := by rfl) : JS X W (.Raise (some (.Call (.Name x p) [.Constant (.str m) j p2] [] pos)) none pos') (sRaise x) := by
  refine ⟨_, ps_raise hc tk (pmk_own PySem.F.excBase_ValueError q gC kC (raises_own h1 h2) hg hdb), ?_⟩
  intro G F ι L σl σ H D sr q
  exact q F ι H σ C none (Ext.refl _ _) sr gC rfl

/-! ### a def -/
def startL (n : Nat) (args : List LV) : SL := args.map .val ++ List.replicate (n - args.length) .no
/-- how a def's body ends -/
def fin (o : SO) : O LV := match o with
  | .nx _ L' => .ok .non L'
  | .rt v L' => .ok v L'
  | .er c ns vs _ L' => .er c ns vs L'
  | _ => .no
/-- a def's mirror, of n slots -/
def mDef (n : Nat) (b : MS) : List LV → LH → O LV := fun args L => fin (b (startL n args) L)
theorem mDef_run {n : Nat} {b : MS} {args : List LV} {L : LH} : mDef n b args L = fin (b (startL n args) L) := rfl
theorem fin_nx {σ : SL} {L : LH} : fin (.nx σ L) = .ok .non L := rfl
theorem fin_rt {v : LV} {L : LH} : fin (.rt v L) = .ok v L := rfl
theorem fin_er {c : Str} {ns : List Str} {vs : List LV} {σ : SL} {L : LH} : fin (.er c ns vs σ L) = .er c ns vs L := rfl
theorem vr_start {n : Nat} {N : List Str} {args : List LV} {vs : List V} (h : Rs0 K mg F ι args vs) (hn : n = N.length) : VR K mg G F ι (startL n args) (L2.start N vs) := by
  subst hn
  have key : ∀ (i : Nat) (s : Sl), (startL N.length args)[i]? = some s → (∃ v u, s = .val v ∧ (L2.start N vs)[i]? = some (some u) ∧ R0 K mg F ι v u) ∨ s = .no := fun i s e => by
    unfold startL at e
    by_cases hi : i < args.length
    · rw [List.getElem?_append_left (by simpa using hi), List.getElem?_map] at e
      cases ea : args[i]? with
      | none => rw [ea] at e; cases e
      | some v =>
        rw [ea] at e
        obtain ⟨u, e1, e2⟩ := h.get ea
        refine .inl ⟨v, u, (Option.some.inj e).symm, ?_, e2⟩
        unfold L2.start
        rw [List.getElem?_append_left (by rw [List.length_map, ← h.length]; exact hi), List.getElem?_map, e1]
        rfl
    · rw [List.getElem?_append_right (by simpa using Nat.le_of_not_lt hi)] at e
      exact .inr (List.eq_of_mem_replicate (List.mem_of_getElem? e))
  refine ⟨by unfold startL L2.start; simp [h.length], fun i v e => ?_, fun i vs e => ?_⟩
  · rcases key i _ e with ⟨v', u, e1, e2, e3⟩ | e1
    · cases e1; exact ⟨u, e2, e3⟩
    · cases e1
  · rcases key i _ e with ⟨v', u, e1, e2, e3⟩ | e1
    · cases e1
    · cases e1
theorem sr_start {n : Nat} {N : List Str} {args : List LV} {vs : List V} (r : Rep K mg G F ι L H) (h : Rs0 K mg F ι args vs) (hn : n = N.length) : SRep K mg G F ι L (startL n args) (L2.start N vs) H := by
  have no : ∀ (i : Nat) (ws : LO), (startL n args)[i]? ≠ some (.own ws) := fun i ws e => by
    have h' := (vr_start (G := fun _ => none) h hn).own i ws e
    obtain ⟨a, _, z⟩ := h'
    obtain ⟨u, z⟩ := z.there
    cases z
  exact ⟨G, Sub.refl G, r, vr_start h hn, fun i ws a e _ => absurd e (no i ws), fun i j ws xs a e _ _ _ => absurd e (no i ws)⟩
section
variable {P : Program} {w : World} {base : Heap}
/-- where a def's body runs -/
abbrev dX (P : Program) (w : World) (K : PySem.W.Frag) (mg : Str → Option Value) (base : Heap) (N : List Str) (qual : Str) (st : Stmt) (f : Addr) (cdv : Value) (A : Around) (outer : List Env) (s : Shared) (H : Hp) (E : XK) : Cx := cxOf (L2.CX P w) P w K mg base N qual (defScope st) f cdv A outer s H E
abbrev dW (E : XK) : WX := fun cls d _ H' => E cls d H'
/-- what the body's proof is given -/
structure Here (X : Cx) (W : WX) (k : Nat) : Prop where
  hr : Room k X.A
  tk : Takes X W
  hp : PassesOwn (model X.prog X.w) X.A X.env X.xe
/-- THE RULE for a def -/
theorem def_ok {x qual : Str} {st : Stmt} {f : Addr} {fd : FuncData} {N ps : List Str} {k n : Nat} {b : MS} (D : Fun K x qual st f fd) (S : FnScope N ps (defScope st)) (hn : n = N.length)
    (hb : ∀ (cdv : Value) (A : Around) (outer : List Env) (s : Shared) (H : Hp) (E : XK), Here (dX P w K mg base N qual st f cdv A outer s H E) (dW E) k → JSs (dX P w K mg base N qual st f cdv A outer s H E) (dW E) (defBody st) b) : DefOk P w K mg base (k + 1) f fd ps (mDef n b) := by
  refine Fun.okX D S (fun vs H Q E h => ?_) fun cdv A outer s H vs Q E hr h => ?_
  · obtain ⟨G, F, ι, L, args, h1, h2, h3, h4⟩ := h
    rw [← h3.length, h1]
  · obtain ⟨G, F, ι, L, args, h1, h2, h3, h4⟩ := h
    obtain ⟨t, p, sm⟩ := hb cdv A outer s H E ⟨hr, takes_of rfl rfl rfl rfl, passes_of rfl⟩
    refine ⟨t, p, sm G F ι L (startL n args) (L2.start N vs) H _ (sr_start h2 h3 hn) ?_⟩
    unfold mDef at h4
    cases e : b (startL n args) L with
    | nx σ' L' =>
      rw [e] at h4
      exact fun F' ι' H' σ2 x ⟨GO, s2⟩ => h4 F' ι' H' x (s2.rep.sub s2.sub) _ .non
    | rt v L' => rw [e] at h4; exact fun F' ι' H' u x r ru => h4 F' ι' H' x r u ru
    | bk σ' L' => rw [e] at h4; exact h4.elim
    | ct σ' L' => rw [e] at h4; exact h4.elim
    | er c ns zs σ' L' => rw [e] at h4; exact fun F' ι' H' σ2 C d x ⟨GO, s2⟩ m q => h4 F' ι' H' C d x (s2.rep.sub s2.sub) m q
    | no => rw [e] at h4; exact h4.elim
end
/-! ### the law's own call -/
theorem rs_ints : ∀ ns : List Int, Rs0 K mg F ι (ns.map .int) (ns.map V.int)
  | [] => .nil
  | n :: ns => .cons .int (rs_ints ns)
theorem law_start {H : Hp} {a : Addr} {ns : List Int} {m : List LV → LH → O LV} {Q : VK} {E : XK} {L' : LH} (hS : SqL K H a (ns.map V.int)) (hm : m [.rdl (ns.map .int)] [] = .ok (.bl true) L') (hq : ∀ H', Q (.bl true) H') : spM K mg 1 m [.ref a] H Q E := by
  refine ⟨fun _ => none, H, [], [], [.rdl (ns.map .int)], rfl, ⟨Sub.refl H, (fun _ _ h => nomatch h), (fun _ _ h => nomatch h), rfl, (fun n m a h => nomatch h), (fun n a h => nomatch h), fun n a o h => nomatch h⟩, .cons (.rdl hS (rs_ints ns)) .nil, ?_⟩
  rw [hm]
  exact fun F' ι' H' x r u ru => by cases ru; exact hq H'
end
end Z
namespace Z
open PySem PySem.Spec L2
section
variable {X : Cx} {W : WX} {K : PySem.W.Frag} {mg : Str → Option Value} {G F H : Hp} {ι : List Addr} {L : LH} {σ : St} {σl : SL}

/-! ### fields -/
def fieldL {α : Type} (f : Str) : List Str → List α → Option α
  | n :: ns, v :: vs => if n = f then some v else fieldL f ns vs
  | _, _ => none
theorem fieldL_ok {f : Str} {v : LV} : ∀ {ns : List Str} {vs : List LV} {us : List V}, Rs0 K mg F ι vs us → fieldL f ns vs = some v → ∃ u, (ns.zip us).lookup f = some u ∧ R0 K mg F ι v u
  | n :: ns, w :: vs, u :: us, .cons h r, e => by
    rw [List.zip_cons_cons, List.lookup_cons]
    unfold fieldL at e
    by_cases q : n = f
    · rw [if_pos q] at e
      cases e
      have e2 : (f == n) = true := by rw [q]; exact beq_self_eq_true f
      rw [e2]
      exact ⟨u, rfl, h⟩
    · rw [if_neg q] at e
      have e2 : (f == n) = false := beq_eq_false_iff_ne.mpr fun z => q z.symm
      rw [e2]
      exact fieldL_ok r e
  | [], _, _, _, e => by cases e
  | _ :: _, [], _, _, e => by cases e
theorem fieldL_none {f : Str} : ∀ {ns : List Str} {vs : List LV} {us : List V}, Rs0 K mg F ι vs us → fieldL f ns vs = none → (ns.zip us).lookup f = none
  | n :: ns, w :: vs, u :: us, .cons h r, e => by
    rw [List.zip_cons_cons, List.lookup_cons]
    unfold fieldL at e
    by_cases q : n = f
    · rw [if_pos q] at e; cases e
    · rw [if_neg q] at e
      rw [show (f == n) = false from beq_eq_false_iff_ne.mpr fun z => q z.symm]
      exact fieldL_none r e
  | [], _, _, _, _ => by rw [List.zip_nil_left]; rfl
  | _ :: _, [], _, .nil, _ => by rw [List.zip_nil_right]; rfl
def putN (f : Str) : List Str → List Str
  | [] => [f]
  | n :: ns => if n = f then n :: ns else n :: putN f ns
def putV {α : Type} (f : Str) (x : α) : List Str → List α → List α
  | [], _ => [x]
  | n :: ns, v :: vs => if n = f then x :: vs else v :: putV f x ns vs
  | _ :: _, [] => []
theorem putF_zip {f : Str} {y : V} : ∀ {ns : List Str} {us : List V}, ns.length = us.length → putF f y (ns.zip us) = (putN f ns).zip (putV f y ns us) ∧ (putN f ns).length = (putV f y ns us).length
  | [], [], _ => ⟨rfl, rfl⟩
  | n :: ns, u :: us, h => by
    have h' : ns.length = us.length := Nat.succ.inj h
    obtain ⟨i1, i2⟩ := putF_zip (f := f) (y := y) h'
    rw [List.zip_cons_cons]
    unfold putF putN putV
    by_cases q : n = f
    · rw [if_pos q, if_pos q, if_pos q]
      exact ⟨rfl, by rw [List.length_cons, List.length_cons, h']⟩
    · rw [if_neg q, if_neg q, if_neg q, i1]
      exact ⟨rfl, by rw [List.length_cons, List.length_cons, i2]⟩
theorem putV_ok {f : Str} {v : LV} {y : V} (hv : R0 K mg F ι v y) : ∀ {ns : List Str} {vs : List LV} {us : List V}, ns.length = us.length → Rs0 K mg F ι vs us → Rs0 K mg F ι (putV f v ns vs) (putV f y ns us)
  | [], _, _, h, r => .cons hv .nil
  | n :: ns, v' :: vs, u :: us, h, .cons r rr => by
    unfold putV
    by_cases q : n = f
    · rw [if_pos q, if_pos q]; exact .cons hv rr
    · rw [if_neg q, if_neg q]; exact .cons r (putV_ok hv (Nat.succ.inj h) rr)
  | _ :: _, [], [], _, .nil => .nil
/-- an instance: its class, its fields -/
def insOf (σ : SL) (L : LH) : LV → Option (Str × List Str × List LV)
  | .ins c ns vs => some (c, ns, vs)
  | .ref n => match L[n]? with
    | some (.ins c ns vs) => some (c, ns, vs)
    | _ => none
  | .loc i => match σ[i]? with
    | some (.own (.ins c ns vs)) => some (c, ns, vs)
    | _ => none
  | _ => none
theorem insOf_ok {v : LV} {u : V} {c : Str} {ns : List Str} {vs : List LV} (r : Rep K mg G F ι L H) (vr : VR K mg G F ι σl σ) (hv : RV K mg σ F ι v u) (h : insOf σl L v = some (c, ns, vs)) :
    ∃ a C dx us, u = .ref a ∧ mg c = some (.ref C) ∧ H a = some (.ins C dx (ns.zip us)) ∧ ns.length = us.length ∧ Rs0 K mg F ι vs us := by
  unfold insOf at h
  split at h
  · cases h
    cases hv with
    | r0 hv => cases hv with | ins h1 h2 h3 h4 => exact ⟨_, _, _, _, rfl, h1, r.f _ _ h2, h3, h4⟩
  · split at h
    · rename_i e
      cases h
      cases hv with
      | r0 hv =>
        cases hv with
        | ref h1 => cases r.obj _ _ _ h1 e with | ins z1 z2 z3 z4 => exact ⟨_, _, _, _, rfl, z1, z2, z3, z4⟩
    · cases h
  · split at h
    · rename_i e
      cases h
      obtain ⟨a, h1, h2⟩ := vr.own _ _ e
      cases hv with
      | r0 hv => cases hv
      | loc q =>
        rw [q] at h1
        cases h1
        cases h2 with | ins z1 z2 z3 z4 => exact ⟨_, _, _, _, rfl, z1, r.g _ _ z2, z3, z4⟩
    · cases h
  · cases h
/-- the classes cs have f as a plain field -/
def FldF (K : PySem.W.Frag) (mg : Str → Option Value) (cs : List Str) (f : Str) : Prop := ∀ c, c ∈ cs → ∀ C, mg c = some (.ref C) → Cls K C ∧ NoAttr K C f
def fFld (cs : List Str) (f : Str) : LV → SL → LH → O LV := fun x σ L => match insOf σ L x with
  | some (c, ns, vs) => if cs.contains c = true then (match fieldL f ns vs with
    | some v => .ok v L
    | none => .no) else .no
  | none => .no
theorem mem_of_contains {c : Str} {cs : List Str} (h : cs.contains c = true) : c ∈ cs := by simpa using h
theorem je_fld {o : Expr} {f : Str} {pos : Pos} {cs : List Str} {m : ME} (hf : FldF X.K X.mg cs f) (ho : JE X W o m) (hb : attributeBase o f X.env (eval o X.env) = eval o X.env := by rfl) : JE X W (.Attribute o f pos) (e1 (fFld cs f) m) := by
  obtain ⟨t, p, s⟩ := ho
  refine ⟨_, pe_fld p hb, ?_⟩
  intro G F ι L H σl σ Q rp vr q
  refine s _ _ _ _ _ _ _ _ rp vr ((Pst.bind q).imp fun v F1 ι1 L1 H1 x1 rp1 q1 u ru => ?_)
  unfold fFld at q1
  split at q1
  · rename_i c ns vs e
    split at q1
    · rename_i hc
      split at q1
      · rename_i w ew
        obtain ⟨a, C, dx, us, rfl, h1, h2, h3, h4⟩ := insOf_ok rp1 (vr.mono x1) ru e
        obtain ⟨z1, z2⟩ := hf c (mem_of_contains hc) C h1
        obtain ⟨u', k1, k2⟩ := fieldL_ok h4 ew
        exact ⟨a, C, dx, _, u', rfl, h2, z1, z2, k1, q1.ok rp1 _ (.r0 k2)⟩
      · exact q1.elim
    · exact q1.elim
  · exact q1.elim
/-- o.f = e -/
def sFldM (cs : List Str) (f : Str) (mo me : ME) : MS := fun σ L => lift ((me σ L).bind fun v L1 => (mo σ L1).bind fun o L2 => if clean v = true then .ok (v, o) L2 else .no) σ fun p L2 => match insOf σ L2 p.2 with
  | some (c, ns, vs) => if (cs.contains c && decide (ns.length < 1000)) = true then (match p.2 with
    | .ref n => .nx σ (L2.set n (.ins c (putN f ns) (putV f p.1 ns vs)))
    | .loc i => .nx (σ.set i (.own (.ins c (putN f ns) (putV f p.1 ns vs)))) L2
    | _ => .no) else .no
  | none => .no
theorem js_fld {o e : Expr} {f : Str} {pos pos' : Pos} {cs : List Str} {mo me : ME} (hf : FldF X.K X.mg cs f) (ho : JE X W o mo) (he : JE X W e me) (hs : swapsWith e (some (.Attribute o f pos')) pos.line X.env = pure false := by rfl) : JS X W (.Assign [.Attribute o f pos'] e pos) (sFldM cs f mo me) := by
  obtain ⟨to, po, so⟩ := ho
  obtain ⟨te, pe, se⟩ := he
  refine ⟨_, ps_fld po pe hs, ?_⟩
  intro G F ι L σl σ H D sr q
  obtain ⟨GO, sr⟩ := sr
  have q0 := PstS.lift sr q
  refine se _ _ _ _ _ _ _ _ sr.rep sr.vr ((Pst.bind q0).imp fun v F1 ι1 L1 H1 x1 rp1 q1 u ru => ?_)
  refine so _ _ _ _ _ _ _ _ rp1 (sr.vr.mono x1) ((Pst.bind q1).imp fun ov F2 ι2 L2 H2 x2 rp2 q2 uo ruo => ?_)
  split at q2
  · rename_i hcl
    have q3 := q2.ok rp2
    have r0 := (ru.mono x2).clean hcl
    have vr2 := (sr.vr.mono x1).mono x2
    have sr2 := sr.ext (x1.trans x2) rp2
    simp only at q3
    split at q3
    · rename_i c ns vs e
      split at q3
      · rename_i hc
        rw [Bool.and_eq_true] at hc
        obtain ⟨a, C, dx, us, rfl, h1, h2, h3, h4⟩ := insOf_ok rp2 vr2 ruo e
        obtain ⟨z1, z2⟩ := hf c (mem_of_contains hc.1) C h1
        obtain ⟨p1, p2⟩ := putF_zip (f := f) (y := u) h3
        refine ⟨a, C, dx, _, rfl, h2, z1, z2, ?_, ?_⟩
        · rw [List.length_zip, ← h3, Nat.min_self]
          exact of_decide_eq_true hc.2
        · rw [p1]
          split at q3
          · rename_i n
            cases ruo with
            | r0 ruo =>
              cases ruo with
              | ref k1 =>
                have rw := rp2.write k1 (o := .ins c (putN f ns) (putV f v ns vs)) (u := .ins C dx ((putN f ns).zip (putV f u ns us))) (.ins h1 upd_same p2 (putV_ok r0 h3 h4))
                exact q3 F2 ι2 _ σ (Ext.refl _ _) ⟨GO, sr2.ext (Ext.refl _ _) rw⟩
          · rename_i i
            cases ruo with
            | r0 ruo => cases ruo
            | loc k1 =>
              obtain ⟨w, ew⟩ : ∃ w, σl[i]? = some (.own w) := by
                simp only [insOf] at e
                split at e
                · exact ⟨_, by assumption⟩
                · cases e
              exact q3 F2 ι2 _ σ (Ext.refl _ _) ⟨_, sr2.putOwn ew k1 (.ins h1 upd_same p2 (putV_ok r0 h3 h4))⟩
          · exact q3.elim
      · exact q3.elim
    · exact q3.elim
  · exact q2.elim

/-! ### lists that grow -/
/-- a list's method that leaves another list and hands back None -/
def LMod (K : PySem.W.Frag) (mg : Str → Option Value) (r : V → List V → Hp → VK → Prop) (g : List LV → List LV → Option (List LV)) : Prop := ∀ (F : Hp) (ι : List Addr) (vs as vs' : List LV) (us bs : List V), Rs0 K mg F ι vs us → Rs0 K mg F ι as bs → g vs as = some vs' →
  ∃ us', Rs0 K mg F ι vs' us' ∧ ∀ (a : Addr) (H : Hp) (Q : VK), H a = some (.lst us) → Q .non (upd H a (.lst us')) → r (.ref a) bs H Q
def gApp : List LV → List LV → Option (List LV) := fun vs as => match as with
  | [v] => if vs.length < sizeLine then some (vs ++ [v]) else none
  | _ => none
theorem lmod_app : LMod K mg rAppend gApp := by
  intro F ι vs as vs' us bs h h' e
  unfold gApp at e
  split at e
  · split at e
    · rename_i hz
      cases e
      cases h' with
      | cons r rr =>
        cases rr
        exact ⟨_, h.append (.cons r .nil), fun a H Q k q => ⟨a, us, _, rfl, rfl, k, by rw [← h.length]; exact hz, q⟩⟩
    · cases e
  · cases e
def rIns : V → List V → Hp → VK → Prop := fun x vs H Q => ∃ (l : Addr) (xs : List V) (i : Int) (y : V), x = .ref l ∧ vs = [.int i, y] ∧ H l = some (.lst xs) ∧ xs.length < sizeLine ∧ 0 ≤ i ∧ i < 2 ^ 63 ∧ Q .non (upd H l (.lst (xs.take i.toNat ++ [y] ++ xs.drop i.toNat)))
def gIns : List LV → List LV → Option (List LV) := fun vs as => match as with
  | [.int i, v] => if vs.length < sizeLine ∧ 0 ≤ i ∧ i < 2 ^ 63 then some (vs.take i.toNat ++ [v] ++ vs.drop i.toNat) else none
  | _ => none
theorem lmod_ins : LMod K mg rIns gIns := by
  intro F ι vs as vs' us bs h h' e
  unfold gIns at e
  split at e
  · split at e
    · rename_i hz
      cases e
      cases h' with
      | cons r rr =>
        cases r
        cases rr with
        | cons r rr =>
          cases rr
          exact ⟨_, ((h.take _).append (.cons r .nil)).append (h.drop _), fun a H Q k q => ⟨a, us, _, _, rfl, rfl, k, by rw [← h.length]; exact hz.1, hz.2.1, hz.2.2, q⟩⟩
    · cases e
  · cases e
def sMod (g : List LV → List LV → Option (List LV)) (mo : ME) (ma : MA) : MS := fun σ L => lift ((mo σ L).bind fun o L1 => match seqM σ L1 o with
  | some _ => (ma σ L1).bind fun vs L2 => if vs.all clean = true then .ok (o, vs) L2 else .no
  | none => .no) σ fun p L2 => match p.1 with
  | .ref n => match L2[n]? with
    | some (.lst vs) => match g vs p.2 with
      | some vs' => .nx σ (L2.set n (.lst vs'))
      | none => .no
    | _ => .no
  | .loc i => match σ[i]? with
    | some (.own (.lst vs)) => match g vs p.2 with
      | some vs' => .nx (σ.set i (.own (.lst vs'))) L2
      | none => .no
    | _ => .no
  | _ => .no
theorem sim_mod {r : V → List V → Hp → VK → Prop} {g : List LV → List LV → Option (List LV)} {to : TE} {ta : TA} {mo : ME} {ma : MA} (hg : LMod K mg r g) (so : SimE K mg W to mo) (sa : SimA K mg W ta ma) : SimS K mg W (tDrop (tBM K "list" r to ta)) (sMod g mo ma) := by
  intro G F ι L σl σ H D sr q
  obtain ⟨GO, sr⟩ := sr
  have q0 := PstS.lift sr q
  refine so _ _ _ _ _ _ _ _ sr.rep sr.vr ((Pst.bind q0).imp fun o F1 ι1 L1 H1 x1 rp1 q1 uo ruo => ?_)
  split at q1
  · rename_i ws e0
    obtain ⟨a, us, rfl, h1, h2⟩ := seqM_ok rp1 (sr.vr.mono x1) ruo e0
    refine ⟨.inl ⟨rfl, _, .of h1⟩, sa _ _ _ _ _ _ _ _ rp1 (sr.vr.mono x1) ((Pst.bind q1).imp fun vs F2 ι2 L2 H2 x2 rp2 q2 bs rbs => ?_)⟩
    split at q2
    · rename_i hc
      have q3 := q2.ok rp2
      have r0 := RVs.clean rbs hc
      have sr2 := sr.ext (x1.trans x2) rp2
      simp only at q3
      split at q3
      · rename_i n
        split at q3
        · rename_i zs ez
          split at q3
          · rename_i zs' eg
            cases ruo with
            | r0 ruo =>
              cases ruo with
              | ref k1 =>
                have k2 := x2.pre _ _ k1
                cases rp2.obj _ _ _ k2 ez with
                | lst z1 z2 =>
                  obtain ⟨us', y1, y2⟩ := hg _ _ _ _ _ _ _ z2 r0 eg
                  refine y2 a H2 _ z1 ?_
                  have rw := rp2.write k2 (o := .lst zs') (u := .lst us') (.lst upd_same y1)
                  exact q3 F2 ι2 _ σ (Ext.refl _ _) ⟨GO, sr2.ext (Ext.refl _ _) rw⟩
          · exact q3.elim
        · exact q3.elim
      · rename_i i
        split at q3
        · rename_i zs ez
          split at q3
          · rename_i zs' eg
            cases ruo with
            | r0 ruo => cases ruo
            | loc k1 =>
              obtain ⟨a', y0, y1⟩ := sr2.vr.own _ _ ez
              rw [k1] at y0
              cases y0
              cases y1 with
              | lst z1 z2 =>
                obtain ⟨us', y1, y2⟩ := hg _ _ _ _ _ _ _ z2 r0 eg
                refine y2 a H2 _ (rp2.g _ _ z1) ?_
                exact q3 F2 ι2 _ σ (Ext.refl _ _) ⟨_, sr2.putOwn ez k1 (.lst upd_same y1)⟩
          · exact q3.elim
        · exact q3.elim
      · exact q3.elim
    · exact q2.elim
  · exact q1.elim
theorem js_mod {o e : Expr} {es : List Expr} {name : Str} {apos cpos pos : Pos} {id : String} {r : V → List V → Hp → VK → Prop} {g : List LV → List LV → Option (List LV)} {mo : ME} {ma : MA} (slot : Slot "list" name id) (hty : typeOf (.builtin id) = pure (.type "method_descriptor")) (hm : MtR X id r) (hg : LMod X.K X.mg r g) (ho : JE X W o mo) (ha : JA X W (e :: es) ma)
    (hbase : attributeBase o name X.env (eval o X.env) = eval o X.env := by rfl) (hfew : ((backTo cpos (starEach (e :: es) X.env)).all (fun x => !x.1) && (backToKw cpos (keywordEach [] X.env)).all (fun x => x.1.isSome) && decide ((e :: es).length + ([] : List Keyword).length + (if ([] : List Keyword).isEmpty then 0 else 1) < 30)) = true := by rfl)
    (hline : (apos.endLine == cpos.line) = true := by rfl) (hs : starEach (e :: es) X.env = (false, eval e X.env) :: starEach es X.env := by rfl) (hplain : (backTo cpos (starEach es X.env)).any (·.1) = false := by rfl) (hsw : swapsWith (.Call (.Attribute o name apos) (e :: es) [] cpos) none pos.line X.env = pure false := by rfl) :
    JS X W (.Expr (.Call (.Attribute o name apos) (e :: es) [] cpos) pos) (sMod g mo ma) :=
  let ⟨_, po, so⟩ := ho; let ⟨_, pa, sa⟩ := ha; ⟨_, ps_expr (pe_bm PySem.F.plainAttrs_list slot hty hm po pa hbase hfew hline hs hplain) hsw, sim_mod hg so sa⟩
/-- xs.extend(ys) -/
def sExt (mo me : ME) : MS := fun σ L => lift ((mo σ L).bind fun o L1 => match seqM σ L1 o with
  | some _ => (me σ L1).bind fun y L2 => .ok (o, y) L2
  | none => .no) σ fun p L2 => match seqM σ L2 p.2 with
  | some ws => (match p.1 with
    | .ref n => match L2[n]? with
      | some (.lst vs) => if vs.length + ws.length ≤ sizeLine then .nx σ (L2.set n (.lst (vs ++ ws))) else .no
      | _ => .no
    | .loc i => match σ[i]? with
      | some (.own (.lst vs)) => if vs.length + ws.length ≤ sizeLine then .nx (σ.set i (.own (.lst (vs ++ ws)))) L2 else .no
      | _ => .no
    | _ => .no)
  | none => .no
theorem sim_ext {to te : TE} {mo me : ME} (so : SimE K mg W to mo) (se : SimE K mg W te me) : SimS K mg W (tDrop (tBM K "list" rExtend to (tCons te tNil))) (sExt mo me) := by
  intro G F ι L σl σ H D sr q
  obtain ⟨GO, sr⟩ := sr
  have q0 := PstS.lift sr q
  refine so _ _ _ _ _ _ _ _ sr.rep sr.vr ((Pst.bind q0).imp fun o F1 ι1 L1 H1 x1 rp1 q1 uo ruo => ?_)
  split at q1
  · rename_i ws e0
    obtain ⟨a, us, rfl, h1, h2⟩ := seqM_ok rp1 (sr.vr.mono x1) ruo e0
    refine ⟨.inl ⟨rfl, _, .of h1⟩, se _ _ _ _ _ _ _ _ rp1 (sr.vr.mono x1) ((Pst.bind q1).imp fun y F2 ι2 L2 H2 x2 rp2 q2 b rb => ?_)⟩
    have q3 := q2.ok rp2
    have sr2 := sr.ext (x1.trans x2) rp2
    simp only at q3
    split at q3
    · rename_i ws ew
      obtain ⟨b', bs, rfl, w1, w2⟩ := seqM_ok rp2 sr2.vr rb ew
      split at q3
      · rename_i n
        split at q3
        · rename_i zs ez
          split at q3
          · rename_i hz
            cases ruo with
            | r0 ruo =>
              cases ruo with
              | ref k1 =>
                have k2 := x2.pre _ _ k1
                cases rp2.obj _ _ _ k2 ez with
                | lst z1 z2 =>
                  refine ⟨a, b', _, _, rfl, rfl, z1, w1, by rw [← z2.length, ← w2.length]; exact hz, ?_⟩
                  have rw := rp2.write k2 (o := .lst (zs ++ ws)) (.lst upd_same (z2.append w2))
                  exact q3 F2 ι2 _ σ (Ext.refl _ _) ⟨GO, sr2.ext (Ext.refl _ _) rw⟩
          · exact q3.elim
        · exact q3.elim
      · rename_i i
        split at q3
        · rename_i zs ez
          split at q3
          · rename_i hz
            cases ruo with
            | r0 ruo => cases ruo
            | loc k1 =>
              obtain ⟨a', y0, y1⟩ := sr2.vr.own _ _ ez
              rw [k1] at y0
              cases y0
              cases y1 with
              | lst z1 z2 =>
                refine ⟨a, b', _, _, rfl, rfl, rp2.g _ _ z1, w1, by rw [← z2.length, ← w2.length]; exact hz, ?_⟩
                exact q3 F2 ι2 _ σ (Ext.refl _ _) ⟨_, sr2.putOwn ez k1 (.lst upd_same (z2.append w2))⟩
          · exact q3.elim
        · exact q3.elim
      · exact q3.elim
    · exact q3.elim
  · exact q1.elim
theorem js_ext {o e : Expr} {apos cpos pos : Pos} {mo me : ME} (ho : JE X W o mo) (he : JE X W e me)
    (hbase : attributeBase o "extend" X.env (eval o X.env) = eval o X.env := by rfl) (hfew : ((backTo cpos (starEach [e] X.env)).all (fun x => !x.1) && (backToKw cpos (keywordEach [] X.env)).all (fun x => x.1.isSome) && decide ([e].length + ([] : List Keyword).length + (if ([] : List Keyword).isEmpty then 0 else 1) < 30)) = true := by rfl)
    (hline : (apos.endLine == cpos.line) = true := by rfl) (hs : starEach [e] X.env = (false, eval e X.env) :: starEach [] X.env := by rfl) (hplain : (backTo cpos (starEach [] X.env)).any (·.1) = false := by rfl) (hsw : swapsWith (.Call (.Attribute o "extend" apos) [e] [] cpos) none pos.line X.env = pure false := by rfl) :
    JS X W (.Expr (.Call (.Attribute o "extend" apos) [e] [] cpos) pos) (sExt mo me) :=
  let ⟨_, po, so⟩ := ho; let ⟨_, pe, se⟩ := he; ⟨_, ps_expr (pe_bm PySem.F.plainAttrs_list PySem.F.slot_list_extend PySem.F.type_list_extend mt_extend po (pa_cons pe pa_nil hs) hbase hfew hline hs hplain) hsw, sim_ext so se⟩
end
end Z
namespace Z
open PySem PySem.Spec L2
section
variable {K : PySem.W.Frag} {mg : Str → Option Value} {GO G F H : Hp} {ι : List Addr} {L : LH} {σ : St} {σl : SL}
theorem at_set {α : Type} {l : List α} {i j : Nat} {x y : α} (h : (l.set i x)[j]? = some y) : (i = j ∧ x = y) ∨ (i ≠ j ∧ l[j]? = some y) := by
  rw [List.getElem?_set] at h
  split at h
  · split at h
    · cases h; exact .inl ⟨by assumption, rfl⟩
    · cases h
  · exact .inr ⟨by assumption, h⟩
/-- a slot that is not told any more -/
theorem SRep.unset {i : Nat} {u : Option V} (s : SRep K mg G F ι L σl σ H) : SRep K mg G F ι L (σl.set i .no) (σ.set i u) H := by
  obtain ⟨GO, s⟩ := s
  have one : ∀ {j : Nat} {w : Sl}, (σl.set i .no)[j]? = some w → w ≠ .no → i ≠ j ∧ σl[j]? = some w := fun h hw => by
    rcases at_set h with ⟨_, e⟩ | h
    · exact absurd e.symm hw
    · exact h
  have two : ∀ {j : Nat} {w : Option V}, i ≠ j → (σ.set i u)[j]? = some w → σ[j]? = some w := fun hn h => by
    rcases at_set h with ⟨e, _⟩ | h
    · exact absurd e hn
    · exact h.2
  have three : ∀ {j : Nat}, i ≠ j → (σ.set i u)[j]? = σ[j]? := fun hn => List.getElem?_set_ne hn
  refine ⟨GO, s.sub, s.rep, ⟨by rw [List.length_set, List.length_set, s.vr.len], fun j v h => ?_, fun j o h => ?_⟩, fun j o a h h2 => ?_, fun j k o p a h1 h2 h3 h4 => ?_⟩
  · obtain ⟨hn, h⟩ := one h (fun e => nomatch e)
    rw [three hn]; exact s.vr.val j v h
  · obtain ⟨hn, h⟩ := one h (fun e => nomatch e)
    rw [three hn]; exact s.vr.own j o h
  · obtain ⟨hn, h⟩ := one h (fun e => nomatch e)
    exact s.fr j o a h (two hn h2)
  · obtain ⟨hn, h1⟩ := one h1 (fun e => nomatch e)
    obtain ⟨hm, h2⟩ := one h2 (fun e => nomatch e)
    exact s.dis j k o p a h1 h2 (two hn h3) (two hm h4)
end
section
variable {X : Cx} {W : WX}
/-- what a suite's end is, slot i forgotten: no exception leaves it -/
def endI (i : Nat) : SO → SO
  | .nx σ L => .nx (σ.set i .no) L
  | .rt v L => .rt v L
  | .bk σ L => .bk (σ.set i .no) L
  | .ct σ L => .ct (σ.set i .no) L
  | _ => .no
def calmO : SO → SO
  | .er _ _ _ _ _ => .no
  | o => o
/-- try .. except X as n: which of the classes cs are met, what the suite does for one -/
def sTryAs (i : Nat) (cs : List (Str × List Str)) (hit : Str → Bool) (mb : MS) (ms : Str → List Str → List LV → MS) : MS := fun σ L => match mb σ L with
  | .er c ns vs σ1 L1 => if (c, ns) ∈ cs then (if hit c then endI i (ms c ns vs (σ1.set i .no) L1) else .er c ns vs σ1 L1) else .no
  | o => o
def sTry (cs : List (Str × List Str)) (hit : Str → Bool) (mb ms : MS) : MS := fun σ L => match mb σ L with
  | .er c ns vs σ1 L1 => if (c, ns) ∈ cs then (if hit c then calmO (ms σ1 L1) else .er c ns vs σ1 L1) else .no
  | o => o
/-- no exception's wish -/
def W0x : WX := fun _ _ _ _ => False
/-- a suite's statements, the exception a in slot i -/
def SimX (X : Cx) (i : Nat) (a : Addr) (d : Option Addr) (ns : List Str) (vs : List LV) (t : TS) (m : MS) : Prop := ∀ (G F : Hp) (ι : List Addr) (L : LH) (σl : SL) (σ : St) (H : Hp) (D : Ends), SRep X.K X.mg G F ι L σl σ H → σ[i]? = some (some (.ref a)) → RX X.K X.mg F ι d ns vs →
  PstS X.K X.mg G F ι (m σl L) D W0x → t D σ H
def JX (X : Cx) (i : Nat) (a : Addr) (d : Option Addr) (ns : List Str) (vs : List LV) (s : List Stmt) (m : MS) : Prop := ∃ t, PSs X s t ∧ SimX X i a d ns vs t m
/-- what stands ready for a class that may be met -/
structure Met (K : PySem.W.Frag) (mg : Str → Option Value) (cv : Value) (cs : List (Str × List Str)) (hit : Str → Bool) : Prop where
  exm : ∀ p ∈ cs, ∀ C, mg p.1 = some (.ref C) → PySem.W.exmOne K (.ref C) cv = some (hit p.1)
theorem js_try_as {x n : Str} {cv : Value} {i : Nat} {body suite : List Stmt} {b₀ : Stmt} {np pos pos' : Pos} {cs : List (Str × List Str)} {hit : Str → Bool} {mb : MS} {ms : Str → List Str → List LV → MS} (tk : Takes X W) (hs : X.stack = X.env :: X.outer) (hf : X.env.frame = some X.env.locals) (hN : X.N.Nodup) (hc : Names X x cv) (met : Met X.K X.mg cv cs hit)
    (hb : ∀ (pn : List (Addr × Obj)) (xe : Value → Shared → Prop) (W' : WX), Takes (X.tr pn xe) W' → PassesOwn (model X.prog X.w) X.A X.env xe → JSs (X.tr pn xe) W' body mb)
    (hsu : ∀ c ns, (c, ns) ∈ cs → hit c = true → ∀ C, X.mg c = some (.ref C) → ∀ (a : Addr) (oe : Obj) (d : Option Addr) (pn : List (Addr × Obj)) (vs : List LV), (ns = [] → d = none) → Zc (.ref C) d oe → (∃ us, oe.data = .fields us) → JX (X.suite a ((a, oe) :: pn)) i a d ns vs (b₀ :: suite) (ms c ns vs))
    (hi : X.N[i]? = some n := by rfl) (hln : X.env.kindOf n = some .local := by rfl) :
    JS X W (.Try body [.ExceptHandler (some (.Name x np)) (some n) (b₀ :: suite) pos'] [] [] pos) (sTryAs i cs hit mb ms) := by
  refine ⟨_, ps_try_as (c := cv) (i := i) hs hf hN hi hln hc tk
    (tb := fun W' D σ H => ∀ (pn : List (Addr × Obj)) (xe : Value → Shared → Prop), Takes (X.tr pn xe) W' → PassesOwn (model X.prog X.w) X.A X.env xe → ∃ t, PSs (X.tr pn xe) body t ∧ t D σ H)
    (ts := fun a cls d D σ H => ∀ (oe : Obj) (pn : List (Addr × Obj)), Zc cls d oe → (∃ us, oe.data = .fields us) → ∃ t, PSs (X.suite a ((a, oe) :: pn)) (b₀ :: suite) t ∧ (i < σ.length → t D σ H))
    (fun W' pn xe t1 po => ⟨fun pins s σ H D I h => by
      obtain ⟨t, p, q⟩ := h pn xe t1 po
      exact p.run pins s σ H D I q⟩)
    (fun a oe cls d pn z1 z2 => ⟨fun pins s σ H D I h => by
      obtain ⟨t, p, q⟩ := h oe pn z1 z2
      exact p.run pins s σ H D I (q (by rw [I.len]; exact (List.getElem?_eq_some_iff.mp hi).1))⟩), ?_⟩
  intro G F ι L σl σ H D sr q
  show ∀ (pn : List (Addr × Obj)) (xe : Value → Shared → Prop), Takes (X.tr pn xe) _ → _ → _
  intro pn xe t1 po
  obtain ⟨t, p, sm⟩ := hb pn xe _ t1 po
  refine ⟨t, p, sm G F ι L σl σ H D sr ?_⟩
  unfold sTryAs at q
  show PstS X.K X.mg G F ι (mb σl L) D _
  cases e : mb σl L with
  | nx s' L' => rw [e] at q; exact q
  | rt v L' => rw [e] at q; exact q
  | bk s' L' => rw [e] at q; exact q
  | ct s' L' => rw [e] at q; exact q
  | no => rw [e] at q; exact q
  | er c ns vs s' L' =>
    rw [e] at q
    simp only at q
    intro F' ι' H' σ' C d x1 sr1 hC rx
    split at q
    · rename_i hin
      refine ⟨hit c, met.exm (c, ns) hin C hC, fun hh a na oe pn' z1 z2 => ?_, fun hh => ?_⟩
      · rw [if_pos hh] at q
        obtain ⟨t', p', sx⟩ := hsu c ns hin hh C hC a oe d pn' vs (fun e => by subst e; exact rx) z1 z2
        refine ⟨t', p', fun hlt => sx G F' ι' L' (s'.set i .no) (σ'.set i (some (.ref a))) H' _ (sr1.unset) ?_ rx ?_⟩
        · rw [List.length_set] at hlt
          exact List.getElem?_set_self hlt
        · have q := q.ext x1
          cases e2 : ms c ns vs (s'.set i .no) L' with
          | nx s2 L2 => rw [e2] at q; exact fun F2 ι2 H2 σ2 x2 r2 => q F2 ι2 H2 _ x2 r2.unset
          | rt v L2 => rw [e2] at q; exact q
          | bk s2 L2 => rw [e2] at q; exact fun F2 ι2 H2 σ2 x2 r2 => q F2 ι2 H2 _ x2 r2.unset
          | ct s2 L2 => rw [e2] at q; exact fun F2 ι2 H2 σ2 x2 r2 => q F2 ι2 H2 _ x2 r2.unset
          | er c2 n2 v2 s2 L2 => rw [e2] at q; exact q.elim
          | no => rw [e2] at q; exact q.elim
      · rw [if_neg (by simp [hh])] at q
        exact q F' ι' H' σ' C d x1 sr1 hC rx
    · exact q.elim
theorem js_try {x : Str} {cv : Value} {body suite : List Stmt} {b₀ : Stmt} {np pos pos' : Pos} {cs : List (Str × List Str)} {hit : Str → Bool} {mb ms : MS} (tk : Takes X W) (hs : X.stack = X.env :: X.outer) (hf : X.env.frame = some X.env.locals) (hc : Names X x cv) (met : Met X.K X.mg cv cs hit)
    (hb : ∀ (pn : List (Addr × Obj)) (xe : Value → Shared → Prop) (W' : WX), Takes (X.tr pn xe) W' → PassesOwn (model X.prog X.w) X.A X.env xe → JSs (X.tr pn xe) W' body mb)
    (hsu : ∀ (a : Addr) (oe : Obj) (pn : List (Addr × Obj)), JSs (X.suite a ((a, oe) :: pn)) W0x (b₀ :: suite) ms) :
    JS X W (.Try body [.ExceptHandler (some (.Name x np)) none (b₀ :: suite) pos'] [] [] pos) (sTry cs hit mb ms) := by
  refine ⟨_, ps_try_only (c := cv) hs hf hc tk
    (tb := fun W' D σ H => ∀ (pn : List (Addr × Obj)) (xe : Value → Shared → Prop), Takes (X.tr pn xe) W' → PassesOwn (model X.prog X.w) X.A X.env xe → ∃ t, PSs (X.tr pn xe) body t ∧ t D σ H)
    (ts := fun a cls d D σ H => ∀ (oe : Obj) (pn : List (Addr × Obj)), ∃ t, PSs (X.suite a ((a, oe) :: pn)) (b₀ :: suite) t ∧ t D σ H)
    (fun W' pn xe t1 po => ⟨fun pins s σ H D I h => by
      obtain ⟨t, p, q⟩ := h pn xe t1 po
      exact p.run pins s σ H D I q⟩)
    (fun a oe cls d pn z1 z2 => ⟨fun pins s σ H D I h => by
      obtain ⟨t, p, q⟩ := h oe pn
      exact p.run pins s σ H D I q⟩), ?_⟩
  intro G F ι L σl σ H D sr q
  show ∀ (pn : List (Addr × Obj)) (xe : Value → Shared → Prop), Takes (X.tr pn xe) _ → _ → _
  intro pn xe t1 po
  obtain ⟨t, p, sm⟩ := hb pn xe _ t1 po
  refine ⟨t, p, sm G F ι L σl σ H D sr ?_⟩
  unfold sTry at q
  show PstS X.K X.mg G F ι (mb σl L) D _
  cases e : mb σl L with
  | nx s' L' => rw [e] at q; exact q
  | rt v L' => rw [e] at q; exact q
  | bk s' L' => rw [e] at q; exact q
  | ct s' L' => rw [e] at q; exact q
  | no => rw [e] at q; exact q
  | er c ns vs s' L' =>
    rw [e] at q
    simp only at q
    intro F' ι' H' σ' C d x1 sr1 hC rx
    split at q
    · rename_i hin
      refine ⟨hit c, met.exm (c, ns) hin C hC, fun hh a na oe pn' => ?_, fun hh => ?_⟩
      · rw [if_pos hh] at q
        obtain ⟨t', p', sx⟩ := hsu a oe pn'
        refine ⟨t', p', sx G F' ι' L' s' σ' H' _ sr1 ?_⟩
        have q := q.ext x1
        cases e2 : ms s' L' with
        | nx s2 L2 => rw [e2] at q; exact q
        | rt v L2 => rw [e2] at q; exact q
        | bk s2 L2 => rw [e2] at q; exact q
        | ct s2 L2 => rw [e2] at q; exact q
        | er c2 n2 v2 s2 L2 => rw [e2] at q; exact q.elim
        | no => rw [e2] at q; exact q.elim
      · rw [if_neg (by simp [hh])] at q
        exact q F' ι' H' σ' C d x1 sr1 hC rx
    · exact q.elim

/-! ### what a suite asks of its exception -/
def CT (X : Cx) (i : Nat) (a : Addr) (e : Expr) (b : Bool) : Prop := ∃ t, PT X e t ∧ ∀ σ H Q, σ[i]? = some (some (V.ref a)) → Q b H → t σ H Q
def CW (X : Cx) (i : Nat) (a : Addr) (e : Expr) (b : Bool) : Prop := ∃ t, PW X e t ∧ ∀ σ H Q, σ[i]? = some (some (V.ref a)) → Q b H → t σ H Q
variable {i : Nat} {a : Addr}
theorem ct_w {e : Expr} {b : Bool} (h : CW X i a e b) : CT X i a e b := let ⟨_, p, s⟩ := h; ⟨_, p.pt, s⟩
theorem ct_not {e : Expr} {b : Bool} {pos : Pos} (h : CT X i a e b) : CT X i a (.UnaryOp .Not e pos) (!b) := let ⟨_, p, s⟩ := h; ⟨_, pt_not p, fun σ H Q hi q => s σ H _ hi q⟩
theorem cw_and1 {e : Expr} {b : Bool} {pos : Pos} (h : CT X i a e b) : CW X i a (.BoolOp .And [e] pos) b := let ⟨_, p, s⟩ := h; ⟨_, pw_and1 p, s⟩
theorem cw_and {e f : Expr} {rest : List Expr} {b c : Bool} {pos : Pos} (h : CT X i a e b) (h' : CW X i a (.BoolOp .And (f :: rest) pos) c) : CW X i a (.BoolOp .And (e :: f :: rest) pos) (b && c) := by
  obtain ⟨_, p, s⟩ := h
  obtain ⟨_, p', s'⟩ := h'
  refine ⟨_, pw_and p p', fun σ H Q hi q => s σ H _ hi ?_⟩
  cases b with
  | true => exact s' σ H _ hi q
  | false => exact q
theorem ct_isi {oe : Obj} {pn : List (Addr × Obj)} {D : Addr} {T : Str} {p pos pt px : Pos} {x : Str} {w : V} {cv : Value} {b : Bool} (C : ExcC X.K D) (hz : Zc (.ref D) none oe) (hf : ∃ vs, oe.data = .fields vs) (hgi : Gl X "isinstance") (hmi : X.mg "isinstance" = none)
    (pT : ∃ t, PE (X.suite a ((a, oe) :: pn)) (.Name T pt) t ∧ ∀ σ H Q, Q w H → t σ H Q) (hw : ∀ u, RelV w u → u = cv) (hk : PySem.W.kitOne X.K (.ref D) cv = some b)
    (hN : X.N[i]? = some x := by rfl) (hv : Vis X.env.scope x := by first | exact Or.inl rfl | exact Or.inr (Or.inl rfl) | exact Or.inr (Or.inr rfl)) (hd : (x == ("__debug__" : Str)) = false := by decide) (hcd : (x == ("__classdict__" : Str)) = false := by decide)
    (he : starEach (.Name x px :: [.Name T pt]) X.env = (false, eval (.Name x px) X.env) :: starEach [.Name T pt] X.env := by rfl) (hpl : (backTo pos (starEach [.Name T pt] X.env)).any (·.1) = false := by rfl) (he2 : starEach [.Name T pt] X.env = (false, eval (.Name T pt) X.env) :: starEach [] X.env := by rfl) :
    CT (X.suite a ((a, oe) :: pn)) i a (.Call (.Name "isinstance" p) (.Name x px :: [.Name T pt]) [] pos) b := by
  obtain ⟨tT, pT, qT⟩ := pT
  refine ⟨_, pt_val (pe_callB (call_isE (X := X) C hz hf) hgi hmi (by decide +kernel) (pa_cons (pe_var (i := i) hN hv hd hcd) (pa_cons pT pa_nil he2) he) (he := he) (hpl := hpl)) (by intro _; rfl), fun σ H Q hi q => ?_⟩
  exact ⟨.ref a, hi, qT σ H _ ⟨w, cv, b, rfl, hw, hk, b, rfl, q⟩⟩

/-! ### a suite's statements -/
variable {d : Option Addr} {ns : List Str} {vs : List LV}
theorem jx_of {s : List Stmt} {m : MS} (h : JSs X W0x s m) : JX X i a d ns vs s m := let ⟨_, p, q⟩ := h; ⟨_, p, fun G F ι L σl σ H D sr _ _ w => q G F ι L σl σ H D sr w⟩
/-- if the test holds the body, else nothing -/
theorem jx_if {e : Expr} {b : Bool} {body : List Stmt} {m : MS} {pos : Pos} (h : CT X i a e b) (hb : JX X i a d ns vs body m) : JX X i a d ns vs [.If e body [] pos] (if b then m else sNil) := by
  obtain ⟨t, p, q⟩ := h
  obtain ⟨u, p', q'⟩ := hb
  refine ⟨_, pss_one (ps_if p p' pss_nil), fun G F ι L σl σ H D sr hi rx w => ?_⟩
  refine q σ H _ hi ?_
  cases b with
  | true => exact q' G F ι L σl σ H D sr hi rx w
  | false => exact w F ι H σ (Ext.refl _ _) sr
/-- return e.f -/
theorem jx_ret {e : Expr} {v : LV} {u : V} {pos : Pos} (h : ∃ t, PE X e t ∧ ∀ (G F : Hp) (ι : List Addr) (L : LH) (H : Hp) σ Q, σ[i]? = some (some (V.ref a)) → Rep X.K X.mg G F ι L H → RX X.K X.mg F ι d ns vs → (∀ u, R0 X.K X.mg F ι v u → Q u H) → t σ H Q) : JX X i a d ns vs [.Return (some e) pos] (fun _ L => .rt v L) := by
  obtain ⟨t, p, q⟩ := h
  refine ⟨_, pss_one (ps_ret p), fun G F ι L σl σ H D sr hi rx w => ?_⟩
  obtain ⟨GO, sr⟩ := sr
  exact q GO F ι L H σ _ hi sr.rep rx fun u hu => w F ι H u (Ext.refl _ _) (sr.rep.sub sr.sub) hu
/-- return e.f, f a field of the exception's own -/
theorem jx_why {C : Addr} {oe : Obj} {pn : List (Addr × Obj)} {f x : Str} {v : LV} {pos px rp : Pos} (T : XfC X.K C) (hno : PySem.W.findIn X.K (.ref C) f = some none) (hz : Zc (.ref C) d oe) (hf : ∃ us, oe.data = .fields us) (k : fieldL f ns vs = some v)
    (hN : X.N[i]? = some x := by rfl) (hv : Vis X.env.scope x := by first | exact Or.inl rfl | exact Or.inr (Or.inl rfl) | exact Or.inr (Or.inr rfl)) (hd : (x == ("__debug__" : Str)) = false := by decide) (hcd : (x == ("__classdict__" : Str)) = false := by decide)
    (hb : attributeBase (.Name x px) f X.env (eval (.Name x px) X.env) = eval (.Name x px) X.env := by rfl) :
    JX (X.suite a ((a, oe) :: pn)) i a d ns vs [.Return (some (.Attribute (.Name x px) f pos)) rp] (fun _ L => .rt v L) := by
  refine jx_ret (u := .non) ⟨_, pe_xf (X := X) T hno hz hf (pe_var (i := i) hN hv hd hcd) hb, fun G F ι L H σ Q hi rp rx q => ?_⟩
  unfold RX at rx
  split at rx
  · unfold fieldL at k; cases k
  · obtain ⟨dx, us, rfl, e, _, r⟩ := rx
    obtain ⟨u, e2, ru⟩ := fieldL_ok r k
    exact ⟨.ref a, hi, rfl, rfl, dx, _, u, rfl, rp.f _ _ e, e2, q u ru⟩
end
end Z
/-! a comprehension whose steps raise -/
namespace Z
open PySem PySem.Spec L2 PySem.HandSPX
theorem note_same {u : Value} {c e : Env} (h : c.frame = e.frame) : noteFrame u c = noteFrame u e := by
  unfold noteFrame frameOf
  rw [h]
theorem pass_same {α : Type} {w : String} {u : Value} {c e : Env} (h : c.frame = e.frame) : (passOn w u c : Sem α) = passOn w u e := by
  unfold passOn
  rw [h]
section
variable {M : Model} {A : Around} {E : Value → Shared → Prop} {s : Shared} {env : Env} {outer l : List Env} {L a C : Addr} {Zp : Obj → Prop} {B : Heap}
/-- noted by the frame L, whatever flew -/
theorem note_all {fl : Value} {Q : Unit → Shared → Prop} (st : HandSPX.Steady Zp) (fr : A.frames = some (env :: outer)) (fe : env.frame = some L) (k1 : B.StaysIn s.heap) (k2 : B.get? a = none) (k3 : s.heap.FunFrames B (env :: outer)) (k4 : HandSPX.TracedZ s.heap B a Zp fl)
    (q : ∀ h', HandSPX.HeldZ B (env :: outer) a Zp L h' → s.heap.UpToSlots h' → Q () { s with heap := h' }) : wpAny M A (noteFrame (.ref a) env) Q E s := by
  by_cases hq : (fl == rawInt L) = true
  · have hq' : fl = rawInt L := eq_of_beq hq
    subst hq'
    exact againZ fe k4 (q s.heap ⟨k1, k2, k3, k4⟩ (Heap.UpToSlots.refl _))
  · obtain ⟨ox, vx, T, ot, vt, g1, g2, g3, g4, g5, g6, g7, g8, g9⟩ := k4
    have keepT : ∀ b, b ≠ T → (s.heap.update T (Obj.mapFields (·.setIfInBounds 3 Value.none))).get? b = s.heap.get? b := fun b n => Heap.get?_update_other _ _ n.symm
    have notT : ∀ b o, s.heap.get? b = some o → (∀ ws, o.data ≠ .fields ws) → b ≠ T := fun b o e1 e2 e3 => by
      subst e3
      rw [g7] at e1
      cases e1
      exact e2 _ g8
    unfold noteFrame
    simp only [fe]
    refine wpAny_bind (wpAny_field g1 g3 g4 ?_)
    rw [if_pos (show (Value.ref T != Value.none) = true by simp)]
    refine wpAny_bind (wpAny_field g7 g8 g9 ?_)
    rw [if_neg hq]
    refine wpAny_bind (wpAny_setField g7 g8 (Array.getElem?_eq_some_iff.mp g9).1 ?_)
    refine HandSPX.wpAny_entryZ st fr (k3.of_keeps fun b o e1 e2 => ⟨o, by rw [keepT b (notT b o e1 e2)]; exact e1, rfl⟩) fe (by rw [keepT a (Ne.symm g6)]; exact g1) (fun b o e1 => ?_) k2 g3 (Array.getElem?_eq_some_iff.mp g4).1 g2 fun h' hN => ?_
    · rw [keepT b (fun z => by subst z; rw [g5] at e1; cases e1)]
      exact k1 b o e1
    · obtain ⟨n1, n2, n3, n4⟩ := hN
      exact q h' ⟨n1, k2, n2, n3⟩ fun b o e1 e2 => n4 b o (by rw [keepT b (notT b o e1 e2)]; exact e1) e2
/-- the object C changed, and off the ground -/
theorem held_but {oC : Obj} {h h' : Heap} (k : HandSPX.HeldZ B l a Zp L h) (hC : B.get? C = some oC) (nf : ∀ vs, oC.data ≠ .fields vs) (sb : Heap.SameBut C h h') : HandSPX.HeldZ (PySem.W.hideAll B [C]) l a Zp L h' := by
  obtain ⟨k1, k2, k3, ox, vx, T, ot, vt, g1, g2, g3, g4, g5, g6, g7, g8, g9⟩ := k
  have gone : ∀ b, B.get? b = none → (PySem.W.hideAll B [C]).get? b = none := fun b e => by
    cases q : (PySem.W.hideAll B [C]).get? b with
    | none => rfl
    | some o => rw [PySem.W.of_hideAll _ q] at e; cases e
  have nC : ∀ b, B.get? b = none → b ≠ C := fun b e z => by subst z; rw [hC] at e; cases e
  have frames : ∀ l : List Env, h.FunFrames B l → h'.FunFrames (PySem.W.hideAll B [C]) l := fun l => by
    induction l with
    | nil => exact fun _ => trivial
    | cons v r ih =>
      rintro ⟨f1, ⟨x, o, f2, f3, f4, f5⟩, f6⟩
      exact ⟨f1, ⟨x, o, f2, gone x f3, by rw [sb.2 x (nC x f3)]; exact f4, f5⟩, ih f6⟩
  refine ⟨fun b o e => ?_, gone a k2, frames l k3, ox, vx, T, ot, vt, by rw [sb.2 a (nC a k2)]; exact g1, g2, g3, g4, gone T g5, g6, by rw [sb.2 T (nC T g5)]; exact g7, g8, g9⟩
  have n : b ≠ C := fun z => by
    subst z
    rw [PySem.W.hideAll_none [b] (List.mem_singleton.mpr rfl)] at e
    cases e
  rw [sb.2 b n]
  exact k1 b o (PySem.W.of_hideAll _ e)
end
section
variable {M : Model} {A : Around} {E : Value → Shared → Prop} {s : Shared} {env : Env}
/-- where a comprehension that gives its value ends -/
def compEnd (M : Model) (A : Around) (E : Value → Shared → Prop) (Q : Value → Shared → Prop) (acc : Value) (env ce : Env) (r : Result) (s' : Shared) : Prop := match r with
  | .ok _ => ∃ m, s'.heap.Ns ce.locals m ∧ ∀ h', Heap.SameBut ce.locals s'.heap h' → Q acc { s' with heap := h' }
  | .error x => ∃ m, s'.heap.Ns ce.locals m ∧ ∀ h', Heap.SameBut ce.locals s'.heap h' → wpAny M A (PySem.passOn "comprehension.variables-let-go" x ce : Sem Value) (fun _ _ => False) E { s' with heap := h' }
theorem comp_runs {e : Expr} {scope : Scope} {pos : Pos} {newAcc first : Sem Value} {g : Comprehension} {gs : List Comprehension} {cl : List (Str × Addr)} {Q : Value → Shared → Prop} (c1 : clausesOf e = g :: gs) (c2 : ∀ x, foldedSetIterable g.iter env x = pure x) (c3 : closureFor scope env = pure cl) (c4 : scope.kind = .function) (c5 : ∀ y ∈ scope.names, y.2 = .local → scope.names.lookup y.1 = some .local)
    (h : wpAny M A first (fun x s1 => wpAny M A (pyIter x) (fun it s2 => wpAny M A newAcc (fun acc s3 => wpAny M A (newFunctionEnv scope env.globals cl [] env.qual none .none (some env)) (fun ce s4 =>
      codeAny M A (.compStart e 0 it acc { ce with scope := relabel scope env }) (compEnd M A E Q acc env { ce with scope := relabel scope env }) s4) E s3) E s2) E s1) E s) : wpAny M A (comprehension e scope env pos newAcc false first) Q E s := by
  unfold comprehension
  rw [c3, c1]
  refine wpAny_bind (wpAny_mono h (fun x s1 h1 => ?_) fun _ _ z => z)
  refine wpAny_bind (wpAny_standAt ?_)
  refine wpAny_bind (wpAny_of_eq (c2 x) ?_)
  refine wpAny_bind (wpAny_holding (wpAny_mono h1 (fun it s2 h2 => ?_) fun _ _ z => z))
  refine wpAny_standIf ?_
  refine wpAny_bind (wpAny_mono h2 (fun acc s3 h3 => ?_) fun _ _ z => z)
  refine wpAny_bind (wpAny_pure ?_)
  refine wpAny_bind (wpAny_mono h3 (fun ce s4 h4 => ?_) fun _ _ z => z)
  dsimp only
  have loc : ∀ y ∈ (scope.names.filter fun x => (x.2 == .local || x.2 == .cell) && x.1 != (".0" : Str)).reverse, y.2 = .local → Env.kindOf { ce with scope := relabel scope env } y.1 = some .local := fun y hy e1 =>
    lookup_relabel_local (c5 y (List.mem_filter.mp (List.mem_reverse.mp hy)).1 e1)
  refine wpAny_holding (wpAny_bind (wpAny_attempt (wpAny_holding (wpAny_run (codeAny_mono h4 fun r s5 h5 => ?_)))))
  cases r with
  | ok f =>
    obtain ⟨m, n1, n2⟩ := h5
    exact wpAny_bind (wpAny_holding (wpAny_comp_letGo (cenv := { ce with scope := relabel scope env }) c4 _ s5 m loc n1 fun h' m' _ sb => wpAny_pure (n2 h' sb)))
  | error x =>
    obtain ⟨m, n1, n2⟩ := h5
    exact wpAny_bind (wpAny_holding (wpAny_comp_letGo (cenv := { ce with scope := relabel scope env }) c4 _ s5 m loc n1 fun h' m' _ sb => wpAny_mono (n2 h' sb) (fun _ _ z => z.elim) fun _ _ z => z))
end
section
variable {X : Cx} {W W' : WX} {pins pn : List (Addr × Obj)} {σ : L2.St} {H3 : Hp} {s3 s' : Shared} {scope : Scope} {ce : Env} {fp : List Addr} {xe : Value → Shared → Prop}
/-- an exception of the block, in the air of the def -/
theorem blk_raise {u : Value} {Q : Value → Shared → Prop} {acc : Value} (tk : Takes X W) (hs : X.stack = X.env :: X.outer) (hf : X.env.frame = some X.env.locals) (I3 : Inv X pins σ H3 s3) (hL : ce.locals = s3.heap.objs.size) (hfr : ce.frame = X.env.frame) (f3 : ∀ b ∈ fp, FpOk X pins H3 b ∧ b < s3.heap.objs.size)
    (hW : ∀ cls d σ' H', W' cls d σ' H' → W cls d σ H') (x : XE ((X.blk s3 H3 scope ce fp).tr pn xe) W' u s') : notedBy (model X.prog X.w) X.A ce (fun e s2 => compEnd (model X.prog X.w) X.A X.xe Q acc X.env ce (.error e) s2) u s' := by
  obtain ⟨a, B, sI, pins', σ', H', cls, d, rfl, J, nb, up, sky, na, os, ag, w⟩ := x
  have Jb : Inv X pins σ H' sI := I3.call' (ch := fp) J.os J.base J.hok J.bare fun b hb => ⟨(f3 b hb).1.2.2.2.1, (f3 b hb).1.2.1, (f3 b hb).1.2.2.2.2.1, (f3 b hb).1.2.2.2.2.2⟩
  have nC : H' ce.locals = none := J.free
  obtain ⟨m, ⟨oC, es, ep, eC, dC, r⟩, _⟩ := J.loc
  have eC : sI.heap.get? ce.locals = some oC := eC
  obtain ⟨f0, f1, f2, f4, f5, f6⟩ := I3.fpOk (b := ce.locals) (Nat.le_of_eq hL.symm) nC
  have notF : ce.locals ∉ frs X.stack := fun hm => by
    rw [hs] at hm
    unfold frs at hm
    rw [List.filterMap_cons, hf] at hm
    rcases List.mem_cons.mp hm with z | z
    · exact f1 z
    · exact f2 z
  have eB : B.get? ce.locals = some oC := nb _ _ eC notF
  have fr : X.A.frames = some (X.env :: X.outer) := by rw [I3.ok.frames, hs]
  have away : ∀ b o, (PySem.W.hideAll sI.heap [ce.locals]).get? b = some o → b ≠ ce.locals := fun b o e z => by
    rw [z, PySem.W.hideAll_none _ (List.mem_singleton.mpr rfl)] at e
    cases e
  have key : ∀ h1, HandSPX.HeldZ B (X.env :: X.outer) a (Zc cls d) X.env.locals h1 → s'.heap.UpToSlots h1 → compEnd (model X.prog X.w) X.A X.xe Q acc X.env ce (.error (.ref a)) { s' with heap := h1 } := fun h1 k up1 => by
    unfold compEnd
    refine ⟨m, ⟨oC, es, ep, k.1 _ _ eB, dC, r⟩, fun h2 sb => ?_⟩
    rw [pass_same hfr]
    have k2 := held_but k eB (fun vs z => by rw [dC] at z; cases z) sb
    obtain ⟨ox, vx, T, ot, vt, g1, g2, g3, g4, g5, g6, g7, g8, g9⟩ := k2.2.2.2
    unfold PySem.passOn
    refine wpAny_bind (wpAny_field g1 g3 g4 ?_)
    rw [if_neg (show ¬ ((Value.ref T == Value.none) = true) by simp), hf]
    refine wpAny_bind (HandSPX.setFlight_onZ k2 fun h3 k3 up3 => ?_)
    refine wpAny_throw (tk _ _ ⟨a, PySem.W.hideAll B [ce.locals], { sI with heap := PySem.W.hideAll sI.heap [ce.locals] }, pins, σ, H', cls, d, rfl, Jb.turned (t' := sI.toks) (it := ce.locals) (fun b o n e => PySem.W.hideAll_get _ e (by simpa using n)) f0 f1 f4 f5 f6, fun b o e n => ?_, fun b o e n => ?_, .inr (.inr (by rw [hs]; exact k3)), na, os, ag, hW _ _ _ _ w⟩)
    · exact PySem.W.hideAll_get _ (nb b o (PySem.W.of_hideAll _ e) n) (by simpa using away b o e)
    · have n0 := away b o e
      obtain ⟨sl1, e1⟩ := up b o (PySem.W.of_hideAll _ e) n
      obtain ⟨sl2, e2⟩ := up1 b _ e1 n
      obtain ⟨sl3, e3⟩ := up3 b _ ((sb.2 b n0).trans e2) n
      exact ⟨sl3, e3⟩
  unfold notedBy
  rw [note_same hfr]
  have sky : Sky B (X.env :: X.outer) a (Zc cls d) ce.locals s'.heap := by rw [← hs]; exact sky
  rcases sky with ⟨hB, hn, hl, oe, vs, he, hz, hd, h1⟩ | k | k
  · exact HandSPX.look_newZ Zc.steady fr hl hf he hB hn hd h1 hz key
  · exact note_all Zc.steady fr hf k.1 k.2.1 k.2.2.1 k.2.2.2 key
  · exact note_all Zc.steady fr hf k.1 k.2.1 k.2.2.1 k.2.2.2 key
end
section
variable {X : Cx} {W : WX}
/-- [elt for ..], what elt lets out wished for at the state ahead -/
def tLcX (W : WX) (wi : TI) (g : TG) (tt : TT) (te : WX → TE) (vs : List Nat) : TE := fun σ H Q => tLc wi g tt (te fun c d _ H' => W c d σ H') vs σ H Q
theorem pe_lcx {elt tg iter : Expr} {ifs : List Expr} {scope : Scope} {own : List (Str × Nat)} {pos : Pos} {wi : TI} {g : TG} {tt : TT} {te : WX → TE} (tk : Takes X W) (hst : X.stack = X.env :: X.outer) (hfe : X.env.frame = some X.env.locals) (hc : X.calm = true) (hN : X.N.Nodup) (hi : PI X tg iter wi) (ok : BlkOk X.N X.env.scope scope own)
    (hg : ∀ (s : Shared) (H : Hp) (C : Addr) (cl : List (Str × Addr)) (fp : List Addr), PG (X.blk s H scope (compEnvC scope cl C X.env) fp) tg g) (ht : ∀ (s : Shared) (H : Hp) (C : Addr) (cl : List (Str × Addr)) (fp : List Addr), PTs (X.blk s H scope (compEnvC scope cl C X.env) fp) ifs tt)
    (he : ∀ (s : Shared) (H : Hp) (C : Addr) (cl : List (Str × Addr)) (fp : List Addr) (pn : List (Addr × Obj)) (xe : Value → Shared → Prop) (W' : WX), Takes ((X.blk s H scope (compEnvC scope cl C X.env) fp).tr pn xe) W' → PE ((X.blk s H scope (compEnvC scope cl C X.env) fp).tr pn xe) elt (te W'))
    (hs : ∀ x, foldedSetIterable iter X.env x = pure x := by intro _; rfl) : PE X (.ListComp elt [⟨tg, iter, ifs, 0⟩] scope pos) (tLcX W wi g tt te (own.map (·.2))) := by
  refine ⟨fun pins s σ H Q I h => ?_⟩
  rw [eval_ListComp]
  have captured : ∀ y ∈ scope.names, y.2 = .free → ∃ c, X.env.cells.lookup y.1 = some c := fun y hy e => (ok.free y hy e).elim (fun k => I.ok.has _ (.inl k)) fun k => I.ok.has _ (.inr k)
  refine comp_runs rfl hs (closure_ok captured) ok.kind (fun y hy e => by rw [ok.uniq y hy, e]) (thn (hi.run pins s σ H _ I h) fun xv s1 p1 => thn p1 fun itv s2 p2 => ?_)
  obtain ⟨it, fp, tn, J, H2, rfl, I2, T, z2, f2, q⟩ := p2
  refine wpAny_newObj_type (newEnv_comp ?_) (by show 0 ≤ sizeLine; decide)
  generalize hD : s2.heap.objs.size = D
  have nD : H2 D = none := I2.hok.fresh (Nat.le_of_eq hD)
  obtain ⟨V, ⟨m0, v0⟩, turn⟩ := q D nD
  generalize hs3 : ({ s2 with heap := s2.heap.push { cls := .type "list", data := .seq ([] : List Value).toArray } } : Shared) = s3
  have hp3 : s3.heap = s2.heap.push { cls := .type "list", data := .seq ([] : List Value).toArray } := by subst hs3; rfl
  have I3 : Inv X pins σ (upd H2 D (.lst [])) s3 := by
    subst hs3 hD
    exact I2.laid (t' := s2.toks) (fun b o e => Heap.get?_push_of_some _ e) (Nat.le_refl _) ⟨Nat.zero_le _, [], 0, .nil, Heap.get?_push_size _ rfl⟩
  have low : ∀ b ∈ fp, b < s2.heap.objs.size := fun b hb => let ⟨_, e, _⟩ := T.obj _ _ z2 b hb; Heap.lt_size e
  have f3 : ∀ b ∈ fp, FpOk X pins (upd H2 D (.lst [])) b ∧ b < s3.heap.objs.size := fun b hb =>
    ⟨⟨by rw [upd_ne (by subst hD; exact Nat.ne_of_lt (low b hb))]; exact (f2 b hb).1, (f2 b hb).2⟩, by rw [hp3, Heap.size_push]; exact Nat.lt_succ_of_lt (low b hb)⟩
  have z3 : tn 0 s3.heap := T.keep _ _ _ z2 fun b _ o e => by rw [hp3]; exact Heap.get?_push_of_some _ e
  generalize upd H2 D (.lst []) = H3 at I3 f3 v0
  have I4 := block_start I3 ok hN f3
  have kg := hg s3 H3 s3.heap.objs.size (cellsFrom (s3.heap.objs.size + 1) scope.names (cloFrom X.env.cells scope.names [])) fp
  have kt := ht s3 H3 s3.heap.objs.size (cellsFrom (s3.heap.objs.size + 1) scope.names (cloFrom X.env.cells scope.names [])) fp
  have ke := he s3 H3 s3.heap.objs.size (cellsFrom (s3.heap.objs.size + 1) scope.names (cloFrom X.env.cells scope.names [])) fp
  show codeAny _ _ (.compStart (.ListComp elt [⟨tg, iter, ifs, 0⟩] scope pos) 0 (.ref it) (.ref D) (compEnvC scope (cellsFrom (s3.heap.objs.size + 1) scope.names (cloFrom X.env.cells scope.names [])) s3.heap.objs.size X.env))
    (compEnd (model X.prog X.w) X.A X.xe (EP X pins σ Q) (.ref D) X.env (compEnvC scope (cellsFrom (s3.heap.objs.size + 1) scope.names (cloFrom X.env.cells scope.names [])) s3.heap.objs.size X.env)) { s3 with heap := pushCells (s3.heap.push { cls := .type "dict", data := .dict #[] }) scope.names }
  generalize hce : compEnvC scope (cellsFrom (s3.heap.objs.size + 1) scope.names (cloFrom X.env.cells scope.names [])) s3.heap.objs.size X.env = ce at I4 kg kt ke ⊢
  have hL : ce.locals = s3.heap.objs.size := by subst hce; rfl
  have hFr : ce.frame = X.env.frame := by subst hce; rfl
  generalize hs4 : ({ s3 with heap := pushCells (s3.heap.push { cls := .type "dict", data := .dict #[] }) scope.names } : Shared) = s4 at I4 ⊢
  have z4 : tn 0 s4.heap := T.keep _ _ _ z3 fun b _ o e => by subst hs4; exact pushCells_keeps _ _ _ _ (Heap.get?_push_of_some _ e)
  have none3 : ∀ b ∈ fp, H3 b = none := fun b hb => (f3 b hb).1.1
  have still : ∀ {σ' : L2.St} {H' : Hp} {s' : Shared}, Inv (X.blk s3 H3 scope ce fp) [] σ' H' s' → (∀ b ∈ fp, H' b = none) → ∀ b ∈ fp, FpOk (X.blk s3 H3 scope ce fp) [] H' b := fun {σ' H' s'} I' n b hb =>
    ⟨n b hb, (I'.ok.exf b hb).1, I'.ok.exfs b hb, .inl hb, fun x c e => (I'.ok.exf b hb).2 x c e, fun p hp => nomatch hp⟩
  have loop : codeAny (model X.prog X.w) X.A (.compLoop (.ListComp elt [⟨tg, iter, ifs, 0⟩] scope pos) 0 (.ref it) (.ref D) ce) (compEnd (model X.prog X.w) X.A X.xe (EP X pins σ Q) (.ref D) X.env ce) s4 := by
    refine compLoop_any (fun n s' => ∃ i H', Inv (X.blk s3 H3 scope ce fp) [] (L2.wipe σ (own.map (·.2))) H' s' ∧ tn i s'.heap ∧ (∀ b ∈ fp, H' b = none) ∧ V i n H') ?_ m0 ⟨0, H3, I4, z4, none3, v0⟩
    rintro n s5 ⟨i, H5, I5, z5, n5, v5⟩
    rcases turn i n H5 v5 with ⟨stop, qq⟩ | ⟨go, Nx, less, step⟩
    · refine thnF (T.done (X.blk s3 H3 scope ce fp) rfl rfl rfl hc i [] s5 _ H5 (fun _ _ => False) I5 (still I5 n5) z5 stop) fun r s6 ⟨hr, I6⟩ => ?_
      subst hr
      have I7 : Inv X pins σ H5 s6 := I3.call' (ch := fp) I6.os I6.base I6.hok I6.bare fun b hb => ⟨(f3 b hb).1.2.2.2.1, (f3 b hb).1.2.1, (f3 b hb).1.2.2.2.2.1, (f3 b hb).1.2.2.2.2.2⟩
      have nC : H5 ce.locals = none := I6.free
      obtain ⟨m, hn, _⟩ := I6.loc
      obtain ⟨g0, g1, g2, g3, g4, g5⟩ := I3.fpOk (b := ce.locals) (Nat.le_of_eq hL.symm) nC
      exact ⟨m, hn, fun h' sb => ⟨.ref D, H5, I7.turned (t' := s6.toks) (fun b o hb e => (sb.2 b hb).trans e) g0 g1 g3 g4 g5, rfl, qq⟩⟩
    · refine thnF (T.item (X.blk s3 H3 scope ce fp) rfl rfl rfl hc i [] s5 _ H5 (fun _ _ => False) I5 (still I5 n5) z5 go) fun r s6 ⟨u, hr, p6⟩ => ?_
      subst hr
      refine thnF p6 fun _ s7 ⟨x, H7, I7, r7, y7, z7, n7⟩ => ?_
      have I8 := I7.pinned (still I7 n7) (T.obj _ _ z7)
      refine thnF (kg.run _ s7 _ H7 x u _ I8 r7 (step x H7 y7)) fun _ s8 ⟨σ8, H8, I8, w8, q8⟩ => ?_
      refine thnF (kt.run _ s8 σ8 H8 _ I8 q8) fun b s9 ⟨H9, I9, q9⟩ => ?_
      have back : ∀ {s' : Shared} {H' : Hp}, Inv (X.blk s3 H3 scope ce fp) ([] ++ pinsAt fp s7.heap) σ8 H' s' → Nx H' → ∃ m, m < n ∧ ∃ i H', Inv (X.blk s3 H3 scope ce fp) [] (L2.wipe σ (own.map (·.2))) H' s' ∧ tn i s'.heap ∧ (∀ b ∈ fp, H' b = none) ∧ V i m H' := fun {s' H'} I' nx => by
        obtain ⟨k, k1, k2⟩ := less H' nx
        have held : ∀ b ∈ fp, ∀ o, s7.heap.get? b = some o → s'.heap.get? b = some o ∧ H' b = none := fun b hb o e => by
          have z := I'.pin (b, o) (List.mem_append_right _ (List.mem_append_right _ (mem_pinsAt hb e)))
          exact ⟨z.1, z.2.1⟩
        refine ⟨k, k1, i + 1, H', (I'.unpinned (pins := [])).weak (by rw [← w8, wipe_length]) (fun j v e => ?_), T.keep _ _ _ z7 fun b hb o e => (held b hb o e).1, fun b hb => ?_, k2⟩
        · rw [← w8] at e
          exact (wipe_some e).1
        · obtain ⟨o, e, _⟩ := T.obj _ _ z7 b hb
          exact (held b hb o e).2
      cases b with
      | false => exact back I9 q9
      | true =>
        rw [if_pos rfl] at q9 ⊢
        refine wpAny_mono ((ke _ (fun u s' => notedBy (model X.prog X.w) X.A ce (fun e s2 => compEnd (model X.prog X.w) X.A X.xe (EP X pins σ Q) (.ref D) X.env ce (.error e) s2) u s') _ (fun u s' x => blk_raise tk hst hfe I3 hL hFr f3 (fun _ _ _ _ w => w) x)).run [] s9 σ8 H9 _ (I9.toTry _) q9) (fun z s10 ⟨y, H10, I10, r10, acc, e10, l10, nx⟩ => ?_) fun _ _ w => w
        exact app_ok (X := X.blk s3 H3 scope ce fp) (I10.ofTry I9.ok) e10 l10 r10 fun s11 I11 => back I11 nx
  exact codeAny_compStart_list loop (T.self X.A 0 _ _ _ z4 loop)
end
end Z
namespace Z
open PySem PySem.Spec L2
section
variable {X : Cx} {W : WX} {K : PySem.W.Frag} {mg : Str → Option Value} {G F H : Hp} {ι : List Addr} {L : LH} {σ : St} {σl : SL}
/-- the turns of a comprehension, of which a step may raise -/
def compLX (n : LV → SL → Option SL) (t : MT) (m : ME) (σ0 : SL) : List LV → List LV → LH → O (List LV)
  | [], acc, L => .ok acc L
  | v :: vs, acc, L => match n v σ0 with
    | none => .no
    | some σ1 => match t σ1 L with
      | .ok b L1 => if b = true then (match m σ1 L1 with
        | .ok x L2 => if (clean x && decide (acc.length < sizeLine)) = true then compLX n t m σ0 vs (acc ++ [x]) L2 else .no
        | .er c ns ws L2 => .er c ns ws L2
        | .no => .no) else compLX n t m σ0 vs acc L1
      | _ => .no
def aCompX (mi : MA) (n : LV → SL → Option SL) (t : MT) (m : ME) (vs : List Nat) : MA := fun σ L => (mi σ L).bind fun items L1 => compLX n t m (wipeL σ vs) items [] L1
theorem sim_lcx {wi : TI} {g : TG} {tt : TT} {te : WX → TE} {mi : MA} {n : LV → SL → Option SL} {t : MT} {m : ME} {vs : List Nat} (hi : SimI K mg W wi mi) (hg : CG K mg vs g n) (ht : SimT K mg W0 tt t) (he : ∀ W', SimE K mg W' (te W') m) : SimN K mg W (tLcX W wi g tt te vs) (aCompX mi n t m vs) := by
  intro G F ι L H σl σ Q rp vr q
  refine hi _ _ _ _ _ _ _ _ rp vr ((Pst.bind q).imp fun items F1 ι1 L1 H1 x1 rp1 q1 J hJ => ?_)
  intro D hD
  obtain ⟨fd1, fd2, fd3⟩ := rp1.fresh hD
  refine ⟨fun i k H2 => k = items.length - i ∧ i ≤ items.length ∧ ∃ F2 ι2 L2 acc us, Ext F1 ι1 F2 ι2 ∧ Rep K mg (upd G D (.lst us)) F2 ι2 L2 H2 ∧ Rs0 K mg F2 ι2 acc us ∧
    Pst K mg G F2 ι2 (compLX n t m (wipeL σl vs) (items.drop i) acc L2) (fun vs F' ι' L' H' => ∀ p us, H' p = some (.lst us) → G p = none → F' p = none → (∀ n : Nat, ι'[n]? ≠ some p) → Rs0 K mg F' ι' vs us → Q (.ref p) H') (fun c d H' => W c d σ H'),
    ⟨items.length, rfl, Nat.zero_le _, F1, ι1, L1, [], [], Ext.refl _ _, rp1.addG hD, .nil, q1⟩, ?_⟩
  rintro i k H2 ⟨rfl, hle, F2, ι2, L2, acc, us, x2, rp2, r2, q2⟩
  obtain ⟨j1, j2⟩ := hJ _ F2 ι2 L2 H2 x2 rp2
  by_cases hlt : i < items.length
  · have hv : items[i]? = some items[i] := List.getElem?_eq_getElem hlt
    obtain ⟨k1, k2⟩ := j2 i _ hv
    rw [List.drop_eq_getElem_cons hlt] at q2
    refine .inr ⟨k1, fun H' => ∃ m', m' < items.length - i ∧ (m' = items.length - (i + 1) ∧ i + 1 ≤ items.length ∧ ∃ F2 ι2 L2 acc us, Ext F1 ι1 F2 ι2 ∧ Rep K mg (upd G D (.lst us)) F2 ι2 L2 H' ∧ Rs0 K mg F2 ι2 acc us ∧
      Pst K mg G F2 ι2 (compLX n t m (wipeL σl vs) (items.drop (i + 1)) acc L2) (fun vs F' ι' L' H' => ∀ p us, H' p = some (.lst us) → G p = none → F' p = none → (∀ n : Nat, ι'[n]? ≠ some p) → Rs0 K mg F' ι' vs us → Q (.ref p) H') (fun c d H' => W c d σ H')),
      fun H' z => z, fun x H3 y => ?_⟩
    have lt : items.length - (i + 1) < items.length - i := by omega
    obtain ⟨F3, ι3, x3, rp3, r3⟩ := k2 x H3 y
    unfold compLX at q2
    cases e1 : n items[i] (wipeL σl vs) with
    | none => rw [e1] at q2; exact q2.elim
    | some σ1 =>
      rw [e1] at q2
      simp only at q2
      have vr3 : VR K mg (upd G D (.lst us)) F3 ι3 (wipeL σl vs) (wipe σ vs) := (((vr.mono x1).mono x2).mono x3).addG fd2 |>.wipe vs
      refine hg _ F3 ι3 _ _ H3 _ _ _ σ1 rp3.f vr3 r3 e1 fun σ' vr' hw => ?_
      refine ⟨by rw [hw, wipe_idem vs fun w h => h], ?_⟩
      cases e2 : t σ1 L2 with
      | er c ns zs L4 => rw [e2] at q2; exact q2.elim
      | no => rw [e2] at q2; exact q2.elim
      | ok b L4 =>
        rw [e2] at q2
        simp only at q2
        refine ht _ F3 ι3 L2 H3 σ1 σ' _ rp3 vr' ?_
        rw [e2]
        intro F4 ι4 H4 x4 rp4
        cases b with
        | false =>
          rw [if_neg Bool.false_ne_true] at q2
          show (if false = true then _ else _)
          rw [if_neg Bool.false_ne_true]
          exact ⟨_, lt, rfl, hlt, F4, ι4, L4, acc, us, x2.trans (x3.trans x4), rp4, (r2.mono x3).mono x4, q2.ext (x3.trans x4)⟩
        | true =>
          rw [if_pos rfl] at q2
          show (if true = true then _ else _)
          rw [if_pos rfl]
          refine he _ _ F4 ι4 L4 H4 σ1 σ' _ rp4 (vr'.mono x4) ?_
          cases e3 : m σ1 L4 with
          | er c ns zs L5 =>
            rw [e3] at q2
            intro F5 ι5 H5 C d x5 rp5 mC rx
            have gs : Sub G (upd G D (.lst us)) := fun a o e => by rw [upd_ne (fun z => by rw [z, fd2] at e; cases e)]; exact e
            exact q2 F5 ι5 H5 C d (x3.trans (x4.trans x5)) (rp5.sub gs) mC rx
          | no => rw [e3] at q2; exact q2.elim
          | ok v L5 =>
            rw [e3] at q2
            simp only at q2
            intro F5 ι5 H5 x5 rp5 u ru
            split at q2
            · rename_i hc
              rw [Bool.and_eq_true] at hc
              have r0 := ru.clean hc.1
              refine ⟨us, rp5.g D _ upd_same, by rw [← r2.length]; exact of_decide_eq_true hc.2, ?_⟩
              exact ⟨_, lt, rfl, hlt, F5, ι5, L5, acc ++ [v], us ++ [u], x2.trans (x3.trans (x4.trans x5)), rp5.reG, (((r2.mono x3).mono x4).mono x5).append (.cons r0 .nil), q2.ext (x3.trans (x4.trans x5))⟩
            · exact q2.elim
  · have e : i = items.length := by omega
    subst e
    rw [List.drop_length] at q2
    refine .inl ⟨j1, ?_⟩
    have gs : Sub G (upd G D (.lst us)) := fun a o e => by rw [upd_ne (fun z => by rw [z, fd2] at e; cases e)]; exact e
    exact q2 F2 ι2 H2 (Ext.refl _ _) (rp2.sub gs) D us (rp2.g D _ upd_same) fd2 (rp2.gf D _ upd_same) (fun n e => by
      have z := (rp2.nf n D e).2
      rw [upd_same] at z
      cases z) r2
/-- [e for tg in iter], e may raise -/
theorem jn_lcx {elt tg iter : Expr} {ifs : List Expr} {scope : Scope} {own : List (Str × Nat)} {pos : Pos} {g : TG} {mi : MA} {n : LV → SL → Option SL} {t : MT} {m : ME} (tk : Takes X W) (hN : X.N.Nodup) (hi : JI X W tg iter mi) (ok : BlkOk X.N X.env.scope scope own) (hg : CG X.K X.mg (own.map (·.2)) g n)
    (pg : ∀ (s : Shared) (H : Hp) (C : Addr) (cl : List (Str × Addr)) (fp : List Addr), PG (X.blk s H scope (compEnvC scope cl C X.env) fp) tg g) (ht : ∃ tt, SimT X.K X.mg W0 tt t ∧ ∀ (s : Shared) (H : Hp) (C : Addr) (cl : List (Str × Addr)) (fp : List Addr), PTs (X.blk s H scope (compEnvC scope cl C X.env) fp) ifs tt)
    (he : ∀ (s : Shared) (H : Hp) (C : Addr) (cl : List (Str × Addr)) (fp : List Addr) (pn : List (Addr × Obj)) (xe : Value → Shared → Prop) (W' : WX), Takes ((X.blk s H scope (compEnvC scope cl C X.env) fp).tr pn xe) W' → JE ((X.blk s H scope (compEnvC scope cl C X.env) fp).tr pn xe) W' elt m)
    (hst : X.stack = X.env :: X.outer := by rfl) (hfe : X.env.frame = some X.env.locals := by rfl) (hc : X.calm = true := by rfl) (hs : ∀ x, foldedSetIterable iter X.env x = pure x := by intro _; rfl) :
    JN X W (.ListComp elt [⟨tg, iter, ifs, 0⟩] scope pos) (aCompX mi n t m (own.map (·.2))) := by
  obtain ⟨wi, pi, si⟩ := hi
  obtain ⟨tt, st, pt⟩ := ht
  exact ⟨_, pe_lcx (te := fun W' => tM X.K X.mg W' m) tk hst hfe hc hN pi ok pg pt (fun s H C cl fp pn xe W' t1 => (he s H C cl fp pn xe W' t1).can) hs, sim_lcx si hg st fun _ => sim_tM⟩
end
end Z
/-! methods, new instances -/
namespace Z
open PySem PySem.Spec L2
section
variable {X : Cx} {W : WX} {K : PySem.W.Frag} {mg : Str → Option Value} {G F H : Hp} {ι : List Addr} {L : LH} {σ : St} {σl : SL}
def tMethW (C : Addr) (m : Str) (sp : Sp) (E : L2.St → XK) (ta : TE) (t : TA) : TE := fun σ H Q => ta σ H fun x H1 => ∃ a dx fs, x = V.ref a ∧ H1 a = some (.ins C dx fs) ∧ fs.lookup m = none ∧ t σ H1 fun vs H2 => sp (x :: vs) H2 Q (E σ)
section
variable {CX : CXT} {k : Nat} {f C : Addr} {fd : FuncData} {ps : List Str} {sp : Sp} {E : L2.St → XK} {m : Str} {o e : Expr} {es : List Expr} {pos apos : Pos} {ta : TE} {t : TA} {pl : Sem Bool}
theorem pe_methW (ho : PE X o ta) (c : Cls X.K C) (hm : Meth X.K C m f) (D : FnOk X.prog X.w X.K X.mg X.base CX k f fd ps sp) (hr : Room k X.A) (hb : Binds X.K fd ps []) (hx : ∀ σ, PassesAt CX X σ (E σ)) (ha : PA X (e :: es) t)
    (hst : starEach (e :: es) X.env = (false, eval e X.env) :: starEach es X.env := by rfl) (hpl : (backTo pos (starEach es X.env)).any (·.1) = false := by rfl)
    (ht : eval (.Call (.Attribute o m apos) (e :: es) [] pos) X.env = (do
      let ov ← eval o X.env
      standAt apos.atName
      let (f, first) ← holding [ov] (getMethod ov m pl)
      callWith pos f first (backTo pos (starEach (e :: es) X.env)) (backToKw pos (keywordEach [] X.env))) := by rfl) :
    PE X (.Call (.Attribute o m apos) (e :: es) [] pos) (tMethW C m sp E ta t) := by
  refine ⟨fun pins s σ H Q I h => PySem.W.methodCall_KW (pl := pl) (thn (ho.run pins s σ H _ I h) fun u s1 ⟨x, H1, I1, rx, a, dx, fs, ex, ea, l, q⟩ => ?_) ht⟩
  subst ex
  obtain rfl : u = Value.ref a := rx
  refine getmeth_ok I1 ea c hm l (PySem.W.callWith_K (first := [.ref a]) (h₀ := X.base) I.ok.mod.kin hm.kp (thn (ha.run pos pins s1 σ H1 _ I1 q) fun us s2 ⟨vs, H2, I2, r, q2⟩ => ⟨I2.kIn, ?_⟩) hst hpl)
  exact run_fnS (us := .ref a :: us) (vs := .ref a :: vs) D hr hb (hx σ) I2 (.cons rfl r) q2
theorem pe_methW0 (ho : PE X o ta) (c : Cls X.K C) (hm : Meth X.K C m f) (D : FnOk X.prog X.w X.K X.mg X.base CX k f fd ps sp) (hr : Room k X.A) (hb : Binds X.K fd ps []) (hx : ∀ σ, PassesAt CX X σ (E σ))
    (ht : eval (.Call (.Attribute o m apos) [] [] pos) X.env = (do
      let ov ← eval o X.env
      standAt apos.atName
      let (f, first) ← holding [ov] (getMethod ov m pl)
      callWith pos f first (backTo pos (starEach [] X.env)) (backToKw pos (keywordEach [] X.env))) := by rfl) :
    PE X (.Call (.Attribute o m apos) [] [] pos) (tMethW C m sp E ta tNil) := by
  refine ⟨fun pins s σ H Q I h => PySem.W.methodCall_KW (pl := pl) (thn (ho.run pins s σ H _ I h) fun u s1 ⟨x, H1, I1, rx, a, dx, fs, ex, ea, l, q⟩ => ?_) ht⟩
  subst ex
  obtain rfl : u = Value.ref a := rx
  refine getmeth_ok I1 ea c hm l (PySem.W.callWith_K0 (first := [.ref a]) I1.kIn hm.kp ?_)
  exact run_fnS (us := [.ref a]) (vs := [.ref a]) D hr hb (hx σ) I1 (.cons rfl .nil) q
end
/-- o.m(..): o an instance of the class c -/
def eMeth (c m : Str) (n : Nat) (g : List LV → LH → O LV) (mo : ME) (ma : MA) : ME := fun σ L => (mo σ L).bind fun o L1 => match insOf σ L1 o with
  | some (c', ns, vs) => if (decide (c' = c) && clean o && (fieldL m ns vs).isNone) = true then (ma σ L1).bind fun xs L2 => if (xs.all clean && decide (xs.length + 1 = n)) = true then g (o :: xs) L2 else .no else .no
  | none => .no
theorem sim_meth {c m : Str} {C : Addr} {n : Nat} {g : List LV → LH → O LV} {ta : TE} {t : TA} {mo : ME} {ma : MA} (hC : mg c = some (.ref C)) (so : SimE K mg W ta mo) (sa : SimA K mg W t ma) : SimE K mg W (tMethW C m (spM K mg n g) (WE W) ta t) (eMeth c m n g mo ma) := by
  intro G F ι L H σl σ Q rp vr q
  refine so _ _ _ _ _ _ _ _ rp vr ((Pst.bind q).imp fun o F1 ι1 L1 H1 x1 rp1 q1 u ru => ?_)
  split at q1
  · rename_i c' ns vs e
    split at q1
    · rename_i hc
      rw [Bool.and_eq_true, Bool.and_eq_true] at hc
      obtain ⟨a, C', dx, us, rfl, h1, h2, h3, h4⟩ := insOf_ok rp1 (vr.mono x1) ru e
      have ec : c' = c := of_decide_eq_true hc.1.1
      subst ec
      rw [hC] at h1
      cases h1
      refine ⟨a, dx, _, rfl, h2, fieldL_none h4 (by simpa using hc.2), ?_⟩
      refine sa _ _ _ _ _ _ _ _ rp1 (vr.mono x1) ((Pst.bind q1).imp fun xs F2 ι2 L2 H2 x2 rp2 q2 ys ry => ?_)
      split at q2
      · rename_i hx
        rw [Bool.and_eq_true] at hx
        exact ⟨G, F2, ι2, L2, o :: xs, by rw [List.length_cons]; exact of_decide_eq_true hx.2, rp2, .cons ((ru.mono x2).clean hc.1.2) (RVs.clean ry hx.1), q2.imp fun v F3 ι3 L3 H3 x3 rp3 q3 w rw => q3 w (.r0 rw)⟩
      · exact q2.elim
    · exact q1.elim
  · exact q1.elim
theorem je_meth {c m : Str} {C f : Addr} {k n : Nat} {fd : FuncData} {ps : List Str} {g : List LV → LH → O LV} {o e : Expr} {es : List Expr} {pos apos : Pos} {mo : ME} {ma : MA} {pl : Sem Bool} (tk : Takes X W) (hC : X.mg c = some (.ref C)) (cl : Cls X.K C) (hm : Meth X.K C m f) (D : DefOk X.prog X.w X.K X.mg X.base k f fd ps g) (hr : Room k X.A) (hb : Binds X.K fd ps []) (ho : JE X W o mo) (ha : JA X W (e :: es) ma)
    (hst : starEach (e :: es) X.env = (false, eval e X.env) :: starEach es X.env := by rfl) (hpl : (backTo pos (starEach es X.env)).any (·.1) = false := by rfl) (hn : ps.length = n := by rfl)
    (ht : eval (.Call (.Attribute o m apos) (e :: es) [] pos) X.env = (do
      let ov ← eval o X.env
      standAt apos.atName
      let (f, first) ← holding [ov] (getMethod ov m pl)
      callWith pos f first (backTo pos (starEach (e :: es) X.env)) (backToKw pos (keywordEach [] X.env))) := by rfl) :
    JE X W (.Call (.Attribute o m apos) (e :: es) [] pos) (eMeth c m n g mo ma) := by
  subst hn
  obtain ⟨_, po, so⟩ := ho
  obtain ⟨_, pa, sa⟩ := ha
  exact ⟨_, pe_methW po cl hm D hr hb (fun σ => passAt tk σ) pa hst hpl ht, sim_meth hC so sa⟩
theorem je_meth0 {c m : Str} {C f : Addr} {k n : Nat} {fd : FuncData} {ps : List Str} {g : List LV → LH → O LV} {o : Expr} {pos apos : Pos} {mo : ME} {pl : Sem Bool} (tk : Takes X W) (hC : X.mg c = some (.ref C)) (cl : Cls X.K C) (hm : Meth X.K C m f) (D : DefOk X.prog X.w X.K X.mg X.base k f fd ps g) (hr : Room k X.A) (hb : Binds X.K fd ps []) (ho : JE X W o mo)
    (hn : ps.length = n := by rfl)
    (ht : eval (.Call (.Attribute o m apos) [] [] pos) X.env = (do
      let ov ← eval o X.env
      standAt apos.atName
      let (f, first) ← holding [ov] (getMethod ov m pl)
      callWith pos f first (backTo pos (starEach [] X.env)) (backToKw pos (keywordEach [] X.env))) := by rfl) :
    JE X W (.Call (.Attribute o m apos) [] [] pos) (eMeth c m n g mo aNil) := by
  subst hn
  obtain ⟨_, po, so⟩ := ho
  exact ⟨_, pe_methW0 po cl hm D hr hb (fun σ => passAt tk σ) ht, sim_meth hC so sim_anil⟩

/-! ### a new instance, its __init__ walked as a def -/
def eMake (c : Str) (n : Nat) (g : List LV → LH → O LV) (ma : MA) : ME := fun σ L => (ma σ L).bind fun xs L1 => if (xs.all clean && decide (xs.length + 1 = n)) = true then (match g (.ref L1.length :: xs) (L1 ++ [.ins c [] []]) with
  | .ok .non L2 => .ok (.ref L1.length) L2
  | _ => .no) else .no
theorem passes_not : Passes (L2.CX X.prog X.w) X fun _ _ _ => False := fun _ _ _ _ _ _ _ ⟨_, _, _, _, _, _, _, _, _, _, _, _, z⟩ => z.elim
theorem Rep.made (r : Rep K mg G F ι L H) {x dx C : Addr} {c : Str} (hC : mg c = some (.ref C)) (h1 : H x = none) (h2 : H dx = none) (h3 : dx ≠ x) :
    Rep K mg G F (ι ++ [x]) (L ++ [.ins c [] []]) (upd (upd H dx (.own x)) x (.ins C dx [])) ∧ Ext F ι F (ι ++ [x]) := by
  have n1 : (upd H dx (.own x)) x = none := by rw [upd_ne (Ne.symm h3)]; exact h1
  have r2 := (r.new (o := .own x) h2).new (o := .ins C dx []) n1
  obtain ⟨f1, f2, f3⟩ := r.fresh h1
  exact r2.alloc f1 f2 f3 fun ι' _ => .ins hC upd_same rfl .nil
theorem sim_make {c : Str} {C : Addr} {n : Nat} {g : List LV → LH → O LV} {t : TA} {ma : MA} (hC : mg c = some (.ref C)) (sa : SimA K mg W t ma) : SimE K mg W (tMake C (spM K mg n g) [] (fun _ _ _ => False) t) (eMake c n g ma) := by
  intro G F ι L H σl σ Q rp vr q
  refine sa _ _ _ _ _ _ _ _ rp vr ((Pst.bind q).imp fun xs F1 ι1 L1 H1 x1 rp1 q1 ys ry => ?_)
  split at q1
  · rename_i hx
    rw [Bool.and_eq_true] at hx
    intro x dx e1 e2 e3
    obtain ⟨rp2, x2⟩ := rp1.made hC e1 e2 e3
    have at_ : (ι1 ++ [x])[L1.length]? = some x := by rw [← rp1.len, List.getElem?_append_right (Nat.le_refl _), Nat.sub_self]; rfl
    rw [List.append_nil]
    refine ⟨G, F1, ι1 ++ [x], L1 ++ [.ins c [] []], .ref L1.length :: xs, by rw [List.length_cons]; exact of_decide_eq_true hx.2, rp2, .cons (.ref at_) ((RVs.clean ry hx.1).mono x2), ?_⟩
    cases eg : g (.ref L1.length :: xs) (L1 ++ [.ins c [] []]) with
    | er c2 n2 v2 L2 => rw [eg] at q1; exact q1.elim
    | no => rw [eg] at q1; exact q1.elim
    | ok v L2 =>
      rw [eg] at q1
      cases v with
      | non =>
        intro F3 ι3 H3 x3 rp3 u ru
        cases ru
        exact ⟨rfl, q1 F3 ι3 H3 (x2.trans x3) rp3 _ (.r0 (.ref (x3.pre _ _ at_)))⟩
      | _ => exact q1.elim
  · exact q1.elim
theorem je_make {c : Str} {C f : Addr} {k n : Nat} {fd : FuncData} {ps : List Str} {g : List LV → LH → O LV} {e : Expr} {es : List Expr} {p pos : Pos} {ma : MA} (M : Mk X.K C f) (D : DefOk X.prog X.w X.K X.mg X.base k f fd ps g) (hr : Room (k + 1) X.A) (hC : X.mg c = some (.ref C)) (hb : Binds X.K fd ps []) (ha : JA X W (e :: es) ma) (hg : Gl X c := by rfl)
    (hdb : (c == ("__debug__" : Str)) = false := by decide) (he : starEach (e :: es) X.env = (false, eval e X.env) :: starEach es X.env := by rfl) (hpl : (backTo pos (starEach es X.env)).any (·.1) = false := by rfl) (hn : ps.length = n := by rfl) : JE X W (.Call (.Name c p) (e :: es) [] pos) (eMake c n g ma) := by
  subst hn
  obtain ⟨_, pa, sa⟩ := ha
  exact ⟨_, pe_make M D hr hg hC hb .nil passes_not pa hdb he hpl, sim_make hC sa⟩
theorem je_make0 {c : Str} {C f : Addr} {k n : Nat} {fd : FuncData} {ps : List Str} {g : List LV → LH → O LV} {p pos : Pos} (M : Mk X.K C f) (D : DefOk X.prog X.w X.K X.mg X.base k f fd ps g) (hr : Room (k + 1) X.A) (hC : X.mg c = some (.ref C)) (hb : Binds X.K fd ps []) (hg : Gl X c := by rfl)
    (hdb : (c == ("__debug__" : Str)) = false := by decide) (hn : ps.length = n := by rfl) : JE X W (.Call (.Name c p) [] [] pos) (eMake c n g aNil) := by
  subst hn
  exact ⟨_, pe_make0 M D hr hg hC hb .nil passes_not hdb, sim_make hC sim_anil⟩
end
end Z
/-! slices of tuples -/
namespace Z
open PySem PySem.Spec L2
section
variable {X : Cx} {W : WX} {K : PySem.W.Frag} {mg : Str → Option Value} {G F H : Hp} {ι : List Addr} {L : LH} {σ : St} {σl : SL}
theorem cutL_all {vs : List LV} {lo hi : Option Int} (h : HT.sIx vs.length 0 lo = 0 ∧ HT.sIx vs.length vs.length hi = vs.length) : cutL vs lo hi = vs := by
  unfold cutL
  rw [h.1, h.2, List.drop_zero, Nat.sub_zero, List.take_length]
def eSlT (mo : ME) (lo hi : MO) : ME := fun σ L => (mo σ L).bind fun o L1 => (lo σ L1).bind fun l L2 => (hi σ L2).bind fun h L3 => match o with
  | .tup vs => .ok (.tup (cutL vs l h)) L3
  | _ => .no
theorem je_slT {e : Expr} {lo hi : Option Expr} {p2 pos : Pos} {mo : ME} {ml mh : MO} (he : JE X W e mo) (hl : JO X W lo ml) (hh : JO X W hi mh) : JE X W (.Subscript e (.Slice lo hi none p2) pos) (eSlT mo ml mh) := by
  obtain ⟨t, p, s⟩ := he
  obtain ⟨tl, pl, sl⟩ := hl
  obtain ⟨th, ph, sh⟩ := hh
  refine ⟨_, pe_slice sl_tupA p pl ph, ?_⟩
  intro G F ι L H σl σ Q rp vr q
  refine s _ _ _ _ _ _ _ _ rp vr ((Pst.bind q).imp fun v F1 ι1 L1 H1 x1 rp1 q1 u ru => ?_)
  refine sl _ _ _ _ _ _ _ _ rp1 (vr.mono x1) ((Pst.bind q1).imp fun l F2 ι2 L2 H2 x2 rp2 q2 => ?_)
  refine sh _ _ _ _ _ _ _ _ rp2 (vr.mono (x1.trans x2)) ((Pst.bind q2).imp fun h F3 ι3 L3 H3 x3 rp3 q3 => ?_)
  split at q3
  · rename_i vs
    have ru3 := (ru.mono x2).mono x3
    cases ru3 with
    | r0 r0 =>
      cases r0 with
      | @tup a _ us h1 h2 =>
        have hlen := h2.length
        refine ⟨a, us, rfl, Sub.sqT rp3.f h1, fun hw => ?_, fun _ p hp => ?_⟩
        · rw [← hlen] at hw
          rw [cutL_all hw] at q3
          exact q3 F3 ι3 H3 (Ext.refl _ _) rp3 _ (.r0 (.tup h1 h2))
        · obtain ⟨f1, f2, f3⟩ := rp3.fresh hp
          obtain ⟨r4, x4⟩ := (rp3.new (o := .tup (cutV us l h)) hp).freeze upd_same f1 f2 f3
          exact q3 _ _ _ x4 r4 _ (.r0 (.tup (.inl (.inl upd_same)) (h2.cut.mono x4)))
  · exact q3.elim
end
end Z
namespace Z
open PySem PySem.Spec L2
section
variable {X : Cx} {W : WX} {K : PySem.W.Frag} {mg : Str → Option Value} {G F H : Hp} {ι : List Addr} {L : LH} {σ : St} {σl : SL}

/-! ### in lists, their index -/
def fInN (neg : Bool) : LV → LV → SL → LH → O LV := fun x y σ L => match toDV σ L x, toDV σ L y with
  | some d, some (.list ds) => if (SeqAt.shaped d && SeqAt.shaped (.list ds)) = true then .ok (.bl (if neg then !(ds.any fun z => PyData.eqv z d) else ds.any fun z => PyData.eqv z d)) L else .no
  | _, _ => .no
theorem op2_in : Op2 K mg (rInD K) (fInN false) := by
  intro W G F ι L H σl σ Q x y u w rp vr ru rw q
  unfold fInN at q
  split at q
  · rename_i d ds h1 h2
    split at q
    · rename_i hs
      rw [Bool.and_eq_true] at hs
      exact ⟨d, ds, toDV_ok rp vr ru h1, toDV_ok rp vr rw h2, hs.1, hs.2, q.ok rp _ (.r0 .bl)⟩
    · exact q.elim
  · exact q.elim
theorem op2_notin : Op2 K mg (rNotInD K) (fInN true) := by
  intro W G F ι L H σl σ Q x y u w rp vr ru rw q
  unfold fInN at q
  split at q
  · rename_i d ds h1 h2
    split at q
    · rename_i hs
      rw [Bool.and_eq_true] at hs
      exact ⟨d, ds, toDV_ok rp vr ru h1, toDV_ok rp vr rw h2, hs.1, hs.2, q.ok rp _ (.r0 .bl)⟩
    · exact q.elim
  · exact q.elim
/-- l.m(e, ..) of a list, by values -/
def eLMt (f : LV → List LV → SL → LH → O LV) (mo : ME) (ma : MA) : ME := fun σ L => (mo σ L).bind fun o L1 => match seqM σ L1 o with
  | some _ => (ma σ L1).bind fun xs L2 => f o xs σ L2
  | none => .no
theorem je_lmt {o e : Expr} {es : List Expr} {name : Str} {apos cpos : Pos} {id : String} {r : V → List V → Hp → VK → Prop} {f : LV → List LV → SL → LH → O LV} {mo : ME} {ma : MA} (slot : Slot "list" name id) (hty : typeOf (.builtin id) = pure (.type "method_descriptor")) (hm : MtR X id r) (hf : OpB X.K X.mg r f) (ho : JE X W o mo) (ha : JA X W (e :: es) ma)
    (hbase : attributeBase o name X.env (eval o X.env) = eval o X.env := by rfl)
    (hfew : ((backTo cpos (starEach (e :: es) X.env)).all (fun x => !x.1) && (backToKw cpos (keywordEach [] X.env)).all (fun x => x.1.isSome) && decide ((e :: es).length + ([] : List Keyword).length + (if ([] : List Keyword).isEmpty then 0 else 1) < 30)) = true := by rfl)
    (hline : (apos.endLine == cpos.line) = true := by rfl) (hs : starEach (e :: es) X.env = (false, eval e X.env) :: starEach es X.env := by rfl) (hplain : (backTo cpos (starEach es X.env)).any (·.1) = false := by rfl) :
    JE X W (.Call (.Attribute o name apos) (e :: es) [] cpos) (eLMt f mo ma) := by
  obtain ⟨to, po, so⟩ := ho
  obtain ⟨ta, pa, sa⟩ := ha
  refine ⟨_, pe_bm PySem.F.plainAttrs_list slot hty hm po pa hbase hfew hline hs hplain, ?_⟩
  intro G F ι L H σl σ Q rp vr q
  refine so _ _ _ _ _ _ _ _ rp vr ((Pst.bind q).imp fun v F1 ι1 L1 H1 x1 rp1 q1 u ru => ?_)
  split at q1
  · rename_i ws e0
    obtain ⟨a, us, rfl, h1, h2⟩ := seqM_ok rp1 (vr.mono x1) ru e0
    refine ⟨.inl ⟨rfl, _, .of h1⟩, sa _ _ _ _ _ _ _ _ rp1 (vr.mono x1) ((Pst.bind q1).imp fun xs F2 ι2 L2 H2 x2 rp2 q2 us rus => ?_)⟩
    exact hf _ _ _ _ _ _ _ _ _ _ _ _ _ rp2 (vr.mono (x1.trans x2)) (ru.mono x2) rus q2
  · exact q1.elim
def fLIdx : LV → List LV → SL → LH → O LV := fun x xs σ L => match xs with
  | [y] => match toDV σ L x, toDV σ L y with
    | some (.list ds), some d => if (SeqAt.shaped (.list ds) && SeqAt.shaped d) = true then (match ds.findIdx? fun z => PyData.eqv z d with
      | some j => .ok (.int (j : Nat)) L
      | none => .no) else .no
    | _, _ => .no
  | _ => .no
theorem opB_lidx : OpB K mg (rIndexD K) fLIdx := by
  intro W G F ι L H σl σ Q x u xs us rp vr ru rus q
  unfold fLIdx at q
  split at q
  · rename_i y
    cases rus with
    | cons hy t =>
      cases t
      split at q
      · rename_i ds d h1 h2
        split at q
        · rename_i hs
          rw [Bool.and_eq_true] at hs
          split at q
          · rename_i j hj
            obtain ⟨hl, p1, p2⟩ := List.findIdx?_eq_some_iff_getElem.mp hj
            have k1 := toDV_ok rp vr ru h1
            have e : ∃ a, u = V.ref a := by
              cases k1 with
              | lst _ _ => exact ⟨_, rfl⟩
            obtain ⟨a, rfl⟩ := e
            refine ⟨a, _, d, ds, j, ds[j], rfl, rfl, k1, toDV_ok rp vr hy h2, hs.1, hs.2, List.getElem?_eq_getElem hl, p1, fun m z' hm hz => ?_, q.ok rp _ (.r0 .int)⟩
            have hml : m < ds.length := by omega
            rw [List.getElem?_eq_getElem hml] at hz
            cases hz
            simpa using p2 m hm
          · exact q.elim
        · exact q.elim
      · exact q.elim
  · exact q.elim
/-! ### sums, all -/
def ints? : List LV → Option (List Int)
  | [] => some []
  | .int i :: r => (ints? r).map (i :: ·)
  | _ => none
theorem ints_ok : ∀ {vs : List LV} {us : List V} {zs : List Int}, Rs0 K mg F ι vs us → ints? vs = some zs → us = zs.map V.int
  | [], _, _, .nil, e => by cases e; rfl
  | .int i :: vs, _, _, .cons .int t, e => by
    rw [ints?] at e
    cases q : ints? vs with
    | none => rw [q] at e; cases e
    | some zs => rw [q] at e; cases e; rw [ints_ok t q]; rfl
  | .non :: _, _, _, _, e => by cases e
  | .bl _ :: _, _, _, _, e => by cases e
  | .str _ :: _, _, _, _, e => by cases e
  | .ref _ :: _, _, _, _, e => by cases e
  | .loc _ :: _, _, _, _, e => by cases e
  | .tup _ :: _, _, _, _, e => by cases e
  | .lst _ :: _, _, _, _, e => by cases e
  | .rdl _ :: _, _, _, _, e => by cases e
  | .ins _ _ _ :: _, _, _, _, e => by cases e
def fSum : List LV → SL → LH → O LV := fun xs σ L => match xs with
  | [x] => match seqL σ L x with
    | some vs => match ints? vs with
      | some ns => .ok (.int ns.sum) L
      | none => .no
    | none => .no
  | _ => .no
theorem opA_sum : OpA K mg (rSum K) fSum := by
  intro W G F ι L H σl σ Q xs us rp vr rv q
  unfold fSum at q
  split at q
  · split at q
    · rename_i vs e
      split at q
      · rename_i ns e2
        cases rv with
        | cons h t =>
          cases t
          obtain ⟨a, ws, rfl, h1, h2⟩ := seqL_ok rp vr h e
          have z := ints_ok h2 e2
          subst z
          exact ⟨a, ns, rfl, h1, q.ok rp _ (.r0 .int)⟩
      · exact q.elim
    · exact q.elim
  · exact q.elim
def bls? : List LV → Option (List Bool)
  | [] => some []
  | .bl i :: r => (bls? r).map (i :: ·)
  | _ => none
theorem bls_ok : ∀ {vs : List LV} {us : List V} {zs : List Bool}, Rs0 K mg F ι vs us → bls? vs = some zs → us = zs.map V.bl
  | [], _, _, .nil, e => by cases e; rfl
  | .bl i :: vs, _, _, .cons .bl t, e => by
    rw [bls?] at e
    cases q : bls? vs with
    | none => rw [q] at e; cases e
    | some zs => rw [q] at e; cases e; rw [bls_ok t q]; rfl
  | .non :: _, _, _, _, e => by cases e
  | .int _ :: _, _, _, _, e => by cases e
  | .str _ :: _, _, _, _, e => by cases e
  | .ref _ :: _, _, _, _, e => by cases e
  | .loc _ :: _, _, _, _, e => by cases e
  | .tup _ :: _, _, _, _, e => by cases e
  | .lst _ :: _, _, _, _, e => by cases e
  | .rdl _ :: _, _, _, _, e => by cases e
  | .ins _ _ _ :: _, _, _, _, e => by cases e
def fAll : List LV → SL → LH → O LV := fun xs σ L => match xs with
  | [x] => match seqL σ L x with
    | some vs => match bls? vs with
      | some ns => .ok (.bl (ns.all id)) L
      | none => .no
    | none => .no
  | _ => .no
theorem opA_all : OpA K mg (rAll K) fAll := by
  intro W G F ι L H σl σ Q xs us rp vr rv q
  unfold fAll at q
  split at q
  · split at q
    · rename_i vs e
      split at q
      · rename_i ns e2
        cases rv with
        | cons h t =>
          cases t
          obtain ⟨a, ws, rfl, h1, h2⟩ := seqL_ok rp vr h e
          have z := bls_ok h2 e2
          subst z
          exact ⟨a, ns, rfl, h1, q.ok rp _ (.r0 .bl)⟩
      · exact q.elim
    · exact q.elim
  · exact q.elim
/-! ### pop -/
def ePop (mo : ME) : ME := fun σ L => (mo σ L).bind fun o L1 => match o with
  | .ref n => match L1[n]? with
    | some (.lst vs) => match vs.getLast? with
      | some v => .ok v (L1.set n (.lst vs.dropLast))
      | none => .no
    | _ => .no
  | _ => .no
theorem Rs0.dropLast {vs : List LV} {us : List V} (h : Rs0 K mg F ι vs us) : Rs0 K mg F ι vs.dropLast us.dropLast := by
  rw [List.dropLast_eq_take, List.dropLast_eq_take, h.length]
  exact h.take _
theorem je_pop {o : Expr} {apos cpos : Pos} {mo : ME} (ho : JE X W o mo) (hbase : attributeBase o "pop" X.env (eval o X.env) = eval o X.env := by rfl) (hline : (apos.endLine == cpos.line) = true := by rfl) :
    JE X W (.Call (.Attribute o "pop" apos) [] [] cpos) (ePop mo) := by
  obtain ⟨to, po, so⟩ := ho
  refine ⟨_, pe_bm0 PySem.F.plainAttrs_list PySem.F.slot_list_pop PySem.F.type_list_pop mt_pop po hbase hline, ?_⟩
  intro G F ι L H σl σ Q rp vr q
  refine so _ _ _ _ _ _ _ _ rp vr ((Pst.bind q).imp fun v F1 ι1 L1 H1 x1 rp1 q1 u ru => ?_)
  split at q1
  · rename_i n
    split at q1
    · rename_i vs e
      split at q1
      · rename_i z ez
        cases ru with
        | r0 ru =>
          cases ru with
          | ref k1 =>
            cases rp1.obj _ _ _ k1 e with
            | lst z1 z2 =>
              rw [List.getLast?_eq_getElem?] at ez
              obtain ⟨y, y1, y2⟩ := z2.get ez
              rw [z2.length] at y1
              refine ⟨.inl ⟨rfl, _, .of z1⟩, _, _, y, rfl, rfl, z1, y1, ?_⟩
              have rw := rp1.write k1 (o := .lst vs.dropLast) (u := .lst _) (.lst upd_same z2.dropLast)
              exact q1 F1 ι1 _ (Ext.refl _ _) rw _ (.r0 y2)
      · exact q1.elim
    · exact q1.elim
  · exact q1.elim
/-- l.pop(0) -/
def ePop0 (mo mi : ME) : ME := fun σ L => (mo σ L).bind fun o L0 => match seqM σ L0 o with
  | some _ => (mi σ L0).bind fun i L1 => match o, i with
    | .ref n, .int i => match L1[n]? with
      | some (.lst (v :: vs)) => if i = 0 then .ok v (L1.set n (.lst vs)) else .no
      | _ => .no
    | _, _ => .no
  | none => .no
theorem je_pop0 {o e : Expr} {apos cpos : Pos} {mo mi : ME} (ho : JE X W o mo) (hi : JE X W e mi) (hbase : attributeBase o "pop" X.env (eval o X.env) = eval o X.env := by rfl)
    (hfew : ((backTo cpos (starEach (e :: []) X.env)).all (fun x => !x.1) && (backToKw cpos (keywordEach [] X.env)).all (fun x => x.1.isSome) && decide ((e :: []).length + ([] : List Keyword).length + (if ([] : List Keyword).isEmpty then 0 else 1) < 30)) = true := by rfl)
    (hline : (apos.endLine == cpos.line) = true := by rfl) (hs : starEach (e :: []) X.env = (false, eval e X.env) :: starEach [] X.env := by rfl) (hplain : (backTo cpos (starEach [] X.env)).any (·.1) = false := by rfl) :
    JE X W (.Call (.Attribute o "pop" apos) [e] [] cpos) (ePop0 mo mi) := by
  obtain ⟨to, po, so⟩ := ho
  obtain ⟨ti, pi, si⟩ := hi
  refine ⟨_, pe_bm PySem.F.plainAttrs_list PySem.F.slot_list_pop PySem.F.type_list_pop mt_popAt po (pa_cons pi pa_nil hs) hbase hfew hline hs hplain, ?_⟩
  intro G F ι L H σl σ Q rp vr q
  refine so _ _ _ _ _ _ _ _ rp vr ((Pst.bind q).imp fun v F0 ι0 L0 H0 x0 rp0 q0 u ru => ?_)
  split at q0
  · rename_i ws e0
    obtain ⟨a, us, rfl, h1, h2⟩ := seqM_ok rp0 (vr.mono x0) ru e0
    refine ⟨.inl ⟨rfl, _, .of h1⟩, si _ _ _ _ _ _ _ _ rp0 (vr.mono x0) ((Pst.bind q0).imp fun i F1 ι1 L1 H1 x1 rp1 q1 w rw => ?_)⟩
    split at q1
    · rename_i n i
      split at q1
      · rename_i v vs e
        split at q1
        · rename_i hi
          subst hi
          cases rw with
          | r0 rw =>
            cases rw
            cases ru with
            | r0 ru =>
              cases ru with
              | ref k0 =>
                have k1 := x1.pre _ _ k0
                cases rp1.obj _ _ _ k1 e with
                | lst z1 z2 =>
                  cases z2 with
                  | cons y1 y2 =>
                    rename_i y ys
                    refine ⟨_, _, 0, 0, y, rfl, rfl, z1, by decide, by decide, ?_, rfl, ?_⟩
                    · unfold seqIndex?
                      simp
                    · have rw := rp1.write k1 (o := .lst vs) (u := .lst ys) (.lst upd_same y2)
                      exact q1 F1 ι1 _ (Ext.refl _ _) rw _ (.r0 y1)
        · exact q1.elim
      · exact q1.elim
    · exact q1.elim
  · exact q0.elim
/-! ### x op= e -/
def Ip2 (t : TIp) (f : Int → Int → Int) : Prop := ∀ (x y : V) (H : Hp) (Q : VK) (i j : Int), x = .int i → y = .int j → Q (.int (f i j)) H → t x y H Q
theorem ip2_I {f : Int → Int → Int} : Ip2 (ipI f) f := fun x y H Q i j h1 h2 q => ⟨i, j, h1, h2, q⟩
def sAug (i : Nat) (f : Int → Int → Int) (m : ME) : MS := fun σ L => match σ[i]? with
  | some (.val (.int a)) => lift (m σ L) σ fun y L1 => match y with
    | .int b => .nx (σ.set i (.val (.int (f a b)))) L1
    | _ => .no
  | _ => .no
theorem js_aug (i : Nat) {x : Str} {e : Expr} {m : ME} {op : Operator} {t : TIp} {f : Int → Int → Int} {pos pos' : Pos} (hN : X.N.Nodup) (ho : PIp X op t) (hf2 : Ip2 t f) (h : JE X W e m) (hi : X.N[i]? = some x := by rfl) (hx : Loc X.env.scope x := by first | exact Or.inl rfl | exact Or.inr rfl) (hf : X.fn x = true ∨ X.env.scope.names.lookup x = some .local := by first | exact .inl rfl | exact .inr rfl | assumption) :
    JS X W (.AugAssign (.Name x pos') op e pos) (sAug i f m) := by
  obtain ⟨te, pe, se⟩ := h
  refine ⟨_, ps_aug hN hi hx pe ho hf, ?_⟩
  intro G F ι L σl σ H D sr q
  obtain ⟨GO, sr⟩ := sr
  unfold sAug at q
  split at q
  · rename_i a ea
    obtain ⟨u, eu, ru⟩ := sr.vr.val _ _ ea
    cases ru
    refine ⟨_, eu, se _ _ _ _ _ _ _ _ sr.rep sr.vr ((PstS.lift sr q).imp fun y F1 ι1 L1 H1 x1 rp1 q1 w rw => ?_)⟩
    split at q1
    · cases rw with
      | r0 rw =>
        cases rw
        refine hf2 _ _ _ _ _ _ rfl rfl ?_
        exact q1 F1 ι1 H1 _ (Ext.refl _ _) ⟨GO, (sr.ext x1 rp1).set .int⟩
    · exact q1.elim
  · exact q.elim
def Rd2 (r : V → V → Hp → VK → Prop) (f : Int → Int → Int) : Prop := ∀ (x y : V) (H : Hp) (Q : VK) (i j : Int), x = .int i → y = .int j → Q (.int (f i j)) H → r x y H Q
theorem rd2_add : Rd2 rAdd (fun i j => i + j) := fun x y H Q i j h1 h2 q => ⟨i, j, h1, h2, q⟩
theorem rd2_sub : Rd2 rSub (fun i j => i - j) := fun x y H Q i j h1 h2 q => ⟨i, j, h1, h2, q⟩
/-- o.f op= e, o one of the mirror's objects -/
def sFldAugM (cs : List Str) (f : Str) (g : Int → Int → Int) (mo me : ME) : MS := fun σ L => lift (mo σ L) σ fun o L1 => match o with
  | .ref n => match L1[n]? with
    | some (.ins c ns vs) => match fieldL f ns vs with
      | some (.int a) => if cs.contains c = true then lift (me σ L1) σ fun y L2 => match y, L2[n]? with
        | .int b, some (.ins c2 ns2 vs2) => if (decide (c2 = c) && decide (ns2.length < 1000)) = true then .nx σ (L2.set n (.ins c2 (putN f ns2) (putV f (.int (g a b)) ns2 vs2))) else .no
        | _, _ => .no else .no
      | _ => .no
    | _ => .no
  | _ => .no
theorem js_fldaug {o e : Expr} {f : Str} {op : Operator} {rd : V → V → Hp → VK → Prop} {g : Int → Int → Int} {pos tpos : Pos} {cs : List Str} {mo me : ME} (hf : FldF X.K X.mg cs f) (hop : InOp X op rd) (h2 : Rd2 rd g) (ho : JE X W o mo) (he : JE X W e me) :
    JS X W (.AugAssign (.Attribute o f tpos) op e pos) (sFldAugM cs f g mo me) := by
  obtain ⟨to, po, so⟩ := ho
  obtain ⟨te, pe, se⟩ := he
  refine ⟨_, ps_fldaug po pe hop, ?_⟩
  intro G F ι L σl σ H D sr q
  obtain ⟨GO, sr⟩ := sr
  refine so _ _ _ _ _ _ _ _ sr.rep sr.vr ((PstS.lift sr q).imp fun o F1 ι1 L1 H1 x1 rp1 q1 u ru => ?_)
  split at q1
  · rename_i n
    split at q1
    · rename_i c ns vs e1
      split at q1
      · rename_i a ea
        split at q1
        · rename_i hc
          cases ru with
          | r0 ru =>
            cases ru with
            | ref k1 =>
              cases rp1.obj _ _ _ k1 e1 with
              | ins m1 m2 m3 m4 =>
                obtain ⟨y, y1, y2⟩ := fieldL_ok m4 ea
                cases y2
                obtain ⟨w1, w2⟩ := hf c (mem_of_contains hc) _ m1
                refine ⟨_, _, _, _, _, rfl, m2, w1, w2, y1, ?_⟩
                have sr1 := sr.ext x1 rp1
                refine se _ _ _ _ _ _ _ _ rp1 sr1.vr ((PstS.lift sr1 q1).imp fun y F2 ι2 L2 H2 x2 rp2 q2 w rw => ?_)
                split at q2
                · rename_i b c2 ns2 vs2 e2
                  split at q2
                  · rename_i hh
                    rw [Bool.and_eq_true] at hh
                    have ec := of_decide_eq_true hh.1
                    subst ec
                    cases rw with
                    | r0 rw =>
                      cases rw
                      refine h2 _ _ _ _ _ _ rfl rfl ?_
                      have k2 := x2.pre _ _ k1
                      cases rp2.obj _ _ _ k2 e2 with
                      | ins n1 n2 n3 n4 =>
                        rename_i C2 dx2 us2
                        have ee := m1.symm.trans n1
                        cases ee
                        obtain ⟨p1, p2⟩ := putF_zip (f := f) (y := V.int (g a b)) n3
                        refine ⟨_, _, n2, ?_, ?_⟩
                        · rw [List.length_zip, n3, Nat.min_self]
                          have := of_decide_eq_true hh.2
                          omega
                        · rw [p1]
                          have wr := rp2.write k2 (o := .ins c2 (putN f ns2) (putV f (.int (g a b)) ns2 vs2)) (u := .ins _ dx2 ((putN f ns2).zip (putV f (V.int (g a b)) ns2 us2))) (.ins m1 upd_same p2 (putV_ok .int n3 n4))
                          exact q2 F2 ι2 _ σ (Ext.refl _ _) ⟨GO, (sr1.ext x2 rp2).ext (Ext.refl _ _) wr⟩
                  · exact q2.elim
                · exact q2.elim
        · exact q1.elim
      · exact q1.elim
    · exact q1.elim
  · exact q1.elim
end
end Z
namespace Z
open PySem PySem.Spec L2
section
variable {X : Cx} {W : WX} {K : PySem.W.Frag} {mg : Str → Option Value} {G F H : Hp} {ι : List Addr} {L : LH} {σ : St} {σl : SL}
/-! ### walks of a list that may change -/
def loopR (n : LV → SL → Option SL) (b : MS) (r : Nat) : Nat → Nat → SL → LH → SO
  | 0, _, _, _ => .no
  | k + 1, i, σ, L => match L[r]? with
    | some (.lst vs) => match vs[i]? with
      | none => .nx σ L
      | some v => match n v σ with
        | none => .no
        | some σ1 => match b σ1 L with
          | .nx σ2 L2 => loopR n b r k (i + 1) σ2 L2
          | .ct σ2 L2 => loopR n b r k (i + 1) σ2 L2
          | .bk σ2 L2 => .nx σ2 L2
          | o => o
    | _ => .no
/-- for tg in l: by what l is -/
def sForA (mo : ME) (n : LV → SL → Option SL) (b : MS) : MS := fun σ L => lift (mo σ L) σ fun v L1 => match v with
  | .ref r => match L1[r]? with
    | some (.lst ws) => loopR n b r (ws.length + 1) 0 σ L1
    | _ => .no
  | v => match itemsOf v with
    | some vs => loop n b vs σ L1
    | none => .no
def SimG (K : PySem.W.Frag) (mg : Str → Option Value) (g : TG) (n : LV → SL → Option SL) : Prop := ∀ (GO G F : Hp) (ι : List Addr) (L : LH) (σl : SL) (σ : St) (H : Hp) (v : LV) (u : V) (k : St → Hp → Prop) (σl' : SL), SR K mg GO G F ι L σl σ H → R0 K mg F ι v u → n v σl = some σl' →
  (∀ σ', SR K mg GO G F ι L σl' σ' H → k σ' H) → g u σ H k
/-- the loop over what is known -/
theorem for_items {g : TG} {tb : TS} {n : LV → SL → Option SL} {b : MS} {J : It} {vs : List LV} {D : Ends} (sg : SimG K mg g n) (sb : SimS K mg W tb b) (hJ : ItOk K mg F ι J vs) (sr : SRep K mg G F ι L σl σ H) (q : PstS K mg G F ι (loop n b vs σl L) D W) :
    ∃ Wn : Nat → Nat → St → Hp → Prop, (∃ m, Wn 0 m σ H) ∧ ∀ i m σ H, Wn i m σ H →
      (J.stop i H ∧ D.nx σ H) ∨ (J.go i H ∧ ∃ N : St → Hp → Prop, (∀ σ' H', N σ' H' → ∃ m', m' < m ∧ Wn (i + 1) m' σ' H') ∧ ∀ x H', J.yld i H x H' → g x σ H' fun σ2 H2 => tb { D with nx := N, ct := N, bk := D.nx } σ2 H2) := by
  refine ⟨fun i m σ2 H2 => m = vs.length - i ∧ i ≤ vs.length ∧ ∃ F2 ι2 L2 σl2, Ext F ι F2 ι2 ∧ SRep K mg G F2 ι2 L2 σl2 σ2 H2 ∧ PstS K mg G F2 ι2 (loop n b (vs.drop i) σl2 L2) D W,
    ⟨vs.length, rfl, Nat.zero_le _, F, ι, L, σl, Ext.refl _ _, sr, q⟩, ?_⟩
  rintro i m σ2 H2 ⟨rfl, hi, F2, ι2, L2, σl2, x2, ⟨GO2, s2⟩, q2⟩
  obtain ⟨j1, j2⟩ := hJ GO2 F2 ι2 L2 H2 x2 s2.rep
  by_cases hlt : i < vs.length
  · have hv : vs[i]? = some vs[i] := List.getElem?_eq_getElem hlt
    obtain ⟨k1, k2⟩ := j2 i _ hv
    rw [List.drop_eq_getElem_cons hlt] at q2
    refine .inr ⟨k1, fun σ' H' => vs.length - (i + 1) < vs.length - i ∧ i + 1 ≤ vs.length ∧ ∃ F2 ι2 L2 σl2, Ext F ι F2 ι2 ∧ SRep K mg G F2 ι2 L2 σl2 σ' H' ∧ PstS K mg G F2 ι2 (loop n b (vs.drop (i + 1)) σl2 L2) D W,
      fun σ' H' z => ⟨vs.length - (i + 1), z.1, rfl, z.2⟩, fun x H3 y => ?_⟩
    obtain ⟨F3, ι3, x3, rp3, r3⟩ := k2 x H3 y
    unfold loop at q2
    cases e1 : n vs[i] σl2 with
    | none => rw [e1] at q2; exact q2.elim
    | some σ1 =>
      rw [e1] at q2
      refine sg _ _ _ _ _ _ _ _ _ _ _ _ (s2.ext x3 rp3) r3 e1 fun σ' sr' => ?_
      refine sb G F3 ι3 L2 σ1 σ' H3 _ ⟨GO2, sr'⟩ ?_
      have lt : vs.length - (i + 1) < vs.length - i := by omega
      simp only at q2
      cases e2 : b σ1 L2 with
      | nx σ4 L4 =>
        rw [e2] at q2
        exact fun F4 ι4 H4 σ5 x4 s4 => ⟨lt, hlt, F4, ι4, L4, σ4, x2.trans (x3.trans x4), s4, q2.ext (x3.trans x4)⟩
      | ct σ4 L4 =>
        rw [e2] at q2
        exact fun F4 ι4 H4 σ5 x4 s4 => ⟨lt, hlt, F4, ι4, L4, σ4, x2.trans (x3.trans x4), s4, q2.ext (x3.trans x4)⟩
      | bk σ4 L4 => rw [e2] at q2; exact q2.ext x3
      | rt v L4 => rw [e2] at q2; exact q2.ext x3
      | er c ns vs s L4 => rw [e2] at q2; exact q2.ext x3
      | no => rw [e2] at q2; exact q2.elim
  · have e : i = vs.length := by omega
    subst e
    rw [List.drop_length] at q2
    exact .inl ⟨j1, q2 F2 ι2 H2 σ2 (Ext.refl _ _) ⟨GO2, s2⟩⟩
/-- .. over one of the mirror's lists -/
theorem for_live {g : TG} {tb : TS} {n : LV → SL → Option SL} {b : MS} {a : Addr} {r k : Nat} {D : Ends} (sg : SimG K mg g n) (sb : SimS K mg W tb b) (ha : ι[r]? = some a) (sr : SRep K mg G F ι L σl σ H) (q : PstS K mg G F ι (loopR n b r k 0 σl L) D W) :
    ∃ Wn : Nat → Nat → St → Hp → Prop, (∃ m, Wn 0 m σ H) ∧ ∀ i m σ H, Wn i m σ H →
      ((Itl K a).stop i H ∧ D.nx σ H) ∨ ((Itl K a).go i H ∧ ∃ N : St → Hp → Prop, (∀ σ' H', N σ' H' → ∃ m', m' < m ∧ Wn (i + 1) m' σ' H') ∧ ∀ x H', (Itl K a).yld i H x H' → g x σ H' fun σ2 H2 => tb { D with nx := N, ct := N, bk := D.nx } σ2 H2) := by
  refine ⟨fun i m σ2 H2 => ∃ F2 ι2 L2 σl2, Ext F ι F2 ι2 ∧ SRep K mg G F2 ι2 L2 σl2 σ2 H2 ∧ PstS K mg G F2 ι2 (loopR n b r m i σl2 L2) D W, ⟨k, F, ι, L, σl, Ext.refl _ _, sr, q⟩, ?_⟩
  rintro i m σ2 H2 ⟨F2, ι2, L2, σl2, x2, ⟨GO2, s2⟩, q2⟩
  cases m with
  | zero => exact q2.elim
  | succ m =>
    unfold loopR at q2
    split at q2
    · rename_i vs ev
      have k1 := x2.pre _ _ ha
      cases s2.rep.obj _ _ _ k1 ev with
      | lst z1 z2 =>
        rename_i us
        cases e0 : vs[i]? with
        | none =>
          rw [e0] at q2
          refine .inl ⟨⟨us, .of z1, ?_⟩, q2 F2 ι2 H2 σ2 (Ext.refl _ _) ⟨GO2, s2⟩⟩
          rw [← z2.length]
          exact List.getElem?_eq_none_iff.mp e0
        | some v =>
          rw [e0] at q2
          obtain ⟨u, eu, ru⟩ := z2.get e0
          refine .inr ⟨⟨us, u, .of z1, eu⟩, fun σ' H' => ∃ F2 ι2 L2 σl2, Ext F ι F2 ι2 ∧ SRep K mg G F2 ι2 L2 σl2 σ' H' ∧ PstS K mg G F2 ι2 (loopR n b r m (i + 1) σl2 L2) D W, fun σ' H' z => ⟨m, Nat.lt_succ_self m, z⟩, fun x H3 y => ?_⟩
          obtain ⟨rfl, y⟩ := y
          have y2 := y us (.of z1)
          rw [eu] at y2
          cases y2
          simp only at q2
          cases e1 : n v σl2 with
          | none => rw [e1] at q2; exact q2.elim
          | some σ1 =>
            rw [e1] at q2
            refine sg _ _ _ _ _ _ _ _ _ _ _ _ s2 ru e1 fun σ' sr' => ?_
            refine sb G F2 ι2 L2 σ1 σ' _ _ ⟨GO2, sr'⟩ ?_
            simp only at q2
            cases e2 : b σ1 L2 with
            | nx σ4 L4 =>
              rw [e2] at q2
              exact fun F4 ι4 H4 σ5 x4 s4 => ⟨F4, ι4, L4, σ4, x2.trans x4, s4, q2.ext x4⟩
            | ct σ4 L4 =>
              rw [e2] at q2
              exact fun F4 ι4 H4 σ5 x4 s4 => ⟨F4, ι4, L4, σ4, x2.trans x4, s4, q2.ext x4⟩
            | bk σ4 L4 => rw [e2] at q2; exact q2
            | rt v L4 => rw [e2] at q2; exact q2
            | er c ns vs s L4 => rw [e2] at q2; exact q2
            | no => rw [e2] at q2; exact q2.elim
    · exact q2.elim
theorem js_forA {tg l : Expr} {body : List Stmt} {pos : Pos} {mo : ME} {n : LV → SL → Option SL} {b : MS} (h : JE X W l mo) (hg : JG X tg n) (hb : JSs X W body b) (hp : PassesOwn (model X.prog X.w) X.A X.env X.xe) (hc : X.calm = true := by rfl) (hs : ∀ x, foldedSetIterable l X.env x = pure x := by intro _; rfl) : JS X W (.For tg l body [] pos) (sForA mo n b) := by
  obtain ⟨t, p, s⟩ := h
  obtain ⟨g, pg, sg⟩ := hg
  obtain ⟨tb, pb, sb⟩ := hb
  refine ⟨_, ps_for hp hc (pi_any p) pg pb hs, ?_⟩
  intro G F ι L σl σ H D sr q
  obtain ⟨GO, sr⟩ := sr
  refine s _ _ _ _ _ _ _ _ sr.rep sr.vr ((PstS.lift sr q).imp fun v F1 ι1 L1 H1 x1 rp1 q1 u ru => ?_)
  have sr1 : SRep X.K X.mg G F1 ι1 L1 σl σ H1 := ⟨GO, sr.ext x1 rp1⟩
  cases ru with
  | loc e => exact q1.elim
  | r0 ru =>
    cases ru with
    | ref k1 =>
      simp only at q1
      split at q1
      · rename_i ws ew
        cases rp1.obj _ _ _ k1 ew with
        | lst z1 z2 => exact .inl ⟨_, rfl, ⟨_, .of z1⟩, for_live sg sb k1 sr1 q1⟩
      · exact q1.elim
    | lst h1 h2 => exact .inl ⟨_, rfl, ⟨_, .of (rp1.f _ _ h1)⟩, for_items sg sb (itok_list (.of h1) h2) sr1 q1⟩
    | rdl h1 h2 => exact .inl ⟨_, rfl, ⟨_, Sub.sqL rp1.f h1⟩, for_items sg sb (itok_list h1 h2) sr1 q1⟩
    | tup h1 h2 => exact .inr (.inl ⟨_, rfl, ⟨_, Sub.sqT rp1.f h1⟩, for_items sg sb (itok_tup h1 h2) sr1 q1⟩)
    | str => exact .inr (.inr ⟨_, rfl, for_items sg sb itok_str sr1 q1⟩)
    | _ => exact q1.elim
/-! ### comprehensions over such -/
def compR (n : LV → SL → Option SL) (t : MT) (m : ME) (σ0 : SL) (r : Nat) : Nat → Nat → List LV → LH → O (List LV)
  | 0, _, _, _ => .no
  | k + 1, i, acc, L => match L[r]? with
    | some (.lst vs) => match vs[i]? with
      | none => .ok acc L
      | some v => match n v σ0 with
        | none => .no
        | some σ1 => match t σ1 L with
          | .ok b L1 => if b = true then (match m σ1 L1 with
            | .ok x L2 => if (clean x && decide (acc.length < sizeLine)) = true then compR n t m σ0 r k (i + 1) (acc ++ [x]) L2 else .no
            | _ => .no) else compR n t m σ0 r k (i + 1) acc L1
          | _ => .no
    | _ => .no
def aCompA (mo : ME) (n : LV → SL → Option SL) (t : MT) (m : ME) (vs : List Nat) : MA := fun σ L => (mo σ L).bind fun v L1 => match v with
  | .ref r => match L1[r]? with
    | some (.lst ws) => compR n t m (wipeL σ vs) r (ws.length + 1) 0 [] L1
    | _ => .no
  | v => match itemsOf v with
    | some items => compL n t m (wipeL σ vs) items [] L1
    | none => .no
abbrev NP (K : PySem.W.Frag) (mg : Str → Option Value) (G : Hp) (Q : VK) : List LV → Hp → List Addr → LH → Hp → Prop := fun vs F' ι' L' H' => ∀ p us, H' p = some (.lst us) → G p = none → F' p = none → (∀ n : Nat, ι'[n]? ≠ some p) → Rs0 K mg F' ι' vs us → Q (.ref p) H'
theorem comp_items {g : TG} {tt : TT} {te : TE} {n : LV → SL → Option SL} {t : MT} {m : ME} {vs : List Nat} {J : It} {items : List LV} {Q : VK} {x : XK} (hg : CG K mg vs g n) (ht : SimT K mg W0 tt t) (he : SimE K mg W0 te m) (hJ : ItOk K mg F ι J items) (rp1 : Rep K mg G F ι L H) (vr : VR K mg G F ι σl σ)
    (q1 : Pst K mg G F ι (compL n t m (wipeL σl vs) items [] L) (NP K mg G Q) x) :
    ∀ D, H D = none → ∃ W : Nat → Nat → Hp → Prop, (∃ m, W 0 m (upd H D (.lst []))) ∧ ∀ i m H, W i m H →
      (J.stop i H ∧ Q (.ref D) H) ∨ (J.go i H ∧ ∃ Nx : Hp → Prop, (∀ H', Nx H' → ∃ m', m' < m ∧ W (i + 1) m' H') ∧ ∀ x H', J.yld i H x H' → g x (wipe σ vs) H' fun σ2 H2 => wipe σ2 vs = wipe σ vs ∧ tt σ2 H2 fun b H3 =>
        if b = true then te σ2 H3 fun y H4 => ∃ acc, H4 D = some (.lst acc) ∧ acc.length < sizeLine ∧ Nx (upd H4 D (.lst (acc ++ [y]))) else Nx H3) := by
  intro D hD
  obtain ⟨fd1, fd2, fd3⟩ := rp1.fresh hD
  refine ⟨fun i k H2 => k = items.length - i ∧ i ≤ items.length ∧ ∃ F2 ι2 L2 acc us, Ext F ι F2 ι2 ∧ Rep K mg (upd G D (.lst us)) F2 ι2 L2 H2 ∧ Rs0 K mg F2 ι2 acc us ∧
    Pst K mg G F2 ι2 (compL n t m (wipeL σl vs) (items.drop i) acc L2) (NP K mg G Q) x,
    ⟨items.length, rfl, Nat.zero_le _, F, ι, L, [], [], Ext.refl _ _, rp1.addG hD, .nil, q1⟩, ?_⟩
  rintro i k H2 ⟨rfl, hle, F2, ι2, L2, acc, us, x2, rp2, r2, q2⟩
  obtain ⟨j1, j2⟩ := hJ _ F2 ι2 L2 H2 x2 rp2
  by_cases hlt : i < items.length
  · have hv : items[i]? = some items[i] := List.getElem?_eq_getElem hlt
    obtain ⟨k1, k2⟩ := j2 i _ hv
    rw [List.drop_eq_getElem_cons hlt] at q2
    refine .inr ⟨k1, fun H' => ∃ m', m' < items.length - i ∧ (m' = items.length - (i + 1) ∧ i + 1 ≤ items.length ∧ ∃ F2 ι2 L2 acc us, Ext F ι F2 ι2 ∧ Rep K mg (upd G D (.lst us)) F2 ι2 L2 H' ∧ Rs0 K mg F2 ι2 acc us ∧
      Pst K mg G F2 ι2 (compL n t m (wipeL σl vs) (items.drop (i + 1)) acc L2) (NP K mg G Q) x),
      fun H' z => z, fun y H3 yy => ?_⟩
    have lt : items.length - (i + 1) < items.length - i := by omega
    obtain ⟨F3, ι3, x3, rp3, r3⟩ := k2 y H3 yy
    unfold compL at q2
    cases e1 : n items[i] (wipeL σl vs) with
    | none => rw [e1] at q2; exact q2.elim
    | some σ1 =>
      rw [e1] at q2
      simp only at q2
      have vr3 : VR K mg (upd G D (.lst us)) F3 ι3 (wipeL σl vs) (wipe σ vs) := ((vr.mono x2).mono x3).addG fd2 |>.wipe vs
      refine hg _ F3 ι3 _ _ H3 _ _ _ σ1 rp3.f vr3 r3 e1 fun σ' vr' hw => ?_
      refine ⟨by rw [hw, wipe_idem vs fun w h => h], ?_⟩
      cases e2 : t σ1 L2 with
      | er c ns zs L4 => rw [e2] at q2; exact q2.elim
      | no => rw [e2] at q2; exact q2.elim
      | ok b L4 =>
        rw [e2] at q2
        simp only at q2
        refine ht _ F3 ι3 L2 H3 σ1 σ' _ rp3 vr' ?_
        rw [e2]
        intro F4 ι4 H4 x4 rp4
        cases b with
        | false =>
          rw [if_neg Bool.false_ne_true] at q2
          show (if false = true then _ else _)
          rw [if_neg Bool.false_ne_true]
          exact ⟨_, lt, rfl, hlt, F4, ι4, L4, acc, us, x2.trans (x3.trans x4), rp4, (r2.mono x3).mono x4, q2.ext (x3.trans x4)⟩
        | true =>
          rw [if_pos rfl] at q2
          show (if true = true then _ else _)
          rw [if_pos rfl]
          refine he _ F4 ι4 L4 H4 σ1 σ' _ rp4 (vr'.mono x4) ?_
          cases e3 : m σ1 L4 with
          | er c ns zs L5 => rw [e3] at q2; exact q2.elim
          | no => rw [e3] at q2; exact q2.elim
          | ok v L5 =>
            rw [e3] at q2
            simp only at q2
            intro F5 ι5 H5 x5 rp5 u ru
            split at q2
            · rename_i hc
              rw [Bool.and_eq_true] at hc
              have r0 := ru.clean hc.1
              refine ⟨us, rp5.g D _ upd_same, by rw [← r2.length]; exact of_decide_eq_true hc.2, ?_⟩
              exact ⟨_, lt, rfl, hlt, F5, ι5, L5, acc ++ [v], us ++ [u], x2.trans (x3.trans (x4.trans x5)), rp5.reG, (((r2.mono x3).mono x4).mono x5).append (.cons r0 .nil), q2.ext (x3.trans (x4.trans x5))⟩
            · exact q2.elim
  · have e : i = items.length := by omega
    subst e
    rw [List.drop_length] at q2
    refine .inl ⟨j1, ?_⟩
    have gs : Sub G (upd G D (.lst us)) := fun a o e => by rw [upd_ne (fun z => by rw [z, fd2] at e; cases e)]; exact e
    exact q2 F2 ι2 H2 (Ext.refl _ _) (rp2.sub gs) D us (rp2.g D _ upd_same) fd2 (rp2.gf D _ upd_same) (fun n e => by
      have z := (rp2.nf n D e).2
      rw [upd_same] at z
      cases z) r2
theorem comp_live {g : TG} {tt : TT} {te : TE} {n : LV → SL → Option SL} {t : MT} {m : ME} {vs : List Nat} {a : Addr} {r k : Nat} {Q : VK} {x : XK} (hg : CG K mg vs g n) (ht : SimT K mg W0 tt t) (he : SimE K mg W0 te m) (ha : ι[r]? = some a) (rp1 : Rep K mg G F ι L H) (vr : VR K mg G F ι σl σ)
    (q1 : Pst K mg G F ι (compR n t m (wipeL σl vs) r k 0 [] L) (NP K mg G Q) x) :
    ∀ D, H D = none → ∃ W : Nat → Nat → Hp → Prop, (∃ m, W 0 m (upd H D (.lst []))) ∧ ∀ i m H, W i m H →
      ((Itl K a).stop i H ∧ Q (.ref D) H) ∨ ((Itl K a).go i H ∧ ∃ Nx : Hp → Prop, (∀ H', Nx H' → ∃ m', m' < m ∧ W (i + 1) m' H') ∧ ∀ x H', (Itl K a).yld i H x H' → g x (wipe σ vs) H' fun σ2 H2 => wipe σ2 vs = wipe σ vs ∧ tt σ2 H2 fun b H3 =>
        if b = true then te σ2 H3 fun y H4 => ∃ acc, H4 D = some (.lst acc) ∧ acc.length < sizeLine ∧ Nx (upd H4 D (.lst (acc ++ [y]))) else Nx H3) := by
  intro D hD
  obtain ⟨fd1, fd2, fd3⟩ := rp1.fresh hD
  refine ⟨fun i k H2 => ∃ F2 ι2 L2 acc us, Ext F ι F2 ι2 ∧ Rep K mg (upd G D (.lst us)) F2 ι2 L2 H2 ∧ Rs0 K mg F2 ι2 acc us ∧
    Pst K mg G F2 ι2 (compR n t m (wipeL σl vs) r k i acc L2) (NP K mg G Q) x,
    ⟨k, F, ι, L, [], [], Ext.refl _ _, rp1.addG hD, .nil, q1⟩, ?_⟩
  rintro i k H2 ⟨F2, ι2, L2, acc, us, x2, rp2, r2, q2⟩
  cases k with
  | zero => exact q2.elim
  | succ k =>
    unfold compR at q2
    split at q2
    · rename_i ws ev
      have k1 := x2.pre _ _ ha
      cases rp2.obj _ _ _ k1 ev with
      | lst z1 z2 =>
        rename_i us0
        cases e0 : ws[i]? with
        | none =>
          rw [e0] at q2
          refine .inl ⟨⟨us0, .of z1, ?_⟩, ?_⟩
          · rw [← z2.length]
            exact List.getElem?_eq_none_iff.mp e0
          · have gs : Sub G (upd G D (.lst us)) := fun a o e => by rw [upd_ne (fun z => by rw [z, fd2] at e; cases e)]; exact e
            exact q2 F2 ι2 H2 (Ext.refl _ _) (rp2.sub gs) D us (rp2.g D _ upd_same) fd2 (rp2.gf D _ upd_same) (fun n e => by
              have z := (rp2.nf n D e).2
              rw [upd_same] at z
              cases z) r2
        | some v =>
          rw [e0] at q2
          obtain ⟨u, eu, ru⟩ := z2.get e0
          refine .inr ⟨⟨us0, u, .of z1, eu⟩, fun H' => ∃ m', m' < k + 1 ∧ ∃ F2 ι2 L2 acc us, Ext F ι F2 ι2 ∧ Rep K mg (upd G D (.lst us)) F2 ι2 L2 H' ∧ Rs0 K mg F2 ι2 acc us ∧
            Pst K mg G F2 ι2 (compR n t m (wipeL σl vs) r m' (i + 1) acc L2) (NP K mg G Q) x, fun H' z => z, fun y H3 yy => ?_⟩
          obtain ⟨rfl, yy⟩ := yy
          have y2 := yy us0 (.of z1)
          rw [eu] at y2
          cases y2
          simp only at q2
          cases e1 : n v (wipeL σl vs) with
          | none => rw [e1] at q2; exact q2.elim
          | some σ1 =>
            rw [e1] at q2
            simp only at q2
            have vr3 : VR K mg (upd G D (.lst us)) F2 ι2 (wipeL σl vs) (wipe σ vs) := (vr.mono x2).addG fd2 |>.wipe vs
            refine hg _ F2 ι2 _ _ _ _ _ _ σ1 rp2.f vr3 ru e1 fun σ' vr' hw => ?_
            refine ⟨by rw [hw, wipe_idem vs fun w h => h], ?_⟩
            cases e2 : t σ1 L2 with
            | er c ns zs L4 => rw [e2] at q2; exact q2.elim
            | no => rw [e2] at q2; exact q2.elim
            | ok b L4 =>
              rw [e2] at q2
              simp only at q2
              refine ht _ F2 ι2 L2 _ σ1 σ' _ rp2 vr' ?_
              rw [e2]
              intro F4 ι4 H4 x4 rp4
              cases b with
              | false =>
                rw [if_neg Bool.false_ne_true] at q2
                show (if false = true then _ else _)
                rw [if_neg Bool.false_ne_true]
                exact ⟨k, Nat.lt_succ_self k, F4, ι4, L4, acc, us, x2.trans x4, rp4, r2.mono x4, q2.ext x4⟩
              | true =>
                rw [if_pos rfl] at q2
                show (if true = true then _ else _)
                rw [if_pos rfl]
                refine he _ F4 ι4 L4 H4 σ1 σ' _ rp4 (vr'.mono x4) ?_
                cases e3 : m σ1 L4 with
                | er c ns zs L5 => rw [e3] at q2; exact q2.elim
                | no => rw [e3] at q2; exact q2.elim
                | ok z L5 =>
                  rw [e3] at q2
                  simp only at q2
                  intro F5 ι5 H5 x5 rp5 w rw
                  split at q2
                  · rename_i hc
                    rw [Bool.and_eq_true] at hc
                    have r0 := rw.clean hc.1
                    refine ⟨us, rp5.g D _ upd_same, by rw [← r2.length]; exact of_decide_eq_true hc.2, ?_⟩
                    exact ⟨k, Nat.lt_succ_self k, F5, ι5, L5, acc ++ [z], us ++ [w], x2.trans (x4.trans x5), rp5.reG, ((r2.mono x4).mono x5).append (.cons r0 .nil), q2.ext (x4.trans x5)⟩
                  · exact q2.elim
    · exact q2.elim
theorem sim_lcA {tl : TE} {g : TG} {tt : TT} {te : TE} {mo : ME} {n : LV → SL → Option SL} {t : MT} {m : ME} {vs : List Nat} (so : SimE K mg W tl mo) (hg : CG K mg vs g n) (ht : SimT K mg W0 tt t) (he : SimE K mg W0 te m) : SimN K mg W (tLc (iAny K tl) g tt te vs) (aCompA mo n t m vs) := by
  intro G F ι L H σl σ Q rp vr q
  refine so _ _ _ _ _ _ _ _ rp vr ((Pst.bind q).imp fun v F1 ι1 L1 H1 x1 rp1 q1 u ru => ?_)
  have vr1 := vr.mono x1
  cases ru with
  | loc e => exact q1.elim
  | r0 ru =>
    cases ru with
    | ref k1 =>
      simp only at q1
      split at q1
      · rename_i ws ew
        cases rp1.obj _ _ _ k1 ew with
        | lst z1 z2 => exact .inl ⟨_, rfl, ⟨_, .of z1⟩, comp_live hg ht he k1 rp1 vr1 q1⟩
      · exact q1.elim
    | lst h1 h2 => exact .inl ⟨_, rfl, ⟨_, .of (rp1.f _ _ h1)⟩, comp_items hg ht he (itok_list (.of h1) h2) rp1 vr1 q1⟩
    | rdl h1 h2 => exact .inl ⟨_, rfl, ⟨_, Sub.sqL rp1.f h1⟩, comp_items hg ht he (itok_list h1 h2) rp1 vr1 q1⟩
    | tup h1 h2 => exact .inr (.inl ⟨_, rfl, ⟨_, Sub.sqT rp1.f h1⟩, comp_items hg ht he (itok_tup h1 h2) rp1 vr1 q1⟩)
    | str => exact .inr (.inr ⟨_, rfl, comp_items hg ht he itok_str rp1 vr1 q1⟩)
    | _ => exact q1.elim
theorem jn_lcA {elt tg l : Expr} {ifs : List Expr} {scope : Scope} {own : List (Str × Nat)} {pos : Pos} {g : TG} {mo : ME} {n : LV → SL → Option SL} {t : MT} {m : ME} (hN : X.N.Nodup) (hi : JE X W l mo) (ok : BlkOk X.N X.env.scope scope own) (hg : CG X.K X.mg (own.map (·.2)) g n)
    (pg : ∀ (s : Shared) (H : Hp) (C : Addr) (cl : List (Str × Addr)) (fp : List Addr), PG (X.blk s H scope (compEnvC scope cl C X.env) fp) tg g) (ht : ∃ tt, SimT X.K X.mg W0 tt t ∧ ∀ (s : Shared) (H : Hp) (C : Addr) (cl : List (Str × Addr)) (fp : List Addr), PTs (X.blk s H scope (compEnvC scope cl C X.env) fp) ifs tt)
    (he : ∀ (s : Shared) (H : Hp) (C : Addr) (cl : List (Str × Addr)) (fp : List Addr), JE (X.blk s H scope (compEnvC scope cl C X.env) fp) W0 elt m) (hc : X.calm = true := by rfl) (hs : ∀ x, foldedSetIterable l X.env x = pure x := by intro _; rfl) :
    JN X W (.ListComp elt [⟨tg, l, ifs, 0⟩] scope pos) (aCompA mo n t m (own.map (·.2))) := by
  obtain ⟨tl, pl, sl⟩ := hi
  obtain ⟨tt, st, pt⟩ := ht
  exact ⟨_, pe_lc hc hN (pi_any pl) ok pg pt (fun s H C cl fp => (he s H C cl fp).can) hs, sim_lcA sl hg st sim_tM⟩
theorem jl_lcA (i : Nat) {y : Str} {py : Pos} {elt tg l : Expr} {ifs : List Expr} {scope : Scope} {own : List (Str × Nat)} {pos spos : Pos} {g : TG} {mo : ME} {n : LV → SL → Option SL} {t : MT} {m : ME} (hN : X.N.Nodup) (hi : JE X W l mo) (ok : BlkOk X.N X.env.scope scope own) (hg : CG X.K X.mg (own.map (·.2)) g n)
    (pg : ∀ (s : Shared) (H : Hp) (C : Addr) (cl : List (Str × Addr)) (fp : List Addr), PG (X.blk s H scope (compEnvC scope cl C X.env) fp) tg g) (ht : ∃ tt, SimT X.K X.mg W0 tt t ∧ ∀ (s : Shared) (H : Hp) (C : Addr) (cl : List (Str × Addr)) (fp : List Addr), PTs (X.blk s H scope (compEnvC scope cl C X.env) fp) ifs tt)
    (he : ∀ (s : Shared) (H : Hp) (C : Addr) (cl : List (Str × Addr)) (fp : List Addr), JE (X.blk s H scope (compEnvC scope cl C X.env) fp) W0 elt m) (hsw : swapsWith (.ListComp elt [⟨tg, l, ifs, 0⟩] scope pos) (some (.Name y py)) spos.line X.env = pure true)
    (hc : X.calm = true := by rfl) (hy : X.N[i]? = some y := by rfl) (hyl : X.env.scope.names.lookup y = some .local := by rfl) (hs : ∀ x, foldedSetIterable l X.env x = pure x := by intro _; rfl) :
    JL X W i (.Assign [.Name y py] (.ListComp elt [⟨tg, l, ifs, 0⟩] scope pos) spos) (aCompA mo n t m (own.map (·.2))) := by
  obtain ⟨tl, pl, sl⟩ := hi
  obtain ⟨tt, st, pt⟩ := ht
  exact ⟨_, ps_setLc hc hN hy hyl hsw (pi_any pl) ok pg pt (fun s H C cl fp => (he s H C cl fp).can) hs, sim_lcA sl hg st sim_tM⟩
theorem un65 {k : Nat} {A : Around} (r : Room k A) : A.units + 65 < cLine := by
  have := r.un
  omega
/-- measures of whiles -/
def mInt (i : Nat) : SL → LH → Nat := fun σ _ => match σ[i]? with
  | some (.val (.int w)) => w.toNat + 1
  | _ => 0
def mLen (i : Nat) : SL → LH → Nat := fun σ L => match σ[i]? with
  | some (.val v) => match seqL σ L v with
    | some vs => vs.length + 1
    | none => 0
  | _ => 0
end
end Z
namespace Z
open PySem PySem.Spec L2
section
variable {X : Cx} {W : WX} {K : PySem.W.Frag} {mg : Str → Option Value} {G F H : Hp} {ι : List Addr} {L : LH} {σ : St} {σl : SL}
variable {i : Nat} {a : Addr} {d : Option Addr} {ns : List Str} {vs : List LV}
/-! ### expressions within an except suite, where slot i holds the exception -/
def SimEX (K : PySem.W.Frag) (mg : Str → Option Value) (W : WX) (i : Nat) (a : Addr) (d : Option Addr) (ns : List Str) (vs : List LV) (t : TE) (m : ME) : Prop := ∀ (G F : Hp) (ι : List Addr) (L : LH) (H : Hp) (σl : SL) (σ : St) (Q : VK), Rep K mg G F ι L H → VR K mg G F ι σl σ → σ[i]? = some (some (.ref a)) → RX K mg F ι d ns vs →
  Pst K mg G F ι (m σl L) (fun v F' ι' L' H' => ∀ u, RV K mg σ F' ι' v u → Q u H') (fun c d H' => W c d σ H') → t σ H Q
def JY (X : Cx) (W : WX) (i : Nat) (a : Addr) (d : Option Addr) (ns : List Str) (vs : List LV) (e : Expr) (m : ME) : Prop := ∃ t, PE X e t ∧ SimEX X.K X.mg W i a d ns vs t m
def SimAX (K : PySem.W.Frag) (mg : Str → Option Value) (W : WX) (i : Nat) (a : Addr) (d : Option Addr) (ns : List Str) (vs : List LV) (t : TA) (m : MA) : Prop := ∀ (G F : Hp) (ι : List Addr) (L : LH) (H : Hp) (σl : SL) (σ : St) (Q : List V → Hp → Prop), Rep K mg G F ι L H → VR K mg G F ι σl σ → σ[i]? = some (some (.ref a)) → RX K mg F ι d ns vs →
  Pst K mg G F ι (m σl L) (fun vs F' ι' L' H' => ∀ us, RVs K mg σ F' ι' vs us → Q us H') (fun c d H' => W c d σ H') → t σ H Q
def JYA (X : Cx) (W : WX) (i : Nat) (a : Addr) (d : Option Addr) (ns : List Str) (vs : List LV) (es : List Expr) (m : MA) : Prop := ∃ t, PA X es t ∧ SimAX X.K X.mg W i a d ns vs t m
theorem RX.mono {F' : Hp} {ι' : List Addr} (e : Ext F ι F' ι') (h : RX K mg F ι d ns vs) : RX K mg F' ι' d ns vs := by
  unfold RX at *
  split at h
  · exact h
  · obtain ⟨dx, us, e1, e2, e3, e4⟩ := h
    exact ⟨dx, us, e1, e.sub _ _ e2, e3, e4.mono e⟩
theorem jy_of {e : Expr} {m : ME} (h : JE X W e m) : JY X W i a d ns vs e m := let ⟨_, p, s⟩ := h; ⟨_, p, fun G F ι L H σl σ Q rp vr _ _ q => s G F ι L H σl σ Q rp vr q⟩
theorem jy_one {op} {e : Expr} {pos : Pos} {m : ME} (h : JY X W i a d ns vs e m) : JY X W i a d ns vs (.BoolOp op [e] pos) m := let ⟨_, p, s⟩ := h; ⟨_, pe_one p, s⟩
theorem jy_and {e f : Expr} {rest : List Expr} {pos : Pos} {m n : ME} (h : JY X W i a d ns vs e m) (h' : JY X W i a d ns vs (.BoolOp .And (f :: rest) pos) n) : JY X W i a d ns vs (.BoolOp .And (e :: f :: rest) pos) (eAnd m n) := by
  obtain ⟨te, pe, se⟩ := h
  obtain ⟨tf, pf, sf⟩ := h'
  refine ⟨_, pe_and pe pf, ?_⟩
  intro G F ι L H σl σ Q rp vr hi rx q
  refine se _ _ _ _ _ _ _ _ rp vr hi rx ((Pst.bind q).imp fun v F1 ι1 L1 H1 x1 rp1 q1 u ru => ?_)
  split at q1
  · rename_i c
    cases ru with
    | r0 ru =>
      cases ru
      refine ⟨c, rfl, ?_⟩
      cases c with
      | true => exact sf _ _ _ _ _ _ _ _ rp1 (vr.mono x1) hi (rx.mono x1) q1
      | false => exact q1.ok rp1 _ (.r0 .bl)
  · exact q1.elim
theorem jy_not {e : Expr} {pos : Pos} {b : Bool} (h : JY X W i a d ns vs e (eC (.bl b))) : JY X W i a d ns vs (.UnaryOp .Not e pos) (eC (.bl (!b))) := by
  obtain ⟨te, pe, se⟩ := h
  refine ⟨_, pe_not pe, ?_⟩
  intro G F ι L H σl σ Q rp vr hi rx q
  refine se _ _ _ _ _ _ _ _ rp vr hi rx fun F1 ι1 H1 x1 rp1 u ru => ?_
  cases ru with
  | r0 ru => cases ru; exact ⟨b, rfl, q F1 ι1 H1 x1 rp1 _ (.r0 .bl)⟩
theorem jy_cmp {op : CmpOp} {r : R2} {f : LV → LV → SL → LH → O LV} {e g : Expr} {pos : Pos} {ma mb : ME} (ho : OpR X (compareOp op) r) (hr : Op2 X.K X.mg r f) (ha : JY X W i a d ns vs e ma) (hb : JY X W i a d ns vs g mb) (hm : behindInMarks op g = false) : JY X W i a d ns vs (.Compare e [op] [g] pos) (e2 f ma mb) := by
  obtain ⟨ta, pa, sa⟩ := ha
  obtain ⟨tb, pb, sb⟩ := hb
  refine ⟨_, pe_cmpR ho pa pb hm, ?_⟩
  intro G F ι L H σl σ Q rp vr hi rx h
  refine sa _ _ _ _ _ _ _ _ rp vr hi rx ((Pst.bind h).imp fun x F1 ι1 L1 H1 x1 rp1 h1 u ru => ?_)
  refine sb _ _ _ _ _ _ _ _ rp1 (vr.mono x1) hi (rx.mono x1) ((Pst.bind h1).imp fun y F2 ι2 L2 H2 x2 rp2 h2 w rw => ?_)
  exact hr _ _ _ _ _ _ _ _ _ _ _ _ _ rp2 (vr.mono (x1.trans x2)) (ru.mono x2) rw h2
theorem jya_nil : JYA X W i a d ns vs [] aNil := let ⟨_, p, s⟩ := (ja_nil : JA X W [] aNil); ⟨_, p, fun G F ι L H σl σ Q rp vr _ _ q => s G F ι L H σl σ Q rp vr q⟩
theorem jya_cons {e : Expr} {es : List Expr} {m : ME} {mr : MA} (he : JY X W i a d ns vs e m) (hr : JYA X W i a d ns vs es mr) (hs : starEach (e :: es) X.env = (false, eval e X.env) :: starEach es X.env := by rfl) : JYA X W i a d ns vs (e :: es) (aCons m mr) := by
  obtain ⟨te, pe, se⟩ := he
  obtain ⟨tr, pr, sr⟩ := hr
  refine ⟨_, pa_cons pe pr hs, ?_⟩
  intro G F ι L H σl σ Q rp vr hi rx h
  refine se _ _ _ _ _ _ _ _ rp vr hi rx ((Pst.bind h).imp fun x F1 ι1 L1 H1 x1 rp1 h1 u ru => ?_)
  refine sr _ _ _ _ _ _ _ _ rp1 (vr.mono x1) hi (rx.mono x1) ((Pst.bind h1).imp fun y F2 ι2 L2 H2 x2 rp2 h2 w rw => ?_)
  exact h2.ok rp2 _ (.cons (ru.mono x2) rw)
theorem jy_tup {es : List Expr} {pos : Pos} {c : Nat} {m : MA} (h : JYA X W i a d ns vs es m) : JY X W i a d ns vs (.Tuple es c pos) (eTup m) := by
  obtain ⟨t, p, s⟩ := h
  refine ⟨_, pe_tup p, ?_⟩
  intro G F ι L H σl σ Q rp vr hi rx q
  refine s _ _ _ _ _ _ _ _ rp vr hi rx ((Pst.bind q).imp fun xs F1 ι1 L1 H1 x1 rp1 q1 us rus => ?_)
  split at q1
  · rename_i hc
    rw [Bool.and_eq_true] at hc
    have r0 := RVs.clean rus hc.1
    refine ⟨by rw [← r0.length]; exact of_decide_eq_true hc.2, fun p hp => ?_⟩
    obtain ⟨rp2, x2, ru⟩ := rp1.frzT hp r0
    exact q1 _ _ _ x2 rp2 _ (.r0 ru)
  · exact q1.elim
theorem jy_isi {oe : Obj} {pn : List (Addr × Obj)} {D : Addr} {T : Str} {p pos pt px : Pos} {x : Str} {w : V} {cv : Value} {b : Bool} (C : ExcC X.K D) (hz : Zc (.ref D) none oe) (hf : ∃ vs, oe.data = .fields vs) (hgi : Gl X "isinstance") (hmi : X.mg "isinstance" = none)
    (pT : ∃ t, PE (X.suite a ((a, oe) :: pn)) (.Name T pt) t ∧ ∀ σ H Q, Q w H → t σ H Q) (hw : ∀ u, RelV w u → u = cv) (hk : PySem.W.kitOne X.K (.ref D) cv = some b)
    (hN : X.N[i]? = some x := by rfl) (hv : Vis X.env.scope x := by first | exact Or.inl rfl | exact Or.inr (Or.inl rfl) | exact Or.inr (Or.inr rfl)) (hd : (x == ("__debug__" : Str)) = false := by decide) (hcd : (x == ("__classdict__" : Str)) = false := by decide)
    (he : starEach (.Name x px :: [.Name T pt]) X.env = (false, eval (.Name x px) X.env) :: starEach [.Name T pt] X.env := by rfl) (hpl : (backTo pos (starEach [.Name T pt] X.env)).any (·.1) = false := by rfl) (he2 : starEach [.Name T pt] X.env = (false, eval (.Name T pt) X.env) :: starEach [] X.env := by rfl) :
    JY (X.suite a ((a, oe) :: pn)) W i a d ns vs (.Call (.Name "isinstance" p) (.Name x px :: [.Name T pt]) [] pos) (eC (.bl b)) := by
  obtain ⟨tT, pT, qT⟩ := pT
  refine ⟨_, pe_callB (call_isE (X := X) C hz hf) hgi hmi (by decide +kernel) (pa_cons (pe_var (i := i) hN hv hd hcd) (pa_cons pT pa_nil he2) he) (he := he) (hpl := hpl), ?_⟩
  intro G F ι L H σl σ Q rp vr hi rx q
  exact ⟨.ref a, hi, qT σ H _ ⟨w, cv, b, rfl, hw, hk, q.ok rp _ (.r0 .bl)⟩⟩
/-- e.f of the exception's own -/
def eXf (f : Str) (ns : List Str) (vs : List LV) : ME := fun _ L => match fieldL f ns vs with
  | some v => .ok v L
  | none => .no
theorem jy_why {C : Addr} {oe : Obj} {pn : List (Addr × Obj)} {f x : Str} {pos px : Pos} (T : XfC X.K C) (hno : PySem.W.findIn X.K (.ref C) f = some none) (hz : Zc (.ref C) d oe) (hf : ∃ us, oe.data = .fields us)
    (hN : X.N[i]? = some x := by rfl) (hv : Vis X.env.scope x := by first | exact Or.inl rfl | exact Or.inr (Or.inl rfl) | exact Or.inr (Or.inr rfl)) (hd : (x == ("__debug__" : Str)) = false := by decide) (hcd : (x == ("__classdict__" : Str)) = false := by decide)
    (hb : attributeBase (.Name x px) f X.env (eval (.Name x px) X.env) = eval (.Name x px) X.env := by rfl) :
    JY (X.suite a ((a, oe) :: pn)) W i a d ns vs (.Attribute (.Name x px) f pos) (eXf f ns vs) := by
  refine ⟨_, pe_xf (X := X) T hno hz hf (pe_var (i := i) hN hv hd hcd) hb, ?_⟩
  intro G F ι L H σl σ Q rp vr hi rx q
  unfold eXf at q
  split at q
  · rename_i v k
    unfold RX at rx
    split at rx
    · unfold fieldL at k; cases k
    · obtain ⟨dx, us, rfl, e, _, r⟩ := rx
      obtain ⟨u, e2, ru⟩ := fieldL_ok r k
      exact ⟨.ref a, hi, rfl, rfl, dx, _, u, rfl, rp.f _ _ e, e2, q.ok rp u (.r0 ru)⟩
  · exact q.elim
/-- return e -/
theorem jx_retY {e : Expr} {m : ME} {pos : Pos} (h : JY X W0x i a d ns vs e m) : JX X i a d ns vs [.Return (some e) pos] (sRet m) := by
  obtain ⟨t, p, s⟩ := h
  refine ⟨_, pss_one (ps_ret p), fun G F ι L σl σ H D sr hi rx q => ?_⟩
  obtain ⟨GO, sr⟩ := sr
  refine s _ _ _ _ _ _ _ _ sr.rep sr.vr hi rx ((PstS.lift sr q).imp fun v F1 ι1 L1 H1 x1 rp1 q1 u ru => ?_)
  split at q1
  · rename_i hc
    exact q1 F1 ι1 H1 u (Ext.refl _ _) (rp1.sub sr.sub) (ru.clean hc)
  · exact q1.elim
end
end Z
namespace Z
open PySem PySem.Spec L2
section
variable {X : Cx} {W : WX} {K : PySem.W.Frag} {mg : Str → Option Value} {G F H : Hp} {ι : List Addr} {L : LH} {σ : St} {σl : SL}
/-! ### data, through the mirror's lists -/
mutual
def toDW (rf : Nat → Option PyData) : LV → Option PyData
  | .non => some .none
  | .bl b => some (.bool b)
  | .int i => some (.int i)
  | .str x => some (.str x)
  | .tup vs => (toDsW rf vs).map .tuple
  | .lst vs => (toDsW rf vs).map .list
  | .rdl vs => (toDsW rf vs).map .list
  | .ref n => rf n
  | _ => none
def toDsW (rf : Nat → Option PyData) : List LV → Option (List PyData)
  | [] => some []
  | v :: vs => match toDW rf v, toDsW rf vs with
    | some d, some ds => some (d :: ds)
    | _, _ => none
end
def toDk (L : LH) : Nat → Nat → Option PyData
  | 0, _ => none
  | k + 1, n => match L[n]? with
    | some (.lst vs) => (toDsW (toDk L k) vs).map .list
    | _ => none
def toDR (σ : SL) (L : LH) (v : LV) : Option PyData := match v with
  | .loc i => match σ[i]? with
    | some (.own (.lst vs)) => (toDsW (toDk L 2) vs).map .list
    | _ => none
  | v => toDW (toDk L 3) v
mutual
theorem toDW_ok {rf : Nat → Option PyData} (s : Sub F H) (hr : ∀ n d a, rf n = some d → ι[n]? = some a → Dp K H (.ref a) d) : ∀ {v : LV} {u : V} {d : PyData}, R0 K mg F ι v u → toDW rf v = some d → Dp K H u d
  | .non, _, _, .non, h => by rw [toDW] at h; cases h; exact .non
  | .bl b, _, _, .bl, h => by rw [toDW] at h; cases h; exact .bl b
  | .int b, _, _, .int, h => by rw [toDW] at h; cases h; exact .int b
  | .str b, _, _, .str, h => by rw [toDW] at h; cases h; exact .str b
  | .tup vs, _, _, .tup h1 h2, h => by
    rw [toDW] at h
    cases e : toDsW rf vs with
    | none => rw [e] at h; cases h
    | some ds => rw [e] at h; cases h; exact .tup (s.sqT h1) (toDsW_ok s hr h2 e)
  | .lst vs, _, _, .lst h1 h2, h => by
    rw [toDW] at h
    cases e : toDsW rf vs with
    | none => rw [e] at h; cases h
    | some ds => rw [e] at h; cases h; exact .lst (.of (s _ _ h1)) (toDsW_ok s hr h2 e)
  | .rdl vs, _, _, .rdl h1 h2, h => by
    rw [toDW] at h
    cases e : toDsW rf vs with
    | none => rw [e] at h; cases h
    | some ds => rw [e] at h; cases h; exact .lst (s.sqL h1) (toDsW_ok s hr h2 e)
  | .ref n, _, _, .ref k, h => by
    rw [toDW] at h
    exact hr _ _ _ h k
  | .ins _ _ _, _, _, _, h => by simp [toDW] at h
theorem toDsW_ok {rf : Nat → Option PyData} (s : Sub F H) (hr : ∀ n d a, rf n = some d → ι[n]? = some a → Dp K H (.ref a) d) : ∀ {vs : List LV} {us : List V} {ds : List PyData}, Rs0 K mg F ι vs us → toDsW rf vs = some ds → DpAll K H us ds
  | [], _, _, .nil, h => by rw [toDsW] at h; cases h; exact .nil
  | v :: vs, _, _, .cons h1 h2, h => by
    rw [toDsW] at h
    cases e1 : toDW rf v with
    | none => rw [e1] at h; cases h
    | some d =>
      cases e2 : toDsW rf vs with
      | none => rw [e1, e2] at h; cases h
      | some ds => rw [e1, e2] at h; cases h; exact .cons (toDW_ok s hr h1 e1) (toDsW_ok s hr h2 e2)
end
theorem toDk_ok (r : Rep K mg G F ι L H) : ∀ (k n : Nat) (d : PyData) (a : Addr), toDk L k n = some d → ι[n]? = some a → Dp K H (.ref a) d
  | 0, _, _, _, h, _ => by cases h
  | k + 1, n, d, a, h, ha => by
    unfold toDk at h
    split at h
    · rename_i vs e
      cases r.obj _ _ _ ha e with
      | lst h1 h2 =>
        cases e2 : toDsW (toDk L k) vs with
        | none => rw [e2] at h; cases h
        | some ds => rw [e2] at h; cases h; exact .lst (.of h1) (toDsW_ok r.f (toDk_ok r k) h2 e2)
    · cases h
theorem toDR_ok {v : LV} {u : V} {d : PyData} (r : Rep K mg G F ι L H) (vr : VR K mg G F ι σl σ) (hv : RV K mg σ F ι v u) (h : toDR σl L v = some d) : Dp K H u d := by
  unfold toDR at h
  split at h
  · rename_i n
    split at h
    · rename_i vs e
      obtain ⟨a, us, rfl, h1, h2⟩ := seqL_ok r vr hv (show seqL σl L (.loc n) = some vs by simp only [seqL, e])
      cases e2 : toDsW (toDk L 2) vs with
      | none => rw [e2] at h; cases h
      | some ds => rw [e2] at h; cases h; exact .lst h1 (toDsW_ok r.f (toDk_ok r 2) h2 e2)
    · cases h
  · rename_i v' h1
    cases hv with
    | r0 hv => exact toDW_ok r.f (toDk_ok r 3) hv h
    | loc q => exact absurd rfl (h1 _)
/-- x == y, x != y -/
def fEqR (neg : Bool) : LV → LV → SL → LH → O LV := fun x y σ L => match eqS x y with
  | some b => .ok (.bl (if neg then !b else b)) L
  | none => match toDR σ L x, toDR σ L y with
    | some d, some e => if (SeqAt.shaped d && SeqAt.shaped e) = true then .ok (.bl (if neg then !PyData.eqv d e else PyData.eqv d e)) L else .no
    | _, _ => .no
theorem op2_eqR : Op2 K mg (rEqU K) (fEqR false) := by
  intro W G F ι L H σl σ Q x y u w rp vr ru rw q
  unfold fEqR at q
  split at q
  · rename_i b e
    obtain ⟨h1, h2⟩ := eqS_ok ru rw e
    exact .inl ⟨h1, by rw [h2]; exact q.ok rp _ (.r0 .bl)⟩
  · split at q
    · rename_i d e h1 h2
      split at q
      · rename_i hs
        rw [Bool.and_eq_true] at hs
        exact .inr ⟨d, e, toDR_ok rp vr ru h1, toDR_ok rp vr rw h2, hs.1, hs.2, q.ok rp _ (.r0 .bl)⟩
      · exact q.elim
    · exact q.elim
theorem op2_neR : Op2 K mg (rNeU K) (fEqR true) := by
  intro W G F ι L H σl σ Q x y u w rp vr ru rw q
  unfold fEqR at q
  split at q
  · rename_i b e
    obtain ⟨h1, h2⟩ := eqS_ok ru rw e
    exact .inl ⟨h1, by rw [h2]; exact q.ok rp _ (.r0 .bl)⟩
  · split at q
    · rename_i d e h1 h2
      split at q
      · rename_i hs
        rw [Bool.and_eq_true] at hs
        exact .inr ⟨d, e, toDR_ok rp vr ru h1, toDR_ok rp vr rw h2, hs.1, hs.2, q.ok rp _ (.r0 .bl)⟩
      · exact q.elim
    · exact q.elim
def fInR (neg : Bool) : LV → LV → SL → LH → O LV := fun x y σ L => match toDR σ L x, toDR σ L y with
  | some d, some (.list ds) => if (SeqAt.shaped d && SeqAt.shaped (.list ds)) = true then .ok (.bl (if neg then !(ds.any fun z => PyData.eqv z d) else ds.any fun z => PyData.eqv z d)) L else .no
  | _, _ => .no
theorem op2_inR : Op2 K mg (rInD K) (fInR false) := by
  intro W G F ι L H σl σ Q x y u w rp vr ru rw q
  unfold fInR at q
  split at q
  · rename_i d ds h1 h2
    split at q
    · rename_i hs
      rw [Bool.and_eq_true] at hs
      exact ⟨d, ds, toDR_ok rp vr ru h1, toDR_ok rp vr rw h2, hs.1, hs.2, q.ok rp _ (.r0 .bl)⟩
    · exact q.elim
  · exact q.elim
theorem op2_notinR : Op2 K mg (rNotInD K) (fInR true) := by
  intro W G F ι L H σl σ Q x y u w rp vr ru rw q
  unfold fInR at q
  split at q
  · rename_i d ds h1 h2
    split at q
    · rename_i hs
      rw [Bool.and_eq_true] at hs
      exact ⟨d, ds, toDR_ok rp vr ru h1, toDR_ok rp vr rw h2, hs.1, hs.2, q.ok rp _ (.r0 .bl)⟩
    · exact q.elim
  · exact q.elim
def fLIdxR : LV → List LV → SL → LH → O LV := fun x xs σ L => match xs with
  | [y] => match toDR σ L x, toDR σ L y with
    | some (.list ds), some d => if (SeqAt.shaped (.list ds) && SeqAt.shaped d) = true then (match ds.findIdx? fun z => PyData.eqv z d with
      | some j => .ok (.int (j : Nat)) L
      | none => .no) else .no
    | _, _ => .no
  | _ => .no
theorem opB_lidxR : OpB K mg (rIndexD K) fLIdxR := by
  intro W G F ι L H σl σ Q x u xs us rp vr ru rus q
  unfold fLIdxR at q
  split at q
  · rename_i y
    cases rus with
    | cons hy t =>
      cases t
      split at q
      · rename_i ds d h1 h2
        split at q
        · rename_i hs
          rw [Bool.and_eq_true] at hs
          split at q
          · rename_i j hj
            obtain ⟨hl, p1, p2⟩ := List.findIdx?_eq_some_iff_getElem.mp hj
            have k1 := toDR_ok rp vr ru h1
            have e : ∃ a, u = V.ref a := by
              cases k1 with
              | lst _ _ => exact ⟨_, rfl⟩
            obtain ⟨a, rfl⟩ := e
            refine ⟨a, _, d, ds, j, ds[j], rfl, rfl, k1, toDR_ok rp vr hy h2, hs.1, hs.2, List.getElem?_eq_getElem hl, p1, fun m z' hm hz => ?_, q.ok rp _ (.r0 .int)⟩
            have hml : m < ds.length := by omega
            rw [List.getElem?_eq_getElem hml] at hz
            cases hz
            simpa using p2 m hm
          · exact q.elim
        · exact q.elim
      · exact q.elim
  · exact q.elim
end
end Z
namespace Z
open PySem PySem.Spec L2
section
variable {X : Cx} {W : WX} {K : PySem.W.Frag} {mg : Str → Option Value} {G F H : Hp} {ι : List Addr} {L : LH} {σ : St} {σl : SL}
/-! ### ranges, with a bound that the kernel looks at quickly -/
def okR (j : Int) : Bool := Nat.ble j.natAbs 1000000000000
theorem okR_lt {j : Int} (h : okR j = true) : -(2 ^ 62) ≤ j ∧ j < 2 ^ 62 := by
  have := Nat.le_of_ble_eq_true h
  constructor
  · exact Int.le_trans (show -(2 ^ 62) ≤ (-1000000000000 : Int) by decide) (by omega)
  · exact Int.lt_of_le_of_lt (show j ≤ 1000000000000 by omega) (by decide)
theorem okR_of {j : Int} (h0 : -1000000000000 ≤ j) (h : j ≤ 1000000000000) : okR j = true := Nat.ble_eq_true_of_le (by omega)
def rq1 (vs : List LV) (L : LH) : O (List LV) := match vs with
  | [.int j] => if okR j = true then .ok (rng 0 j.toNat) L else .no
  | _ => .no
def rq2 (vs : List LV) (L : LH) : O (List LV) := match vs with
  | [.int i, .int j] => if (okR i && okR j) = true then .ok (rng i (j - i).toNat) L else .no
  | _ => .no
def iQ1 (m : MA) : MA := fun σ L => (m σ L).bind rq1
def iQ2 (m : MA) : MA := fun σ L => (m σ L).bind rq2
theorem sim_q {wi : TI} {m n : MA} (h : SimI K mg W wi m) (e : ∀ σ L, n σ L = .no ∨ n σ L = m σ L) : SimI K mg W wi n := by
  intro G F ι L H σl σ R rp vr q
  rcases e σl L with e | e
  · rw [e] at q; exact q.elim
  · rw [e] at q; exact h _ _ _ _ _ _ _ _ rp vr q
theorem q1_of (m : MA) (σ : SL) (L : LH) : iQ1 m σ L = .no ∨ iQ1 m σ L = iR1 m σ L := by
  unfold iQ1 iR1
  cases m σ L with
  | no => exact .inl rfl
  | er c ns vs L1 => exact .inr rfl
  | ok vs L1 =>
    simp only [O.bind]
    unfold rq1
    split
    · split
      · rename_i h
        exact .inr (if_pos (okR_lt h)).symm
      · exact .inl rfl
    · exact .inl rfl
theorem q2_of (m : MA) (σ : SL) (L : LH) : iQ2 m σ L = .no ∨ iQ2 m σ L = iR2 m σ L := by
  unfold iQ2 iR2
  cases m σ L with
  | no => exact .inl rfl
  | er c ns vs L1 => exact .inr rfl
  | ok vs L1 =>
    simp only [O.bind]
    unfold rq2
    split
    · split
      · rename_i h
        rw [Bool.and_eq_true] at h
        obtain ⟨a, b⟩ := okR_lt h.1
        obtain ⟨c, d⟩ := okR_lt h.2
        exact .inr (if_pos ⟨a, b, c, d⟩).symm
      · exact .inl rfl
    · exact .inl rfl
theorem ji_rangeQ1 {tg a : Expr} {p pos : Pos} {m : MA} (hm : X.mg "range" = none) (ha : JA X W [a] m) (hg : Gl X "range" := by rfl) (hs : starEach [a] X.env = [(false, eval a X.env)] := by rfl) : JI X W tg (.Call (.Name "range" p) [a] [] pos) (iQ1 m) :=
  let ⟨_, p, s⟩ := ji_range1 (tg := tg) (pos := pos) (p := p) hm ha hg hs; ⟨_, p, sim_q s (q1_of m)⟩
theorem ji_rangeQ2 {tg a b : Expr} {p pos : Pos} {m : MA} (hm : X.mg "range" = none) (ha : JA X W [a, b] m) (hg : Gl X "range" := by rfl) (hs : starEach [a, b] X.env = [(false, eval a X.env), (false, eval b X.env)] := by rfl) (hs2 : starEach [b] X.env = [(false, eval b X.env)] := by rfl) : JI X W tg (.Call (.Name "range" p) [a, b] [] pos) (iQ2 m) :=
  let ⟨_, p, s⟩ := ji_range2 (tg := tg) (pos := pos) (p := p) hm ha hg hs hs2; ⟨_, p, sim_q s (q2_of m)⟩
end
end Z
namespace Z
open PySem PySem.Spec L2
section
variable {X : Cx} {W : WX} {K : PySem.W.Frag} {mg : Str → Option Value} {G F H : Hp} {ι : List Addr} {L : LH} {σ : St} {σl : SL}
/-! ### lists repeated -/
def fRep : LV → LV → SL → LH → O LV := fun x y σ L => match y with
  | .int k => match seqM σ L x with
    | some vs => if Nat.ble k.natAbs 1000 = true then (if decide (vs.length * k.toNat ≤ sizeLine) = true then .ok (.lst (List.replicate k.toNat vs).flatten) L else .no) else .no
    | none => .no
  | _ => .no
theorem Rs0.rep {vs : List LV} {us : List V} (h : Rs0 K mg F ι vs us) : ∀ n : Nat, Rs0 K mg F ι (List.replicate n vs).flatten (List.replicate n us).flatten
  | 0 => .nil
  | n + 1 => by
    rw [List.replicate_succ, List.replicate_succ, List.flatten_cons, List.flatten_cons]
    exact h.append (Rs0.rep h n)
theorem op2_rep : Op2 K mg rRep fRep := by
  intro W G F ι L H σl σ Q x y u w rp vr ru rw q
  unfold fRep at q
  split at q
  · rename_i k
    split at q
    · rename_i vs e
      split at q
      · rename_i hk
        split at q
        · rename_i hz
          have hk2 := Nat.le_of_ble_eq_true hk
          obtain ⟨a, us, rfl, h1, h2⟩ := seqM_ok rp vr ru e
          cases rw with
          | r0 rw =>
            cases rw
            refine ⟨a, k, us, rfl, rfl, h1, ?_, ?_, by rw [← h2.length]; exact of_decide_eq_true hz, fun p hp => ?_⟩
            · exact Int.le_trans (show -(2 ^ 63) ≤ (-1000 : Int) by decide) (by omega)
            · exact Int.lt_of_le_of_lt (show k ≤ 1000 by omega) (by decide)
            · obtain ⟨rp2, x2, r2⟩ := rp.frzL hp (h2.rep k.toNat)
              exact q _ _ _ x2 rp2 _ (.r0 r2)
        · exact q.elim
      · exact q.elim
    · exact q.elim
  · exact q.elim
end
end Z
namespace Z
open PySem PySem.Spec L2
/-! ### evaluating mirrors -/
theorem bind_ok {α β : Type} {a : α} {L : LH} {k : α → LH → O β} : (O.ok a L).bind k = k a L := rfl
theorem bind_er {α β : Type} {c : Str} {ns : List Str} {vs : List LV} {L : LH} {k : α → LH → O β} : (O.er c ns vs L : O α).bind k = .er c ns vs L := rfl
theorem lift_ok {α : Type} {a : α} {L : LH} {σ : SL} {k : α → LH → SO} : lift (O.ok a L) σ k = k a L := rfl
theorem lift_er {α : Type} {c : Str} {ns : List Str} {vs : List LV} {L : LH} {σ : SL} {k : α → LH → SO} : lift (O.er c ns vs L : O α) σ k = .er c ns vs σ L := rfl
theorem ixN_of {n : Nat} {i : Int} {j : Nat} (h : i = (j : Int)) (hj : j < n) : ixN n i = some j := by
  subst h
  unfold ixN
  rw [if_pos (Int.natCast_nonneg j), if_pos (by omega)]
  rfl
theorem ixN_0 {n : Nat} : ixN (n + 1) 0 = some 0 := ixN_of (j := 0) rfl (Nat.succ_pos n)
theorem ixN_1 {n : Nat} : ixN (n + 1 + 1) 1 = some 1 := ixN_of (j := 1) rfl (by omega)
theorem ixN_2 {n : Nat} : ixN (n + 1 + 1 + 1) 2 = some 2 := ixN_of (j := 2) rfl (by omega)
theorem ixN_3 {n : Nat} : ixN (n + 1 + 1 + 1 + 1) 3 = some 3 := ixN_of (j := 3) rfl (by omega)
theorem atI_0 {α : Type} {a : α} {r : List α} : L2.atI (a :: r) 0 = some a := by unfold L2.atI; rw [List.length_cons, ixN_0]; rfl
theorem atI_1 {α : Type} {a b : α} {r : List α} : L2.atI (a :: b :: r) 1 = some b := by unfold L2.atI; rw [List.length_cons, List.length_cons, ixN_1]; rfl
theorem atI_2 {α : Type} {a b c : α} {r : List α} : L2.atI (a :: b :: c :: r) 2 = some c := by unfold L2.atI; rw [List.length_cons, List.length_cons, List.length_cons, ixN_2]; rfl
theorem atI_3 {α : Type} {a b c d : α} {r : List α} : L2.atI (a :: b :: c :: d :: r) 3 = some d := by unfold L2.atI; rw [List.length_cons, List.length_cons, List.length_cons, List.length_cons, ixN_3]; rfl
theorem get0 {α : Type} {a : α} {r : List α} : (a :: r)[0]? = some a := rfl
theorem get1 {α : Type} {a b : α} {r : List α} : (a :: b :: r)[1]? = some b := rfl
theorem get2 {α : Type} {a b c : α} {r : List α} : (a :: b :: c :: r)[2]? = some c := rfl
theorem get3 {α : Type} {a b c d : α} {r : List α} : (a :: b :: c :: d :: r)[3]? = some d := rfl
theorem set0 {α : Type} {a x : α} {r : List α} : (a :: r).set 0 x = x :: r := rfl
theorem set1 {α : Type} {a b x : α} {r : List α} : (a :: b :: r).set 1 x = a :: x :: r := rfl
theorem set2 {α : Type} {a b c x : α} {r : List α} : (a :: b :: c :: r).set 2 x = a :: b :: x :: r := rfl
theorem set3 {α : Type} {a b c d x : α} {r : List α} : (a :: b :: c :: d :: r).set 3 x = a :: b :: c :: x :: r := rfl
theorem get4 {α : Type} {a b c d e : α} {r : List α} : (a :: b :: c :: d :: e :: r)[4]? = some e := rfl
theorem set4 {α : Type} {a b c d e x : α} {r : List α} : (a :: b :: c :: d :: e :: r).set 4 x = a :: b :: c :: d :: x :: r := rfl
theorem get5 {α : Type} {a b c d e f : α} {r : List α} : (a :: b :: c :: d :: e :: f :: r)[5]? = some f := rfl
theorem set5 {α : Type} {a b c d e f x : α} {r : List α} : (a :: b :: c :: d :: e :: f :: r).set 5 x = a :: b :: c :: d :: e :: x :: r := rfl
theorem get6 {α : Type} {a b c d e f g : α} {r : List α} : (a :: b :: c :: d :: e :: f :: g :: r)[6]? = some g := rfl
theorem set6 {α : Type} {a b c d e f g x : α} {r : List α} : (a :: b :: c :: d :: e :: f :: g :: r).set 6 x = a :: b :: c :: d :: e :: f :: x :: r := rfl
theorem get7 {α : Type} {a b c d e f g h : α} {r : List α} : (a :: b :: c :: d :: e :: f :: g :: h :: r)[7]? = some h := rfl
theorem set7 {α : Type} {a b c d e f g h x : α} {r : List α} : (a :: b :: c :: d :: e :: f :: g :: h :: r).set 7 x = a :: b :: c :: d :: e :: f :: g :: x :: r := rfl
theorem get8 {α : Type} {a b c d e f g h i : α} {r : List α} : (a :: b :: c :: d :: e :: f :: g :: h :: i :: r)[8]? = some i := rfl
theorem set8 {α : Type} {a b c d e f g h i x : α} {r : List α} : (a :: b :: c :: d :: e :: f :: g :: h :: i :: r).set 8 x = a :: b :: c :: d :: e :: f :: g :: h :: x :: r := rfl
theorem get9 {α : Type} {a b c d e f g h i j : α} {r : List α} : (a :: b :: c :: d :: e :: f :: g :: h :: i :: j :: r)[9]? = some j := rfl
theorem set9 {α : Type} {a b c d e f g h i j x : α} {r : List α} : (a :: b :: c :: d :: e :: f :: g :: h :: i :: j :: r).set 9 x = a :: b :: c :: d :: e :: f :: g :: h :: i :: x :: r := rfl
theorem get10 {α : Type} {a b c d e f g h i j k : α} {r : List α} : (a :: b :: c :: d :: e :: f :: g :: h :: i :: j :: k :: r)[10]? = some k := rfl
theorem set10 {α : Type} {a b c d e f g h i j k x : α} {r : List α} : (a :: b :: c :: d :: e :: f :: g :: h :: i :: j :: k :: r).set 10 x = a :: b :: c :: d :: e :: f :: g :: h :: i :: j :: x :: r := rfl
theorem get11 {α : Type} {a b c d e f g h i j k l : α} {r : List α} : (a :: b :: c :: d :: e :: f :: g :: h :: i :: j :: k :: l :: r)[11]? = some l := rfl
theorem set11 {α : Type} {a b c d e f g h i j k l x : α} {r : List α} : (a :: b :: c :: d :: e :: f :: g :: h :: i :: j :: k :: l :: r).set 11 x = a :: b :: c :: d :: e :: f :: g :: h :: i :: j :: k :: x :: r := rfl
theorem get12 {α : Type} {a b c d e f g h i j k l m : α} {r : List α} : (a :: b :: c :: d :: e :: f :: g :: h :: i :: j :: k :: l :: m :: r)[12]? = some m := rfl
theorem set12 {α : Type} {a b c d e f g h i j k l m x : α} {r : List α} : (a :: b :: c :: d :: e :: f :: g :: h :: i :: j :: k :: l :: m :: r).set 12 x = a :: b :: c :: d :: e :: f :: g :: h :: i :: j :: k :: l :: x :: r := rfl
theorem get13 {α : Type} {a b c d e f g h i j k l m n : α} {r : List α} : (a :: b :: c :: d :: e :: f :: g :: h :: i :: j :: k :: l :: m :: n :: r)[13]? = some n := rfl
theorem set13 {α : Type} {a b c d e f g h i j k l m n x : α} {r : List α} : (a :: b :: c :: d :: e :: f :: g :: h :: i :: j :: k :: l :: m :: n :: r).set 13 x = a :: b :: c :: d :: e :: f :: g :: h :: i :: j :: k :: l :: m :: x :: r := rfl
theorem get14 {α : Type} {a b c d e f g h i j k l m n o : α} {r : List α} : (a :: b :: c :: d :: e :: f :: g :: h :: i :: j :: k :: l :: m :: n :: o :: r)[14]? = some o := rfl
theorem set14 {α : Type} {a b c d e f g h i j k l m n o x : α} {r : List α} : (a :: b :: c :: d :: e :: f :: g :: h :: i :: j :: k :: l :: m :: n :: o :: r).set 14 x = a :: b :: c :: d :: e :: f :: g :: h :: i :: j :: k :: l :: m :: n :: x :: r := rfl
theorem get15 {α : Type} {a b c d e f g h i j k l m n o p : α} {r : List α} : (a :: b :: c :: d :: e :: f :: g :: h :: i :: j :: k :: l :: m :: n :: o :: p :: r)[15]? = some p := rfl
theorem set15 {α : Type} {a b c d e f g h i j k l m n o p x : α} {r : List α} : (a :: b :: c :: d :: e :: f :: g :: h :: i :: j :: k :: l :: m :: n :: o :: p :: r).set 15 x = a :: b :: c :: d :: e :: f :: g :: h :: i :: j :: k :: l :: m :: n :: o :: x :: r := rfl
theorem fEq_int {i j : Int} {neg : Bool} {σ : SL} {L : LH} : fEqN neg (.int i) (.int j) σ L = .ok (.bl (if neg then !decide (i = j) else decide (i = j))) L := rfl
theorem fEq_str {i j : Str} {neg : Bool} {σ : SL} {L : LH} : fEqN neg (.str i) (.str j) σ L = .ok (.bl (if neg then !decide (i = j) else decide (i = j))) L := rfl
theorem fEq_bl {i j : Bool} {neg : Bool} {σ : SL} {L : LH} : fEqN neg (.bl i) (.bl j) σ L = .ok (.bl (if neg then !decide (i = j) else decide (i = j))) L := rfl
theorem set_self {L : LH} {r : Nat} {o p : LO} : (L.set r o).set r p = L.set r p := by rw [List.set_set]
theorem at_self {L : LH} {r : Nat} {o : LO} (h : r < L.length) : (L.set r o)[r]? = some o := List.getElem?_set_self h
theorem bits_of {i : Int} {k : Nat} (hk : 0 < k) (h : i.natAbs < 2 ^ k) : Builtin.Int.intBits i ≤ k := by
  unfold Builtin.Int.intBits
  split
  · omega
  · have := PySem.Flt.log2_lt_of hk h
    omega
theorem cMul_of {i j : Int} (a b : Nat) (ha : 0 < a) (hb : 0 < b) (h1 : i.natAbs < 2 ^ a) (h2 : j.natAbs < 2 ^ b) (h : a + b ≤ 134217728) : cMul i j = true := by
  have x := bits_of ha h1
  have y := bits_of hb h2
  exact Nat.ble_eq_true_of_le (by omega)
theorem cDiv_of {i j : Int} (b : Nat) (h0 : 0 < j) (hb : 0 < b) (h : j.natAbs < 2 ^ b) (h9 : b ≤ 9000) : cDiv i j = true := decide_eq_true ⟨h0, Nat.lt_of_lt_of_le (PySem.Flt.log2_lt_of hb h) h9⟩

/-! ### the script as it is drawn from -/
structure Row where
  ns : List Int
  pos : Nat
  cur : Int
  mix : Int
def Row.o (R : Row) : LO := .lst [.rdl (R.ns.map .int), .int R.pos, .int R.cur, .int R.mix]
structure Row.Ok (R : Row) : Prop where
  p : R.pos ≤ R.ns.length
  m0 : 0 ≤ R.mix
  m1 : R.mix < 2147483647
/-- a number below many, and the row behind it -/
def Row.take (R : Row) (many : Int) : Int × Row :=
  if 0 < R.cur then (R.cur % many, { R with cur := R.cur / many })
  else if h : R.pos < R.ns.length then (R.ns[R.pos] % many, { R with pos := R.pos + 1, cur := if (10 : Int) ^ 18 ≤ R.ns[R.pos] then R.ns[R.pos] / many else R.cur })
  else ((R.mix * 48271 + 12345) % 2147483647 / 1009 % many, { R with mix := (R.mix * 48271 + 12345) % 2147483647 })
theorem Row.take_ok {R : Row} {many : Int} (h : R.Ok) : (R.take many).2.Ok := by
  unfold Row.take
  split
  · exact ⟨h.p, h.m0, h.m1⟩
  · split
    · exact ⟨by show R.pos + 1 ≤ R.ns.length; omega, h.m0, h.m1⟩
    · exact ⟨h.p, by show (0 : Int) ≤ _ % _; omega, by show _ % _ < (2147483647 : Int); omega⟩
theorem Row.take_lt {R : Row} {many : Int} (h : 0 < many) : 0 ≤ (R.take many).1 ∧ (R.take many).1 < many := by
  unfold Row.take
  split
  · exact ⟨Int.emod_nonneg _ (by omega), Int.emod_lt_of_pos _ h⟩
  · split
    · exact ⟨Int.emod_nonneg _ (by omega), Int.emod_lt_of_pos _ h⟩
    · exact ⟨Int.emod_nonneg _ (by omega), Int.emod_lt_of_pos _ h⟩
local macro_rules | `(tactic| walk_at "ev") => `(tactic| simp only [fin_nx, fin_rt, fin_er, startL, List.map_cons, List.map_nil, List.length_cons, List.length_nil, List.cons_append, List.nil_append, List.replicate, sSeq, sSet, sIf, sNil, sRet, sItem, sDrop, lift_ok, lift_er, bind_ok, bind_er, eVar, eC, e2, e1, eA, eAnd, eOr, eNot, eIf, aNil, aCons, tOf, tAnd', tOr', tNot', get0, get1, get2, get3, set0, set1, set2, set3, fIx, seqL, atI_0, atI_1, atI_2, atI_3, ixN_0, ixN_1, ixN_2, ixN_3, fI0, fI, fAdd, fLen, clean, if_true, if_false, List.all_cons, List.all_nil, Bool.and_true, Bool.true_and, decide_true, decide_false, Bool.and_self, eCall, set_self, at_self, List.set_set, Bool.false_eq_true, *])
def w_taken : MS := (sSeq (sIf (tOf (e2 fGt (e2 fIx (eVar 0) (eC (.int 2))) (eC (.int 0)))) (sSeq (sSet 2 (e2 fMod (e2 fIx (eVar 0) (eC (.int 2))) (eVar 1)))
  (sSeq (sItem (eVar 0) (eC (.int 2)) (e2 fDiv (e2 fIx (eVar 0) (eC (.int 2))) (eVar 1)))
  (sRet (eVar 2)))) sNil)
  (sSeq (sIf (tOf (e2 fLt (e2 fIx (eVar 0) (eC (.int 1))) (eA fLen (aCons (e2 fIx (eVar 0) (eC (.int 0))) aNil)))) (sSeq (sSet 3 (e2 fIx (e2 fIx (eVar 0) (eC (.int 0))) (e2 fIx (eVar 0) (eC (.int 1)))))
  (sSeq (sItem (eVar 0) (eC (.int 1)) (e2 fAdd (e2 fIx (eVar 0) (eC (.int 1))) (eC (.int 1))))
  (sSeq (sIf (tOf (e2 fGe (eVar 3) (e2 fPow (eC (.int 10)) (eC (.int 18))))) (sItem (eVar 0) (eC (.int 2)) (e2 fDiv (eVar 3) (eVar 1))) sNil)
  (sRet (e2 fMod (eVar 3) (eVar 1)))))) sNil)
  (sSeq (sItem (eVar 0) (eC (.int 3)) (e2 fMod (e2 fAdd (e2 fMul (e2 fIx (eVar 0) (eC (.int 3))) (eC (.int 48271))) (eC (.int 12345))) (eC (.int 2147483647))))
  (sRet (e2 fMod (e2 fDiv (e2 fIx (eVar 0) (eC (.int 3))) (eC (.int 1009))) (eVar 1))))))
theorem taken_eq {L : LH} {r : Nat} {R : Row} {many : Int} (hr : L[r]? = some R.o) (ok : R.Ok) (h0 : 0 < many) (hd : ∀ i, cDiv i many = true) :
    mDef 4 w_taken [.ref r, .int many] L = .ok (.int (R.take many).1) (L.set r (R.take many).2.o) := by
  have hl : r < L.length := (List.getElem?_eq_some_iff.mp hr).1
  have hd2 : ∀ i, cDiv i 1009 = true := fun i => cDiv_of 10 (by decide) (by decide) (by decide) (by decide)
  have hm : cMul R.mix 48271 = true := cMul_of 31 16 (by decide) (by decide) (by have := ok.m0; have := ok.m1; omega) (by decide) (by decide)
  have hp : cPow 10 18 = true := by decide
  have hq : decide (0 < many) = true := decide_eq_true h0
  have hq2 : decide ((0 : Int) < 2147483647) = true := by decide
  obtain ⟨ns, pos, cur, mix⟩ := R
  replace hr : L[r]? = some (.lst [.rdl (ns.map .int), .int pos, .int cur, .int mix]) := hr
  replace hm : cMul mix 48271 = true := hm
  clear ok
  by_cases c1 : 0 < cur
  · rw [show Row.take ⟨ns, pos, cur, mix⟩ many = (cur % many, ⟨ns, pos, cur / many, mix⟩) from if_pos c1]
    unfold w_taken Row.o
    rw [mDef_run]
    walk_at "ev"
  · by_cases c2 : pos < ns.length
    · have e1 : L2.atI (ns.map LV.int) (pos : Int) = some (.int ns[pos]) := atI_nat (by rw [List.getElem?_map, List.getElem?_eq_getElem c2]; rfl)
      have e2 : (pos : Int) < ((ns.map LV.int).length : Nat) := by rw [List.length_map]; omega
      by_cases c3 : (10 : Int) ^ 18 ≤ ns[pos]
      · rw [show Row.take ⟨ns, pos, cur, mix⟩ many = (ns[pos] % many, ⟨ns, pos + 1, ns[pos] / many, mix⟩) from (if_neg c1).trans ((dif_pos c2).trans (by rw [if_pos c3]))]
        unfold w_taken Row.o
        rw [mDef_run]
        generalize ns[pos] = z at *
        have c4 : (10 : Int) ^ ((18 : Int).toNat) ≤ z := c3
        clear c3
        walk_at "ev"
        rfl
      · rw [show Row.take ⟨ns, pos, cur, mix⟩ many = (ns[pos] % many, ⟨ns, pos + 1, cur, mix⟩) from (if_neg c1).trans ((dif_pos c2).trans (by rw [if_neg c3]))]
        unfold w_taken Row.o
        rw [mDef_run]
        generalize ns[pos] = z at *
        have c4 : ¬ (10 : Int) ^ ((18 : Int).toNat) ≤ z := c3
        clear c3
        walk_at "ev"
        rfl
    · have e2 : ¬ (pos : Int) < ((ns.map LV.int).length : Nat) := by rw [List.length_map]; omega
      rw [show Row.take ⟨ns, pos, cur, mix⟩ many = ((mix * 48271 + 12345) % 2147483647 / 1009 % many, ⟨ns, pos, cur, (mix * 48271 + 12345) % 2147483647⟩) from (if_neg c1).trans (dif_neg c2)]
      unfold w_taken Row.o
      rw [mDef_run]
      walk_at "ev"
end Z
namespace Z
open PySem PySem.Spec L2
local macro_rules | `(tactic| walk_at "ev") => `(tactic| simp only [fin_nx, fin_rt, fin_er, startL, List.map_cons, List.map_nil, List.length_cons, List.length_nil, List.cons_append, List.nil_append, List.replicate, sSeq, sSet, sIf, sNil, sRet, sItem, sDrop, lift_ok, lift_er, bind_ok, bind_er, eVar, eC, e2, e1, eA, eAnd, eOr, eNot, eIf, aNil, aCons, tOf, tAnd', tOr', tNot', get0, get1, get2, get3, set0, set1, set2, set3, fIx, seqL, atI_0, atI_1, atI_2, atI_3, ixN_0, ixN_1, ixN_2, ixN_3, fI0, fI, fAdd, fLen, clean, if_true, if_false, List.all_cons, List.all_nil, Bool.and_true, Bool.true_and, decide_true, decide_false, Bool.and_self, eCall, set_self, at_self, List.set_set, Bool.false_eq_true, sFor, iA, itemsOf, eNew, eFrz, aClean, fIs, tyOf, locOk, truL, tTr, eTup, *])
theorem small {n : Nat} (h : n ≤ 1000000) : n ≤ sizeLine := by rw [sizeLine_eq]; omega
theorem small_lt {n : Nat} (h : n ≤ 1000000) : n < sizeLine := by rw [sizeLine_eq]; omega
/-! ### the row -/
def rowMix (ns : List Int) (m : Int) : Int := ns.foldl (fun m c => (m * 48271 + c + 11) % 2147483647) m
theorem rowMix_lt : ∀ (ns : List Int) (m : Int), 0 ≤ m → m < 2147483647 → 0 ≤ rowMix ns m ∧ rowMix ns m < 2147483647
  | [], m, h1, h2 => ⟨h1, h2⟩
  | n :: ns, m, h1, h2 => rowMix_lt ns _ (Int.emod_nonneg _ (by omega)) (Int.emod_lt_of_pos _ (by omega))
def w_rowB : MS := sSet 1 (e2 fMod (e2 fAdd (e2 fAdd (e2 fMul (eVar 1) (eC (.int 48271))) (eVar 2)) (eC (.int 11))) (eC (.int 2147483647)))
def w_row : MS := (sSeq (sSet 1 (eC (.int 7)))
  (sSeq (sFor (iA (eVar 0)) (gN 2) w_rowB)
  (sRet (eNew (aClean (aCons (eVar 0) (aCons (eC (.int 0)) (aCons (eC (.int 0)) (aCons (eVar 1) aNil)))))))))
theorem row_loop {a : Sl} {L : LH} : ∀ (ns : List Int) (m : Int) (s2 : Sl), 0 ≤ m → m < 2147483647 → ∃ s2', loop (gN 2) w_rowB (ns.map .int) [a, .val (.int m), s2] L = .nx [a, .val (.int (rowMix ns m)), s2'] L
  | [], m, s2, _, _ => ⟨s2, rfl⟩
  | n :: ns, m, s2, h1, h2 => by
    have hm : cMul m 48271 = true := cMul_of 31 16 (by decide) (by decide) (by omega) (by decide) (by decide)
    have hq2 : decide ((0 : Int) < 2147483647) = true := by decide
    obtain ⟨s2', e⟩ := row_loop (a := a) (L := L) ns ((m * 48271 + n + 11) % 2147483647) (.val (.int n)) (Int.emod_nonneg _ (by omega)) (Int.emod_lt_of_pos _ (by omega))
    refine ⟨s2', ?_⟩
    rw [List.map_cons]
    unfold loop
    unfold w_rowB at e ⊢
    simp only [gN]
    walk_at "ev"
    rfl
theorem row_eq {L : LH} {ns : List Int} : mDef 3 w_row [.rdl (ns.map .int)] L = .ok (.ref L.length) (L ++ [Row.o ⟨ns, 0, 0, rowMix ns 7⟩]) := by
  obtain ⟨s2', e⟩ := row_loop (a := .val (.rdl (ns.map .int))) (L := L) ns 7 .no (by decide) (by decide)
  have hz : decide (4 ≤ sizeLine) = true := decide_eq_true (small (by decide))
  unfold w_row
  rw [mDef_run]
  walk_at "ev"
  rfl
theorem row_ok (ns : List Int) : Row.Ok ⟨ns, 0, 0, rowMix ns 7⟩ := ⟨Nat.zero_le _, (rowMix_lt ns 7 (by decide) (by decide)).1, (rowMix_lt ns 7 (by decide) (by decide)).2⟩
theorem taken0 {R : Row} {many : Int} {rest : LH} (ok : R.Ok) (h0 : 0 < many) (hd : ∀ i, cDiv i many = true) : mDef 4 w_taken [.ref 0, .int many] (R.o :: rest) = .ok (.int (R.take many).1) ((R.take many).2.o :: rest) := taken_eq rfl ok h0 hd
theorem cDiv_small {m : Int} (h0 : 0 < m) (h : m < 4294967296) (i : Int) : cDiv i m = true := cDiv_of 32 h0 (by decide) (by omega) (by decide)

/-! ### comprehensions -/
/-- a step that turns a state, along a list -/
def mapAcc {A B C : Type} (f : A → B → C × A) : A → List B → List C × A
  | s, [] => ([], s)
  | s, x :: xs => ((f s x).1 :: (mapAcc f (f s x).2 xs).1, (mapAcc f (f s x).2 xs).2)
theorem mapAcc_len {A B C : Type} {f : A → B → C × A} : ∀ (xs : List B) (s : A), (mapAcc f s xs).1.length = xs.length
  | [], _ => rfl
  | x :: xs, s => congrArg (· + 1) (mapAcc_len xs _)
theorem compL_acc {A B C : Type} {n : LV → SL → Option SL} {t : MT} {m : ME} {σ0 : SL} (rep : A → LH) (ti : B → LV) (to : C → LV) (f : A → B → C × A) (P : A → Prop) (hc : ∀ c, clean (to c) = true) :
    ∀ (xs : List B) (s : A) (acc : List LV), P s → acc.length + xs.length ≤ 1000000 →
      (∀ s x, x ∈ xs → P s → P (f s x).2 ∧ ∃ σ1, n (ti x) σ0 = some σ1 ∧ t σ1 (rep s) = .ok true (rep s) ∧ m σ1 (rep s) = .ok (to (f s x).1) (rep (f s x).2)) →
      compL n t m σ0 (xs.map ti) acc (rep s) = .ok (acc ++ (mapAcc f s xs).1.map to) (rep (mapAcc f s xs).2) ∧ P (mapAcc f s xs).2
  | [], s, acc, p, _, _ => ⟨by simp [compL, mapAcc], p⟩
  | x :: xs, s, acc, p, hl, h => by
    obtain ⟨p1, σ1, e1, e2, e3⟩ := h s x List.mem_cons_self p
    rw [List.length_cons] at hl
    obtain ⟨ih, ip⟩ := compL_acc rep ti to f P hc xs (f s x).2 (acc ++ [to (f s x).1]) p1 (by rw [List.length_append, List.length_singleton]; omega) fun s y hy => h s y (List.mem_cons_of_mem _ hy)
    refine ⟨?_, ip⟩
    rw [List.map_cons]
    unfold compL
    simp only [e1, e2, e3, if_true, hc, Bool.true_and]
    rw [if_pos (decide_eq_true (small_lt (by omega))), ih]
    simp [mapAcc, List.append_assoc]
/-- .. each item by itself -/
theorem compL_map {B C : Type} {n : LV → SL → Option SL} {t : MT} {m : ME} {σ0 : SL} {L : LH} (ti : B → LV) (to : C → LV) (f : B → C) (hc : ∀ c, clean (to c) = true) (xs : List B) (hl : xs.length ≤ 1000000)
    (h : ∀ x, x ∈ xs → ∃ σ1, n (ti x) σ0 = some σ1 ∧ t σ1 L = .ok true L ∧ m σ1 L = .ok (to (f x)) L) : compL n t m σ0 (xs.map ti) [] L = .ok ((xs.map f).map to) L := by
  have z := compL_acc (A := Unit) (n := n) (t := t) (m := m) (σ0 := σ0) (fun _ => L) ti to (fun _ x => (f x, ())) (fun _ => True) hc xs () [] trivial (by simpa using hl) fun s x hx _ => ⟨trivial, h x hx⟩
  have e : ∀ ys : List B, (mapAcc (fun (_ : Unit) x => (f x, ())) () ys).1 = ys.map f := fun ys => by
    induction ys with
    | nil => rfl
    | cons y ys ih => show f y :: _ = _; rw [ih]; rfl
  rw [e] at z
  exact z.1
theorem rng_map (lo : Int) (n : Nat) : rng lo n = (List.range n).map fun (i : Nat) => LV.int (lo + (i : Int)) := rfl
/-- [taken(row, many) for .. in range(n)] -/
def Row.takes (R : Row) (many : Int) (n : Nat) : List Int × Row := mapAcc (fun (R : Row) (_ : Nat) => R.take many) R (List.range n)
theorem takes_len {R : Row} {many : Int} {n : Nat} : (R.takes many n).1.length = n := by unfold Row.takes; rw [mapAcc_len, List.length_range]
theorem mapAcc_all {A B C : Type} {f : A → B → C × A} {Q : C → Prop} (h : ∀ s x, Q (f s x).1) : ∀ (xs : List B) (s : A), ∀ c ∈ (mapAcc f s xs).1, Q c
  | x :: xs, s, c, hc => by
    rcases List.mem_cons.mp hc with e | e
    · rw [e]; exact h s x
    · exact mapAcc_all h xs _ c e
theorem takes_lt {R : Row} {many : Int} {n : Nat} (h : 0 < many) : ∀ z ∈ (R.takes many n).1, 0 ≤ z ∧ z < many := mapAcc_all (Q := fun z => 0 ≤ z ∧ z < many) (fun _ _ => Row.take_lt h) _ _
theorem takes_eq {R : Row} {many : Int} {n : Nat} {rest : LH} {σ0 : SL} {j : Nat} {e : ME} (ok : R.Ok) (hn : n ≤ 1000000) (he : ∀ (R : Row) (i : Int), R.Ok → e (σ0.set j (.val (.int i))) (R.o :: rest) = .ok (.int (R.take many).1) ((R.take many).2.o :: rest)) :
    compL (gN j) tYes' e σ0 (rng 0 n) [] (R.o :: rest) = .ok ((R.takes many n).1.map .int) ((R.takes many n).2.o :: rest) ∧ (R.takes many n).2.Ok := by
  rw [rng_map]
  exact compL_acc (fun R : Row => R.o :: rest) (fun (i : Nat) => LV.int (0 + (i : Int))) LV.int (fun (R : Row) (_ : Nat) => R.take many) Row.Ok (fun _ => rfl) (List.range n) R [] ok (by simpa using hn) fun s x _ p => ⟨Row.take_ok p, _, rfl, rfl, he s _ p⟩

/-! ### lists of ints looked at -/
theorem toDs_ints {σ : SL} {L : LH} : ∀ ns : List Int, toDs σ L (ns.map .int) = some (ns.map .int)
  | [] => rfl
  | n :: ns => by rw [List.map_cons, toDs, toD, toDs_ints ns]; rfl
theorem depthAll_ints : ∀ ns : List Int, True := fun _ => trivial
def w_whole : MS := (sRet (eAnd (e1 (fIs (isB "int")) (eVar 0)) (eNot (e1 (fIs (isB "bool")) (eVar 0)))))
theorem whole_eq {i : Int} {L : LH} : mDef 1 w_whole [.int i] L = .ok (.bl true) L := by
  have k1 : isB "int" (.b "int") = some true := by decide +kernel
  have k2 : isB "bool" (.b "int") = some false := by decide +kernel
  unfold w_whole
  rw [mDef_run]
  walk_at "ev"
  rfl
end Z
namespace Z
open PySem PySem.Spec L2
local macro_rules | `(tactic| walk_at "ev") => `(tactic| simp only [fin_nx, fin_rt, fin_er, startL, List.map_cons, List.map_nil, List.length_cons, List.length_nil, List.cons_append, List.nil_append, List.replicate, sSeq, sSet, sIf, sNil, sRet, sItem, sDrop, sRaise, lift_ok, lift_er, bind_ok, bind_er, eVar, eC, e2, e1, eA, eAnd, eOr, eNot, eIf, eChain, aNil, aCons, tOf, tAnd', tOr', tNot', get0, get1, get2, get3, get4, get5, get6, get7, get8, get9, get10, get11, get12, get13, set0, set1, set2, set3, set4, set5, set6, set7, set8, set9, set10, set11, set12, set13, fIx, seqL, seqM, atI_0, atI_1, atI_2, atI_3, ixN_0, ixN_1, ixN_2, ixN_3, fI0, fI, fAdd, fLen, fEq_int, fEq_str, fEq_bl, clean, if_true, if_false, List.all_cons, List.all_nil, Bool.and_true, Bool.true_and, Bool.false_and, Bool.not_true, Bool.not_false, decide_true, decide_false, Bool.and_self, eCall, set_self, at_self, List.set_set, Bool.false_eq_true, sFor, iA, iR1, itemsOf, eNew, eFrz, aClean, aComp, wipeL, aSl, oSome, oNone, eMt, fIs, tyOf, locOk, truL, tTr, eTup, gN, fInt, *])
/-! ### == of data -/
theorem canLay_ints : ∀ ns : List Int, PyData.canLayAll0 (ns.map .int) = true
  | [] => rfl
  | n :: ns => by rw [List.map_cons, PyData.canLayAll0, canLay_ints ns]; rfl
theorem depth_ints : ∀ ns : List Int, PyData.depthAll (ns.map .int) = 0
  | [] => rfl
  | n :: ns => by rw [List.map_cons, PyData.depthAll, depth_ints ns]; rfl
theorem shaped_ints (ns : List Int) : SeqAt.shaped (.list (ns.map .int)) = true := by
  unfold SeqAt.shaped
  rw [PyData.canLay0, canLay_ints, PyData.depth, depth_ints]
  rfl
theorem eqv_self {d : PyData} (h : SeqAt.shaped d = true) : PyData.eqv d d = true := SeqAt.eqv_refl d (SeqAt.canLay_of_shaped h)
/-- the same data twice -/
theorem eq_same {v : LV} {d : PyData} {σ : SL} {L : LH} (hs : eqS v v = none) (h : toDV σ L v = some d) (hd : SeqAt.shaped d = true) : fEq v v σ L = .ok (.bl true) L := by
  unfold fEq fEqN
  simp only [hs, h, hd, eqv_self hd, Bool.and_self, if_true, Bool.false_eq_true, if_false]
theorem eq_ints {ns : List Int} {σ : SL} {L : LH} : fEq (.lst (ns.map .int)) (.lst (ns.map .int)) σ L = .ok (.bl true) L :=
  eq_same (d := .list (ns.map .int)) rfl (by simp only [toDV, toD, toDs_ints]; rfl) (shaped_ints ns)
def w_listB : MS := (sIf (tNot' (tTr (eCall 1 (mDef 1 w_whole) (aCons (eVar 2) aNil)))) (sRet (eC (.bl false))) sNil)
def w_list : MS := (sSeq (sIf (tOr' (tNot' (tTr (e1 (fIs (isB "list")) (eVar 0)))) (tOf (e2 fNe (eA fLen (aCons (eVar 0) aNil)) (eA fLen (aCons (eVar 1) aNil))))) (sRet (eC (.bl false))) sNil)
  (sSeq (sFor (iA (eVar 0)) (gN 2) w_listB)
  (sRet (e2 fEq (eVar 0) (eVar 1)))))
theorem list_loop {a b : Sl} {L : LH} : ∀ (ns : List Int) (s : Sl), ∃ s', loop (gN 2) w_listB (ns.map .int) [a, b, s] L = .nx [a, b, s'] L
  | [], s => ⟨s, rfl⟩
  | n :: ns, s => by
    obtain ⟨s', e⟩ := list_loop (a := a) (b := b) (L := L) ns (.val (.int n))
    refine ⟨s', ?_⟩
    have w := @whole_eq n L
    rw [List.map_cons]
    unfold loop
    unfold w_listB at e ⊢
    simp only [gN, set2, sIf, tNot', tTr, eCall, aCons, aNil, eVar, get2, bind_ok, List.all_cons, List.all_nil, clean, Bool.and_true, List.length_cons, List.length_nil, decide_true, if_true, w, truL, lift_ok, Bool.not_true, Bool.false_eq_true, if_false, sNil, e]
theorem list_eq {ns : List Int} {L : LH} : mDef 3 w_list [.lst (ns.map .int), .lst (ns.map .int)] L = .ok (.bl true) L := by
  obtain ⟨s', e⟩ := list_loop (a := .val (.lst (ns.map .int))) (b := .val (.lst (ns.map .int))) (L := L) ns .no
  have k1 : isB "list" (.b "list") = some true := by decide +kernel
  have q : ∀ σ : SL, fEq (.lst (ns.map .int)) (.lst (ns.map .int)) σ L = .ok (.bl true) L := fun σ => eq_ints
  unfold w_list
  rw [mDef_run]
  walk_at "ev"
/-! ### the signs -/
def SG : Str := " !\"#$&'()*+,-./0123456789:;<=>?@ABCDEFGHIJKLMNOPQRSTUVWXYZ[\\]^_`abcdefghijklmnopqrstuvwxyz{|}~"
def SGL : List Nat := SG.cps.toList
theorem sg_len : SGL.length = 94 := by decide +kernel
theorem sg_occ : ∀ k : _root_.Fin 94, Builtin.Str.occurrences SG ⟨#[SGL.getD k.val 0]⟩ 0 SG.length 1 = [k.val] := by decide +kernel
theorem sg_cat : (" !\"#$&'()*+,-./0123456789:;<=>?@ABCDEFGHIJKLMNOPQRSTUVWXYZ[\\]^_`" : Str) ++ ("abcdefghijklmnopqrstuvwxyz{|}~" : Str) = SG := by decide +kernel
end Z
namespace Z
open PySem PySem.Spec L2 TL
local macro_rules | `(tactic| walk_at "ev") => `(tactic| simp only [fin_nx, fin_rt, fin_er, startL, List.map_cons, List.map_nil, List.length_cons, List.length_nil, List.cons_append, List.nil_append, List.replicate, sSeq, sSet, sIf, sNil, sRet, sItem, sDrop, sRaise, lift_ok, lift_er, bind_ok, bind_er, eVar, eC, e2, e1, eA, eAnd, eOr, eNot, eIf, eChain, aNil, aCons, tOf, tAnd', tOr', tNot', get0, get1, get2, get3, get4, get5, get6, get7, get8, get9, get10, get11, get12, get13, set0, set1, set2, set3, set4, set5, set6, set7, set8, set9, set10, set11, set12, set13, fIx, seqL, seqM, atI_0, atI_1, atI_2, atI_3, ixN_0, ixN_1, ixN_2, ixN_3, fI0, fI, fAdd, fLen, fEq_int, fEq_str, fEq_bl, clean, if_true, if_false, List.all_cons, List.all_nil, Bool.and_true, Bool.true_and, Bool.false_and, Bool.not_true, Bool.not_false, decide_true, decide_false, Bool.and_self, eCall, set_self, at_self, List.set_set, Bool.false_eq_true, sFor, iA, iR1, itemsOf, eNew, eFrz, aClean, aComp, wipeL, aSl, oSome, oNone, eMt, fIs, tyOf, locOk, truL, tTr, eTup, gN, fInt, *])
/-! ### texts of the signs -/
def sg1 (k : Nat) : Str := ⟨#[SGL.getD k 0]⟩
def txt (ks : List Nat) : Str := ⟨(ks.map fun k => SGL.getD k 0).toArray⟩
theorem txt_len (ks : List Nat) : (txt ks).length = ks.length := by rw [len_tl]; unfold txt tl; simp
theorem sgl_ok : ∀ k : _root_.Fin 94, decide (SGL.getD k.val 0 < 0x110000) = true := by decide +kernel
theorem txt_ok {ks : List Nat} (hk : ∀ k ∈ ks, k < 94) : PyData.strOk (txt ks) = true := by
  unfold PyData.strOk txt
  rw [← Array.all_toList, List.all_eq_true]
  intro c hc
  obtain ⟨k, h1, rfl⟩ := List.mem_map.mp (by simpa using hc)
  exact sgl_ok ⟨k, hk k h1⟩
theorem shaped_txt {ks : List Nat} {n : Int} (hk : ∀ k ∈ ks, k < 94) : SeqAt.shaped (.tuple [.str (txt ks), .int n]) = true := by
  unfold SeqAt.shaped
  simp only [PyData.canLay0, PyData.canLayAll0, txt_ok hk, PyData.depth, PyData.depthAll]
  rfl
theorem txt_snoc (ks : List Nat) (k : Nat) : txt ks ++ sg1 k = txt (ks ++ [k]) := by
  refine ext_tl ?_
  rw [tl_append]
  unfold txt sg1 tl
  simp
theorem txt_signs (ks : List Nat) : signs (txt ks) = ks.map fun k => LV.str (sg1 k) := by
  unfold signs txt sg1
  simp [Function.comp_def]
theorem strs_map (ks : List Nat) : strs? (ks.map fun k => LV.str (sg1 k)) = some (ks.map sg1) := by
  induction ks with
  | nil => rfl
  | cons k ks ih => rw [List.map_cons, strs?, ih]; rfl
theorem join_signs (ks : List Nat) : Txt.join "" (ks.map sg1) = txt ks := by
  rw [join_eq]
  refine ext_tl ?_
  rw [tl_join]
  have e0 : tl ("" : Str) = [] := rfl
  rw [e0]
  induction ks with
  | nil => rfl
  | cons k ks ih =>
    cases ks with
    | nil => rfl
    | cons k2 ks =>
      rw [List.map_cons, List.map_cons, List.map_cons, List.map_cons, joinL, List.nil_append]
      rw [List.map_cons, List.map_cons] at ih
      rw [ih]
      unfold txt sg1 tl
      simp
theorem sum_ones (ks : List Nat) : ((ks.map sg1).map (·.length)).sum = ks.length := by
  induction ks with
  | nil => rfl
  | cons k ks ih => rw [List.map_cons, List.map_cons, List.sum_cons, ih]; show 1 + ks.length = ks.length + 1; omega
theorem idx_eq {k : Nat} {σ : SL} {L : LH} (h : k < 94) : fSIdx (.str SG) [.str (sg1 k)] σ L = .ok (.int (k : Nat)) L := by
  have e : Builtin.Str.occurrences SG (sg1 k) 0 SG.length 1 = [k] := sg_occ ⟨k, h⟩
  unfold fSIdx
  simp only [e]
def w_signs : MS := (sSeq (sSet 0 (eC (.str " !\"#$&'()*+,-./0123456789:;<=>?@ABCDEFGHIJKLMNOPQRSTUVWXYZ[\\]^_`")))
  (sRet (e2 fAdd (eVar 0) (eC (.str "abcdefghijklmnopqrstuvwxyz{|}~")))))
theorem signs_eq {L : LH} : mDef 1 w_signs [] L = .ok (.str SG) L := by
  have hz : (" !\"#$&'()*+,-./0123456789:;<=>?@ABCDEFGHIJKLMNOPQRSTUVWXYZ[\\]^_`" : Str).length + ("abcdefghijklmnopqrstuvwxyz{|}~" : Str).length ≤ sizeLine := small (by decide +kernel)
  unfold w_signs
  rw [mDef_run]
  walk_at "ev"
  rw [sg_cat]
/-- the numbers that tell a text -/
def due (ks : List Nat) : List Int := (ks.length : Int) :: ks.map fun (k : Nat) => (k : Int)
def w_told : MS := (sRet (e2 fAdd (eFrz (aClean (aCons (eA fLen (aCons (eVar 0) aNil)) aNil))) (eFrz (aComp (iA (eVar 0)) (gN 1) tYes' (eMt fSIdx (eCall 0 (mDef 1 w_signs) aNil) (aCons (eVar 1) aNil)) [1]))))
theorem told_comp {ks : List Nat} {L : LH} {σ0 : SL} {mo : ME} (hk : ∀ k ∈ ks, k < 94) (hl : ks.length ≤ 1000) (h0 : σ0.length = 2) (hm : ∀ σ, mo σ L = .ok (.str SG) L) :
    compL (gN 1) tYes' (eMt fSIdx mo (aCons (eVar 1) aNil)) σ0 (signs (txt ks)) [] L = .ok ((ks.map fun (k : Nat) => (k : Int)).map .int) L := by
  rw [txt_signs]
  refine compL_map (fun k => LV.str (sg1 k)) LV.int (fun (k : Nat) => (k : Int)) (fun _ => rfl) ks (by omega) fun k hx => ⟨_, rfl, rfl, ?_⟩
  have q : ∀ σ, fSIdx (.str SG) [.str (sg1 k)] σ L = .ok (.int (k : Nat)) L := fun σ => idx_eq (hk k hx)
  match σ0, h0 with
  | [a, b], _ =>
    walk_at "ev"
theorem lens_ints (ns : List Int) : (ns.map LV.int).length = ns.length := List.length_map ..
theorem told_eq {ks : List Nat} {L : LH} (hk : ∀ k ∈ ks, k < 94) (hl : ks.length ≤ 1000) : mDef 2 w_told [.str (txt ks)] L = .ok (.lst ((due ks).map .int)) L := by
  have c := told_comp (σ0 := [.val (.str (txt ks)), .no]) (mo := eCall 0 (mDef 1 w_signs) aNil) (L := L) hk hl rfl fun σ => by
    simp only [eCall, aNil, bind_ok, List.all_nil, List.length_nil, decide_true, Bool.and_self, if_true, signs_eq]
  have z1 : (txt ks).length ≤ sizeLine := by rw [txt_len]; exact small (by omega)
  have z2 : decide (1 ≤ sizeLine) = true := decide_eq_true (small (by decide))
  have z3 : 1 + ((ks.map fun (k : Nat) => (k : Int)).map LV.int).length ≤ sizeLine := small (by rw [List.length_map, List.length_map]; omega)
  have z4 : ((txt ks).length : Int) = ks.length := by rw [txt_len]
  unfold w_told due
  rw [mDef_run]
  walk_at "ev"
end Z
namespace Z
open PySem PySem.Spec L2 TL
local macro_rules | `(tactic| walk_at "ev") => `(tactic| simp only [fin_nx, fin_rt, fin_er, startL, List.map_cons, List.map_nil, List.length_cons, List.length_nil, List.cons_append, List.nil_append, List.replicate, sSeq, sSet, sIf, sNil, sRet, sItem, sDrop, sRaise, lift_ok, lift_er, bind_ok, bind_er, eVar, eC, e2, e1, eA, eAnd, eOr, eNot, eIf, eChain, aNil, aCons, tOf, tAnd', tOr', tNot', get0, get1, get2, get3, get4, get5, get6, get7, get8, get9, get10, get11, get12, get13, set0, set1, set2, set3, set4, set5, set6, set7, set8, set9, set10, set11, set12, set13, fIx, seqL, seqM, atI_0, atI_1, atI_2, atI_3, ixN_0, ixN_1, ixN_2, ixN_3, fI0, fI, fAdd, fLen, fEq_int, fEq_str, fEq_bl, clean, if_true, if_false, List.all_cons, List.all_nil, Bool.and_true, Bool.true_and, Bool.false_and, Bool.not_true, Bool.not_false, decide_true, decide_false, Bool.and_self, eCall, set_self, at_self, List.set_set, Bool.false_eq_true, sFor, iA, iR1, itemsOf, eNew, eFrz, aClean, aComp, wipeL, aSl, oSome, oNone, eMt, fIs, tyOf, locOk, truL, tTr, eTup, gN, fInt, *])
theorem sg_at {k : Nat} (h : k < 94) : SGL[k]? = some (SGL.getD k 0) := by
  have hl : k < SGL.length := by rw [sg_len]; exact h
  rw [List.getElem?_eq_getElem hl, List.getD_eq_getElem?_getD, List.getElem?_eq_getElem hl]
  rfl
theorem sg_atI {i : Int} (h0 : 0 ≤ i) (h : i < 94) : L2.atI SG.cps.toList i = some (SGL.getD i.toNat 0) := by
  have e : i = (i.toNat : Int) := by omega
  rw [e]
  exact atI_nat (sg_at (by omega))
theorem sgz : SG.length ≤ sizeLine := small (by decide +kernel)
/-! ### a drawn text -/
def w_textB : MS := (sSeq (sSet 4 (e2 fAdd (eVar 4) (e2 fIx (eVar 2) (e2 fMod (e2 fAdd (eVar 0) (e2 fMul (eVar 3) (eVar 5))) (eC (.int 94))))))
  (sSet 0 (e2 fDiv (eVar 0) (eC (.int 94)))))
theorem text_loop {sz : Sl} {L : LH} {step : Int} (h1 : 0 ≤ step) (h2 : step < 8) : ∀ (xs : List Nat) (cell : Int) (ks : List Nat) (s : Sl), (∀ x ∈ xs, x < 1000) → (∀ k ∈ ks, k < 94) → ks.length + xs.length ≤ 1000 →
    ∃ cell' ks' s', loop (gN 5) w_textB (xs.map fun (i : Nat) => LV.int (0 + (i : Int))) [.val (.int cell), sz, .val (.str SG), .val (.int step), .val (.str (txt ks)), s] L = .nx [.val (.int cell'), sz, .val (.str SG), .val (.int step), .val (.str (txt ks')), s'] L ∧ ks'.length = ks.length + xs.length ∧ ∀ k ∈ ks', k < 94
  | [], cell, ks, s, _, hk, _ => ⟨cell, ks, s, rfl, rfl, hk⟩
  | x :: xs, cell, ks, s, hx, hk, hl => by
    rw [List.length_cons] at hl
    have hx0 := hx x List.mem_cons_self
    have hm : cMul step (0 + (x : Int)) = true := cMul_of 3 10 (by decide) (by decide) (by omega) (by omega) (by decide)
    have hq : decide ((0 : Int) < 94) = true := by decide
    have hd : ∀ i, cDiv i 94 = true := cDiv_small (by decide) (by decide)
    generalize ei : (cell + step * (0 + (x : Int))) % 94 = i
    have i0 : 0 ≤ i := by rw [← ei]; exact Int.emod_nonneg _ (by decide)
    have i1 : i < 94 := by rw [← ei]; exact Int.emod_lt_of_pos _ (by decide)
    have ea := sg_atI i0 i1
    have hz := sgz
    have hz2 : (txt ks).length + (sg1 i.toNat).length ≤ sizeLine := small (by rw [txt_len]; show ks.length + 1 ≤ _; omega)
    have es : txt ks ++ (⟨#[SGL.getD i.toNat 0]⟩ : Str) = txt (ks ++ [i.toNat]) := txt_snoc ks i.toNat
    have hz3 : (txt ks).length + Str.length ⟨#[SGL.getD i.toNat 0]⟩ ≤ sizeLine := hz2
    obtain ⟨cell', ks', s', e, e1, e2⟩ := text_loop (sz := sz) (L := L) h1 h2 xs (cell / 94) (ks ++ [i.toNat]) (.val (.int (0 + (x : Int)))) (fun y hy => hx y (List.mem_cons_of_mem _ hy)) (fun k h => by
      rcases List.mem_append.mp h with h | h
      · exact hk k h
      · have : k = i.toNat := by simpa using h
        omega) (by rw [List.length_append, List.length_singleton]; omega)
    refine ⟨cell', ks', s', ?_, by rw [e1, List.length_append, List.length_singleton, List.length_cons]; omega, e2⟩
    rw [List.map_cons]
    unfold loop
    unfold w_textB at e ⊢
    walk_at "ev"
def w_text : MS := (sSeq (sSet 2 (eCall 0 (mDef 1 w_signs) aNil))
  (sSeq (sSet 3 (e2 fAdd (eC (.int 1)) (e2 fMod (eVar 0) (eC (.int 7)))))
  (sSeq (sSet 4 (eC (.str "")))
  (sSeq (sFor (iR1 (aCons (eVar 1) aNil)) (gN 5) w_textB)
  (sRet (eVar 4))))))
theorem text_eq {cell size : Int} {L : LH} (h0 : 0 ≤ size) (h1 : size ≤ 900) : ∃ ks : List Nat, (ks.length : Int) = size ∧ (∀ k ∈ ks, k < 94) ∧ mDef 6 w_text [.int cell, .int size] L = .ok (.str (txt ks)) L := by
  have s0 := Int.emod_nonneg cell (show (7 : Int) ≠ 0 by decide)
  have s1 := Int.emod_lt_of_pos cell (show (0 : Int) < 7 by decide)
  obtain ⟨cell', ks', s', e, e1, e2⟩ := text_loop (sz := .val (.int size)) (L := L) (step := 1 + cell % 7) (by omega) (by omega) (List.range size.toNat) cell [] .no (fun x hx => by have := List.mem_range.mp hx; omega) (fun k h => by simp at h) (by simp; omega)
  refine ⟨ks', by rw [e1]; simp; omega, e2, ?_⟩
  have hq : decide ((0 : Int) < 7) = true := by decide
  have sg := @signs_eq L
  have hr : (-(2 ^ 62) ≤ size ∧ size < 2 ^ 62) = True := by simp; omega
  have ht : (Str.ofString "") = txt [] := rfl
  have er : loop (gN 5) w_textB (rng 0 size.toNat) [.val (.int cell), .val (.int size), .val (.str SG), .val (.int (1 + cell % 7)), .val (.str (txt [])), .no] L = .nx [.val (.int cell'), .val (.int size), .val (.str SG), .val (.int (1 + cell % 7)), .val (.str (txt ks')), s'] L := e
  unfold w_text
  rw [ht, mDef_run]
  clear e
  generalize txt [] = t0 at *
  walk_at "ev"
end Z
namespace Z
open PySem PySem.Spec L2 TL
local macro_rules | `(tactic| walk_at "ev") => `(tactic| simp only [fin_nx, fin_rt, fin_er, startL, List.map_cons, List.map_nil, List.length_cons, List.length_nil, List.cons_append, List.nil_append, List.replicate, sSeq, sSet, sIf, sNil, sRet, sItem, sDrop, sRaise, lift_ok, lift_er, bind_ok, bind_er, eVar, eC, e2, e1, eA, eAnd, eOr, eNot, eIf, eChain, aNil, aCons, tOf, tAnd', tOr', tNot', get0, get1, get2, get3, get4, get5, get6, get7, get8, get9, get10, get11, get12, get13, set0, set1, set2, set3, set4, set5, set6, set7, set8, set9, set10, set11, set12, set13, fIx, seqL, seqM, atI_0, atI_1, atI_2, atI_3, ixN_0, ixN_1, ixN_2, ixN_3, fI0, fI, fAdd, fLen, fEq_int, fEq_str, fEq_bl, clean, if_true, if_false, List.all_cons, List.all_nil, Bool.and_true, Bool.true_and, Bool.false_and, Bool.not_true, Bool.not_false, decide_true, decide_false, Bool.and_self, eCall, set_self, at_self, List.set_set, Bool.false_eq_true, sFor, iA, iR1, itemsOf, eNew, eFrz, aClean, aComp, wipeL, aSl, oSome, oNone, eMt, fIs, tyOf, locOk, truL, tTr, eTup, gN, fInt, fJoin, *])
/-! ### the program's texts -/
def w_text_numbers : MS := (sRet (e2 fAdd (eFrz (aClean (aCons (eA fLen (aCons (eVar 0) aNil)) aNil))) (eFrz (aComp (iA (eVar 0)) (gN 1) tYes' (eMt fSIdx (eC (.str SG)) (aCons (eVar 1) aNil)) [1]))))
theorem text_numbers_eq {ks : List Nat} {L : LH} (hk : ∀ k ∈ ks, k < 94) (hl : ks.length ≤ 1000) : mDef 2 w_text_numbers [.str (txt ks)] L = .ok (.lst ((due ks).map .int)) L := by
  have c := told_comp (σ0 := [.val (.str (txt ks)), .no]) (mo := eC (.str SG)) (L := L) hk hl rfl fun σ => rfl
  have z1 : (txt ks).length ≤ sizeLine := by rw [txt_len]; exact small (by omega)
  have z2 : decide (1 ≤ sizeLine) = true := decide_eq_true (small (by decide))
  have z3 : 1 + ((ks.map fun (k : Nat) => (k : Int)).map LV.int).length ≤ sizeLine := small (by rw [List.length_map, List.length_map]; omega)
  have z4 : ((txt ks).length : Int) = ks.length := by rw [txt_len]
  unfold w_text_numbers due
  rw [mDef_run]
  walk_at "ev"
def w_sign_of : MS := (sSeq (sIf (tNot' (tOf (eChain fLe fLt (eC (.int 0)) (eVar 0) (eA fLen (aCons (eC (.str SG)) aNil))))) (sRaise "BadHead") sNil)
  (sRet (e2 fIx (eC (.str SG)) (eVar 0))))
theorem sign_of_eq {k : Nat} {L : LH} (h : k < 94) : mDef 1 w_sign_of [.int (k : Nat)] L = .ok (.str (sg1 k)) L := by
  have z := sgz
  have e1 : SG.length = 94 := by decide +kernel
  have e2 : (0 : Int) ≤ (k : Nat) := by omega
  have e3 : ((k : Nat) : Int) < ((94 : Nat) : Int) := by omega
  have e4 := sg_atI e2 (by omega)
  rw [e1] at z
  unfold w_sign_of
  rw [mDef_run]
  walk_at "ev"
  rfl
def w_text_size : MS := (sSeq (sIf (tNot' (tOf (eChain fLe fLt (eC (.int 0)) (eVar 1) (eA fLen (aCons (eVar 0) aNil))))) (sRaise "BadHead") sNil)
  (sSeq (sIf (tNot' (tOf (eChain fLe fLe (eC (.int 0)) (e2 fIx (eVar 0) (eVar 1)) (eC (.int 20))))) (sRaise "BadHead") sNil)
  (sRet (e2 fIx (eVar 0) (eVar 1)))))
theorem text_size_eq {ns : List Int} {a : Nat} {n : Int} {L : LH} (h : ns[a]? = some n) (h0 : 0 ≤ n) (h1 : n ≤ 20) : mDef 2 w_text_size [.lst (ns.map .int), .int a] L = .ok (.int n) L := by
  have e1 : L2.atI (ns.map LV.int) (a : Int) = some (.int n) := atI_nat (by rw [List.getElem?_map, h]; rfl)
  have ha : a < ns.length := (List.getElem?_eq_some_iff.mp h).1
  have e2 : (0 : Int) ≤ (a : Int) := by omega
  have e3 : (a : Int) < (ns.map LV.int).length := by rw [List.length_map]; omega
  unfold w_text_size
  rw [mDef_run]
  walk_at "ev"
def w_text_at : MS := (sSeq (sSet 2 (eCall 2 (mDef 2 w_text_size) (aCons (eVar 0) (aCons (eVar 1) aNil))))
  (sSeq (sSet 3 (e2 fAdd (eVar 1) (eC (.int 1))))
  (sSeq (sSet 4 (e2 fAdd (eVar 3) (eVar 2)))
  (sSeq (sIf (tOf (e2 fGt (eVar 4) (eA fLen (aCons (eVar 0) aNil)))) (sRaise "BadHead") sNil)
  (sSeq (sSet 5 (eMt fJoin (eC (.str "")) (aCons (eFrz (aComp (iA (eFrz (aSl (eVar 0) (oSome (eVar 3)) (oSome (eVar 4))))) (gN 6) tYes' (eCall 1 (mDef 1 w_sign_of) (aCons (eVar 6) aNil)) [6])) aNil)))
  (sRet (eTup (aCons (eVar 5) (aCons (eVar 4) aNil)))))))))
theorem cut_mid {A M B : List Int} : cutL ((A ++ M ++ B).map LV.int) (some (A.length : Nat)) (some ((A.length + M.length : Nat) : Int)) = M.map LV.int := by
  unfold cutL
  rw [HT.sIx_nat, HT.sIx_nat, List.length_map, List.length_append, List.length_append]
  rw [Nat.min_eq_left (by omega), Nat.min_eq_left (by omega), Nat.add_sub_cancel_left, List.map_append, List.map_append, List.append_assoc, List.drop_left' (List.length_map ..), List.take_left' (List.length_map ..)]
theorem text_at_eq {A B : List Int} {ks : List Nat} {L : LH} (hk : ∀ k ∈ ks, k < 94) (hl : ks.length ≤ 20) : mDef 7 w_text_at [.lst ((A ++ due ks ++ B).map .int), .int A.length] L = .ok (.tup [.str (txt ks), .int (A.length + (due ks).length : Nat)]) L := by
  have s1 : mDef 2 w_text_size [.lst ((A ++ due ks ++ B).map .int), .int (A.length : Nat)] L = .ok (.int (ks.length : Nat)) L := text_size_eq (by unfold due; simp) (by omega) (by omega)
  have c1 : cutL ((A ++ due ks ++ B).map LV.int) (some ((A.length : Int) + 1)) (some ((A.length : Int) + 1 + ks.length)) = (ks.map fun (k : Nat) => (k : Int)).map LV.int := by
    have z := cut_mid (A := A ++ [(ks.length : Int)]) (M := ks.map fun (k : Nat) => (k : Int)) (B := B)
    have e1 : ((A ++ [(ks.length : Int)]).length : Int) = (A.length : Int) + 1 := by simp
    have e2 : (((A ++ [(ks.length : Int)]).length + (ks.map fun (k : Nat) => (k : Int)).length : Nat) : Int) = (A.length : Int) + 1 + ks.length := by simp
    rw [e1, e2] at z
    rw [← z]
    unfold due
    simp
  have g1 : ¬ (((A ++ due ks ++ B).map LV.int).length : Int) < (A.length : Int) + 1 + ks.length := by unfold due; simp; omega
  have q : ∀ σ0 : SL, σ0.length = 7 → compL (gN 6) tYes' (eCall 1 (mDef 1 w_sign_of) (aCons (eVar 6) aNil)) σ0 ((ks.map fun (k : Nat) => (k : Int)).map LV.int) [] L = .ok ((ks.map sg1).map .str) L := fun σ0 h0 => by
    rw [List.map_map]
    refine compL_map (LV.int ∘ fun (k : Nat) => (k : Int)) LV.str sg1 (fun _ => rfl) ks (by omega) fun k hx => ⟨_, rfl, rfl, ?_⟩
    have so := @sign_of_eq k L (hk k hx)
    match σ0, h0 with
    | [a, b, c, d, e, f, g], _ =>
      show eCall 1 _ _ _ L = _
      simp only [Function.comp]
      walk_at "ev"
  have q7 : ∀ a b c d e f g : Sl, compL (gN 6) tYes' (eCall 1 (mDef 1 w_sign_of) (aCons (eVar 6) aNil)) [a, b, c, d, e, f, g] ((ks.map fun (k : Nat) => (k : Int)).map LV.int) [] L = .ok ((ks.map sg1).map .str) L := fun a b c d e f g => q _ rfl
  have st : strs? ((ks.map sg1).map .str) = some (ks.map sg1) := by rw [List.map_map]; exact strs_map ks
  have sz : ((ks.map sg1).map (·.length)).sum + (ks.map sg1).length * Str.length "" ≤ 16777216 := by
    rw [sum_ones]
    show ks.length + _ * 0 ≤ _
    omega
  have js := join_signs ks
  have z2 : decide (2 ≤ sizeLine) = true := decide_eq_true (small (by decide))
  clear q
  unfold w_text_at
  rw [mDef_run]
  have en : ((A.length + (due ks).length : Nat) : Int) = ((A.length : Int) + 1 + ks.length) := by unfold due; simp; omega
  rw [en]
  clear en
  generalize ((A ++ due ks ++ B).map LV.int) = v at *
  walk_at "ev"
end Z
namespace Z
open PySem PySem.Spec L2 TL
local macro_rules | `(tactic| walk_at "ev") => `(tactic| simp only [fin_nx, fin_rt, fin_er, startL, List.map_cons, List.map_nil, List.length_cons, List.length_nil, List.cons_append, List.nil_append, List.replicate, sSeq, sSet, sIf, sNil, sRet, sItem, sDrop, sRaise, lift_ok, lift_er, bind_ok, bind_er, eVar, eC, e2, e1, eA, eAnd, eOr, eNot, eIf, eChain, aNil, aCons, tOf, tAnd', tOr', tNot', get0, get1, get2, get3, get4, get5, get6, get7, get8, get9, get10, get11, get12, get13, set0, set1, set2, set3, set4, set5, set6, set7, set8, set9, set10, set11, set12, set13, fIx, seqL, seqM, atI_0, atI_1, atI_2, atI_3, ixN_0, ixN_1, ixN_2, ixN_3, fI0, fI, fAdd, fLen, fEq_int, fEq_str, fEq_bl, clean, if_true, if_false, List.all_cons, List.all_nil, Bool.and_true, Bool.true_and, Bool.false_and, Bool.not_true, Bool.not_false, decide_true, decide_false, Bool.and_self, eCall, set_self, at_self, List.set_set, Bool.false_eq_true, sFor, iA, iR1, itemsOf, eNew, eFrz, aClean, aComp, wipeL, aSl, oSome, oNone, eMt, fIs, tyOf, locOk, truL, tTr, eTup, gN, fInt, fJoin, *])
theorem step {a b : MS} {σ σ1 : SL} {L L1 : LH} {r : O LV} (h : a σ L = .nx σ1 L1) (k : fin (b σ1 L1) = r) : fin (sSeq a b σ L) = r := by
  unfold sSeq
  rw [h]
  exact k
theorem sign_of_er {z : Int} {L : LH} (h : 94 ≤ z) : mDef 1 w_sign_of [.int z] L = .er "BadHead" [] [] L := by
  have zz := sgz
  have e1 : SG.length = 94 := by decide +kernel
  have e2 : (0 : Int) ≤ z := by omega
  have e3 : ¬ z < ((94 : Nat) : Int) := by omega
  rw [e1] at zz
  unfold w_sign_of
  rw [mDef_run]
  walk_at "ev"
theorem comp_signs {L : LH} : ∀ (M : List Int) (acc : List LV) (a b c d e f g : Sl), (∀ z ∈ M, 0 ≤ z) → acc.length + M.length ≤ 1000 →
    compLX (gN 6) tYes' (eCall 1 (mDef 1 w_sign_of) (aCons (eVar 6) aNil)) [a, b, c, d, e, f, g] (M.map .int) acc L = if M.all (fun z => decide (z ≤ 93)) = true then .ok (acc ++ M.map fun z => .str (sg1 z.toNat)) L else .er "BadHead" [] [] L
  | [], acc, a, b, c, d, e, f, g, _, _ => by simp [compLX]
  | z :: M, acc, a, b, c, d, e, f, g, h0, hl => by
    rw [List.length_cons] at hl
    have ih := fun (acc' : List LV) (q : acc'.length + M.length ≤ 1000) => comp_signs (L := L) M acc' a b c d e f g (fun z hz => h0 z (List.mem_cons_of_mem _ hz)) q
    rw [List.map_cons]
    unfold compLX
    have hs : gN 6 (.int z) [a, b, c, d, e, f, g] = some [a, b, c, d, e, f, .val (.int z)] := rfl
    have ht : tYes' [a, b, c, d, e, f, .val (.int z)] L = .ok true L := rfl
    by_cases hz : z ≤ 93
    · have so : mDef 1 w_sign_of [.int z] L = .ok (.str (sg1 z.toNat)) L := by
        have z0 := h0 z List.mem_cons_self
        have e1 : z = (z.toNat : Int) := by omega
        have := @sign_of_eq z.toNat L (by omega)
        rw [← e1] at this
        exact this
      have he : eCall 1 (mDef 1 w_sign_of) (aCons (eVar 6) aNil) [a, b, c, d, e, f, .val (.int z)] L = .ok (.str (sg1 z.toNat)) L := by walk_at "ev"
      simp only [hs, ht, he, if_true, clean, Bool.true_and]
      rw [if_pos (decide_eq_true (small_lt (by omega))), ih _ (by rw [List.length_append, List.length_singleton]; omega)]
      rw [List.all_cons, decide_eq_true hz, Bool.true_and, List.map_cons, List.append_assoc, List.singleton_append]
    · have so := @sign_of_er z L (by omega)
      have he : eCall 1 (mDef 1 w_sign_of) (aCons (eVar 6) aNil) [a, b, c, d, e, f, .val (.int z)] L = .er "BadHead" [] [] L := by walk_at "ev"
      simp only [hs, ht, he, if_true]
      rw [List.all_cons, decide_eq_false hz, Bool.false_and]
      simp
theorem size_none {ns : List Int} {a : Nat} {L : LH} (h : ns.length ≤ a) : mDef 2 w_text_size [.lst (ns.map .int), .int a] L = .er "BadHead" [] [] L := by
  have e2 : (0 : Int) ≤ (a : Int) := by omega
  have e3 : ¬ (a : Int) < (ns.map LV.int).length := by rw [List.length_map]; omega
  unfold w_text_size
  rw [mDef_run]
  walk_at "ev"
theorem size_long {ns : List Int} {a : Nat} {n : Int} {L : LH} (h : ns[a]? = some n) (h0 : 0 ≤ n) (h1 : 20 < n) : mDef 2 w_text_size [.lst (ns.map .int), .int a] L = .er "BadHead" [] [] L := by
  have e1 : L2.atI (ns.map LV.int) (a : Int) = some (.int n) := atI_nat (by rw [List.getElem?_map, h]; rfl)
  have ha : a < ns.length := (List.getElem?_eq_some_iff.mp h).1
  have e2 : (0 : Int) ≤ (a : Int) := by omega
  have e3 : (a : Int) < (ns.map LV.int).length := by rw [List.length_map]; omega
  have e4 : ¬ n ≤ 20 := by omega
  unfold w_text_size
  rw [mDef_run]
  walk_at "ev"
def w_text_atX : MS := (sSeq (sSet 2 (eCall 2 (mDef 2 w_text_size) (aCons (eVar 0) (aCons (eVar 1) aNil))))
  (sSeq (sSet 3 (e2 fAdd (eVar 1) (eC (.int 1))))
  (sSeq (sSet 4 (e2 fAdd (eVar 3) (eVar 2)))
  (sSeq (sIf (tOf (e2 fGt (eVar 4) (eA fLen (aCons (eVar 0) aNil)))) (sRaise "BadHead") sNil)
  (sSeq (sSet 5 (eMt fJoin (eC (.str "")) (aCons (eFrz (aCompX (iA (eFrz (aSl (eVar 0) (oSome (eVar 3)) (oSome (eVar 4))))) (gN 6) tYes' (eCall 1 (mDef 1 w_sign_of) (aCons (eVar 6) aNil)) [6])) aNil)))
  (sRet (eTup (aCons (eVar 5) (aCons (eVar 4) aNil)))))))))
theorem at_none {ns : List Int} {a : Nat} {L : LH} (h : mDef 2 w_text_size [.lst (ns.map .int), .int a] L = .er "BadHead" [] [] L) : mDef 7 w_text_atX [.lst (ns.map .int), .int a] L = .er "BadHead" [] [] L := by
  unfold w_text_atX
  rw [mDef_run]
  generalize ns.map LV.int = v at *
  walk_at "ev"
theorem at_short {A S : List Int} {n : Int} {L : LH} (h0 : 0 ≤ n) (h1 : n ≤ 20) (h2 : (S.length : Int) < n) : mDef 7 w_text_atX [.lst ((A ++ [n] ++ S).map .int), .int A.length] L = .er "BadHead" [] [] L := by
  have s1 : mDef 2 w_text_size [.lst ((A ++ [n] ++ S).map .int), .int (A.length : Nat)] L = .ok (.int n) L := text_size_eq (by simp) h0 h1
  have g1 : (((A ++ [n] ++ S).map LV.int).length : Int) < (A.length : Int) + 1 + n := by simp; omega
  unfold w_text_atX
  rw [mDef_run]
  generalize ((A ++ [n] ++ S).map LV.int) = v at *
  walk_at "ev"
end Z
namespace Z
open PySem PySem.Spec L2 TL
local macro_rules | `(tactic| walk_at "ev") => `(tactic| simp only [fin_nx, fin_rt, fin_er, startL, List.map_cons, List.map_nil, List.length_cons, List.length_nil, List.cons_append, List.nil_append, List.replicate, sSeq, sSet, sIf, sNil, sRet, sItem, sDrop, sRaise, lift_ok, lift_er, bind_ok, bind_er, eVar, eC, e2, e1, eA, eAnd, eOr, eNot, eIf, eChain, aNil, aCons, tOf, tAnd', tOr', tNot', get0, get1, get2, get3, get4, get5, get6, get7, get8, get9, get10, get11, get12, get13, set0, set1, set2, set3, set4, set5, set6, set7, set8, set9, set10, set11, set12, set13, fIx, seqL, seqM, atI_0, atI_1, atI_2, atI_3, ixN_0, ixN_1, ixN_2, ixN_3, fI0, fI, fAdd, fLen, fEq_int, fEq_str, fEq_bl, clean, if_true, if_false, List.all_cons, List.all_nil, Bool.and_true, Bool.true_and, Bool.false_and, Bool.not_true, Bool.not_false, decide_true, decide_false, Bool.and_self, eCall, set_self, at_self, List.set_set, Bool.false_eq_true, sFor, iA, iR1, itemsOf, eNew, eFrz, aClean, aComp, wipeL, aSl, oSome, oNone, eMt, fIs, tyOf, locOk, truL, tTr, eTup, gN, fInt, fJoin, *])
theorem cut_all {A S : List Int} {n : Int} (h : (S.length : Int) = n) : cutL ((A ++ [n] ++ S).map LV.int) (some ((A.length : Int) + 1)) (some ((A.length : Int) + 1 + n)) = S.map LV.int := by
  have z := cut_mid (A := A ++ [n]) (M := S) (B := [])
  have e1 : ((A ++ [n]).length : Int) = (A.length : Int) + 1 := by simp
  have e2 : (((A ++ [n]).length + S.length : Nat) : Int) = (A.length : Int) + 1 + n := by simp; omega
  rw [e1, e2] at z
  simpa using z
theorem at_signs {A S : List Int} {n : Int} {L : LH} (h : (S.length : Int) = n) (h1 : n ≤ 20) (h0 : ∀ z ∈ S, 0 ≤ z) :
    mDef 7 w_text_atX [.lst ((A ++ [n] ++ S).map .int), .int A.length] L = if S.all (fun z => decide (z ≤ 93)) = true then .ok (.tup [.str (txt (S.map Int.toNat)), .int ((A.length : Int) + 1 + n)]) L else .er "BadHead" [] [] L := by
  have s1 : mDef 2 w_text_size [.lst ((A ++ [n] ++ S).map .int), .int (A.length : Nat)] L = .ok (.int n) L := text_size_eq (by simp) (by omega) h1
  have c1 := cut_all (A := A) h
  have g1 : ¬ (((A ++ [n] ++ S).map LV.int).length : Int) < (A.length : Int) + 1 + n := by simp; omega
  have q7 : ∀ a b c d e f g : Sl, compLX (gN 6) tYes' (eCall 1 (mDef 1 w_sign_of) (aCons (eVar 6) aNil)) [a, b, c, d, e, f, g] (S.map .int) [] L = if S.all (fun z => decide (z ≤ 93)) = true then .ok (S.map fun z => .str (sg1 z.toNat)) L else .er "BadHead" [] [] L := fun a b c d e f g => comp_signs S [] a b c d e f g h0 (by simp; omega)
  by_cases hb : S.all (fun z => decide (z ≤ 93)) = true
  · rw [if_pos hb]
    have q8 := fun a b c d e f g => (q7 a b c d e f g).trans (if_pos hb)
    have st : strs? (S.map fun z => LV.str (sg1 z.toNat)) = some ((S.map Int.toNat).map sg1) := by
      have := strs_map (S.map Int.toNat)
      rw [List.map_map] at this
      exact this
    have js := join_signs (S.map Int.toNat)
    have z1 : (((S.map Int.toNat).map sg1).map (·.length)).sum + ((S.map Int.toNat).map sg1).length * ("" : Str).length ≤ 16777216 := by
      rw [sum_ones, show ("" : Str).length = 0 from rfl, Nat.mul_zero]
      simp; omega
    have z2 : decide (2 ≤ sizeLine) = true := decide_eq_true (small (by decide))
    clear q7
    unfold w_text_atX
    rw [mDef_run]
    generalize ((A ++ [n] ++ S).map LV.int) = v at *
    walk_at "ev"
    simp only [aCompX, iA, aSl]
    walk_at "ev"
  · rw [if_neg hb]
    have q8 := fun a b c d e f g => (q7 a b c d e f g).trans (if_neg hb)
    clear q7
    unfold w_text_atX
    rw [mDef_run]
    generalize ((A ++ [n] ++ S).map LV.int) = v at *
    walk_at "ev"
    simp only [aCompX]
    walk_at "ev"
def w_found : MS := (sSeq (sTryAs 2 [("BadHead", [])] (fun _ => true) (sRet (eCall 2 (mDef 7 w_text_atX) (aCons (eVar 0) (aCons (eVar 1) aNil)))) (fun c ns vs => (if true then (sRet (eC .non)) else sNil)))
  (sRet (eTup aNil)))
theorem found_er {vs : List LV} {i : Int} {L : LH} (h : mDef 7 w_text_atX [.lst vs, .int i] L = .er "BadHead" [] [] L) : mDef 3 w_found [.lst vs, .int i] L = .ok .non L := by
  have e : (sRet (eCall 2 (mDef 7 w_text_atX) (aCons (eVar 0) (aCons (eVar 1) aNil)))) [.val (.lst vs), .val (.int i), .no] L = .er "BadHead" [] [] [.val (.lst vs), .val (.int i), .no] L := by walk_at "ev"
  unfold w_found
  rw [mDef_run]
  show fin (sSeq _ _ [.val (.lst vs), .val (.int i), .no] L) = _
  unfold sSeq sTryAs
  rw [e]
  rfl
theorem found_ok {vs ws : List LV} {i : Int} {L : LH} (h : mDef 7 w_text_atX [.lst vs, .int i] L = .ok (.tup ws) L) : mDef 3 w_found [.lst vs, .int i] L = .ok (.tup ws) L := by
  have e : (sRet (eCall 2 (mDef 7 w_text_atX) (aCons (eVar 0) (aCons (eVar 1) aNil)))) [.val (.lst vs), .val (.int i), .no] L = .rt (.tup ws) L := by walk_at "ev"
  unfold w_found
  rw [mDef_run]
  show fin (sSeq _ _ [.val (.lst vs), .val (.int i), .no] L) = _
  unfold sSeq sTryAs
  rw [e]
  rfl
/-- what the law finds -/
theorem found_eq {A S N : List Int} {n : Int} {L : LH} (hn : 0 ≤ n) (h0 : ∀ z ∈ S, 0 ≤ z) (hS : (S.length : Int) ≤ n) (hN : N = A ++ [n] ++ S ∨ N = A) :
    mDef 3 w_found [.lst (N.map .int), .int A.length] L = .ok (if ((A.length : Int) + 1 + n ≤ N.length ∧ n ≤ 20) ∧ S.all (fun z => decide (z ≤ 93)) = true then .tup [.str (txt (S.map Int.toNat)), .int N.length] else .non) L := by
  rcases hN with rfl | rfl
  · by_cases h20 : n ≤ 20
    · by_cases hl : (S.length : Int) = n
      · have t := at_signs (A := A) (L := L) hl h20 h0
        have g : (A.length : Int) + 1 + n ≤ (A ++ [n] ++ S).length := by simp; omega
        have e : ((A ++ [n] ++ S).length : Int) = (A.length : Int) + 1 + n := by simp; omega
        by_cases hb : S.all (fun z => decide (z ≤ 93)) = true
        · rw [if_pos ⟨⟨g, h20⟩, hb⟩, e]
          rw [if_pos hb] at t
          exact found_ok t
        · rw [if_neg fun z => hb z.2]
          rw [if_neg hb] at t
          exact found_er t
      · rw [if_neg fun z => by have := z.1.1; simp at this; omega]
        exact found_er (at_short hn h20 (by omega))
    · rw [if_neg fun z => h20 z.1.2]
      exact found_er (at_none (size_long (by simp) hn (by omega)))
  · rw [if_neg fun z => by have := z.1.1; omega]
    exact found_er (at_none (size_none (Nat.le_refl _)))
/-- all numbers of the text are signs' -/
def w_goodB : MS := sSet 7 (eAnd (eVar 7) (e2 fLe (eVar 8) (eC (.int 93))))
theorem good_loop {a b c d e f g k l m : Sl} {L : LH} : ∀ (S : List Int) (q : Bool) (s : Sl), ∃ s', loop (gN 8) w_goodB (S.map .int) [a, b, c, d, e, f, g, .val (.bl q), s, k, l, m] L = .nx [a, b, c, d, e, f, g, .val (.bl (q && S.all fun z => decide (z ≤ 93))), s', k, l, m] L
  | [], q, s => ⟨s, by simp [loop]⟩
  | z :: S, q, s => by
    obtain ⟨s', e'⟩ := good_loop (a := a) (b := b) (c := c) (d := d) (e := e) (f := f) (g := g) (k := k) (l := l) (m := m) (L := L) S (q && decide (z ≤ 93)) (.val (.int z))
    refine ⟨s', ?_⟩
    rw [List.map_cons]
    unfold loop
    have hs : gN 8 (.int z) [a, b, c, d, e, f, g, .val (.bl q), s, k, l, m] = some [a, b, c, d, e, f, g, .val (.bl q), .val (.int z), k, l, m] := rfl
    have hb : w_goodB [a, b, c, d, e, f, g, .val (.bl q), .val (.int z), k, l, m] L = .nx [a, b, c, d, e, f, g, .val (.bl (q && decide (z ≤ 93))), .val (.int z), k, l, m] L := by
      unfold w_goodB
      cases q <;> walk_at "ev" <;> rfl
    simp only [hs, hb, e', List.all_cons, Bool.and_assoc]
theorem cut_to {S : List Int} {i : Int} : ∃ m, cutL (S.map LV.int) none (some i) = (S.take m).map LV.int := by
  unfold cutL
  exact ⟨_, by rw [HT.sIx_none, List.drop_zero, List.map_take]⟩
theorem cut_whole {S : List Int} {n : Int} (h : (S.length : Int) ≤ n) : cutL (S.map LV.int) none (some n) = S.map LV.int := by
  unfold cutL
  rw [HT.sIx_none, List.drop_zero, show n = ((n.toNat : Nat) : Int) by omega, HT.sIx_nat, List.take_of_length_le]
  rw [List.length_map]
  omega
end Z
namespace Z
open PySem PySem.Spec L2
/-! ### evaluation, a combinator at a time -/
section
variable {σ : SL} {L : LH} {α β : Type}
theorem x_Var (i : Nat) : eVar i σ L = match σ[i]? with
  | some (.val v) => .ok v L
  | some (.own _) => .ok (.loc i) L
  | _ => .no := rfl
theorem x_C (v : LV) : eC v σ L = .ok v L := rfl
theorem x_Nil : aNil σ L = .ok [] L := rfl
theorem x_Cons (m : ME) (r : MA) : aCons m r σ L = (m σ L).bind fun v L1 => (r σ L1).bind fun vs L2 => .ok (v :: vs) L2 := rfl
theorem x_e2 (f : LV → LV → SL → LH → O LV) (a b : ME) : e2 f a b σ L = (a σ L).bind fun x L1 => (b σ L1).bind fun y L2 => f x y σ L2 := rfl
theorem x_e1 (f : LV → SL → LH → O LV) (a : ME) : e1 f a σ L = (a σ L).bind fun x L1 => f x σ L1 := rfl
theorem x_eA (f : List LV → SL → LH → O LV) (a : MA) : eA f a σ L = (a σ L).bind fun x L1 => f x σ L1 := rfl
theorem x_Clean (m : MA) : aClean m σ L = (m σ L).bind fun vs L1 => if (vs.all clean && decide (vs.length ≤ sizeLine)) = true then .ok vs L1 else .no := rfl
theorem x_Tup (m : MA) : eTup m σ L = (m σ L).bind fun vs L1 => if (vs.all clean && decide (vs.length ≤ sizeLine)) = true then .ok (.tup vs) L1 else .no := rfl
theorem x_Frz (m : MA) : eFrz m σ L = (m σ L).bind fun vs L1 => .ok (.lst vs) L1 := rfl
theorem x_New (m : MA) : eNew m σ L = (m σ L).bind fun vs L1 => .ok (.ref L1.length) (L1 ++ [.lst vs]) := rfl
theorem x_tOf (m : ME) : tOf m σ L = (m σ L).bind fun v L1 => match v with
  | .bl b => .ok b L1
  | _ => .no := rfl
theorem x_tTr (m : ME) : tTr m σ L = (m σ L).bind fun v L1 => match truL σ L1 v with
  | some b => .ok b L1
  | none => .no := rfl
theorem x_tAnd (a b : MT) : tAnd' a b σ L = (a σ L).bind fun c L1 => if c = true then b σ L1 else .ok false L1 := rfl
theorem x_tOr (a b : MT) : tOr' a b σ L = (a σ L).bind fun c L1 => if c = true then .ok true L1 else b σ L1 := rfl
theorem x_tNot (a : MT) : tNot' a σ L = (a σ L).bind fun c L1 => .ok (!c) L1 := rfl
theorem x_And (a b : ME) : eAnd a b σ L = (a σ L).bind fun v L1 => match v with
  | .bl c => if c = true then b σ L1 else .ok (.bl false) L1
  | _ => .no := rfl
theorem x_Or (a b : ME) : eOr a b σ L = (a σ L).bind fun v L1 => match v with
  | .bl c => if c = true then .ok (.bl true) L1 else b σ L1
  | _ => .no := rfl
theorem x_Not (a : ME) : eNot a σ L = (a σ L).bind fun v L1 => match truL σ L1 v with
  | some b => .ok (.bl (!b)) L1
  | none => .no := rfl
theorem x_eIf (t : MT) (a b : ME) : eIf t a b σ L = (t σ L).bind fun c L1 => if c = true then a σ L1 else b σ L1 := rfl
theorem x_Chain (f g : LV → LV → SL → LH → O LV) (a b c : ME) : eChain f g a b c σ L = (a σ L).bind fun x L1 => (b σ L1).bind fun y L2 => (f x y σ L2).bind fun z L3 => match z with
  | .bl k => if k = true then (c σ L3).bind fun w L4 => g y w σ L4 else .ok (.bl false) L3
  | _ => .no := rfl
theorem x_Call (n : Nat) (f : List LV → LH → O LV) (m : MA) : eCall n f m σ L = (m σ L).bind fun vs L1 => if (vs.all clean && decide (vs.length = n)) = true then f vs L1 else .no := rfl
theorem x_Meth (c m : Str) (n : Nat) (g : List LV → LH → O LV) (mo : ME) (ma : MA) : eMeth c m n g mo ma σ L = (mo σ L).bind fun o L1 => match insOf σ L1 o with
  | some (c', ns, vs) => if (decide (c' = c) && clean o && (fieldL m ns vs).isNone) = true then (ma σ L1).bind fun xs L2 => if (xs.all clean && decide (xs.length + 1 = n)) = true then g (o :: xs) L2 else .no else .no
  | none => .no := rfl
theorem x_Make (c : Str) (n : Nat) (g : List LV → LH → O LV) (ma : MA) : eMake c n g ma σ L = (ma σ L).bind fun xs L1 => if (xs.all clean && decide (xs.length + 1 = n)) = true then (match g (.ref L1.length :: xs) (L1 ++ [.ins c [] []]) with
  | .ok .non L2 => .ok (.ref L1.length) L2
  | _ => .no) else .no := rfl
theorem x_Pop (m : ME) : ePop m σ L = (m σ L).bind fun o L1 => match o with
  | .ref n => match L1[n]? with
    | some (.lst vs) => match vs.getLast? with
      | some v => .ok v (L1.set n (.lst vs.dropLast))
      | none => .no
    | _ => .no
  | _ => .no := rfl
theorem x_Pop0 (mo mi : ME) : ePop0 mo mi σ L = (mo σ L).bind fun o L0 => match seqM σ L0 o with
  | some _ => (mi σ L0).bind fun i L1 => match o, i with
    | .ref n, .int i => match L1[n]? with
      | some (.lst (v :: vs)) => if i = 0 then .ok v (L1.set n (.lst vs)) else .no
      | _ => .no
    | _, _ => .no
  | none => .no := rfl
theorem x_LMt (f : LV → List LV → SL → LH → O LV) (mo : ME) (ma : MA) : eLMt f mo ma σ L = (mo σ L).bind fun o L1 => match seqM σ L1 o with
  | some _ => (ma σ L1).bind fun xs L2 => f o xs σ L2
  | none => .no := rfl
theorem x_Mt (f : LV → List LV → SL → LH → O LV) (mo : ME) (ma : MA) : eMt f mo ma σ L = (mo σ L).bind fun o L1 => match o with
  | .str z => (ma σ L1).bind fun xs L2 => f (.str z) xs σ L2
  | _ => .no := rfl
theorem x_Sl (mo : ME) (lo hi : MO) : aSl mo lo hi σ L = (mo σ L).bind fun o L1 => (lo σ L1).bind fun l L2 => (hi σ L2).bind fun h L3 => match seqL σ L3 o with
  | some vs => .ok (cutL vs l h) L3
  | none => .no := rfl
theorem x_SlT (mo : ME) (lo hi : MO) : eSlT mo lo hi σ L = (mo σ L).bind fun o L1 => (lo σ L1).bind fun l L2 => (hi σ L2).bind fun h L3 => match o with
  | .tup vs => .ok (.tup (cutL vs l h)) L3
  | _ => .no := rfl
theorem x_oNone : oNone σ L = .ok none L := rfl
theorem x_oSome (m : ME) : oSome m σ L = (m σ L).bind fun v L1 => match v with
  | .int i => .ok (some i) L1
  | _ => .no := rfl
theorem x_List (m : MA) : aList m σ L = (m σ L).bind fun xs L1 => match xs with
  | [.tup vs] => .ok vs L1
  | [x] => match seqL σ L1 x with
    | some vs => .ok vs L1
    | none => .no
  | _ => .no := rfl
theorem x_CompA (mo : ME) (n : LV → SL → Option SL) (t : MT) (m : ME) (vs : List Nat) : aCompA mo n t m vs σ L = (mo σ L).bind fun v L1 => match v with
  | .ref r => match L1[r]? with
    | some (.lst ws) => compR n t m (wipeL σ vs) r (ws.length + 1) 0 [] L1
    | _ => .no
  | v => match itemsOf v with
    | some items => compL n t m (wipeL σ vs) items [] L1
    | none => .no := rfl
theorem x_Comp (mi : MA) (n : LV → SL → Option SL) (t : MT) (m : ME) (vs : List Nat) : aComp mi n t m vs σ L = (mi σ L).bind fun items L1 => compL n t m (wipeL σ vs) items [] L1 := rfl
theorem x_iA (m : ME) : iA m σ L = (m σ L).bind fun v L1 => match itemsOf v with
  | some vs => .ok vs L1
  | none => .no := rfl
theorem x_iR1 (m : MA) : iR1 m σ L = (m σ L).bind fun vs L1 => match vs with
  | [.int j] => if -(2 ^ 62) ≤ j ∧ j < 2 ^ 62 then .ok (rng 0 j.toNat) L1 else .no
  | _ => .no := rfl
theorem x_iR2 (m : MA) : iR2 m σ L = (m σ L).bind fun vs L1 => match vs with
  | [.int i, .int j] => if -(2 ^ 62) ≤ i ∧ i < 2 ^ 62 ∧ -(2 ^ 62) ≤ j ∧ j < 2 ^ 62 then .ok (rng i (j - i).toNat) L1 else .no
  | _ => .no := Eq.trans rfl rfl
theorem x_iQ1 (m : MA) : iQ1 m σ L = (m σ L).bind rq1 := rfl
theorem x_iQ2 (m : MA) : iQ2 m σ L = (m σ L).bind rq2 := rfl
theorem v_rq1 (j : Int) (h0 : -1000000000 ≤ j) (h : j ≤ 1000000000) : rq1 [.int j] L = .ok (rng 0 j.toNat) L := by
  show (if _ then _ else _) = _
  rw [if_pos (okR_of (by omega) (by omega))]
theorem v_rq2 (i j : Int) (h0 : -1000000000 ≤ j) (h : j ≤ 1000000000) (h2 : -1000000000 ≤ i) (h3 : i ≤ 1000000000) : rq2 [.int i, .int j] L = .ok (rng i (j - i).toNat) L := by
  show (if _ then _ else _) = _
  rw [if_pos (by rw [okR_of (by omega) (by omega), okR_of (by omega) (by omega)]; rfl)]
theorem x_iZ (m : MA) : iZ m σ L = (m σ L).bind fun vs L1 => match vs with
  | [x, y] => match frzOf x, frzOf y with
    | some xs, some ys => .ok (pairs xs ys) L1
    | _, _ => .no
  | _ => .no := rfl
/-! statements -/
theorem x_sNil : sNil σ L = .nx σ L := rfl
/-- what follows -/
def sq (c : MS) (o : SO) : SO := match o with
  | .nx σ L => c σ L
  | o => o
theorem x_Seq (a b : MS) : sSeq a b σ L = sq b (a σ L) := rfl
theorem sq_nx (c : MS) : sq c (.nx σ L) = c σ L := rfl
theorem sq_rt (c : MS) (v : LV) : sq c (.rt v L) = .rt v L := rfl
theorem sq_er (c : MS) (x : Str) (ns : List Str) (vs : List LV) : sq c (.er x ns vs σ L) = .er x ns vs σ L := rfl
theorem sq_bk (c : MS) : sq c (.bk σ L) = .bk σ L := rfl
theorem sq_ct (c : MS) : sq c (.ct σ L) = .ct σ L := rfl
theorem x_sSet (i : Nat) (m : ME) : sSet i m σ L = lift (m σ L) σ fun v L1 => if clean v = true then .nx (σ.set i (.val v)) L1 else .no := rfl
theorem x_sOwn (i : Nat) (m : MA) : sOwn i m σ L = lift (m σ L) σ fun vs L1 => .nx (σ.set i (.own (.lst vs))) L1 := rfl
theorem x_sDrop (m : ME) : sDrop m σ L = lift (m σ L) σ fun _ L1 => .nx σ L1 := rfl
theorem x_sFrz (i : Nat) (m : MS) : sFrz i m σ L = m (frzSlot i σ) L := rfl
theorem x_frzSlot (i : Nat) : frzSlot i σ = match σ[i]? with
  | some (.own o) => match frzO o with
    | some v => σ.set i (.val v)
    | none => σ
  | _ => σ := rfl
theorem x_sRet (m : ME) : sRet m σ L = lift (m σ L) σ fun v L1 => if clean v = true then .rt v L1 else .no := rfl
theorem x_sRetN : sRetN σ L = .rt .non L := rfl
theorem x_sBk : sBk σ L = .bk σ L := rfl
theorem x_sCt : sCt σ L = .ct σ L := rfl
theorem x_sRaise (c : Str) : sRaise c σ L = .er c [] [] σ L := rfl
theorem x_sIf (t : MT) (a b : MS) : sIf t a b σ L = lift (t σ L) σ fun c L1 => if c = true then a σ L1 else b σ L1 := rfl
theorem x_sItem (mo mi me : ME) : sItem mo mi me σ L = lift ((me σ L).bind fun v L1 => (mo σ L1).bind fun o L2 => (mi σ L2).bind fun i L3 => if clean v = true then (match o, i with
  | .ref n, .int k => match L3[n]? with
    | some (.lst vs) => match ixN vs.length k with
      | some j => .ok () (L3.set n (.lst (vs.set j v)))
      | none => .no
    | _ => .no
  | _, _ => .no) else .no) σ fun _ L4 => .nx σ L4 := rfl
theorem x_sAsg (m : ME) (n : LV → SL → Option SL) : sAsg m n σ L = lift (m σ L) σ fun v L1 => if clean v = true then (match n v σ with
  | some σ1 => .nx σ1 L1
  | none => .no) else .no := rfl
theorem x_sAug (i : Nat) (f : Int → Int → Int) (m : ME) : sAug i f m σ L = match σ[i]? with
  | some (.val (.int a)) => lift (m σ L) σ fun y L1 => match y with
    | .int b => .nx (σ.set i (.val (.int (f a b)))) L1
    | _ => .no
  | _ => .no := rfl
theorem x_sFldAugM (cs : List Str) (f : Str) (g : Int → Int → Int) (mo me : ME) : sFldAugM cs f g mo me σ L = lift (mo σ L) σ fun o L1 => match o with
  | .ref n => match L1[n]? with
    | some (.ins c ns vs) => match fieldL f ns vs with
      | some (.int a) => if cs.contains c = true then lift (me σ L1) σ fun y L2 => match y, L2[n]? with
        | .int b, some (.ins c2 ns2 vs2) => if (decide (c2 = c) && decide (ns2.length < 1000)) = true then .nx σ (L2.set n (.ins c2 (putN f ns2) (putV f (.int (g a b)) ns2 vs2))) else .no
        | _, _ => .no else .no
      | _ => .no
    | _ => .no
  | _ => .no := rfl
theorem x_sFldM (cs : List Str) (f : Str) (mo me : ME) : sFldM cs f mo me σ L = lift ((me σ L).bind fun v L1 => (mo σ L1).bind fun o L2 => if clean v = true then .ok (v, o) L2 else .no) σ fun p L2 => match insOf σ L2 p.2 with
  | some (c, ns, vs) => if (cs.contains c && decide (ns.length < 1000)) = true then (match p.2 with
    | .ref n => .nx σ (L2.set n (.ins c (putN f ns) (putV f p.1 ns vs)))
    | .loc i => .nx (σ.set i (.own (.ins c (putN f ns) (putV f p.1 ns vs)))) L2
    | _ => .no) else .no
  | none => .no := rfl
theorem x_sMod (g : List LV → List LV → Option (List LV)) (mo : ME) (ma : MA) : sMod g mo ma σ L = lift ((mo σ L).bind fun o L1 => match seqM σ L1 o with
  | some _ => (ma σ L1).bind fun vs L2 => if vs.all clean = true then .ok (o, vs) L2 else .no
  | none => .no) σ fun p L2 => match p.1 with
  | .ref n => match L2[n]? with
    | some (.lst vs) => match g vs p.2 with
      | some vs' => .nx σ (L2.set n (.lst vs'))
      | none => .no
    | _ => .no
  | .loc i => match σ[i]? with
    | some (.own (.lst vs)) => match g vs p.2 with
      | some vs' => .nx (σ.set i (.own (.lst vs'))) L2
      | none => .no
    | _ => .no
  | _ => .no := rfl
theorem x_sExt (mo me : ME) : sExt mo me σ L = lift ((mo σ L).bind fun o L1 => match seqM σ L1 o with
  | some _ => (me σ L1).bind fun y L2 => .ok (o, y) L2
  | none => .no) σ fun p L2 => match seqM σ L2 p.2 with
  | some ws => (match p.1 with
    | .ref n => match L2[n]? with
      | some (.lst vs) => if vs.length + ws.length ≤ sizeLine then .nx σ (L2.set n (.lst (vs ++ ws))) else .no
      | _ => .no
    | .loc i => match σ[i]? with
      | some (.own (.lst vs)) => if vs.length + ws.length ≤ sizeLine then .nx (σ.set i (.own (.lst (vs ++ ws)))) L2 else .no
      | _ => .no
    | _ => .no)
  | none => .no := rfl
theorem x_sFor (mi : MA) (n : LV → SL → Option SL) (b : MS) : sFor mi n b σ L = lift (mi σ L) σ fun vs L1 => loop n b vs σ L1 := rfl
theorem x_sForA (mo : ME) (n : LV → SL → Option SL) (b : MS) : sForA mo n b σ L = lift (mo σ L) σ fun v L1 => match v with
  | .ref r => match L1[r]? with
    | some (.lst ws) => loopR n b r (ws.length + 1) 0 σ L1
    | _ => .no
  | v => match itemsOf v with
    | some vs => loop n b vs σ L1
    | none => .no := rfl
theorem x_gN (i : Nat) (v : LV) : gN i v σ = some (σ.set i (.val v)) := rfl
theorem x_gT (n : Nat) (ns : List LV → SL → Option SL) (vs : List LV) : gT n ns (.tup vs) σ = if vs.length = n then ns vs σ else none := rfl
theorem x_gsNil : gsNil [] σ = some σ := rfl
theorem x_gsCons (n : LV → SL → Option SL) (ns : List LV → SL → Option SL) (v : LV) (vs : List LV) : gsCons n ns (v :: vs) σ = (n v σ).bind fun σ1 => ns vs σ1 := rfl
/-! values -/
theorem v_add (i j : Int) : fAdd (.int i) (.int j) σ L = .ok (.int (i + j)) L := rfl
theorem v_sub (i j : Int) : fSub (.int i) (.int j) σ L = .ok (.int (i - j)) L := rfl
theorem v_lt (i j : Int) : fLt (.int i) (.int j) σ L = .ok (.bl (decide (i < j))) L := rfl
theorem v_le (i j : Int) : fLe (.int i) (.int j) σ L = .ok (.bl (decide (i ≤ j))) L := rfl
theorem v_gt (i j : Int) : fGt (.int i) (.int j) σ L = .ok (.bl (decide (j < i))) L := rfl
theorem v_ge (i j : Int) : fGe (.int i) (.int j) σ L = .ok (.bl (decide (j ≤ i))) L := rfl
theorem v_mod (i j : Int) (h : 0 < j) : fMod (.int i) (.int j) σ L = .ok (.int (i % j)) L := by
  show (if decide (0 < j) = true then _ else _) = _
  rw [if_pos (decide_eq_true h)]
theorem v_div (i j : Int) (h : 0 < j) (h2 : j < 4294967296) : fDiv (.int i) (.int j) σ L = .ok (.int (i / j)) L := by
  show (if cDiv i j = true then _ else _) = _
  rw [if_pos (cDiv_small h h2 i)]
theorem v_mul (i j : Int) (h1 : -1000000000000 < i ∧ i < 1000000000000) (h2 : -1000000000000 < j ∧ j < 1000000000000) : fMul (.int i) (.int j) σ L = .ok (.int (i * j)) L := by
  show (if cMul i j = true then _ else _) = _
  rw [if_pos (cMul_of 40 40 (by decide) (by decide) (by omega) (by omega) (by decide))]
theorem v_powc (i j : Int) (h : cPow i j = true) : fPow (.int i) (.int j) σ L = .ok (.int (i ^ j.toNat)) L := by
  show (if cPow i j = true then _ else _) = _
  rw [if_pos h]
theorem v_eq (i j : Int) : fEqN false (.int i) (.int j) σ L = .ok (.bl (decide (i = j))) L := rfl
theorem v_ne (i j : Int) : fEqN true (.int i) (.int j) σ L = .ok (.bl (!decide (i = j))) L := rfl
theorem v_eqs (i j : Str) : fEqN false (.str i) (.str j) σ L = .ok (.bl (decide (i = j))) L := rfl
theorem v_nes (i j : Str) : fEqN true (.str i) (.str j) σ L = .ok (.bl (!decide (i = j))) L := rfl
theorem v_eqb (i j : Bool) : fEqN false (.bl i) (.bl j) σ L = .ok (.bl (decide (i = j))) L := rfl
theorem v_addL (xs ys : List LV) (h : xs.length + ys.length ≤ 1000000) : fAdd (.lst xs) (.lst ys) σ L = .ok (.lst (xs ++ ys)) L := by
  show (if _ then _ else _) = _
  rw [if_pos (small h)]
theorem v_ixT (vs : List LV) (i : Int) (v : LV) (h : L2.atI vs i = some v) : fIx (.tup vs) (.int i) σ L = .ok v L := by
  unfold fIx
  simp only [h]
theorem v_ixL (vs : List LV) (i : Int) (v : LV) (h : L2.atI vs i = some v) : fIx (.lst vs) (.int i) σ L = .ok v L := by
  unfold fIx
  simp only [seqL, h]
theorem v_ixR (n : Nat) (vs : List LV) (i : Int) (v : LV) (hL : L[n]? = some (.lst vs)) (h : L2.atI vs i = some v) : fIx (.ref n) (.int i) σ L = .ok v L := by
  unfold fIx
  simp only [seqL, hL, h]
theorem v_lenT (vs : List LV) : fLen [.tup vs] σ L = .ok (.int vs.length) L := rfl
theorem v_lenL (vs : List LV) : fLen [.lst vs] σ L = .ok (.int vs.length) L := rfl
theorem v_lenR (vs : List LV) (n : Nat) (hL : L[n]? = some (.lst vs)) : fLen [.ref n] σ L = .ok (.int vs.length) L := by
  unfold fLen
  simp only [seqL, hL]
theorem v_lenS (z : Str) (h : z.length ≤ 1000000) : fLen [.str z] σ L = .ok (.int z.length) L := by
  show (if _ then _ else _) = _
  rw [if_pos (small h)]
theorem v_fld (cs : List Str) (f : Str) (n : Nat) (c : Str) (ns : List Str) (vs : List LV) (v : LV) (hL : L[n]? = some (.ins c ns vs)) (hc : cs.contains c = true) (h : fieldL f ns vs = some v) : fFld cs f (.ref n) σ L = .ok v L := by
  unfold fFld insOf
  simp only [hL, hc, h, if_true]
theorem v_sz (n : Nat) (h : n ≤ 1000000) : decide (n ≤ sizeLine) = true := decide_eq_true (small h)
theorem v_rng (j : Int) (h0 : -1000000000 ≤ j) (h : j ≤ 1000000000) : (if -(2 ^ 62) ≤ j ∧ j < 2 ^ 62 then (.ok (rng 0 j.toNat) L : O (List LV)) else .no) = .ok (rng 0 j.toNat) L := by
  rw [if_pos]
  constructor
  · exact Int.le_trans (by decide) h0
  · exact Int.lt_of_le_of_lt h (by decide)
end
end Z
namespace Z
open PySem PySem.Spec L2
def v_SIGNS : Str := " !\"#$&'()*+,-./0123456789:;<=>?@ABCDEFGHIJKLMNOPQRSTUVWXYZ[\\]^_`abcdefghijklmnopqrstuvwxyz{|}~"
-- k04
def zb1__law_row : MS := (sSet 1 (e2 fMod (e2 fAdd (e2 fAdd (e2 fMul (eVar 1) (eC (.int 48271))) (eVar 2)) (eC (.int 11))) (eC (.int 2147483647))))
def zw__law_row : MS := (sSeq (sSet 1 (eC (.int 7)))
  (sSeq (sForA (eVar 0) (gN 2) zb1__law_row)
  (sRet (eNew (aClean (aCons (eVar 0) (aCons (eC (.int 0)) (aCons (eC (.int 0)) (aCons (eVar 1) aNil)))))))))
def z__law_row : List LV → LH → O LV := mDef 3 zw__law_row
-- k04
def zw__law_taken : MS := (sSeq (sIf (tOf (e2 fGt (e2 fIx (eVar 0) (eC (.int 2))) (eC (.int 0)))) (sSeq (sSet 2 (e2 fMod (e2 fIx (eVar 0) (eC (.int 2))) (eVar 1)))
  (sSeq (sItem (eVar 0) (eC (.int 2)) (e2 fDiv (e2 fIx (eVar 0) (eC (.int 2))) (eVar 1)))
  (sRet (eVar 2)))) sNil)
  (sSeq (sIf (tOf (e2 fLt (e2 fIx (eVar 0) (eC (.int 1))) (eA fLen (aCons (e2 fIx (eVar 0) (eC (.int 0))) aNil)))) (sSeq (sSet 3 (e2 fIx (e2 fIx (eVar 0) (eC (.int 0))) (e2 fIx (eVar 0) (eC (.int 1)))))
  (sSeq (sItem (eVar 0) (eC (.int 1)) (e2 fAdd (e2 fIx (eVar 0) (eC (.int 1))) (eC (.int 1))))
  (sSeq (sIf (tOf (e2 fGe (eVar 3) (e2 fPow (eC (.int 10)) (eC (.int 18))))) (sItem (eVar 0) (eC (.int 2)) (e2 fDiv (eVar 3) (eVar 1))) sNil)
  (sRet (e2 fMod (eVar 3) (eVar 1)))))) sNil)
  (sSeq (sItem (eVar 0) (eC (.int 3)) (e2 fMod (e2 fAdd (e2 fMul (e2 fIx (eVar 0) (eC (.int 3))) (eC (.int 48271))) (eC (.int 12345))) (eC (.int 2147483647))))
  (sRet (e2 fMod (e2 fDiv (e2 fIx (eVar 0) (eC (.int 3))) (eC (.int 1009))) (eVar 1))))))
def z__law_taken : List LV → LH → O LV := mDef 4 zw__law_taken
-- k04
def zw__law_signs : MS := (sSeq (sSet 0 (eC (.str " !\"#$&'()*+,-./0123456789:;<=>?@ABCDEFGHIJKLMNOPQRSTUVWXYZ[\\]^_`")))
  (sRet (e2 fAdd (eVar 0) (eC (.str "abcdefghijklmnopqrstuvwxyz{|}~")))))
def z__law_signs : List LV → LH → O LV := mDef 1 zw__law_signs
-- k04
def zb1__law_text : MS := (sSeq (sSet 4 (e2 fAdd (eVar 4) (e2 fIx (eVar 2) (e2 fMod (e2 fAdd (eVar 0) (e2 fMul (eVar 3) (eVar 5))) (eC (.int 94))))))
  (sSet 0 (e2 fDiv (eVar 0) (eC (.int 94)))))
def zw__law_text : MS := (sSeq (sSet 2 (eCall 0 z__law_signs aNil))
  (sSeq (sSet 3 (e2 fAdd (eC (.int 1)) (e2 fMod (eVar 0) (eC (.int 7)))))
  (sSeq (sSet 4 (eC (.str "")))
  (sSeq (sFor (iQ1 (aCons (eVar 1) aNil)) (gN 5) zb1__law_text)
  (sRet (eVar 4))))))
def z__law_text : List LV → LH → O LV := mDef 6 zw__law_text
-- k04
def zb1__law_pool : MS := (sSeq (sSet 3 (e2 fAdd (eC (.int 1)) (eCall 2 z__law_taken (aCons (eVar 0) (aCons (eC (.int 8)) aNil)))))
  (sMod gApp (eVar 1) (aCons (eCall 2 z__law_text (aCons (eCall 2 z__law_taken (aCons (eVar 0) (aCons (e2 fPow (eC (.int 10)) (eC (.int 17))) aNil))) (aCons (eVar 3) aNil))) aNil)))
def zb2__law_pool : MS := (sSeq (sSet 3 (eCall 2 z__law_taken (aCons (eVar 0) (aCons (eC (.int 21)) aNil))))
  (sMod gApp (eVar 4) (aCons (eCall 2 z__law_text (aCons (eCall 2 z__law_taken (aCons (eVar 0) (aCons (e2 fPow (eC (.int 10)) (eC (.int 41))) aNil))) (aCons (eVar 3) aNil))) aNil)))
def zw__law_pool : MS := (sSeq (sOwn 1 (aClean aNil))
  (sSeq (sFor (iQ1 (aCons (eC (.int 4)) aNil)) (gN 2) zb1__law_pool)
  (sSeq (sOwn 4 (aClean (aCons (eC (.str "")) aNil)))
  (sSeq (sFor (iQ1 (aCons (eC (.int 4)) aNil)) (gN 2) zb2__law_pool)
  (sFrz 4 (sFrz 1 (sRet (eTup (aCons (eVar 1) (aCons (eVar 4) aNil))))))))))
def z__law_pool : List LV → LH → O LV := mDef 5 zw__law_pool
-- k04
def zw_Shelf___init__ : MS := (sFldM ["Shelf"] "pairs" (eVar 0) (eNew (aClean aNil)))
def z_Shelf___init__ : List LV → LH → O LV := mDef 1 zw_Shelf___init__
-- k04
def zb1__law_pairs : MS := (sIf (tOr' (tNot' (tTr (e1 (fIs (isB "tuple")) (eVar 2)))) (tOr' (tOf (e2 (fEqR true) (eA fLen (aCons (eVar 2) aNil)) (eC (.int 2)))) (tOr' (tNot' (tTr (e1 (fIs (isB "str")) (e2 fIx (eVar 2) (eC (.int 0)))))) (tNot' (tTr (e1 (fIs (isB "str")) (e2 fIx (eVar 2) (eC (.int 1))))))))) (sRet (eC (.bl false))) sNil)
def zw__law_pairs : MS := (sSeq (sIf (tOr' (tNot' (tTr (e1 (fIs (isB "list")) (eVar 0)))) (tOf (e2 (fEqR true) (eA fLen (aCons (eVar 0) aNil)) (eA fLen (aCons (eVar 1) aNil))))) (sRet (eC (.bl false))) sNil)
  (sSeq (sForA (eVar 0) (gN 2) zb1__law_pairs)
  (sRet (e2 (fEqR false) (eVar 0) (eVar 1)))))
def z__law_pairs : List LV → LH → O LV := mDef 3 zw__law_pairs
-- k04
def zw_pair_weight : MS := (sRet (e2 fAdd (e2 fAdd (eA fLen (aCons (e2 fIx (eVar 0) (eC (.int 0))) aNil)) (eA fLen (aCons (e2 fIx (eVar 0) (eC (.int 1))) aNil))) (eC (.int 4))))
def z_pair_weight : List LV → LH → O LV := mDef 1 zw_pair_weight
-- k04
def zb1_Shelf_put : MS := (sAug 2 (fun i j => i - j) (eCall 1 z_pair_weight (aCons (ePop (e1 (fFld ["Shelf"] "pairs") (eVar 0))) aNil)))
def zw_Shelf_put : MS := (sSeq (sMod gIns (e1 (fFld ["Shelf"] "pairs") (eVar 0)) (aCons (eC (.int 0)) (aCons (eVar 1) aNil)))
  (sSeq (sSet 2 (eA fSum (aCons (eFrz (aCompA (e1 (fFld ["Shelf"] "pairs") (eVar 0)) (gN 3) tYes' (eCall 1 z_pair_weight (aCons (eVar 3) aNil)) [3])) aNil)))
  (sWhile (mInt 2) (tOf (e2 fGt (eVar 2) (eC (.int 96)))) zb1_Shelf_put)))
def z_Shelf_put : List LV → LH → O LV := mDef 4 zw_Shelf_put
-- k04
def zb1__law_put : MS := (sSeq (sSet 3 (e2 fAdd (e2 fAdd (e2 fAdd (eVar 3) (eA fLen (aCons (e2 fIx (e2 fIx (eVar 2) (eVar 4)) (eC (.int 0))) aNil))) (eA fLen (aCons (e2 fIx (e2 fIx (eVar 2) (eVar 4)) (eC (.int 1))) aNil))) (eC (.int 4))))
  (sIf (tOf (e2 fGt (eVar 3) (eC (.int 96)))) (sRet (eFrz (aSl (eVar 2) oNone (oSome (eVar 4))))) sNil))
def zw__law_put : MS := (sSeq (sSet 2 (e2 fAdd (eFrz (aClean (aCons (eVar 1) aNil))) (eVar 0)))
  (sSeq (sSet 3 (eC (.int 0)))
  (sSeq (sFor (iQ1 (aCons (eA fLen (aCons (eVar 2) aNil)) aNil)) (gN 4) zb1__law_put)
  (sRet (eVar 2)))))
def z__law_put : List LV → LH → O LV := mDef 5 zw__law_put
-- k04
def zb1_law_k04 : MS := (sSeq (sSet 6 (eCall 2 z__law_taken (aCons (eVar 1) (aCons (e2 fPow (eC (.int 10)) (eC (.int 9))) aNil))))
  (sSeq (sSet 7 (eTup (aCons (e2 fIx (e2 fIx (eVar 2) (eC (.int 0))) (e2 fMod (eVar 6) (eC (.int 4)))) (aCons (e2 fIx (e2 fIx (eVar 2) (eC (.int 1))) (e2 fMod (e2 fDiv (eVar 6) (eC (.int 4))) (eC (.int 5)))) aNil))))
  (sSeq (sIf (tOf (e2 (fEqR false) (e2 fMod (e2 fDiv (eVar 6) (eC (.int 20))) (eC (.int 3))) (eC (.int 0)))) (sSeq (sSet 8 (eTup (aCons (e2 fAdd (eC (.int 1)) (e2 fMod (e2 fDiv (eVar 6) (eC (.int 60))) (eC (.int 8)))) (aCons (e2 fMod (e2 fDiv (eVar 6) (eC (.int 480))) (eC (.int 21))) aNil))))
  (sSeq (sSet 9 (eCall 2 z__law_text (aCons (eCall 2 z__law_taken (aCons (eVar 1) (aCons (e2 fPow (eC (.int 10)) (eC (.int 17))) aNil))) (aCons (e2 fIx (eVar 8) (eC (.int 0))) aNil))))
  (sSet 7 (eTup (aCons (eVar 9) (aCons (eCall 2 z__law_text (aCons (eCall 2 z__law_taken (aCons (eVar 1) (aCons (e2 fPow (eC (.int 10)) (eC (.int 41))) aNil))) (aCons (e2 fIx (eVar 8) (eC (.int 1))) aNil))) aNil)))))) sNil)
  (sSeq (sDrop (eMeth "Shelf" "put" 2 z_Shelf_put (eVar 3) (aCons (eVar 7) aNil)))
  (sSeq (sSet 4 (eCall 2 z__law_put (aCons (eVar 4) (aCons (eVar 7) aNil))))
  (sIf (tNot' (tTr (eCall 2 z__law_pairs (aCons (e1 (fFld ["Shelf"] "pairs") (eVar 3)) (aCons (eVar 4) aNil))))) (sRet (eC (.bl false))) sNil))))))
def zw_law_k04 : MS := (sSeq (sSet 1 (eCall 1 z__law_row (aCons (eVar 0) aNil)))
  (sSeq (sSet 2 (eCall 1 z__law_pool (aCons (eVar 1) aNil)))
  (sSeq (sSet 3 (eMake "Shelf" 1 z_Shelf___init__ aNil))
  (sSeq (sSet 4 (eFrz (aClean aNil)))
  (sSeq (sIf (tNot' (tTr (eCall 2 z__law_pairs (aCons (e1 (fFld ["Shelf"] "pairs") (eVar 3)) (aCons (eVar 4) aNil))))) (sRet (eC (.bl false))) sNil)
  (sSeq (sFor (iQ1 (aCons (e2 fAdd (eC (.int 1)) (eCall 2 z__law_taken (aCons (eVar 1) (aCons (e2 fIx (eFrz (aClean (aCons (eC (.int 12)) (aCons (eC (.int 50)) aNil)))) (e2 fDiv (eCall 2 z__law_taken (aCons (eVar 1) (aCons (eC (.int 3)) aNil))) (eC (.int 2)))) aNil)))) aNil)) (gN 5) zb1_law_k04)
  (sSeq (sSet 10 (eMake "Shelf" 1 z_Shelf___init__ aNil))
  (sRet (eAnd (eCall 2 z__law_pairs (aCons (e1 (fFld ["Shelf"] "pairs") (eVar 10)) (aCons (eFrz (aClean aNil)) aNil))) (eCall 2 z__law_pairs (aCons (e1 (fFld ["Shelf"] "pairs") (eVar 3)) (aCons (eVar 4) aNil))))))))))))
def z_law_k04 : List LV → LH → O LV := mDef 11 zw_law_k04
-- k05
def zb1__law_head : MS := (sSeq (sMod gApp (eVar 2) (aCons (eTup (aCons (e2 fIx (e2 fIx (eVar 1) (eC (.int 0))) (e2 fMod (e2 fAdd (eVar 3) (eVar 5)) (eC (.int 4)))) (aCons (e2 fIx (e2 fIx (eVar 1) (eC (.int 1))) (e2 fMod (e2 fAdd (e2 fDiv (eVar 3) (eC (.int 4))) (e2 fMul (eVar 5) (eVar 5))) (eC (.int 5)))) aNil))) aNil))
  (sSet 3 (e2 fDiv (eVar 3) (eC (.int 20)))))
def zw__law_head : MS := (sSeq (sOwn 2 (aClean aNil))
  (sSeq (sSet 3 (eCall 2 z__law_taken (aCons (eVar 0) (aCons (e2 fPow (eC (.int 10)) (eC (.int 9))) aNil))))
  (sSeq (sSet 4 (e2 fMod (eVar 3) (eC (.int 7))))
  (sSeq (sSet 3 (e2 fDiv (eVar 3) (eC (.int 7))))
  (sSeq (sFor (iQ1 (aCons (eVar 4) aNil)) (gN 5) zb1__law_head)
  (sFrz 2 (sRet (eVar 2))))))))
def z__law_head : List LV → LH → O LV := mDef 6 zw__law_head
-- k05
def zw_text_numbers : MS := (sRet (e2 fAdd (eFrz (aClean (aCons (eA fLen (aCons (eVar 0) aNil)) aNil))) (eFrz (aCompA (eVar 0) (gN 1) tYes' (eMt fSIdx (eC (.str v_SIGNS)) (aCons (eVar 1) aNil)) [1]))))
def z_text_numbers : List LV → LH → O LV := mDef 2 zw_text_numbers
-- k05
def zw_told_pair : MS := (sSeq (sIf (tOf (e2 (fInR false) (eVar 1) (e1 (fFld ["Shelf"] "pairs") (eVar 0)))) (sRet (eFrz (aClean (aCons (eC (.int 0)) (aCons (eLMt fLIdxR (e1 (fFld ["Shelf"] "pairs") (eVar 0)) (aCons (eVar 1) aNil)) aNil))))) sNil)
  (sSeq (sAsg (eVar 1) (gT 2 (gsCons (gN 2) (gsCons (gN 3) gsNil))))
  (sSeq (sSet 4 (eFrz (aCompA (e1 (fFld ["Shelf"] "pairs") (eVar 0)) (gN 6) tYes' (e2 fIx (eVar 6) (eC (.int 0))) [6])))
  (sSeq (sIf (tOf (e2 (fInR false) (eVar 2) (eVar 4))) (sSet 5 (eFrz (aClean (aCons (eC (.int 1)) (aCons (eLMt fLIdxR (eVar 4) (aCons (eVar 2) aNil)) aNil))))) (sSet 5 (e2 fAdd (eFrz (aClean (aCons (eC (.int 2)) aNil))) (eCall 1 z_text_numbers (aCons (eVar 2) aNil)))))
  (sSeq (sDrop (eMeth "Shelf" "put" 2 z_Shelf_put (eVar 0) (aCons (eVar 1) aNil)))
  (sRet (e2 fAdd (eVar 5) (eCall 1 z_text_numbers (aCons (eVar 3) aNil)))))))))
def z_told_pair : List LV → LH → O LV := mDef 7 zw_told_pair
-- k05
def zb1_told_head : MS := (sExt (eVar 2) (eCall 2 z_told_pair (aCons (eVar 0) (aCons (eVar 3) aNil))))
def zw_told_head : MS := (sSeq (sOwn 2 (aClean aNil))
  (sSeq (sForA (eVar 1) (gN 3) zb1_told_head)
  (sFrz 2 (sRet (eVar 2)))))
def z_told_head : List LV → LH → O LV := mDef 4 zw_told_head
-- k05
def zw__law_told : MS := (sRet (e2 fAdd (eFrz (aClean (aCons (eA fLen (aCons (eVar 0) aNil)) aNil))) (eFrz (aCompA (eVar 0) (gN 1) tYes' (eMt fSIdx (eCall 0 z__law_signs aNil) (aCons (eVar 1) aNil)) [1]))))
def z__law_told : List LV → LH → O LV := mDef 2 zw__law_told
-- k05
def zb1__law_coded : MS := (sSeq (sSet 4 (eFrz (aCompA (eVar 0) (gN 5) tYes' (e2 fIx (eVar 5) (eC (.int 0))) [5])))
  (sSeq (sIf (tOf (e2 (fInR false) (eVar 3) (eVar 0))) (sSet 2 (e2 fAdd (eVar 2) (eFrz (aClean (aCons (eC (.int 0)) (aCons (eLMt fLIdxR (eVar 0) (aCons (eVar 3) aNil)) aNil)))))) (sIf (tOf (e2 (fInR false) (e2 fIx (eVar 3) (eC (.int 0))) (eVar 4))) (sSet 2 (e2 fAdd (e2 fAdd (eVar 2) (eFrz (aClean (aCons (eC (.int 1)) (aCons (eLMt fLIdxR (eVar 4) (aCons (e2 fIx (eVar 3) (eC (.int 0))) aNil)) aNil))))) (eCall 1 z__law_told (aCons (e2 fIx (eVar 3) (eC (.int 1))) aNil)))) (sSet 2 (e2 fAdd (e2 fAdd (e2 fAdd (eVar 2) (eFrz (aClean (aCons (eC (.int 2)) aNil)))) (eCall 1 z__law_told (aCons (e2 fIx (eVar 3) (eC (.int 0))) aNil))) (eCall 1 z__law_told (aCons (e2 fIx (eVar 3) (eC (.int 1))) aNil))))))
  (sIf (tOf (e2 (fInR true) (eVar 3) (eVar 0))) (sSet 0 (eCall 2 z__law_put (aCons (eVar 0) (aCons (eVar 3) aNil)))) sNil)))
def zw__law_coded : MS := (sSeq (sSet 2 (eFrz (aClean aNil)))
  (sSeq (sForA (eVar 1) (gN 3) zb1__law_coded)
  (sRet (eTup (aCons (eVar 2) (aCons (eVar 0) aNil))))))
def z__law_coded : List LV → LH → O LV := mDef 6 zw__law_coded
-- k05
def zw__law_whole : MS := (sRet (eAnd (e1 (fIs (isB "int")) (eVar 0)) (eNot (e1 (fIs (isB "bool")) (eVar 0)))))
def z__law_whole : List LV → LH → O LV := mDef 1 zw__law_whole
-- k05
def zb1__law_list : MS := (sIf (tNot' (tTr (eCall 1 z__law_whole (aCons (eVar 2) aNil)))) (sRet (eC (.bl false))) sNil)
def zw__law_list : MS := (sSeq (sIf (tOr' (tNot' (tTr (e1 (fIs (isB "list")) (eVar 0)))) (tOf (e2 (fEqR true) (eA fLen (aCons (eVar 0) aNil)) (eA fLen (aCons (eVar 1) aNil))))) (sRet (eC (.bl false))) sNil)
  (sSeq (sForA (eVar 0) (gN 2) zb1__law_list)
  (sRet (e2 (fEqR false) (eVar 0) (eVar 1)))))
def z__law_list : List LV → LH → O LV := mDef 3 zw__law_list
-- k05
def zb1_law_k05 : MS := (sSeq (sSet 6 (eCall 2 z__law_head (aCons (eVar 1) (aCons (eVar 2) aNil))))
  (sSeq (sSet 7 (eA fInt (aCons (e2 (fEqR false) (eCall 2 z__law_taken (aCons (eVar 1) (aCons (eC (.int 4)) aNil))) (eC (.int 3))) aNil)))
  (sSeq (sSet 8 (eFrz (aList (aCons (eVar 6) aNil))))
  (sSeq (sSet 9 (eCall 2 z_told_head (aCons (e2 fIx (eVar 3) (eVar 7)) (aCons (eVar 8) aNil))))
  (sSeq (sSet 10 (eCall 2 z__law_coded (aCons (e2 fIx (eVar 4) (eVar 7)) (aCons (eVar 6) aNil))))
  (sSeq (sItem (eVar 4) (eVar 7) (e2 fIx (eVar 10) (eC (.int 1))))
  (sSeq (sIf (tOr' (tNot' (tTr (eCall 2 z__law_list (aCons (eVar 9) (aCons (e2 fIx (eVar 10) (eC (.int 0))) aNil))))) (tNot' (tTr (eCall 2 z__law_pairs (aCons (eVar 8) (aCons (eVar 6) aNil)))))) (sRet (eC (.bl false))) sNil)
  (sIf (tOr' (tNot' (tTr (eCall 2 z__law_pairs (aCons (e1 (fFld ["Shelf"] "pairs") (e2 fIx (eVar 3) (eC (.int 0)))) (aCons (e2 fIx (eVar 4) (eC (.int 0))) aNil))))) (tNot' (tTr (eCall 2 z__law_pairs (aCons (e1 (fFld ["Shelf"] "pairs") (e2 fIx (eVar 3) (eC (.int 1)))) (aCons (e2 fIx (eVar 4) (eC (.int 1))) aNil)))))) (sRet (eC (.bl false))) sNil))))))))
def zw_law_k05 : MS := (sSeq (sSet 1 (eCall 1 z__law_row (aCons (eVar 0) aNil)))
  (sSeq (sSet 2 (eCall 1 z__law_pool (aCons (eVar 1) aNil)))
  (sSeq (sSet 3 (eFrz (aClean (aCons (eMake "Shelf" 1 z_Shelf___init__ aNil) (aCons (eMake "Shelf" 1 z_Shelf___init__ aNil) aNil)))))
  (sSeq (sSet 4 (eNew (aClean (aCons (eFrz (aClean aNil)) (aCons (eFrz (aClean aNil)) aNil)))))
  (sSeq (sFor (iQ1 (aCons (e2 fAdd (eC (.int 1)) (eCall 2 z__law_taken (aCons (eVar 1) (aCons (e2 fIx (eFrz (aClean (aCons (eC (.int 5)) (aCons (eC (.int 20)) aNil)))) (e2 fDiv (eCall 2 z__law_taken (aCons (eVar 1) (aCons (eC (.int 3)) aNil))) (eC (.int 2)))) aNil)))) aNil)) (gN 5) zb1_law_k05)
  (sRet (eC (.bl true))))))))
def z_law_k05 : List LV → LH → O LV := mDef 11 zw_law_k05
-- k06
def zw_text_size : MS := (sSeq (sIf (tNot' (tOf (eChain fLe fLt (eC (.int 0)) (eVar 1) (eA fLen (aCons (eVar 0) aNil))))) (sRaise "BadHead") sNil)
  (sSeq (sIf (tNot' (tOf (eChain fLe fLe (eC (.int 0)) (e2 fIx (eVar 0) (eVar 1)) (eC (.int 20))))) (sRaise "BadHead") sNil)
  (sRet (e2 fIx (eVar 0) (eVar 1)))))
def z_text_size : List LV → LH → O LV := mDef 2 zw_text_size
-- k06
def zw_sign_of : MS := (sSeq (sIf (tNot' (tOf (eChain fLe fLt (eC (.int 0)) (eVar 0) (eA fLen (aCons (eC (.str v_SIGNS)) aNil))))) (sRaise "BadHead") sNil)
  (sRet (e2 fIx (eC (.str v_SIGNS)) (eVar 0))))
def z_sign_of : List LV → LH → O LV := mDef 1 zw_sign_of
-- k06
def zw_text_at : MS := (sSeq (sSet 2 (eCall 2 z_text_size (aCons (eVar 0) (aCons (eVar 1) aNil))))
  (sSeq (sSet 3 (e2 fAdd (eVar 1) (eC (.int 1))))
  (sSeq (sSet 4 (e2 fAdd (eVar 3) (eVar 2)))
  (sSeq (sIf (tOf (e2 fGt (eVar 4) (eA fLen (aCons (eVar 0) aNil)))) (sRaise "BadHead") sNil)
  (sSeq (sSet 5 (eMt fJoin (eC (.str "")) (aCons (eFrz (aCompX (iA (eFrz (aSl (eVar 0) (oSome (eVar 3)) (oSome (eVar 4))))) (gN 6) tYes' (eCall 1 z_sign_of (aCons (eVar 6) aNil)) [6])) aNil)))
  (sRet (eTup (aCons (eVar 5) (aCons (eVar 4) aNil)))))))))
def z_text_at : List LV → LH → O LV := mDef 7 zw_text_at
-- k06
def zw_kept_pair : MS := (sSeq (sIf (tOf (e2 fGe (eVar 2) (eA fLen (aCons (eVar 1) aNil)))) (sRaise "BadHead") sNil)
  (sSeq (sSet 3 (e2 fIx (eVar 1) (eVar 2)))
  (sSeq (sIf (tNot' (tOf (eChain fLe fLt (eC (.int 0)) (eVar 3) (eA fLen (aCons (e1 (fFld ["Shelf"] "pairs") (eVar 0)) aNil))))) (sRaise "BadHead") sNil)
  (sRet (e2 fIx (e1 (fFld ["Shelf"] "pairs") (eVar 0)) (eVar 3))))))
def z_kept_pair : List LV → LH → O LV := mDef 4 zw_kept_pair
-- k06
def zw_name_at : MS := (sSeq (sAsg (eCall 2 z_text_at (aCons (eVar 0) (aCons (eVar 1) aNil))) (gT 2 (gsCons (gN 2) (gsCons (gN 3) gsNil))))
  (sSeq (sIf (tNot' (tOf (eChain fLe fLe (eC (.int 1)) (eA fLen (aCons (eVar 2) aNil)) (eC (.int 8))))) (sRaise "BadHead") sNil)
  (sRet (eTup (aCons (eVar 2) (aCons (eVar 3) aNil))))))
def z_name_at : List LV → LH → O LV := mDef 4 zw_name_at
-- k06
def zw_pair_at : MS := (sSeq (sSet 3 (e2 fIx (eVar 1) (eVar 2)))
  (sSeq (sIf (tOf (e2 (fEqR false) (eVar 3) (eC (.int 0)))) (sRet (eTup (aCons (eCall 3 z_kept_pair (aCons (eVar 0) (aCons (eVar 1) (aCons (e2 fAdd (eVar 2) (eC (.int 1))) aNil)))) (aCons (e2 fAdd (eVar 2) (eC (.int 2))) aNil)))) sNil)
  (sSeq (sIf (tOf (e2 (fEqR false) (eVar 3) (eC (.int 1)))) (sSeq (sSet 4 (e2 fIx (eCall 3 z_kept_pair (aCons (eVar 0) (aCons (eVar 1) (aCons (e2 fAdd (eVar 2) (eC (.int 1))) aNil)))) (eC (.int 0))))
  (sSet 5 (e2 fAdd (eVar 2) (eC (.int 2))))) (sIf (tOf (e2 (fEqR false) (eVar 3) (eC (.int 2)))) (sAsg (eCall 2 z_name_at (aCons (eVar 1) (aCons (e2 fAdd (eVar 2) (eC (.int 1))) aNil))) (gT 2 (gsCons (gN 4) (gsCons (gN 5) gsNil)))) (sRaise "BadHead")))
  (sSeq (sAsg (eCall 2 z_text_at (aCons (eVar 1) (aCons (eVar 5) aNil))) (gT 2 (gsCons (gN 6) (gsCons (gN 5) gsNil))))
  (sSeq (sSet 7 (eTup (aCons (eVar 4) (aCons (eVar 6) aNil))))
  (sSeq (sDrop (eMeth "Shelf" "put" 2 z_Shelf_put (eVar 0) (aCons (eVar 7) aNil)))
  (sRet (eTup (aCons (eVar 7) (aCons (eVar 5) aNil))))))))))
def z_pair_at : List LV → LH → O LV := mDef 8 zw_pair_at
-- k06
def zb1_read_head : MS := (sSeq (sIf (tOf (e2 (fEqR false) (eA fLen (aCons (eVar 2) aNil)) (eC (.int 6)))) (sRaise "BadHead") sNil)
  (sSeq (sAsg (eCall 3 z_pair_at (aCons (eVar 0) (aCons (eVar 1) (aCons (eVar 3) aNil)))) (gT 2 (gsCons (gN 4) (gsCons (gN 3) gsNil))))
  (sMod gApp (eVar 2) (aCons (eVar 4) aNil))))
def zw_read_head : MS := (sSeq (sSet 2 (eNew (aClean aNil)))
  (sSeq (sSet 3 (eC (.int 0)))
  (sSeq (sWhile (mLen 1) (tOf (e2 fLt (eVar 3) (eA fLen (aCons (eVar 1) aNil)))) zb1_read_head)
  (sRet (eVar 2)))))
def z_read_head : List LV → LH → O LV := mDef 5 zw_read_head
-- k06
def zb1_law_k06 : MS := (sSeq (sSet 6 (eCall 2 z__law_head (aCons (eVar 1) (aCons (eVar 2) aNil))))
  (sSeq (sSet 7 (eCall 2 z_told_head (aCons (eVar 3) (aCons (eFrz (aList (aCons (eVar 6) aNil))) aNil))))
  (sSeq (sSet 8 (eFrz (aList (aCons (eVar 7) aNil))))
  (sSeq (sSet 9 (eCall 2 z_read_head (aCons (eVar 4) (aCons (eVar 8) aNil))))
  (sSeq (sIf (tOr' (tNot' (tTr (eCall 2 z__law_pairs (aCons (eVar 9) (aCons (eVar 6) aNil))))) (tNot' (tTr (eCall 2 z__law_list (aCons (eVar 8) (aCons (eVar 7) aNil)))))) (sRet (eC (.bl false))) sNil)
  (sSeq (sMod gApp (eVar 9) (aCons (eTup (aCons (eC (.str "x")) (aCons (eC (.str "y")) aNil))) aNil))
  (sIf (tNot' (tTr (eCall 2 z__law_pairs (aCons (e1 (fFld ["Shelf"] "pairs") (eVar 4)) (aCons (eFrz (aList (aCons (e1 (fFld ["Shelf"] "pairs") (eVar 3)) aNil))) aNil))))) (sRet (eC (.bl false))) sNil)))))))
def zw_law_k06 : MS := (sSeq (sSet 1 (eCall 1 z__law_row (aCons (eVar 0) aNil)))
  (sSeq (sSet 2 (eCall 1 z__law_pool (aCons (eVar 1) aNil)))
  (sSeq (sSet 3 (eMake "Shelf" 1 z_Shelf___init__ aNil))
  (sSeq (sSet 4 (eMake "Shelf" 1 z_Shelf___init__ aNil))
  (sSeq (sFor (iQ1 (aCons (e2 fAdd (eC (.int 1)) (eCall 2 z__law_taken (aCons (eVar 1) (aCons (e2 fIx (eFrz (aClean (aCons (eC (.int 6)) (aCons (eC (.int 20)) aNil)))) (e2 fDiv (eCall 2 z__law_taken (aCons (eVar 1) (aCons (eC (.int 3)) aNil))) (eC (.int 2)))) aNil)))) aNil)) (gN 5) zb1_law_k06)
  (sRet (eC (.bl true))))))))
def z_law_k06 : List LV → LH → O LV := mDef 10 zw_law_k06
-- k07
def zb1__law_numbers_by : MS := (sSeq (sSet 5 (eCall 2 z__law_taken (aCons (eVar 0) (aCons (eC (.int 3)) aNil))))
  (sSeq (sSet 6 (eCall 2 z__law_taken (aCons (eVar 0) (aCons (e2 fPow (eC (.int 10)) (eC (.int 9))) aNil))))
  (sSeq (sSet 7 (e2 fIx (eFrz (aClean (aCons (e2 fIx (e2 fIx (eVar 1) (eC (.int 1))) (e2 fMod (eVar 6) (eC (.int 5)))) (aCons (eCall 2 z__law_text (aCons (eCall 2 z__law_taken (aCons (eVar 0) (aCons (e2 fPow (eC (.int 10)) (eC (.int 41))) aNil))) (aCons (e2 fMod (e2 fDiv (eVar 6) (eC (.int 5))) (eC (.int 22))) aNil))) aNil)))) (eA fInt (aCons (e2 (fEqR false) (e2 fMod (eVar 6) (eC (.int 3))) (eC (.int 1))) aNil))))
  (sSeq (sIf (tOf (e2 (fEqR false) (eVar 5) (eC (.int 0)))) (sSet 3 (e2 fAdd (eVar 3) (eFrz (aClean (aCons (eC (.int 0)) (aCons (e2 fMod (eVar 6) (e2 fAdd (eVar 2) (eC (.int 2)))) aNil)))))) (sIf (tOf (e2 (fEqR false) (eVar 5) (eC (.int 1)))) (sSet 3 (e2 fAdd (e2 fAdd (eVar 3) (eFrz (aClean (aCons (eC (.int 1)) (aCons (e2 fMod (eVar 6) (e2 fAdd (eVar 2) (eC (.int 2)))) aNil))))) (eCall 1 z__law_told (aCons (eVar 7) aNil)))) (sSeq (sSet 8 (e2 fIx (eFrz (aClean (aCons (e2 fIx (e2 fIx (eVar 1) (eC (.int 0))) (e2 fMod (eVar 6) (eC (.int 4)))) (aCons (eCall 2 z__law_text (aCons (eCall 2 z__law_taken (aCons (eVar 0) (aCons (e2 fPow (eC (.int 10)) (eC (.int 17))) aNil))) (aCons (e2 fMod (e2 fDiv (eVar 6) (eC (.int 7))) (eC (.int 10))) aNil))) aNil)))) (eA fInt (aCons (e2 (fEqR false) (e2 fMod (eVar 6) (eC (.int 4))) (eC (.int 2))) aNil))))
  (sSet 3 (e2 fAdd (e2 fAdd (e2 fAdd (eVar 3) (eFrz (aClean (aCons (eC (.int 2)) aNil)))) (eCall 1 z__law_told (aCons (eVar 8) aNil))) (eCall 1 z__law_told (aCons (eVar 7) aNil)))))))
  (sSet 2 (e2 fAdd (eVar 2) (eA fInt (aCons (e2 fGt (eVar 5) (eC (.int 0))) aNil))))))))
def zw__law_numbers_by : MS := (sSeq (sSet 3 (eFrz (aClean aNil)))
  (sSeq (sFor (iQ1 (aCons (eCall 2 z__law_taken (aCons (eVar 0) (aCons (eC (.int 8)) aNil))) aNil)) (gN 4) zb1__law_numbers_by)
  (sRet (eVar 3))))
def z__law_numbers_by : List LV → LH → O LV := mDef 9 zw__law_numbers_by
-- k07
def zb1__law_text_of : MS := (sSeq (sIf (tOf (e2 fGt (eVar 3) (eC (.int 93)))) (sRet (eC .non)) sNil)
  (sSet 2 (e2 fAdd (eVar 2) (e2 fIx (eCall 0 z__law_signs aNil) (eVar 3)))))
def zw__law_text_of : MS := (sSeq (sIf (tOr' (tOf (e2 fGe (eVar 1) (eA fLen (aCons (eVar 0) aNil)))) (tOr' (tOf (e2 fGt (e2 fIx (eVar 0) (eVar 1)) (eC (.int 20)))) (tOf (e2 fGe (e2 fAdd (eVar 1) (e2 fIx (eVar 0) (eVar 1))) (eA fLen (aCons (eVar 0) aNil)))))) (sRet (eC .non)) sNil)
  (sSeq (sSet 2 (eC (.str "")))
  (sSeq (sForA (eFrz (aSl (eVar 0) (oSome (e2 fAdd (eVar 1) (eC (.int 1)))) (oSome (e2 fAdd (e2 fAdd (eVar 1) (eC (.int 1))) (e2 fIx (eVar 0) (eVar 1)))))) (gN 3) zb1__law_text_of)
  (sRet (eVar 2)))))
def z__law_text_of : List LV → LH → O LV := mDef 4 zw__law_text_of
-- k07
def zw__law_pair_of : MS := (sSeq (sIf (tOf (e2 (fEqR false) (e2 fIx (eVar 1) (eVar 2)) (eC (.int 2)))) (sSeq (sSet 3 (eCall 2 z__law_text_of (aCons (eVar 1) (aCons (e2 fAdd (eVar 2) (eC (.int 1))) aNil))))
  (sSeq (sIf (tOr' (tOf (e2 (fIsN false) (eVar 3) (eC .non))) (tOr' (tOf (e2 (fEqR false) (eVar 3) (eC (.str "")))) (tOf (e2 fGt (eA fLen (aCons (eVar 3) aNil)) (eC (.int 8)))))) (sRet (eC .non)) sNil)
  (sSeq (sSet 4 (eCall 2 z__law_text_of (aCons (eVar 1) (aCons (e2 fAdd (e2 fAdd (eVar 2) (eC (.int 2))) (eA fLen (aCons (eVar 3) aNil))) aNil))))
  (sSeq (sIf (tOf (e2 (fIsN false) (eVar 4) (eC .non))) (sRet (eC .non)) sNil)
  (sRet (eTup (aCons (eVar 3) (aCons (eVar 4) (aCons (e2 fAdd (e2 fAdd (e2 fAdd (eVar 2) (eC (.int 3))) (eA fLen (aCons (eVar 3) aNil))) (eA fLen (aCons (eVar 4) aNil))) aNil))))))))) sNil)
  (sSeq (sIf (tOr' (tOf (e2 fGt (e2 fIx (eVar 1) (eVar 2)) (eC (.int 2)))) (tOr' (tOf (e2 (fEqR false) (e2 fAdd (eVar 2) (eC (.int 1))) (eA fLen (aCons (eVar 1) aNil)))) (tOf (e2 fGe (e2 fIx (eVar 1) (e2 fAdd (eVar 2) (eC (.int 1)))) (eA fLen (aCons (eVar 0) aNil)))))) (sRet (eC .non)) sNil)
  (sSeq (sSet 5 (e2 fIx (eVar 0) (e2 fIx (eVar 1) (e2 fAdd (eVar 2) (eC (.int 1))))))
  (sSeq (sIf (tOf (e2 (fEqR false) (e2 fIx (eVar 1) (eVar 2)) (eC (.int 0)))) (sRet (eTup (aCons (e2 fIx (eVar 5) (eC (.int 0))) (aCons (e2 fIx (eVar 5) (eC (.int 1))) (aCons (e2 fAdd (eVar 2) (eC (.int 2))) aNil))))) sNil)
  (sSeq (sSet 4 (eCall 2 z__law_text_of (aCons (eVar 1) (aCons (e2 fAdd (eVar 2) (eC (.int 2))) aNil))))
  (sSeq (sIf (tOf (e2 (fIsN false) (eVar 4) (eC .non))) (sRet (eC .non)) sNil)
  (sRet (eTup (aCons (e2 fIx (eVar 5) (eC (.int 0))) (aCons (eVar 4) (aCons (e2 fAdd (e2 fAdd (eVar 2) (eC (.int 3))) (eA fLen (aCons (eVar 4) aNil))) aNil)))))))))))
def z__law_pair_of : List LV → LH → O LV := mDef 6 zw__law_pair_of
-- k07
def zb1__law_read : MS := (sSeq (sSet 4 (eCall 3 z__law_pair_of (aCons (eVar 0) (aCons (eVar 1) (aCons (eVar 3) aNil)))))
  (sSeq (sIf (tOr' (tOf (e2 (fIsN false) (eVar 4) (eC .non))) (tOf (e2 (fEqR false) (eA fLen (aCons (eVar 2) aNil)) (eC (.int 6))))) (sRet (eC .non)) sNil)
  (sSeq (sMod gApp (eVar 2) (aCons (eTup (aCons (e2 fIx (eVar 4) (eC (.int 0))) (aCons (e2 fIx (eVar 4) (eC (.int 1))) aNil))) aNil))
  (sSeq (sIf (tOf (e2 (fEqR true) (e2 fIx (eVar 1) (eVar 3)) (eC (.int 0)))) (sSet 0 (eCall 2 z__law_put (aCons (eVar 0) (aCons (eTup (aCons (e2 fIx (eVar 4) (eC (.int 0))) (aCons (e2 fIx (eVar 4) (eC (.int 1))) aNil))) aNil)))) sNil)
  (sSet 3 (e2 fIx (eVar 4) (eC (.int 2))))))))
def zw__law_read : MS := (sSeq (sOwn 2 (aClean aNil))
  (sSeq (sSet 3 (eC (.int 0)))
  (sSeq (sWhile (mLen 1) (tOf (e2 fLt (eVar 3) (eA fLen (aCons (eVar 1) aNil)))) zb1__law_read)
  (sFrz 2 (sRet (eTup (aCons (eVar 2) (aCons (eVar 0) aNil))))))))
def z__law_read : List LV → LH → O LV := mDef 5 zw__law_read
-- k07
def zw__law_refused : MS := (sSeq (sTryAs 2 [("BadHead", [])] (fun _ => true) (sDrop (eCall 2 z_read_head (aCons (eVar 0) (aCons (eVar 1) aNil)))) (fun c ns vs => (sRet (eAnd (eC (.bl true)) (eAnd (eC (.bl true)) (eC (.bl true)))))))
  (sRet (eC (.bl false))))
def z__law_refused : List LV → LH → O LV := mDef 3 zw__law_refused
-- k07
def zb1_law_k07 : MS := (sSeq (sSet 6 (eCall 2 z__law_taken (aCons (eVar 1) (aCons (eC (.int 20)) aNil))))
  (sSeq (sDrop (eMeth "Shelf" "put" 2 z_Shelf_put (eVar 3) (aCons (eTup (aCons (e2 fIx (e2 fIx (eVar 2) (eC (.int 0))) (e2 fMod (eVar 6) (eC (.int 4)))) (aCons (e2 fIx (e2 fIx (eVar 2) (eC (.int 1))) (e2 fDiv (eVar 6) (eC (.int 4)))) aNil))) aNil)))
  (sSet 4 (eCall 2 z__law_put (aCons (eVar 4) (aCons (eTup (aCons (e2 fIx (e2 fIx (eVar 2) (eC (.int 0))) (e2 fMod (eVar 6) (eC (.int 4)))) (aCons (e2 fIx (e2 fIx (eVar 2) (eC (.int 1))) (e2 fDiv (eVar 6) (eC (.int 4)))) aNil))) aNil))))))
def zw_law_k07 : MS := (sSeq (sSet 1 (eCall 1 z__law_row (aCons (eVar 0) aNil)))
  (sSeq (sSet 2 (eCall 1 z__law_pool (aCons (eVar 1) aNil)))
  (sSeq (sSet 3 (eMake "Shelf" 1 z_Shelf___init__ aNil))
  (sSeq (sSet 4 (eFrz (aClean aNil)))
  (sSeq (sFor (iQ1 (aCons (eCall 2 z__law_taken (aCons (eVar 1) (aCons (e2 fIx (eFrz (aClean (aCons (eC (.int 7)) (aCons (eC (.int 20)) aNil)))) (e2 fDiv (eCall 2 z__law_taken (aCons (eVar 1) (aCons (eC (.int 3)) aNil))) (eC (.int 2)))) aNil))) aNil)) (gN 5) zb1_law_k07)
  (sSeq (sSet 7 (eCall 2 z__law_taken (aCons (eVar 1) (aCons (eC (.int 6)) aNil))))
  (sSeq (sSet 8 (eCall 2 z__law_taken (aCons (eVar 1) (aCons (e2 fPow (eC (.int 10)) (eC (.int 9))) aNil))))
  (sSeq (sSet 9 (eCall 3 z__law_numbers_by (aCons (eVar 1) (aCons (eVar 2) (aCons (eA fLen (aCons (eVar 4) aNil)) aNil)))))
  (sSeq (sIf (tAnd' (tOf (e2 (fEqR true) (eVar 9) (eFrz (aClean aNil)))) (tOf (e2 fLt (eVar 7) (eC (.int 3))))) (sSeq (sSet 10 (e2 fMod (eVar 8) (eA fLen (aCons (eVar 9) aNil))))
  (sSet 9 (e2 fAdd (e2 fAdd (eFrz (aSl (eVar 9) oNone (oSome (eVar 10)))) (e2 fIx (eFrz (aClean (aCons (eFrz (aClean (aCons (e2 fMod (e2 fDiv (eVar 8) (eC (.int 256))) (eC (.int 256))) aNil))) (aCons (eFrz (aClean aNil)) (aCons (e2 fRep (eFrz (aClean (aCons (e2 fIx (eVar 9) (eVar 10)) aNil))) (eC (.int 2))) aNil))))) (eVar 7))) (eFrz (aSl (eVar 9) (oSome (e2 fAdd (eVar 10) (eC (.int 1)))) oNone))))) sNil)
  (sSeq (sSet 11 (eCall 2 z__law_read (aCons (eVar 4) (aCons (eVar 9) aNil))))
  (sSeq (sIf (tOf (e2 (fIsN false) (eVar 11) (eC .non))) (sRet (eCall 2 z__law_refused (aCons (eVar 3) (aCons (eVar 9) aNil)))) sNil)
  (sSeq (sSet 12 (eCall 2 z_read_head (aCons (eVar 3) (aCons (eFrz (aList (aCons (eVar 9) aNil))) aNil))))
  (sRet (eAnd (eCall 2 z__law_pairs (aCons (eVar 12) (aCons (e2 fIx (eVar 11) (eC (.int 0))) aNil))) (eCall 2 z__law_pairs (aCons (e1 (fFld ["Shelf"] "pairs") (eVar 3)) (aCons (e2 fIx (eVar 11) (eC (.int 1))) aNil)))))))))))))))))
def z_law_k07 : List LV → LH → O LV := mDef 13 zw_law_k07
-- k20
def zb1_law_k20 : MS := (sSeq (sSet 5 (eCall 2 z__law_head (aCons (eVar 1) (aCons (eVar 2) aNil))))
  (sSeq (sSet 6 (eCall 2 z_told_head (aCons (eVar 3) (aCons (eFrz (aList (aCons (eVar 5) aNil))) aNil))))
  (sSeq (sSet 7 (eA fSum (aCons (eFrz (aCompA (eVar 5) (gN 8) tYes' (e2 fAdd (e2 fAdd (eA fLen (aCons (e2 fIx (eVar 8) (eC (.int 0))) aNil)) (eA fLen (aCons (e2 fIx (eVar 8) (eC (.int 1))) aNil))) (eC (.int 3))) [8])) aNil)))
  (sSeq (sIf (tOr' (tNot' (tTr (eCall 2 z__law_list (aCons (eVar 6) (aCons (eVar 6) aNil))))) (tOf (e2 fGt (eA fLen (aCons (eVar 6) aNil)) (eVar 7)))) (sRet (eC (.bl false))) sNil)
  (sIf (tAnd' (tOf (e2 (fEqR false) (eA fLen (aCons (eVar 5) aNil)) (eC (.int 1)))) (tAnd' (tOf (e2 (fEqR true) (eCall 2 z_told_head (aCons (eVar 3) (aCons (eFrz (aList (aCons (eVar 5) aNil))) aNil))) (eFrz (aClean (aCons (eC (.int 0)) (aCons (eC (.int 0)) aNil)))))) (tOf (e2 (fEqR false) (e2 fIx (e1 (fFld ["Shelf"] "pairs") (eVar 3)) (eC (.int 0))) (e2 fIx (eVar 5) (eC (.int 0))))))) (sRet (eC (.bl false))) sNil)))))
def zw_law_k20 : MS := (sSeq (sSet 1 (eCall 1 z__law_row (aCons (eVar 0) aNil)))
  (sSeq (sSet 2 (eCall 1 z__law_pool (aCons (eVar 1) aNil)))
  (sSeq (sSet 3 (eMake "Shelf" 1 z_Shelf___init__ aNil))
  (sSeq (sFor (iQ1 (aCons (e2 fAdd (eC (.int 1)) (eCall 2 z__law_taken (aCons (eVar 1) (aCons (e2 fIx (eFrz (aClean (aCons (eC (.int 7)) (aCons (eC (.int 20)) aNil)))) (e2 fDiv (eCall 2 z__law_taken (aCons (eVar 1) (aCons (eC (.int 3)) aNil))) (eC (.int 2)))) aNil)))) aNil)) (gN 4) zb1_law_k20)
  (sRet (eC (.bl true)))))))
def z_law_k20 : List LV → LH → O LV := mDef 9 zw_law_k20
end Z
namespace Z
open PySem PySem.Spec L2
section
variable {σ : SL} {L : LH} {α β : Type}
theorem v_eqR (i j : Int) : fEqR false (.int i) (.int j) σ L = .ok (.bl (decide (i = j))) L := rfl
theorem v_neR (i j : Int) : fEqR true (.int i) (.int j) σ L = .ok (.bl (!decide (i = j))) L := rfl
theorem v_eqsR (i j : Str) : fEqR false (.str i) (.str j) σ L = .ok (.bl (decide (i = j))) L := rfl
theorem v_nesR (i j : Str) : fEqR true (.str i) (.str j) σ L = .ok (.bl (!decide (i = j))) L := rfl
theorem v_eqbR (i j : Bool) : fEqR false (.bl i) (.bl j) σ L = .ok (.bl (decide (i = j))) L := rfl
theorem v_ixTup (vs : List LV) (i : Int) : fIx (.tup vs) (.int i) σ L = match L2.atI vs i with
    | some v => .ok v L
    | none => .no := rfl
theorem v_ixLst (vs : List LV) (i : Int) : fIx (.lst vs) (.int i) σ L = match L2.atI vs i with
    | some v => .ok v L
    | none => .no := rfl
theorem v_ixRdl (vs : List LV) (i : Int) : fIx (.rdl vs) (.int i) σ L = match L2.atI vs i with
    | some v => .ok v L
    | none => .no := rfl
theorem v_ixRef (n : Nat) (i : Int) : fIx (.ref n) (.int i) σ L = match seqL σ L (.ref n) with
    | some vs => (match L2.atI vs i with
      | some v => .ok v L
      | none => .no)
    | none => .no := rfl
theorem v_ixStr (z : Str) (i : Int) (h : z.length ≤ 1000000) : fIx (.str z) (.int i) σ L = match L2.atI z.cps.toList i with
      | some c => .ok (.str ⟨#[c]⟩) L
      | none => .no := by
  show (if _ then _ else _) = _
  exact if_pos (small h)
theorem v_fLen (n : Nat) : fLen [.ref n] σ L = match seqL σ L (.ref n) with
    | some vs => .ok (.int vs.length) L
    | none => .no := rfl
theorem v_fFld (cs : List Str) (f : Str) (x : LV) : fFld cs f x σ L = match insOf σ L x with
    | some (c, ns, vs) => if cs.contains c = true then (match fieldL f ns vs with
      | some v => .ok v L
      | none => .no) else .no
    | none => .no := rfl
theorem v_fLenLoc (n : Nat) : fLen [.loc n] σ L = match seqL σ L (.loc n) with
    | some vs => .ok (.int vs.length) L
    | none => .no := rfl
theorem v_seqLoc (n : Nat) : seqL σ L (.loc n) = match σ[n]? with
    | some (.own (.lst vs)) => some vs
    | _ => none := rfl
theorem v_insR (n : Nat) : insOf σ L (.ref n) = match L[n]? with
    | some (.ins c ns vs) => some (c, ns, vs)
    | _ => none := rfl
theorem v_seqR (n : Nat) : seqL σ L (.ref n) = match L[n]? with
    | some (.lst vs) => some vs
    | _ => none := rfl
theorem v_seqL (vs : List LV) : seqL σ L (.lst vs) = some vs := rfl
theorem v_seqRd (vs : List LV) : seqL σ L (.rdl vs) = some vs := rfl
theorem v_seqMR (n : Nat) : seqM σ L (.ref n) = match L[n]? with
    | some (.lst vs) => some vs
    | _ => none := rfl
theorem v_seqML (vs : List LV) : seqM σ L (.lst vs) = some vs := rfl
theorem v_seqMo (i : Nat) : seqM σ L (.loc i) = match σ[i]? with
    | some (.own (.lst vs)) => some vs
    | _ => none := rfl
theorem con1 (c : Str) : ([c] : List Str).contains c = true := by simp
theorem v_fIs (f : TyK → Option Bool) (x : LV) : fIs f x σ L = if locOk σ x = true then (match tyOf L x with
  | some k => (match f k with
    | some b => .ok (.bl b) L
    | none => .no)
  | none => .no) else .no := rfl
theorem cl_non : clean .non = true := rfl
theorem cl_bl (b : Bool) : clean (.bl b) = true := rfl
theorem cl_int (b : Int) : clean (.int b) = true := rfl
theorem cl_str (b : Str) : clean (.str b) = true := rfl
theorem cl_ref (b : Nat) : clean (.ref b) = true := rfl
theorem cl_tup (b : List LV) : clean (.tup b) = true := rfl
theorem cl_lst (b : List LV) : clean (.lst b) = true := rfl
theorem cl_rdl (b : List LV) : clean (.rdl b) = true := rfl
theorem cl_ins (a : Str) (b : List Str) (c : List LV) : clean (.ins a b c) = true := rfl
/-- range(j)'s numbers -/
def rngO (vs : List LV) (L : LH) : O (List LV) := match vs with
  | [.int j] => if -(2 ^ 62) ≤ j ∧ j < 2 ^ 62 then .ok (rng 0 j.toNat) L else .no
  | _ => .no
theorem x_iR1c (m : MA) : iR1 m σ L = (m σ L).bind rngO := Eq.trans rfl rfl
theorem v_rngO (j : Int) (h0 : -1000000000 ≤ j) (h : j ≤ 1000000000) : rngO [.int j] L = .ok (rng 0 j.toNat) L := v_rng j h0 h
abbrev Pr := Str × Str
def prL (p : Pr) : LV := .tup [.str p.1, .str p.2]
theorem v_ixPr0 (p : Pr) : fIx (prL p) (.int 0) σ L = .ok (.str p.1) L := by
  unfold prL
  rw [v_ixTup, atI_0]
theorem v_ixPr1 (p : Pr) : fIx (prL p) (.int 1) σ L = .ok (.str p.2) L := by
  unfold prL
  rw [v_ixTup, atI_1]
theorem cl_prL (p : Pr) : clean (prL p) = true := rfl
theorem ms_pr (ps : List Pr) (p : Pr) : ps.map prL ++ [prL p] = (ps ++ [p]).map prL := by simp
theorem ms_str (ns : List Str) (z : Str) : ns.map LV.str ++ [LV.str z] = (ns ++ [z]).map LV.str := by simp
theorem ms_int (ns : List Int) (z : Int) : ns.map LV.int ++ [LV.int z] = (ns ++ [z]).map LV.int := by simp
theorem ma_int (ns ms : List Int) : ns.map LV.int ++ ms.map LV.int = (ns ++ ms).map LV.int := by simp
theorem mc_int (n : Int) (ns : List Int) : LV.int n :: ns.map LV.int = (n :: ns).map LV.int := rfl
theorem v_szi {α : Type} (n : Nat) (a b : α) (h : n ≤ 1000000) : (if n ≤ sizeLine then a else b) = a := if_pos (small h)
theorem v_isNon (neg : Bool) (x : LV) : fIsN neg x .non σ L = .ok (.bl (if neg then !isNon x else isNon x)) L := rfl
theorem in_str (s : Str) : isNon (.str s) = false := rfl
theorem in_tup (s : List LV) : isNon (.tup s) = false := rfl
theorem in_ref (s : Nat) : isNon (.ref s) = false := rfl
theorem in_int (s : Int) : isNon (.int s) = false := rfl
theorem in_non : isNon .non = true := rfl
theorem v_gApp (vs : List LV) (v : LV) (h : vs.length ≤ 999999) : gApp vs [v] = some (vs ++ [v]) := by
  show (if _ then _ else _) = _
  rw [if_pos (small_lt (by omega))]
theorem v_gIns0 (vs : List LV) (v : LV) (h : vs.length ≤ 999999) : gIns vs [.int 0, v] = some (v :: vs) := by
  show (if _ then _ else _) = _
  rw [if_pos ⟨small_lt (by omega), by decide, by decide⟩]
  rfl
def isO (o : Option Bool) (L : LH) : O LV := match o with
  | some b => .ok (.bl b) L
  | none => .no
theorem v_is_int (f : TyK → Option Bool) (i : Int) : fIs f (.int i) σ L = isO (f (.b "int")) L := rfl
theorem v_is_bl (f : TyK → Option Bool) (i : Bool) : fIs f (.bl i) σ L = isO (f (.b "bool")) L := rfl
theorem v_is_str (f : TyK → Option Bool) (i : Str) : fIs f (.str i) σ L = isO (f (.b "str")) L := rfl
theorem v_is_tup (f : TyK → Option Bool) (i : List LV) : fIs f (.tup i) σ L = isO (f (.b "tuple")) L := rfl
theorem v_is_lst (f : TyK → Option Bool) (i : List LV) : fIs f (.lst i) σ L = isO (f (.b "list")) L := rfl
theorem v_is_non (f : TyK → Option Bool) : fIs f .non σ L = isO (f (.b "NoneType")) L := rfl
theorem v_is_ref (f : TyK → Option Bool) (n : Nat) : fIs f (.ref n) σ L = match L[n]? with
  | some (.lst _) => isO (f (.b "list")) L
  | some (.dic _ _) => isO (f (.b "dict")) L
  | some (.ins c _ _) => isO (f (.c c)) L
  | none => .no := by
  unfold fIs
  simp only [locOk, if_true, tyOf]
  cases h : L[n]? with
  | none => rfl
  | some o => cases o <;> rfl
theorem v_isO (b : Bool) : isO (some b) L = .ok (.bl b) L := rfl
theorem isB_int : isB "int" (.b "int") = some true := by decide +kernel
theorem isB_int_bool : isB "int" (.b "bool") = some true := by decide +kernel
theorem isB_bool_int : isB "bool" (.b "int") = some false := by decide +kernel
theorem isB_list : isB "list" (.b "list") = some true := by decide +kernel
theorem isB_tuple : isB "tuple" (.b "tuple") = some true := by decide +kernel
theorem isB_str : isB "str" (.b "str") = some true := by decide +kernel
theorem set_get {i : Nat} {o : LO} (h : i < L.length) : (L.set i o)[i]? = some o := List.getElem?_set_self h
theorem set_get_ne {i j : Nat} {o : LO} (h : i ≠ j) : (L.set i o)[j]? = L[j]? := List.getElem?_set_ne h
theorem has_lt {i : Nat} {o : LO} (h : L[i]? = some o) : i < L.length := (List.getElem?_eq_some_iff.mp h).1
theorem app_get {i : Nat} {o : LO} (h : L[i]? = some o) (T : LH) : (L ++ T)[i]? = some o := by rw [List.getElem?_append_left (has_lt h)]; exact h
end
/-! ### the script's numbers -/
/-- the row's list -/
def RowO (o : LO) : Prop := ∃ R : Row, o = R.o ∧ R.Ok
theorem z_taken_is : z__law_taken = mDef 4 w_taken := rfl
theorem z_row_is : z__law_row = mDef 3 (sSeq (sSet 1 (eC (.int 7))) (sSeq (sForA (eVar 0) (gN 2) w_rowB) (sRet (eNew (aClean (aCons (eVar 0) (aCons (eC (.int 0)) (aCons (eC (.int 0)) (aCons (eVar 1) aNil)))))))) ) := rfl
theorem draw {o : LO} {T : LH} {many : Int} (h : RowO o) (h0 : 0 < many) (hd : ∀ i, cDiv i many = true) :
    ∃ v o', z__law_taken [.ref 0, .int many] (o :: T) = .ok (.int v) (o' :: T) ∧ 0 ≤ v ∧ v < many ∧ RowO o' := by
  obtain ⟨R, rfl, ok⟩ := h
  obtain ⟨a, b⟩ := Row.take_lt (R := R) h0
  exact ⟨_, _, by rw [z_taken_is]; exact taken0 ok h0 hd, a, b, _, rfl, Row.take_ok ok⟩
theorem drawS {o : LO} {T : LH} {many : Int} (h : RowO o) (h0 : 0 < many) (h1 : many < 4294967296) :
    ∃ v o', z__law_taken [.ref 0, .int many] (o :: T) = .ok (.int v) (o' :: T) ∧ 0 ≤ v ∧ v < many ∧ RowO o' := draw h h0 fun i => cDiv_small h0 h1 i
/-- .. of one below 10 ** k -/
theorem cDiv_pow (k : Nat) (h : k ≤ 60) (i : Int) : cDiv i ((10 : Int) ^ k) = true := by
  have h1 : (10 : Int) ^ k > 0 := Int.pow_pos (by decide)
  have h2 : ((10 : Int) ^ k).natAbs < 2 ^ 300 := by
    rw [Int.natAbs_pow]
    show 10 ^ k < 2 ^ 300
    have : 10 ^ k ≤ 10 ^ 60 := Nat.pow_le_pow_right (by decide) h
    exact Nat.lt_of_le_of_lt this (by decide +kernel)
  exact cDiv_of 300 h1 (by decide) h2 (by decide)
theorem drawP {o : LO} {T : LH} (k : Nat) (h : RowO o) (hk : k ≤ 60) :
    ∃ v o', z__law_taken [.ref 0, .int ((10 : Int) ^ k)] (o :: T) = .ok (.int v) (o' :: T) ∧ 0 ≤ v ∧ v < (10 : Int) ^ k ∧ RowO o' := draw h (Int.pow_pos (by decide)) (cDiv_pow k hk)
theorem cPow_10 (k : Nat) (h : k ≤ 60) : cPow 10 (k : Int) = true := by
  refine decide_eq_true ⟨by omega, by omega, by decide⟩
theorem v_pow10 {σ : SL} {L : LH} (k : Nat) (h : k ≤ 60) : fPow (.int 10) (.int (k : Int)) σ L = .ok (.int ((10 : Int) ^ k)) L := v_powc _ _ (cPow_10 k h)
theorem v_pow9 {σ : SL} {L : LH} : fPow (.int 10) (.int 9) σ L = .ok (.int ((10 : Int) ^ 9)) L := v_pow10 9 (by decide)
theorem v_pow6 {σ : SL} {L : LH} : fPow (.int 10) (.int 6) σ L = .ok (.int ((10 : Int) ^ 6)) L := v_pow10 6 (by decide)
theorem v_pow17 {σ : SL} {L : LH} : fPow (.int 10) (.int 17) σ L = .ok (.int ((10 : Int) ^ 17)) L := v_pow10 17 (by decide)
theorem v_pow41 {σ : SL} {L : LH} : fPow (.int 10) (.int 41) σ L = .ok (.int ((10 : Int) ^ 41)) L := v_pow10 41 (by decide)
theorem row0 (ns : List Int) : ∃ o, z__law_row [.rdl (ns.map .int)] [] = .ok (.ref 0) [o] ∧ RowO o := by
  obtain ⟨s2', e⟩ := row_loop (a := .val (.rdl (ns.map .int))) (L := []) ns 7 .no (by decide) (by decide)
  refine ⟨_, ?_, _, rfl, row_ok ns⟩
  rw [z_row_is, mDef_run]
  show fin (sSeq _ _ [.val (.rdl (ns.map .int)), .no, .no] []) = _
  have hz : decide (4 ≤ sizeLine) = true := decide_eq_true (small (by decide))
  simp only [x_Seq, x_sSet, x_C, lift_ok, clean, if_true, sq_nx, List.set_cons_succ, List.set_cons_zero, x_sForA, x_Var, List.getElem?_cons_zero, itemsOf, e, x_sRet, x_New, x_Clean, x_Cons, x_Nil, bind_ok, List.getElem?_cons_succ, List.all_cons, List.all_nil, Bool.and_true, Bool.true_and, List.length_cons, List.length_nil, Nat.reduceAdd, hz, fin_rt]
  rfl
/-! ### loops -/
/-- a statement goes on, in such a state -/
def Nx (o : SO) (P : SL → LH → Prop) : Prop := ∃ σ L, o = .nx σ L ∧ P σ L
theorem Nx.mk {o : SO} {P : SL → LH → Prop} {σ : SL} {L : LH} (h : o = .nx σ L) (p : P σ L) : Nx o P := ⟨σ, L, h, p⟩
/-- a def gives back such a value -/
def Gives (o : O LV) (P : LV → LH → Prop) : Prop := ∃ v L, o = .ok v L ∧ P v L
theorem Gives.mk {o : O LV} {P : LV → LH → Prop} {v : LV} {L : LH} (h : o = .ok v L) (p : P v L) : Gives o P := ⟨v, L, h, p⟩
/-- a loop by its invariant -/
theorem loop_inv {n : LV → SL → Option SL} {b : MS} (I : Nat → SL → LH → Prop) : ∀ (xs : List LV) (k : Nat) (σ : SL) (L : LH), I k σ L →
    (∀ j x σ L, xs[j]? = some x → I (k + j) σ L → ∃ σ1, n x σ = some σ1 ∧ ∃ σ2 L2, b σ1 L = .nx σ2 L2 ∧ I (k + j + 1) σ2 L2) →
    ∃ σ' L', loop n b xs σ L = .nx σ' L' ∧ I (k + xs.length) σ' L'
  | [], k, σ, L, h, _ => ⟨σ, L, rfl, h⟩
  | x :: xs, k, σ, L, h, st => by
    obtain ⟨σ1, e1, σ2, L2, e2, h2⟩ := st 0 x σ L rfl h
    obtain ⟨σ', L', e3, h3⟩ := loop_inv I xs (k + 1) σ2 L2 h2 fun j y σ L hj hi => by
      have := st (j + 1) y σ L hj (by rw [show k + (j + 1) = k + 1 + j by omega]; exact hi)
      rw [show k + (j + 1) + 1 = k + 1 + j + 1 by omega] at this
      exact this
    refine ⟨σ', L', ?_, by rw [List.length_cons, show k + (xs.length + 1) = k + 1 + xs.length by omega]; exact h3⟩
    unfold loop
    simp only [e1, e2, e3]
theorem for_inv {n : LV → SL → Option SL} {b : MS} (I : Nat → SL → LH → Prop) {xs : List LV} {σ : SL} {L : LH} (h : I 0 σ L)
    (st : ∀ j x σ L, xs[j]? = some x → I j σ L → ∃ σ1, n x σ = some σ1 ∧ Nx (b σ1 L) (I (j + 1))) :
    Nx (loop n b xs σ L) (I xs.length) := by
  have := loop_inv I xs 0 σ L h fun j x σ L hx hi => by
    rw [Nat.zero_add] at hi ⊢
    exact st j x σ L hx hi
  rw [Nat.zero_add] at this
  exact this
theorem rng_get {n : Nat} {j : Nat} {x : LV} (h : (rng 0 n)[j]? = some x) : x = .int (j : Int) ∧ j < n := by
  unfold rng at h
  rw [List.getElem?_map] at h
  have hl : j < n := by
    by_cases hl : j < n
    · exact hl
    · rw [List.getElem?_eq_none (by simpa using hl)] at h; cases h
  rw [List.getElem?_range hl] at h
  cases h
  exact ⟨by simp, hl⟩
theorem rng_len (n : Nat) : (rng 0 n).length = n := by unfold rng; simp
theorem v_addTxt {σ : SL} {L : LH} (ks : List Nat) (k : Nat) (h : ks.length ≤ 100000) : fAdd (.str (txt ks)) (.str (sg1 k)) σ L = .ok (.str (txt (ks ++ [k]))) L := by
  have e : (txt ks).length + (sg1 k).length ≤ sizeLine := small (by rw [txt_len]; show ks.length + 1 ≤ _; omega)
  show (if (txt ks).length + (sg1 k).length ≤ sizeLine then O.ok (LV.str (txt ks ++ sg1 k)) L else .no) = _
  rw [if_pos e, txt_snoc]
theorem v_sgIx {σ : SL} {L : LH} (z : Int) (h0 : 0 ≤ z) (h : z ≤ 93) : fIx (.str SG) (.int z) σ L = .ok (.str (sg1 z.toNat)) L := by
  have e := sg_atI h0 (show z < 94 by omega)
  show (if SG.length ≤ sizeLine then (match L2.atI SG.cps.toList z with
      | some c => O.ok (LV.str ⟨#[c]⟩) L
      | none => .no) else .no) = _
  rw [if_pos sgz, e]
  rfl
end Z
namespace Z
open PySem PySem.Spec L2 TL
local macro_rules | `(tactic| push_cast [$xs,*]) => `(tactic| simp (disch := (first | assumption | omega | (simp only [List.length_map, List.length_append, List.length_cons, List.length_nil, List.length_reverse, rng_len]; omega))) only [x_Var, x_C, x_Nil, x_Cons, x_e2, x_e1, x_eA, x_Clean, x_Tup, x_Frz, x_New, x_tOf, x_tTr, x_tAnd, x_tOr, x_tNot, x_And, x_Or, x_Not, x_eIf, x_Chain, x_Call, x_Meth, x_Pop, x_Pop0, x_LMt, x_Mt, x_Sl, x_SlT, x_oNone, x_oSome, x_List, x_CompA, x_Comp, x_iA, x_iQ1, x_iQ2, x_iZ, x_sNil, x_Seq, sq_nx, sq_rt, sq_er, sq_bk, sq_ct, x_sSet, x_sOwn, x_sDrop, x_sFrz, x_frzSlot, x_sRet, x_sRetN, x_sBk, x_sCt, x_sRaise, x_sIf, x_sItem, x_sAsg, x_sAug, x_sFldAugM, x_sFldM, x_sMod, x_sExt, x_sFor, x_gN, x_gT, x_gsNil, x_gsCons, v_add, v_sub, v_lt, v_le, v_gt, v_ge, v_mod, v_div, v_mul, v_eqR, v_neR, v_eqsR, v_nesR, v_eqbR, v_addL, v_addTxt, v_sgIx, v_isNon, in_str, in_tup, in_ref, in_int, in_non, v_lenT, v_lenL, v_lenS, v_sz, v_szi, v_rq1, v_rq2, Int.reduceToNat, Int.toNat_natCast, v_ixTup, v_ixLst, v_ixRdl, v_ixRef, v_ixStr, v_ixPr0, v_ixPr1, cl_prL, v_fLen, v_fLenLoc, v_seqLoc, v_fFld, v_insR, v_seqR, v_seqL, v_seqRd, v_seqMR, v_seqML, v_seqMo, bind_ok, bind_er, lift_ok, lift_er, fin_nx, fin_rt, fin_er, con1, cl_non, cl_bl, cl_int, cl_str, cl_ref, cl_tup, cl_lst, cl_rdl, cl_ins, frzO, truL, itemsOf, v_is_int, v_is_bl, v_is_str, v_is_tup, v_is_lst, v_is_non, v_is_ref, v_isO, isB_int, isB_int_bool, isB_bool_int, isB_list, isB_tuple, isB_str, Int.cast_ofNat_Int, ms_str, ms_int, ms_pr, ma_int, v_gApp, v_gIns0, List.set_cons_succ, List.set_cons_zero, List.getElem?_cons_succ, List.getElem?_cons_zero, List.length_cons, List.length_nil, List.all_cons, List.all_nil, Bool.and_true, Bool.true_and, Bool.and_false, Bool.false_and, Bool.and_self, Bool.not_true, Bool.not_false, Bool.or_true, Bool.true_or, Bool.or_false, Bool.false_or, if_true, if_false, decide_true, decide_false, decide_eq_true_eq, Bool.false_eq_true, Bool.not_eq_true', decide_eq_false_iff_not, Option.bind_some, Option.isNone_none, Option.isNone_some, Nat.reduceAdd, Int.reduceLT, Int.reduceLE, Int.reduceEq, Int.reduceNeg, Nat.reduceLT, Nat.reduceLeDiff, Nat.reduceEqDiff, Int.reduceAdd, Int.reduceSub, Int.reduceMul, List.set_set, wipeL, List.append_nil, List.nil_append, not_true_eq_false, not_false_eq_true, Int.natCast_nonneg, and_true, true_and, and_self, $xs,*])
theorem z_textB_is : zb1__law_text = w_textB := rfl
theorem z_signs_is : z__law_signs = mDef 1 w_signs := rfl
def GText (v : Str) : Prop := ∃ ks : List Nat, v = txt ks ∧ ks.length ≤ 20 ∧ ∀ k ∈ ks, k < 94
def GName (v : Str) : Prop := ∃ ks : List Nat, v = txt ks ∧ 1 ≤ ks.length ∧ ks.length ≤ 8 ∧ ∀ k ∈ ks, k < 94
theorem GName.text {v : Str} (h : GName v) : GText v := by
  obtain ⟨ks, a, b, c, d⟩ := h
  exact ⟨ks, a, by omega, d⟩
theorem GText.len {v : Str} (h : GText v) : v.length ≤ 20 := by
  obtain ⟨ks, rfl, b, d⟩ := h
  rw [txt_len]
  exact b
theorem GName.len {v : Str} (h : GName v) : 1 ≤ v.length ∧ v.length ≤ 8 := by
  obtain ⟨ks, rfl, b, c, d⟩ := h
  rw [txt_len]
  exact ⟨b, c⟩
theorem text_any {cell size : Int} (L : LH) (h0 : 0 ≤ size) (h1 : size ≤ 20) : ∃ v : Str, z__law_text [.int cell, .int size] L = .ok (.str v) L ∧ (v.length : Int) = size ∧ GText v := by
  have s0 := Int.emod_nonneg cell (show (7 : Int) ≠ 0 by decide)
  have s1 := Int.emod_lt_of_pos cell (show (0 : Int) < 7 by decide)
  obtain ⟨cell', ks, s', e, e1, e2⟩ := text_loop (sz := .val (.int size)) (L := L) (step := 1 + cell % 7) (by omega) (by omega) (List.range size.toNat) cell [] .no (fun x hx => by have := List.mem_range.mp hx; omega) (fun k h => by simp at h) (by simp; omega)
  have hl : ks.length = size.toNat := by rw [e1]; simp
  have er : loop (gN 5) zb1__law_text (rng 0 size.toNat) [.val (.int cell), .val (.int size), .val (.str SG), .val (.int (1 + cell % 7)), .val (.str ""), .no] L = .nx [.val (.int cell'), .val (.int size), .val (.str SG), .val (.int (1 + cell % 7)), .val (.str (txt ks)), s'] L := e
  refine ⟨txt ks, ?_, by rw [txt_len]; omega, ks, rfl, by omega, e2⟩
  have sg : z__law_signs [] L = .ok (.str SG) L := signs_eq
  unfold z__law_text zw__law_text
  rw [mDef_run]
  show fin (sSeq _ _ [.val (.int cell), .val (.int size), .no, .no, .no, .no] L) = _
  push_cast [sg, er]
theorem GText.name {v : Str} (h : GText v) (h1 : 1 ≤ v.length) (h8 : v.length ≤ 8) : GName v := by
  obtain ⟨ks, rfl, b, c⟩ := h
  rw [txt_len] at h1 h8
  exact ⟨ks, rfl, h1, h8, c⟩
theorem pool_names {o : LO} {T : LH} {a2 a3 a4 : Sl} (h : RowO o) : ∃ (ns : List Str) (o' : LO) (b2 b3 : Sl), loop (gN 2) zb1__law_pool (rng 0 4) [.val (.ref 0), .own (.lst []), a2, a3, a4] (o :: T) = .nx [.val (.ref 0), .own (.lst (ns.map .str)), b2, b3, a4] (o' :: T) ∧ RowO o' ∧ ns.length = 4 ∧ ∀ n ∈ ns, GName n := by
  obtain ⟨σ', L', e, ns, o', b2, b3, rfl, rfl, ho, hl, hn⟩ := for_inv (n := gN 2) (b := zb1__law_pool) (fun k σ L => ∃ (ns : List Str) (o' : LO) (b2 b3 : Sl), σ = [.val (.ref 0), .own (.lst (ns.map .str)), b2, b3, a4] ∧ L = o' :: T ∧ RowO o' ∧ ns.length = k ∧ ∀ n ∈ ns, GName n) (xs := rng 0 4) ⟨[], o, a2, a3, rfl, rfl, h, rfl, by simp⟩ fun j x σ L hx ⟨ns, o1, b2, b3, e1, e2, ho, hl, hn⟩ => by
    subst e1 e2
    refine ⟨_, rfl, ?_⟩
    obtain ⟨rfl, hj⟩ := rng_get hx
    obtain ⟨v, o2, d2, v0, v1, ho2⟩ := drawS (T := T) (many := 8) ho (by decide) (by decide)
    obtain ⟨c, o3, d3, c0, c1, ho3⟩ := drawP (T := T) 17 ho2 (by decide)
    obtain ⟨z, tz, z1, z2⟩ := text_any (cell := c) (size := 1 + v) (o3 :: T) (by omega) (by omega)
    unfold zb1__law_pool
    refine Nx.mk (by push_cast [d2, v_pow17, d3, tz]; rfl) ⟨ns ++ [z], o3, _, _, rfl, rfl, ho3, by simp [hl], fun n h => ?_⟩
    rcases List.mem_append.mp h with h | h
    · exact hn n h
    · rw [show n = z by simpa using h]
      exact z2.name (by omega) (by omega)
  rw [rng_len] at hl
  exact ⟨ns, o', b2, b3, e, ho, hl, hn⟩
theorem pool_values {o : LO} {T : LH} {a1 a2 a3 : Sl} (h : RowO o) : ∃ (ns : List Str) (o' : LO) (b2 b3 : Sl), loop (gN 2) zb2__law_pool (rng 0 4) [.val (.ref 0), a1, a2, a3, .own (.lst [.str ""])] (o :: T) = .nx [.val (.ref 0), a1, b2, b3, .own (.lst (ns.map .str))] (o' :: T) ∧ RowO o' ∧ ns.length = 5 ∧ ∀ n ∈ ns, GText n := by
  obtain ⟨σ', L', e, ns, o', b2, b3, rfl, rfl, ho, hl, hn⟩ := for_inv (n := gN 2) (b := zb2__law_pool) (fun k σ L => ∃ (ns : List Str) (o' : LO) (b2 b3 : Sl), σ = [.val (.ref 0), a1, b2, b3, .own (.lst (ns.map .str))] ∧ L = o' :: T ∧ RowO o' ∧ ns.length = 1 + k ∧ ∀ n ∈ ns, GText n) (xs := rng 0 4) (σ := [.val (.ref 0), a1, a2, a3, .own (.lst [.str ""])]) (L := o :: T) ⟨[""], o, a2, a3, rfl, rfl, h, rfl, fun n h => by rw [show n = "" by simpa using h]; exact ⟨[], rfl, by decide, by simp⟩⟩ fun j x σ L hx ⟨ns, o1, b2, b3, e1, e2, ho, hl, hn⟩ => by
    subst e1 e2
    refine ⟨_, rfl, ?_⟩
    obtain ⟨rfl, hj⟩ := rng_get hx
    obtain ⟨v, o2, d2, v0, v1, ho2⟩ := drawS (T := T) (many := 21) ho (by decide) (by decide)
    obtain ⟨c, o3, d3, c0, c1, ho3⟩ := drawP (T := T) 41 ho2 (by decide)
    obtain ⟨z, tz, z1, z2⟩ := text_any (cell := c) (size := v) (o3 :: T) (by omega) (by omega)
    unfold zb2__law_pool
    refine Nx.mk (by push_cast [d2, v_pow41, d3, tz]; rfl) ⟨ns ++ [z], o3, _, _, rfl, rfl, ho3, by simp [hl]; omega, fun n h => ?_⟩
    rcases List.mem_append.mp h with h | h
    · exact hn n h
    · rw [show n = z by simpa using h]
      exact z2
  rw [rng_len] at hl
  exact ⟨ns, o', b2, b3, e, ho, hl, hn⟩
theorem pool_eq {o : LO} {T : LH} (h : RowO o) : ∃ (ns vs : List Str) (o' : LO), z__law_pool [.ref 0] (o :: T) = .ok (.tup [.lst (ns.map .str), .lst (vs.map .str)]) (o' :: T) ∧ RowO o' ∧ ns.length = 4 ∧ vs.length = 5 ∧ (∀ n ∈ ns, GName n) ∧ (∀ v ∈ vs, GText v) := by
  unfold z__law_pool zw__law_pool
  rw [mDef_run]
  show ∃ ns vs o', fin (sSeq _ _ [.val (.ref 0), .no, .no, .no, .no] (o :: T)) = _ ∧ _
  obtain ⟨ns, o1, b2, b3, e1, h1, hn1, hn2⟩ := pool_names (T := T) (a2 := .no) (a3 := .no) (a4 := .no) h
  obtain ⟨vs, o2, c2, c3, e2, h2, hv1, hv2⟩ := pool_values (T := T) (a1 := .own (.lst (ns.map .str))) (a2 := b2) (a3 := b3) h1
  refine ⟨ns, vs, o2, ?_, h2, hn1, hv1, hn2, hv2⟩
  push_cast [e1, e2]
end Z
namespace Z
open PySem PySem.Spec L2 TL
local macro_rules | `(tactic| push_cast [$xs,*]) => `(tactic| simp (disch := (first | assumption | omega | (simp only [List.length_map, List.length_append, List.length_cons, List.length_nil, List.length_reverse, rng_len]; omega))) only [x_Var, x_C, x_Nil, x_Cons, x_e2, x_e1, x_eA, x_Clean, x_Tup, x_Frz, x_New, x_tOf, x_tTr, x_tAnd, x_tOr, x_tNot, x_And, x_Or, x_Not, x_eIf, x_Chain, x_Call, x_Meth, x_Pop, x_Pop0, x_LMt, x_Mt, x_Sl, x_SlT, x_oNone, x_oSome, x_List, x_CompA, x_Comp, x_iA, x_iQ1, x_iQ2, x_iZ, x_sNil, x_Seq, sq_nx, sq_rt, sq_er, sq_bk, sq_ct, x_sSet, x_sOwn, x_sDrop, x_sFrz, x_frzSlot, x_sRet, x_sRetN, x_sBk, x_sCt, x_sRaise, x_sIf, x_sItem, x_sAsg, x_sAug, x_sFldAugM, x_sFldM, x_sMod, x_sExt, x_sFor, x_gN, x_gT, x_gsNil, x_gsCons, v_add, v_sub, v_lt, v_le, v_gt, v_ge, v_mod, v_div, v_mul, v_eqR, v_neR, v_eqsR, v_nesR, v_eqbR, v_addL, v_addTxt, v_sgIx, v_isNon, in_str, in_tup, in_ref, in_int, in_non, v_lenT, v_lenL, v_lenS, v_sz, v_szi, v_rq1, v_rq2, Int.reduceToNat, Int.toNat_natCast, v_ixTup, v_ixLst, v_ixRdl, v_ixRef, v_ixStr, v_ixPr0, v_ixPr1, cl_prL, v_fLen, v_fLenLoc, v_seqLoc, v_fFld, v_insR, v_seqR, v_seqL, v_seqRd, v_seqMR, v_seqML, v_seqMo, bind_ok, bind_er, lift_ok, lift_er, fin_nx, fin_rt, fin_er, con1, cl_non, cl_bl, cl_int, cl_str, cl_ref, cl_tup, cl_lst, cl_rdl, cl_ins, frzO, truL, itemsOf, v_is_int, v_is_bl, v_is_str, v_is_tup, v_is_lst, v_is_non, v_is_ref, v_isO, isB_int, isB_int_bool, isB_bool_int, isB_list, isB_tuple, isB_str, Int.cast_ofNat_Int, ms_str, ms_int, ms_pr, ma_int, v_gApp, v_gIns0, List.set_cons_succ, List.set_cons_zero, List.getElem?_cons_succ, List.getElem?_cons_zero, List.length_cons, List.length_nil, List.all_cons, List.all_nil, Bool.and_true, Bool.true_and, Bool.and_false, Bool.false_and, Bool.and_self, Bool.not_true, Bool.not_false, Bool.or_true, Bool.true_or, Bool.or_false, Bool.false_or, if_true, if_false, decide_true, decide_false, decide_eq_true_eq, Bool.false_eq_true, Bool.not_eq_true', decide_eq_false_iff_not, Option.bind_some, Option.isNone_none, Option.isNone_some, Nat.reduceAdd, Int.reduceLT, Int.reduceLE, Int.reduceEq, Int.reduceNeg, Nat.reduceLT, Nat.reduceLeDiff, Nat.reduceEqDiff, Int.reduceAdd, Int.reduceSub, Int.reduceMul, List.set_set, wipeL, List.append_nil, List.nil_append, not_true_eq_false, not_false_eq_true, Int.natCast_nonneg, and_true, true_and, and_self, $xs,*])
/-! ### pairs and shelves -/
def wt (p : Pr) : Nat := p.1.length + p.2.length + 4
def wts (ps : List Pr) : Nat := (ps.map wt).sum
theorem wts_nil : wts [] = 0 := rfl
theorem wts_cons (p : Pr) (ps : List Pr) : wts (p :: ps) = wt p + wts ps := rfl
theorem wts_snoc (ps : List Pr) (p : Pr) : wts (ps ++ [p]) = wts ps + wt p := by unfold wts; simp
theorem wts_len (ps : List Pr) : 4 * ps.length ≤ wts ps := by
  induction ps with
  | nil => simp [wts]
  | cons p ps ih => rw [wts_cons, List.length_cons]; unfold wt; omega
theorem wt_mem {ps : List Pr} {p : Pr} (h : p ∈ ps) : wt p ≤ wts ps := by
  induction ps with
  | nil => cases h
  | cons q ps ih =>
    rw [wts_cons]
    rcases List.mem_cons.mp h with h | h
    · rw [h]; omega
    · have := ih h; omega
/-- the pairs that stay -/
def fitN : Nat → List Pr → List Pr
  | _, [] => []
  | acc, p :: ps => if acc + wt p ≤ 96 then p :: fitN (acc + wt p) ps else []
def fit (ps : List Pr) : List Pr := fitN 0 ps
def putP (p : Pr) (ps : List Pr) : List Pr := fit (p :: ps)
theorem fitN_all : ∀ (ps : List Pr) (acc : Nat), acc + wts ps ≤ 96 → fitN acc ps = ps
  | [], _, _ => rfl
  | p :: ps, acc, h => by
    rw [wts_cons] at h
    unfold fitN
    rw [if_pos (by omega), fitN_all ps _ (by omega)]
theorem fitN_snoc : ∀ (ps : List Pr) (p : Pr) (acc : Nat), 96 < acc + wts (ps ++ [p]) → fitN acc (ps ++ [p]) = fitN acc ps
  | [], p, acc, h => by
    rw [wts_snoc, wts_nil] at h
    show fitN acc [p] = []
    unfold fitN
    rw [if_neg (by omega)]
  | q :: ps, p, acc, h => by
    rw [List.cons_append, wts_cons] at h
    show fitN acc (q :: (ps ++ [p])) = fitN acc (q :: ps)
    unfold fitN
    split
    · rw [fitN_snoc ps p _ (by omega)]
    · rfl
theorem fitN_w : ∀ (ps : List Pr) (acc : Nat), acc ≤ 96 → acc + wts (fitN acc ps) ≤ 96
  | [], acc, h => by unfold fitN; rw [wts_nil]; omega
  | p :: ps, acc, h => by
    unfold fitN
    split
    · rename_i hc
      rw [wts_cons]
      have := fitN_w ps _ hc
      omega
    · rw [wts_nil]; omega
theorem fit_w (ps : List Pr) : wts (fit ps) ≤ 96 := by
  have := fitN_w ps 0 (by decide)
  unfold fit
  omega
theorem fitN_mem : ∀ (ps : List Pr) (acc : Nat), ∀ p ∈ fitN acc ps, p ∈ ps
  | [], acc, p, h => by unfold fitN at h; exact h
  | q :: ps, acc, p, h => by
    unfold fitN at h
    split at h
    · rcases List.mem_cons.mp h with h | h
      · rw [h]; exact List.mem_cons_self
      · exact List.mem_cons_of_mem _ (fitN_mem ps _ p h)
    · cases h
theorem putP_w (p : Pr) (ps : List Pr) : wts (putP p ps) ≤ 96 := fit_w _
theorem putP_mem {p q : Pr} {ps : List Pr} (h : q ∈ putP p ps) : q = p ∨ q ∈ ps := List.mem_cons.mp (fitN_mem _ _ _ h)
theorem weight_eq {p : Pr} {L : LH} (h : wt p ≤ 1000) : z_pair_weight [prL p] L = .ok (.int (wt p : Nat)) L := by
  have h1 : p.1.length ≤ 1000 := by unfold wt at h; omega
  have h2 : p.2.length ≤ 1000 := by unfold wt at h; omega
  unfold z_pair_weight zw_pair_weight
  rw [mDef_run]
  show fin (sRet _ [.val (prL p)] L) = _
  unfold prL
  push_cast [atI_0, atI_1]
  rfl
/-- a comprehension over one of the mirror's lists, each item by itself -/
theorem compR_map {B C : Type} {n : LV → SL → Option SL} {t : MT} {m : ME} {σ0 : SL} {L : LH} {r : Nat} (ti : B → LV) (to : C → LV) (f : B → C) (hc : ∀ c, clean (to c) = true) (xs : List B) (hl : xs.length ≤ 1000000) (hL : L[r]? = some (.lst (xs.map ti)))
    (h : ∀ x, x ∈ xs → ∃ σ1, n (ti x) σ0 = some σ1 ∧ t σ1 L = .ok true L ∧ m σ1 L = .ok (to (f x)) L) : compR n t m σ0 r ((xs.map ti).length + 1) 0 [] L = .ok ((xs.map f).map to) L := by
  have go : ∀ (k i : Nat), k + i = xs.length → compR n t m σ0 r (k + 1) i (((xs.take i).map f).map to) L = .ok ((xs.map f).map to) L := by
    intro k
    induction k with
    | zero =>
      intro i hi
      unfold compR
      rw [hL]
      have e : (xs.map ti)[i]? = none := by rw [List.getElem?_eq_none (by rw [List.length_map]; omega)]
      simp only [e]
      rw [List.take_of_length_le (by omega)]
    | succ k ih =>
      intro i hi
      have hlt : i < xs.length := by omega
      unfold compR
      rw [hL]
      have e : (xs.map ti)[i]? = some (ti xs[i]) := by rw [List.getElem?_map, List.getElem?_eq_getElem hlt]; rfl
      obtain ⟨σ1, e1, e2, e3⟩ := h xs[i] (List.getElem_mem hlt)
      have e4 : decide ((((xs.take i).map f).map to).length < sizeLine) = true := decide_eq_true (small_lt (by rw [List.length_map, List.length_map, List.length_take]; omega))
      simp only [e, e1, e2, e3, if_true, hc, e4, Bool.and_self]
      have := ih (i + 1) (by omega)
      rw [List.take_succ_eq_append_getElem hlt, List.map_append, List.map_append] at this
      exact this
  have := go xs.length 0 (by omega)
  rw [List.length_map]
  exact this
theorem set_same {L : LH} {l : Nat} {o : LO} (h : L[l]? = some o) : L.set l o = L := by
  refine List.ext_getElem? fun j => ?_
  rw [List.getElem?_set]
  split
  · rename_i e
    subst e
    rw [if_pos (has_lt h), h]
  · rfl
abbrev shelfO (l : Nat) : LO := .ins "Shelf" ["pairs"] [.ref l]
theorem fl_pairs (v : LV) : fieldL "pairs" ["pairs"] [v] = some v := rfl
theorem fl_put (v : LV) : fieldL "put" ["pairs"] [v] = none := rfl
theorem map_dropLast {α β : Type} (f : α → β) (l : List α) : (l.map f).dropLast = l.dropLast.map f := by simp [List.dropLast_eq_take, List.map_take]
theorem put_loop {s l : Nat} {a1 a3 : Sl} : ∀ (k : Nat) (qs : List Pr) (L : LH), L[s]? = some (shelfO l) → L[l]? = some (.lst (qs.map prL)) → qs.length < k → (∀ q ∈ qs, wt q ≤ 1000) →
    wloop (tOf (e2 fGt (eVar 2) (eC (.int 96)))) zb1_Shelf_put k [.val (.ref s), a1, .val (.int (wts qs : Nat)), a3] L = .nx [.val (.ref s), a1, .val (.int (wts (fit qs) : Nat)), a3] (L.set l (.lst ((fit qs).map prL)))
  | 0, qs, L, _, _, h, _ => by omega
  | k + 1, qs, L, hs, hl, hk, hq => by
    have sl : s ≠ l := fun e => by rw [e, hl] at hs; cases hs
    unfold wloop
    by_cases hw : wts qs ≤ 96
    · have e : fit qs = qs := fitN_all qs 0 (by omega)
      rw [e, set_same hl]
      push_cast [show ¬ (96 : Int) < ((wts qs : Nat) : Int) by omega]
    · rcases List.eq_nil_or_concat qs with e | ⟨ps, q, e⟩
      · rw [e, wts_nil] at hw; omega
      · rw [List.concat_eq_append] at e
        subst e
        have ef : fit (ps ++ [q]) = fit ps := fitN_snoc ps q 0 (by omega)
        have q1 := hq q (by simp)
        have wq := weight_eq (L := L.set l (.lst (ps.map prL))) q1
        have ih := put_loop (s := s) (l := l) (a1 := a1) (a3 := a3) k ps (L.set l (.lst (ps.map prL))) (by rw [set_get_ne (Ne.symm sl)]; exact hs) (set_get (has_lt hl)) (by rw [List.length_append, List.length_singleton] at hk; omega) fun x hx => hq x (List.mem_append_left _ hx)
        have ew : ((wts (ps ++ [q]) : Nat) : Int) - ((wt q : Nat) : Int) = ((wts ps : Nat) : Int) := by rw [wts_snoc]; omega
        have gl : ((ps ++ [q]).map prL).getLast? = some (prL q) := by simp
        have dl : ((ps ++ [q]).map prL).dropLast = ps.map prL := by rw [map_dropLast, List.dropLast_concat]
        rw [List.set_set] at ih
        rw [ef]

        unfold zb1_Shelf_put at ih ⊢
        push_cast [show (96 : Int) < ((wts (ps ++ [q]) : Nat) : Int) by omega, hs, hl, fl_pairs, gl, dl, show clean (prL q) = true from rfl, wq, ew]
        exact ih
theorem ints_map (ns : List Int) : ints? (ns.map .int) = some ns := by
  induction ns with
  | nil => rfl
  | cons n ns ih => rw [List.map_cons, ints?, ih]; rfl
theorem sum_wts (ps : List Pr) : (ps.map fun p => ((wt p : Nat) : Int)).sum = ((wts ps : Nat) : Int) := by
  induction ps with
  | nil => rfl
  | cons p ps ih => rw [List.map_cons, List.sum_cons, ih, wts_cons]; omega
theorem v_fSum {σ : SL} {L : LH} (ns : List Int) : fSum [.lst (ns.map .int)] σ L = .ok (.int ns.sum) L := by
  unfold fSum
  simp only [seqL, ints_map]
theorem put_eq {s l : Nat} {L : LH} {ps : List Pr} {p : Pr} (hs : L[s]? = some (shelfO l)) (hl : L[l]? = some (.lst (ps.map prL))) (hw : wts ps ≤ 1000) (hp : wt p ≤ 1000) :
    z_Shelf_put [.ref s, prL p] L = .ok .non (L.set l (.lst ((putP p ps).map prL))) := by
  have sl : s ≠ l := fun e => by rw [e, hl] at hs; cases hs
  have h4 := wts_len ps
  have hs1 : (L.set l (.lst ((p :: ps).map prL)))[s]? = some (shelfO l) := by rw [set_get_ne (Ne.symm sl)]; exact hs
  have hl1 : (L.set l (.lst ((p :: ps).map prL)))[l]? = some (.lst ((p :: ps).map prL)) := set_get (has_lt hl)
  have hq : ∀ q ∈ p :: ps, wt q ≤ 1000 := fun q h => by
    rcases List.mem_cons.mp h with h | h
    · rw [h]; exact hp
    · have := wt_mem h; omega
  have lp := put_loop (a1 := .val (prL p)) (a3 := .no) (wts (p :: ps) + 1) (p :: ps) _ hs1 hl1 (by have := wts_len (p :: ps); omega) hq
  have cm := compR_map (n := gN 3) (t := tYes') (m := eCall 1 z_pair_weight (aCons (eVar 3) aNil)) (σ0 := [.val (.ref s), .val (prL p), .no, .no]) prL LV.int (fun p => ((wt p : Nat) : Int)) (fun _ => rfl) (p :: ps) (by rw [List.length_cons]; omega) hl1 fun q h => ⟨_, rfl, rfl, by
    have := weight_eq (L := L.set l (.lst ((p :: ps).map prL))) (hq q h)
    push_cast [cl_prL, this]⟩
  rw [List.set_set] at lp
  generalize hL1 : L.set l (.lst ((p :: ps).map prL)) = L1 at *
  unfold z_Shelf_put zw_Shelf_put
  rw [mDef_run]
  show fin (sSeq _ _ [.val (.ref s), .val (prL p), .no, .no] L) = _

  have e1 : (L.set l (.lst (prL p :: ps.map prL))) = L1 := hL1
  push_cast [hs, hl, fl_pairs, cl_prL, e1, hs1, hl1, cm, v_fSum, sum_wts]
  unfold sWhile
  show fin (wloop _ _ (mInt 2 [.val (.ref s), .val (prL p), .val (.int (wts (p :: ps) : Nat)), .no] L1) _ _) = _
  have em : mInt 2 [.val (.ref s), .val (prL p), .val (.int (wts (p :: ps) : Nat)), .no] L1 = wts (p :: ps) + 1 := by
    show ((wts (p :: ps) : Nat) : Int).toNat + 1 = _
    omega
  rw [em, lp]
  rfl
end Z
namespace Z
open PySem PySem.Spec L2 TL
local macro_rules | `(tactic| push_cast [$xs,*]) => `(tactic| simp (disch := (first | assumption | omega | (simp only [List.length_map, List.length_append, List.length_cons, List.length_nil, List.length_reverse, rng_len]; omega))) only [x_Var, x_C, x_Nil, x_Cons, x_e2, x_e1, x_eA, x_Clean, x_Tup, x_Frz, x_New, x_tOf, x_tTr, x_tAnd, x_tOr, x_tNot, x_And, x_Or, x_Not, x_eIf, x_Chain, x_Call, x_Meth, x_Pop, x_Pop0, x_LMt, x_Mt, x_Sl, x_SlT, x_oNone, x_oSome, x_List, x_CompA, x_Comp, x_iA, x_iQ1, x_iQ2, x_iZ, x_sNil, x_Seq, sq_nx, sq_rt, sq_er, sq_bk, sq_ct, x_sSet, x_sOwn, x_sDrop, x_sFrz, x_frzSlot, x_sRet, x_sRetN, x_sBk, x_sCt, x_sRaise, x_sIf, x_sItem, x_sAsg, x_sAug, x_sFldAugM, x_sFldM, x_sMod, x_sExt, x_sFor, x_gN, x_gT, x_gsNil, x_gsCons, v_add, v_sub, v_lt, v_le, v_gt, v_ge, v_mod, v_div, v_mul, v_eqR, v_neR, v_eqsR, v_nesR, v_eqbR, v_addL, v_addTxt, v_sgIx, v_isNon, in_str, in_tup, in_ref, in_int, in_non, v_lenT, v_lenL, v_lenS, v_sz, v_szi, v_rq1, v_rq2, Int.reduceToNat, Int.toNat_natCast, v_ixTup, v_ixLst, v_ixRdl, v_ixRef, v_ixStr, v_ixPr0, v_ixPr1, cl_prL, v_fLen, v_fLenLoc, v_seqLoc, v_fFld, v_insR, v_seqR, v_seqL, v_seqRd, v_seqMR, v_seqML, v_seqMo, bind_ok, bind_er, lift_ok, lift_er, fin_nx, fin_rt, fin_er, con1, cl_non, cl_bl, cl_int, cl_str, cl_ref, cl_tup, cl_lst, cl_rdl, cl_ins, frzO, truL, itemsOf, v_is_int, v_is_bl, v_is_str, v_is_tup, v_is_lst, v_is_non, v_is_ref, v_isO, isB_int, isB_int_bool, isB_bool_int, isB_list, isB_tuple, isB_str, Int.cast_ofNat_Int, ms_str, ms_int, ms_pr, ma_int, v_gApp, v_gIns0, List.set_cons_succ, List.set_cons_zero, List.getElem?_cons_succ, List.getElem?_cons_zero, List.length_cons, List.length_nil, List.all_cons, List.all_nil, Bool.and_true, Bool.true_and, Bool.and_false, Bool.false_and, Bool.and_self, Bool.not_true, Bool.not_false, Bool.or_true, Bool.true_or, Bool.or_false, Bool.false_or, if_true, if_false, decide_true, decide_false, decide_eq_true_eq, Bool.false_eq_true, Bool.not_eq_true', decide_eq_false_iff_not, Option.bind_some, Option.isNone_none, Option.isNone_some, Nat.reduceAdd, Int.reduceLT, Int.reduceLE, Int.reduceEq, Int.reduceNeg, Nat.reduceLT, Nat.reduceLeDiff, Nat.reduceEqDiff, Int.reduceAdd, Int.reduceSub, Int.reduceMul, List.set_set, wipeL, List.append_nil, List.nil_append, not_true_eq_false, not_false_eq_true, Int.natCast_nonneg, and_true, true_and, and_self, $xs,*])
/-! ### data -/
class Dat (α : Type) where
  lv : α → LV
  py : α → PyData
  ok : α → Prop
  dp : Nat
  toD : ∀ (rf : Nat → Option PyData) (a : α), toDW rf (lv a) = some (py a)
  lay : ∀ a, ok a → PyData.canLay0 (py a) = true
  dep : ∀ a, (py a).depth ≤ dp
  eqv : ∀ a b, PyData.eqv (py a) (py b) = true ↔ a = b
  cln : ∀ a, clean (lv a) = true
  nrf : ∀ a i, lv a ≠ .loc i
instance : Dat Int := ⟨.int, .int, fun _ => True, 0, fun _ _ => by rw [toDW], fun _ _ => rfl, fun _ => Nat.le_refl _, fun a b => by simp [PyData.eqv], fun _ => rfl, fun _ _ h => by cases h⟩
instance : Dat Str := ⟨.str, .str, fun s => PyData.strOk s = true, 0, fun _ _ => by rw [toDW], fun a h => h, fun _ => Nat.le_refl _, fun a b => by simp [PyData.eqv], fun _ => rfl, fun _ _ h => by cases h⟩
instance instDatPair {α β : Type} [Dat α] [Dat β] : Dat (α × β) where
  lv p := .tup [Dat.lv p.1, Dat.lv p.2]
  py p := .tuple [Dat.py p.1, Dat.py p.2]
  ok p := Dat.ok p.1 ∧ Dat.ok p.2
  dp := max (Dat.dp α) (Dat.dp β) + 1
  toD rf p := by
    rw [toDW, toDsW, toDsW, toDsW, Dat.toD rf p.1, Dat.toD rf p.2]
    rfl
  lay p h := by
    rw [PyData.canLay0, PyData.canLayAll0, PyData.canLayAll0, PyData.canLayAll0, Dat.lay _ h.1, Dat.lay _ h.2]
    rfl
  dep p := by
    have h1 := Dat.dep p.1
    have h2 := Dat.dep p.2
    rw [PyData.depth, PyData.depthAll, PyData.depthAll, PyData.depthAll]
    omega
  eqv p q := by
    rw [PyData.eqv, PyData.eqvAll, PyData.eqvAll, PyData.eqvAll, Bool.and_true, Bool.and_eq_true, Dat.eqv, Dat.eqv]
    exact ⟨fun h => Prod.ext h.1 h.2, fun h => by rw [h]; exact ⟨rfl, rfl⟩⟩
  cln _ := rfl
  nrf _ _ h := by cases h
theorem toDsW_map {α : Type} [Dat α] (rf : Nat → Option PyData) : ∀ xs : List α, toDsW rf (xs.map Dat.lv) = some (xs.map Dat.py)
  | [] => by rw [List.map_nil, toDsW]; rfl
  | x :: xs => by rw [List.map_cons, toDsW, Dat.toD, toDsW_map rf xs]; rfl
theorem canLayAll_map {α : Type} [Dat α] : ∀ xs : List α, (∀ x ∈ xs, Dat.ok x) → PyData.canLayAll0 (xs.map Dat.py) = true
  | [], _ => rfl
  | x :: xs, h => by
    rw [List.map_cons, PyData.canLayAll0, Dat.lay _ (h x List.mem_cons_self), canLayAll_map xs fun y hy => h y (List.mem_cons_of_mem _ hy)]
    rfl
theorem depthAll_map {α : Type} [Dat α] : ∀ xs : List α, PyData.depthAll (xs.map Dat.py) ≤ Dat.dp α
  | [] => Nat.zero_le _
  | x :: xs => by
    have := depthAll_map xs
    have := Dat.dep x
    rw [List.map_cons, PyData.depthAll]
    omega
theorem eqvAll_map {α : Type} [Dat α] : ∀ xs ys : List α, PyData.eqvAll (xs.map Dat.py) (ys.map Dat.py) = true ↔ xs = ys
  | [], [] => by simp [PyData.eqvAll]
  | [], _ :: _ => by simp [PyData.eqvAll]
  | _ :: _, [] => by simp [PyData.eqvAll]
  | x :: xs, y :: ys => by
    rw [List.map_cons, List.map_cons, PyData.eqvAll, Bool.and_eq_true, Dat.eqv, eqvAll_map xs ys]
    simp
instance instDatList {α : Type} [Dat α] : Dat (List α) where
  lv xs := .lst (xs.map Dat.lv)
  py xs := .list (xs.map Dat.py)
  ok xs := ∀ x ∈ xs, Dat.ok x
  dp := Dat.dp α + 1
  toD rf xs := by rw [toDW, toDsW_map]; rfl
  lay xs h := by rw [PyData.canLay0]; exact canLayAll_map xs h
  dep xs := by
    rw [PyData.depth]
    exact Nat.succ_le_succ (depthAll_map xs)
  eqv xs ys := by rw [PyData.eqv]; exact eqvAll_map xs ys
  cln _ := rfl
  nrf _ _ h := by cases h
theorem shaped_dat {α : Type} [Dat α] (a : α) (h : Dat.ok a) (hd : Dat.dp α ≤ 64) : SeqAt.shaped (Dat.py a) = true := by
  unfold SeqAt.shaped
  rw [Dat.lay a h, Bool.true_and]
  exact decide_eq_true (Nat.le_trans (Dat.dep a) hd)
/-- a value means a -/
def Means {α : Type} [Dat α] (σ : SL) (L : LH) (v : LV) (a : α) : Prop := toDR σ L v = some (Dat.py a) ∧ Dat.ok a
theorem means_lv {α : Type} [Dat α] {σ : SL} {L : LH} {a : α} (h : Dat.ok a) : Means σ L (Dat.lv a) a := by
  refine ⟨?_, h⟩
  unfold toDR
  split
  · rename_i e
    exact absurd e (Dat.nrf a _)
  · exact Dat.toD _ a
theorem means_ref {α : Type} [Dat α] {σ : SL} {L : LH} {n : Nat} {xs : List α} (hL : L[n]? = some (.lst (xs.map Dat.lv))) (h : ∀ x ∈ xs, Dat.ok x) : Means σ L (.ref n) xs := by
  refine ⟨?_, h⟩
  show toDW (toDk L 3) (.ref n) = _
  rw [toDW]
  unfold toDk
  rw [hL]
  simp only [toDsW_map]
  rfl
theorem eqv_dec {α : Type} [Dat α] [DecidableEq α] (a b : α) : PyData.eqv (Dat.py a) (Dat.py b) = decide (a = b) := by
  rw [Bool.eq_iff_iff, decide_eq_true_eq]
  exact Dat.eqv a b
theorem eq_means {α : Type} [Dat α] [DecidableEq α] {σ : SL} {L : LH} {v w : LV} {a b : α} (hd : Dat.dp α ≤ 64) (hs : eqS v w = none) (hv : Means σ L v a) (hw : Means σ L w b) (neg : Bool) : fEqR neg v w σ L = .ok (.bl (if neg then !decide (a = b) else decide (a = b))) L := by
  unfold fEqR
  simp only [hs, hv.1, hw.1, shaped_dat a hv.2 hd, shaped_dat b hw.2 hd, Bool.and_self, if_true, eqv_dec]
theorem eqT_means {α : Type} [Dat α] [DecidableEq α] {σ : SL} {L : LH} {v w : LV} {a b : α} (hd : Dat.dp α ≤ 64) (hs : eqS v w = none) (hv : Means σ L v a) (hw : Means σ L w b) : fEqR false v w σ L = .ok (.bl (decide (a = b))) L := eq_means hd hs hv hw false
theorem any_dec {α : Type} [Dat α] (a : α) (xs : List α) [Decidable (a ∈ xs)] : ((xs.map Dat.py).any fun z => PyData.eqv z (Dat.py a)) = decide (a ∈ xs) := by
  rw [Bool.eq_iff_iff, decide_eq_true_eq, List.any_map, List.any_eq_true]
  constructor
  · rintro ⟨x, hx, e⟩
    rw [← (Dat.eqv x a).mp e]
    exact hx
  · intro h
    exact ⟨a, h, (Dat.eqv a a).mpr rfl⟩
theorem in_means {α : Type} [Dat α] {σ : SL} {L : LH} {v w : LV} {a : α} {xs : List α} [Decidable (a ∈ xs)] (hd : Dat.dp α + 1 ≤ 64) (hv : Means σ L v a) (hw : Means σ L w xs) (neg : Bool) : fInR neg v w σ L = .ok (.bl (if neg then !decide (a ∈ xs) else decide (a ∈ xs))) L := by
  unfold fInR
  have e : toDR σ L w = some (.list (xs.map Dat.py)) := hw.1
  have s2 : SeqAt.shaped (.list (xs.map Dat.py)) = true := shaped_dat xs hw.2 hd
  simp only [hv.1, e, shaped_dat a hv.2 (by omega), s2, Bool.and_self, if_true, any_dec]
theorem findIdx_dec {α : Type} [Dat α] [DecidableEq α] (a : α) (xs : List α) : ((xs.map Dat.py).findIdx? fun z => PyData.eqv z (Dat.py a)) = xs.findIdx? fun z => decide (z = a) := by
  rw [List.findIdx?_map]
  congr 1
  funext z
  exact eqv_dec z a
theorem idx_means {α : Type} [Dat α] [DecidableEq α] {σ : SL} {L : LH} {v w : LV} {a : α} {xs : List α} (hd : Dat.dp α + 1 ≤ 64) (hv : Means σ L v a) (hw : Means σ L w xs) (h : a ∈ xs) : fLIdxR w [v] σ L = .ok (.int ((xs.findIdx fun z => decide (z = a) : Nat) : Int)) L := by
  unfold fLIdxR
  have e : toDR σ L w = some (.list (xs.map Dat.py)) := hw.1
  have s2 : SeqAt.shaped (.list (xs.map Dat.py)) = true := shaped_dat xs hw.2 hd
  have s3 : xs.findIdx? (fun z => decide (z = a)) = some (xs.findIdx fun z => decide (z = a)) := List.findIdx?_eq_some_of_exists ⟨a, h, decide_eq_true rfl⟩
  simp only [hv.1, e, shaped_dat a hv.2 (by omega), s2, Bool.and_self, if_true, findIdx_dec, s3]
theorem lv_pr (p : Pr) : Dat.lv p = prL p := rfl
theorem lv_prs (ps : List Pr) : Dat.lv ps = .lst (ps.map prL) := rfl
theorem lv_ints (ps : List Int) : Dat.lv ps = .lst (ps.map .int) := rfl
theorem in_meansT {α : Type} [Dat α] {σ : SL} {L : LH} {v w : LV} {a : α} {xs : List α} [Decidable (a ∈ xs)] (hd : Dat.dp α + 1 ≤ 64) (hv : Means σ L v a) (hw : Means σ L w xs) : fInR false v w σ L = .ok (.bl (decide (a ∈ xs))) L := in_means hd hv hw false
theorem in_meansN {α : Type} [Dat α] {σ : SL} {L : LH} {v w : LV} {a : α} {xs : List α} [Decidable (a ∈ xs)] (hd : Dat.dp α + 1 ≤ 64) (hv : Means σ L v a) (hw : Means σ L w xs) : fInR true v w σ L = .ok (.bl (!decide (a ∈ xs))) L := in_means hd hv hw true
end Z
namespace Z
open PySem PySem.Spec L2 TL
local macro_rules | `(tactic| push_cast [$xs,*]) => `(tactic| simp (disch := (first | assumption | omega | (simp only [List.length_map, List.length_append, List.length_cons, List.length_nil, List.length_reverse, rng_len]; omega))) only [x_Var, x_C, x_Nil, x_Cons, x_e2, x_e1, x_eA, x_Clean, x_Tup, x_Frz, x_New, x_tOf, x_tTr, x_tAnd, x_tOr, x_tNot, x_And, x_Or, x_Not, x_eIf, x_Chain, x_Call, x_Meth, x_Pop, x_Pop0, x_LMt, x_Mt, x_Sl, x_SlT, x_oNone, x_oSome, x_List, x_CompA, x_Comp, x_iA, x_iQ1, x_iQ2, x_iZ, x_sNil, x_Seq, sq_nx, sq_rt, sq_er, sq_bk, sq_ct, x_sSet, x_sOwn, x_sDrop, x_sFrz, x_frzSlot, x_sRet, x_sRetN, x_sBk, x_sCt, x_sRaise, x_sIf, x_sItem, x_sAsg, x_sAug, x_sFldAugM, x_sFldM, x_sMod, x_sExt, x_sFor, x_gN, x_gT, x_gsNil, x_gsCons, v_add, v_sub, v_lt, v_le, v_gt, v_ge, v_mod, v_div, v_mul, v_eqR, v_neR, v_eqsR, v_nesR, v_eqbR, v_addL, v_addTxt, v_sgIx, v_isNon, in_str, in_tup, in_ref, in_int, in_non, v_lenT, v_lenL, v_lenS, v_sz, v_szi, v_rq1, v_rq2, Int.reduceToNat, Int.toNat_natCast, v_ixTup, v_ixLst, v_ixRdl, v_ixRef, v_ixStr, v_ixPr0, v_ixPr1, cl_prL, v_fLen, v_fLenLoc, v_seqLoc, v_fFld, v_insR, v_seqR, v_seqL, v_seqRd, v_seqMR, v_seqML, v_seqMo, bind_ok, bind_er, lift_ok, lift_er, fin_nx, fin_rt, fin_er, con1, cl_non, cl_bl, cl_int, cl_str, cl_ref, cl_tup, cl_lst, cl_rdl, cl_ins, frzO, truL, itemsOf, v_is_int, v_is_bl, v_is_str, v_is_tup, v_is_lst, v_is_non, v_is_ref, v_isO, isB_int, isB_int_bool, isB_bool_int, isB_list, isB_tuple, isB_str, Int.cast_ofNat_Int, ms_str, ms_int, ms_pr, ma_int, v_gApp, v_gIns0, List.set_cons_succ, List.set_cons_zero, List.getElem?_cons_succ, List.getElem?_cons_zero, List.length_cons, List.length_nil, List.all_cons, List.all_nil, Bool.and_true, Bool.true_and, Bool.and_false, Bool.false_and, Bool.and_self, Bool.not_true, Bool.not_false, Bool.or_true, Bool.true_or, Bool.or_false, Bool.false_or, if_true, if_false, decide_true, decide_false, decide_eq_true_eq, Bool.false_eq_true, Bool.not_eq_true', decide_eq_false_iff_not, Option.bind_some, Option.isNone_none, Option.isNone_some, Nat.reduceAdd, Int.reduceLT, Int.reduceLE, Int.reduceEq, Int.reduceNeg, Nat.reduceLT, Nat.reduceLeDiff, Nat.reduceEqDiff, Int.reduceAdd, Int.reduceSub, Int.reduceMul, List.set_set, wipeL, List.append_nil, List.nil_append, not_true_eq_false, not_false_eq_true, Int.natCast_nonneg, and_true, true_and, and_self, $xs,*])
def GP (p : Pr) : Prop := GName p.1 ∧ GText p.2
theorem GText.ok {v : Str} (h : GText v) : PyData.strOk v = true := by
  obtain ⟨ks, rfl, _, d⟩ := h
  exact txt_ok d
theorem GName.ok {v : Str} (h : GName v) : PyData.strOk v = true := h.text.ok
theorem GP.ok {p : Pr} (h : GP p) : Dat.ok p := ⟨h.1.ok, h.2.ok⟩
theorem GP.wt {p : Pr} (h : GP p) : wt p ≤ 32 := by
  have := h.1.len
  have := h.2.len
  unfold Z.wt
  omega
/-- the law's checks of lists -/
def SeqAs (L : LH) (a : LV) (vs : List LV) : Prop := a = .lst vs ∨ ∃ n, a = .ref n ∧ L[n]? = some (.lst vs)
theorem SeqAs.means {α : Type} [Dat α] {σ : SL} {L : LH} {a : LV} {xs : List α} (h : SeqAs L a (xs.map Dat.lv)) (ok : ∀ x ∈ xs, Dat.ok x) : Means σ L a xs := by
  rcases h with rfl | ⟨n, rfl, hL⟩
  · exact means_lv (α := List α) ok
  · exact means_ref hL ok
theorem SeqAs.clean {L : LH} {a : LV} {vs : List LV} (h : SeqAs L a vs) : clean a = true := by
  rcases h with rfl | ⟨n, rfl, _⟩ <;> rfl
theorem SeqAs.isl {L : LH} {σ : SL} {a : LV} {vs : List LV} (h : SeqAs L a vs) : fIs (isB "list") a σ L = .ok (.bl true) L := by
  rcases h with rfl | ⟨n, rfl, hL⟩
  · push_cast [isB_list]
  · push_cast [hL, isB_list]
theorem SeqAs.len {L : LH} {σ : SL} {a : LV} {vs : List LV} (h : SeqAs L a vs) : fLen [a] σ L = .ok (.int vs.length) L := by
  rcases h with rfl | ⟨n, rfl, hL⟩
  · push_cast []
  · push_cast [hL]
theorem SeqAs.ns {L : LH} {a b : LV} {vs ws : List LV} (h : SeqAs L a vs) : eqS a b = none := by
  rcases h with rfl | ⟨n, rfl, hL⟩ <;> (cases b <;> rfl)
/-- a loop over it where each turn ends alike and nothing is changed -/
theorem loop_same {n : LV → SL → Option SL} {b : MS} {L : LH} (S : SL → Prop) : ∀ (xs : List LV) (σ : SL), S σ → (∀ x σ, x ∈ xs → S σ → ∃ σ1 σ2, n x σ = some σ1 ∧ b σ1 L = .nx σ2 L ∧ S σ2) → ∃ σ', loop n b xs σ L = .nx σ' L ∧ S σ'
  | [], σ, h, _ => ⟨σ, rfl, h⟩
  | x :: xs, σ, h, st => by
    obtain ⟨σ1, σ2, e1, e2, h2⟩ := st x σ List.mem_cons_self h
    obtain ⟨σ', e, h'⟩ := loop_same S xs σ2 h2 fun y σ hy hs => st y σ (List.mem_cons_of_mem _ hy) hs
    refine ⟨σ', ?_, h'⟩
    unfold loop
    simp only [e1, e2, e]
theorem loopR_same {n : LV → SL → Option SL} {b : MS} {L : LH} {r : Nat} {xs : List LV} (S : SL → Prop) (hL : L[r]? = some (.lst xs)) (st : ∀ x σ, x ∈ xs → S σ → ∃ σ1 σ2, n x σ = some σ1 ∧ b σ1 L = .nx σ2 L ∧ S σ2) : ∀ (k i : Nat) (σ : SL), k + i = xs.length → S σ → ∃ σ', loopR n b r (k + 1) i σ L = .nx σ' L ∧ S σ'
  | 0, i, σ, h, hs => by
    refine ⟨σ, ?_, hs⟩
    unfold loopR
    simp only [hL, List.getElem?_eq_none (show xs.length ≤ i by omega)]
  | k + 1, i, σ, h, hs => by
    have hlt : i < xs.length := by omega
    obtain ⟨σ1, σ2, e1, e2, h2⟩ := st xs[i] σ (List.getElem_mem hlt) hs
    obtain ⟨σ', e, h'⟩ := loopR_same S hL st k (i + 1) σ2 (by omega) h2
    refine ⟨σ', ?_, h'⟩
    unfold loopR
    simp only [hL, List.getElem?_eq_getElem hlt, e1, e2, e]
theorem forA_same {mo : ME} {n : LV → SL → Option SL} {b : MS} {L : LH} {σ : SL} {a : LV} {xs : List LV} (S : SL → Prop) (hm : mo σ L = .ok a L) (h : SeqAs L a xs) (hs : S σ) (st : ∀ x σ, x ∈ xs → S σ → ∃ σ1 σ2, n x σ = some σ1 ∧ b σ1 L = .nx σ2 L ∧ S σ2) : ∃ σ', sForA mo n b σ L = .nx σ' L ∧ S σ' := by
  unfold sForA
  rw [hm]
  rcases h with rfl | ⟨r, rfl, hL⟩
  · exact loop_same S xs σ hs st
  · simp only [lift_ok, hL]
    exact loopR_same S hL st xs.length 0 σ (by omega) hs
theorem pairs_eq {L : LH} {a : LV} {ps : List Pr} (h : SeqAs L a (ps.map prL)) (ok : ∀ p ∈ ps, Dat.ok p) (hl : ps.length ≤ 1000) (hw : ∀ p ∈ ps, wt p ≤ 1000) : z__law_pairs [a, .lst (ps.map prL)] L = .ok (.bl true) L := by
  have m1 : ∀ σ : SL, Means σ L a ps := fun σ => SeqAs.means (α := Pr) h ok
  have m2 : ∀ σ : SL, Means σ L (.lst (ps.map prL)) ps := fun σ => means_lv (α := List Pr) ok
  have e1 : ∀ σ : SL, fEqR false a (.lst (ps.map prL)) σ L = .ok (.bl true) L := fun σ => by
    rw [eqT_means (by decide) (SeqAs.ns (ws := []) h) (m1 σ) (m2 σ)]
    simp
  obtain ⟨σ', lp, hσ⟩ := forA_same (mo := eVar 0) (n := gN 2) (b := zb1__law_pairs) (σ := [.val a, .val (.lst (ps.map prL)), .no]) (fun σ => ∃ s, σ = [.val a, .val (.lst (ps.map prL)), s]) rfl h ⟨_, rfl⟩ fun x σ hx ⟨s, e⟩ => by
    subst e
    obtain ⟨p, hp, rfl⟩ := List.mem_map.mp hx
    have := hw p hp
    have l1 : p.1.length ≤ 1000 := by unfold wt at this; omega
    refine ⟨_, [.val a, .val (.lst (ps.map prL)), .val (prL p)], rfl, ?_, _, rfl⟩
    unfold zb1__law_pairs prL
    push_cast [atI_0, atI_1, isB_tuple, isB_str]
  obtain ⟨s, rfl⟩ := hσ
  unfold z__law_pairs zw__law_pairs
  rw [mDef_run]
  show fin (sSeq _ _ [.val a, .val (.lst (ps.map prL)), .no] L) = _
  push_cast [h.isl, h.len, List.length_map, lp, h.clean, e1]
theorem put_loopL {ps : List Pr} {s0 s1 : Sl} {L : LH} : ∀ (rest pre : List Pr) (s4 : Sl), ps = pre ++ rest → ps.length ≤ 1000 → (∀ p ∈ ps, wt p ≤ 1000) →
    ∃ s4', loop (gN 4) zb1__law_put ((List.range' pre.length rest.length).map fun (i : Nat) => LV.int (0 + (i : Int))) [s0, s1, .val (.lst (ps.map prL)), .val (.int (wts pre : Nat)), s4] L =
      if fitN (wts pre) rest = rest then .nx [s0, s1, .val (.lst (ps.map prL)), .val (.int (wts ps : Nat)), s4'] L else .rt (.lst ((pre ++ fitN (wts pre) rest).map prL)) L
  | [], pre, s4, e, _, _ => ⟨s4, by rw [List.append_nil] at e; subst e; rfl⟩
  | p :: rest, pre, s4, e, hl, hw => by
    have e2 : ps = (pre ++ [p]) ++ rest := by rw [e]; simp
    have hp : p ∈ ps := by rw [e]; simp
    have := hw p hp
    have l1 : p.1.length ≤ 1000 := by unfold wt at this; omega
    have l2 : p.2.length ≤ 1000 := by unfold wt at this; omega
    obtain ⟨s4', ih⟩ := put_loopL (ps := ps) (s0 := s0) (s1 := s1) (L := L) rest (pre ++ [p]) (.val (.int (0 + (pre.length : Nat)))) e2 hl hw
    have g : L2.atI (ps.map prL) (0 + ((pre.length : Nat) : Int)) = some (prL p) := by
      rw [Int.zero_add]
      exact atI_nat (by rw [List.getElem?_map, e, List.getElem?_append_right (Nat.le_refl _), Nat.sub_self]; rfl)
    have w1 : ((wts pre : Nat) : Int) + (p.1.length : Nat) + (p.2.length : Nat) + 4 = ((wts pre + wt p : Nat) : Int) := by unfold wt; omega
    have pl : ps.length = pre.length + (rest.length + 1) := by rw [e]; simp
    rw [List.length_append, List.length_singleton, wts_snoc] at ih
    refine ⟨s4', ?_⟩
    rw [List.length_cons, List.range'_succ, List.map_cons]
    unfold loop fitN
    have c1 : (0 : Int) + (pre.length : Nat) = ((pre.length : Nat) : Int) := by omega
    by_cases hc : wts pre + wt p ≤ 96
    · have hb : zb1__law_put [s0, s1, .val (.lst (ps.map prL)), .val (.int (wts pre : Nat)), .val (.int (0 + (pre.length : Nat)))] L = .nx [s0, s1, .val (.lst (ps.map prL)), .val (.int (wts pre + wt p : Nat)), .val (.int (0 + (pre.length : Nat)))] L := by
        unfold zb1__law_put
        push_cast [g, prL, atI_0, atI_1, w1, show ¬ ((96 : Int) < ((wts pre + wt p : Nat) : Int)) by omega]
      have hg : gN 4 (.int (0 + (pre.length : Nat))) [s0, s1, .val (.lst (ps.map prL)), .val (.int (wts pre : Nat)), s4] = some [s0, s1, .val (.lst (ps.map prL)), .val (.int (wts pre : Nat)), .val (.int (0 + (pre.length : Nat)))] := rfl
      simp only [hg, hb, ih, if_pos hc, List.append_assoc, List.singleton_append, List.cons.injEq, true_and]
    · have hb : zb1__law_put [s0, s1, .val (.lst (ps.map prL)), .val (.int (wts pre : Nat)), .val (.int (0 + (pre.length : Nat)))] L = .rt (.lst (pre.map prL)) L := by
        have ct : cutL (ps.map prL) none (some (0 + ((pre.length : Nat) : Int))) = pre.map prL := by
          unfold cutL
          rw [c1, HT.sIx_nat, List.length_map]
          have e0 : HT.sIx ps.length 0 none = 0 := rfl
          rw [e0, List.drop_zero, Nat.sub_zero, Nat.min_eq_left (by omega), e, List.map_append, List.take_left' (by rw [List.length_map])]
        unfold zb1__law_put
        push_cast [g, prL, atI_0, atI_1, w1, show ((96 : Int) < ((wts pre + wt p : Nat) : Int)) by omega]
        push_cast [ct]
      have hg : gN 4 (.int (0 + (pre.length : Nat))) [s0, s1, .val (.lst (ps.map prL)), .val (.int (wts pre : Nat)), s4] = some [s0, s1, .val (.lst (ps.map prL)), .val (.int (wts pre : Nat)), .val (.int (0 + (pre.length : Nat)))] := rfl
      simp only [hg, hb, if_neg hc]
      rw [if_neg (by simp), List.append_nil]
theorem fitN_le : ∀ (ps : List Pr) (acc : Nat), fitN acc ps = ps → acc ≤ 96 → acc + wts ps ≤ 96
  | [], acc, _, h => by rw [wts_nil]; omega
  | p :: ps, acc, e, h => by
    unfold fitN at e
    split at e
    · rename_i hc
      have := fitN_le ps _ (List.cons.inj e).2 hc
      rw [wts_cons]
      omega
    · cases e
theorem lput_eq {ps : List Pr} {p : Pr} {L : LH} (hw : wts ps ≤ 1000) (hp : wt p ≤ 1000) : z__law_put [.lst (ps.map prL), prL p] L = .ok (.lst ((putP p ps).map prL)) L := by
  have h4 := wts_len ps
  have hq : ∀ q ∈ p :: ps, wt q ≤ 1000 := fun q h => by
    rcases List.mem_cons.mp h with h | h
    · rw [h]; exact hp
    · have := wt_mem h; omega
  obtain ⟨s4, lp⟩ := put_loopL (ps := p :: ps) (s0 := .val (.lst (ps.map prL))) (s1 := .val (prL p)) (L := L) (p :: ps) [] .no rfl (by rw [List.length_cons]; omega) hq
  have er : (List.range' ([] : List Pr).length (p :: ps).length).map (fun (i : Nat) => LV.int (0 + (i : Int))) = rng 0 (ps.length + 1) := by
    unfold rng
    rw [List.range_eq_range']
    rfl
  rw [er] at lp
  have e1 : LV.int ((wts ([] : List Pr) : Nat) : Int) = .int 0 := rfl
  rw [e1] at lp
  have e2 : (p :: ps).map prL = prL p :: ps.map prL := rfl
  have e3 : fitN (wts []) (p :: ps) = putP p ps := rfl
  rw [e2, e3, List.nil_append] at lp
  unfold z__law_put zw__law_put
  rw [mDef_run]
  show fin (sSeq _ _ [.val (.lst (ps.map prL)), .val (prL p), .no, .no, .no] L) = _
  have tn : (((ps.length + 1 : Nat) : Int)).toNat = ps.length + 1 := by omega
  split at lp
  · rename_i hc
    push_cast [cl_prL, List.length_map, List.singleton_append, tn, lp, hc]
    rfl
  · push_cast [cl_prL, List.length_map, List.singleton_append, tn, lp]
end Z
namespace Z
open PySem PySem.Spec L2 TL
local macro_rules | `(tactic| push_cast [$xs,*]) => `(tactic| simp (disch := (first | assumption | omega | (simp only [List.length_map, List.length_append, List.length_cons, List.length_nil, List.length_reverse, rng_len]; omega))) only [x_Var, x_C, x_Nil, x_Cons, x_e2, x_e1, x_eA, x_Clean, x_Tup, x_Frz, x_New, x_tOf, x_tTr, x_tAnd, x_tOr, x_tNot, x_And, x_Or, x_Not, x_eIf, x_Chain, x_Call, x_Meth, x_Pop, x_Pop0, x_LMt, x_Mt, x_Sl, x_SlT, x_oNone, x_oSome, x_List, x_CompA, x_Comp, x_iA, x_iQ1, x_iQ2, x_iZ, x_sNil, x_Seq, sq_nx, sq_rt, sq_er, sq_bk, sq_ct, x_sSet, x_sOwn, x_sDrop, x_sFrz, x_frzSlot, x_sRet, x_sRetN, x_sBk, x_sCt, x_sRaise, x_sIf, x_sItem, x_sAsg, x_sAug, x_sFldAugM, x_sFldM, x_sMod, x_sExt, x_sFor, x_gN, x_gT, x_gsNil, x_gsCons, v_add, v_sub, v_lt, v_le, v_gt, v_ge, v_mod, v_div, v_mul, v_eqR, v_neR, v_eqsR, v_nesR, v_eqbR, v_addL, v_addTxt, v_sgIx, v_isNon, in_str, in_tup, in_ref, in_int, in_non, v_lenT, v_lenL, v_lenS, v_sz, v_szi, v_rq1, v_rq2, Int.reduceToNat, Int.toNat_natCast, v_ixTup, v_ixLst, v_ixRdl, v_ixRef, v_ixStr, v_ixPr0, v_ixPr1, cl_prL, v_fLen, v_fLenLoc, v_seqLoc, v_fFld, v_insR, v_seqR, v_seqL, v_seqRd, v_seqMR, v_seqML, v_seqMo, bind_ok, bind_er, lift_ok, lift_er, fin_nx, fin_rt, fin_er, con1, cl_non, cl_bl, cl_int, cl_str, cl_ref, cl_tup, cl_lst, cl_rdl, cl_ins, frzO, truL, itemsOf, v_is_int, v_is_bl, v_is_str, v_is_tup, v_is_lst, v_is_non, v_is_ref, v_isO, isB_int, isB_int_bool, isB_bool_int, isB_list, isB_tuple, isB_str, Int.cast_ofNat_Int, ms_str, ms_int, ms_pr, ma_int, v_gApp, v_gIns0, List.set_cons_succ, List.set_cons_zero, List.getElem?_cons_succ, List.getElem?_cons_zero, List.length_cons, List.length_nil, List.all_cons, List.all_nil, Bool.and_true, Bool.true_and, Bool.and_false, Bool.false_and, Bool.and_self, Bool.not_true, Bool.not_false, Bool.or_true, Bool.true_or, Bool.or_false, Bool.false_or, if_true, if_false, decide_true, decide_false, decide_eq_true_eq, Bool.false_eq_true, Bool.not_eq_true', decide_eq_false_iff_not, Option.bind_some, Option.isNone_none, Option.isNone_some, Nat.reduceAdd, Int.reduceLT, Int.reduceLE, Int.reduceEq, Int.reduceNeg, Nat.reduceLT, Nat.reduceLeDiff, Nat.reduceEqDiff, Int.reduceAdd, Int.reduceSub, Int.reduceMul, List.set_set, wipeL, List.append_nil, List.nil_append, not_true_eq_false, not_false_eq_true, Int.natCast_nonneg, and_true, true_and, and_self, $xs,*])
theorem shelf_init {L : LH} : z_Shelf___init__ [.ref L.length] (L ++ [.ins "Shelf" [] []]) = .ok .non (L ++ [shelfO (L.length + 1), .lst []]) := by
  have g : (L ++ [LO.ins "Shelf" [] []] ++ [LO.lst []])[L.length]? = some (.ins "Shelf" [] []) := by simp
  have s1 : (L ++ [LO.ins "Shelf" [] []] ++ [LO.lst []]).set L.length (.ins "Shelf" ["pairs"] [.ref (L.length + 1)]) = L ++ [shelfO (L.length + 1), .lst []] := by
    rw [List.append_assoc, List.set_append_right _ _ (Nat.le_refl _), Nat.sub_self]
    rfl
  have p1 : putN (Str.ofString "pairs") [] = [Str.ofString "pairs"] := rfl
  have p2 : ∀ x : LV, putV (Str.ofString "pairs") x [] [] = [x] := fun _ => rfl
  unfold z_Shelf___init__ zw_Shelf___init__
  rw [mDef_run]
  show fin (sFldM _ _ _ _ [.val (.ref L.length)] _) = _
  push_cast [g, List.length_append, p1, p2, s1]
theorem make_shelf {σ : SL} {L : LH} : eMake "Shelf" 1 z_Shelf___init__ aNil σ L = .ok (.ref L.length) (L ++ [shelfO (L.length + 1), .lst []]) := by
  rw [x_Make]
  push_cast [shelf_init]
theorem atI_mem {α β : Type} {f : α → β} {xs : List α} {i : Int} (h0 : 0 ≤ i) (h : i < xs.length) : ∃ x ∈ xs, L2.atI (xs.map f) i = some (f x) := by
  obtain ⟨k, rfl⟩ : ∃ k : Nat, i = (k : Int) := ⟨i.toNat, by omega⟩
  have hl : k < xs.length := by omega
  exact ⟨xs[k], List.getElem_mem hl, atI_nat (by rw [List.getElem?_map]; simp [hl])⟩
theorem pick2 {v : Int} (a b : LV) (h0 : 0 ≤ v) (h : v < 3) : L2.atI [a, b] (v / 2) = some (if v < 2 then a else b) := by
  rcases (show v = 0 ∨ v = 1 ∨ v = 2 by omega) with rfl | rfl | rfl
  · exact atI_0
  · exact atI_0
  · exact atI_1
theorem pairs_nil {L : LH} {a : LV} (h : SeqAs L a []) : z__law_pairs [a, .lst []] L = .ok (.bl true) L := pairs_eq (ps := []) h (fun _ h => by cases h) (by decide) (fun _ h => by cases h)
theorem pairs_gp {L : LH} {a : LV} {ps : List Pr} (h : SeqAs L a (ps.map prL)) (hg : ∀ p ∈ ps, GP p) (hl : ps.length ≤ 1000) : z__law_pairs [a, .lst (ps.map prL)] L = .ok (.bl true) L := pairs_eq h (fun p hp => (hg p hp).ok) hl (fun p hp => by have := (hg p hp).wt; omega)
theorem prL_eq (a b : Str) : LV.tup [.str a, .str b] = prL (a, b) := rfl
end Z
namespace Z
open PySem PySem.Spec L2 TL
local macro_rules | `(tactic| push_cast [$xs,*]) => `(tactic| simp (disch := (first | assumption | omega | (simp only [List.length_map, List.length_append, List.length_cons, List.length_nil, List.length_reverse, rng_len]; omega))) only [x_Var, x_C, x_Nil, x_Cons, x_e2, x_e1, x_eA, x_Clean, x_Tup, x_Frz, x_New, x_tOf, x_tTr, x_tAnd, x_tOr, x_tNot, x_And, x_Or, x_Not, x_eIf, x_Chain, x_Call, x_Meth, x_Pop, x_Pop0, x_LMt, x_Mt, x_Sl, x_SlT, x_oNone, x_oSome, x_List, x_CompA, x_Comp, x_iA, x_iQ1, x_iQ2, x_iZ, x_sNil, x_Seq, sq_nx, sq_rt, sq_er, sq_bk, sq_ct, x_sSet, x_sOwn, x_sDrop, x_sFrz, x_frzSlot, x_sRet, x_sRetN, x_sBk, x_sCt, x_sRaise, x_sIf, x_sItem, x_sAsg, x_sAug, x_sFldAugM, x_sFldM, x_sMod, x_sExt, x_sFor, x_gN, x_gT, x_gsNil, x_gsCons, v_add, v_sub, v_lt, v_le, v_gt, v_ge, v_mod, v_div, v_mul, v_eqR, v_neR, v_eqsR, v_nesR, v_eqbR, v_addL, v_addTxt, v_sgIx, v_isNon, in_str, in_tup, in_ref, in_int, in_non, v_lenT, v_lenL, v_lenS, v_sz, v_szi, v_rq1, v_rq2, Int.reduceToNat, Int.toNat_natCast, v_ixTup, v_ixLst, v_ixRdl, v_ixRef, v_ixStr, v_ixPr0, v_ixPr1, cl_prL, v_fLen, v_fLenLoc, v_seqLoc, v_fFld, v_insR, v_seqR, v_seqL, v_seqRd, v_seqMR, v_seqML, v_seqMo, bind_ok, bind_er, lift_ok, lift_er, fin_nx, fin_rt, fin_er, con1, cl_non, cl_bl, cl_int, cl_str, cl_ref, cl_tup, cl_lst, cl_rdl, cl_ins, frzO, truL, itemsOf, v_is_int, v_is_bl, v_is_str, v_is_tup, v_is_lst, v_is_non, v_is_ref, v_isO, isB_int, isB_int_bool, isB_bool_int, isB_list, isB_tuple, isB_str, Int.cast_ofNat_Int, ms_str, ms_int, ms_pr, ma_int, v_gApp, v_gIns0, List.set_cons_succ, List.set_cons_zero, List.getElem?_cons_succ, List.getElem?_cons_zero, List.length_cons, List.length_nil, List.all_cons, List.all_nil, Bool.and_true, Bool.true_and, Bool.and_false, Bool.false_and, Bool.and_self, Bool.not_true, Bool.not_false, Bool.or_true, Bool.true_or, Bool.or_false, Bool.false_or, if_true, if_false, decide_true, decide_false, decide_eq_true_eq, Bool.false_eq_true, Bool.not_eq_true', decide_eq_false_iff_not, Option.bind_some, Option.isNone_none, Option.isNone_some, Nat.reduceAdd, Int.reduceLT, Int.reduceLE, Int.reduceEq, Int.reduceNeg, Nat.reduceLT, Nat.reduceLeDiff, Nat.reduceEqDiff, Int.reduceAdd, Int.reduceSub, Int.reduceMul, List.set_set, wipeL, List.append_nil, List.nil_append, not_true_eq_false, not_false_eq_true, Int.natCast_nonneg, and_true, true_and, and_self, $xs,*])
/-! ### texts told -/
/-- the numbers that tell a text -/
def tn (t : Str) : List Int := (t.length : Int) :: t.cps.toList.map fun c => ((SGL.idxOf c : Nat) : Int)
theorem sgl_idx : ∀ k : _root_.Fin 94, SGL.idxOf (SGL.getD k.val 0) = k.val := by decide +kernel
theorem tn_txt {ks : List Nat} (hk : ∀ k ∈ ks, k < 94) : tn (txt ks) = due ks := by
  unfold tn due
  rw [txt_len]
  congr 1
  show ((ks.map fun k => SGL.getD k 0).toArray.toList).map _ = _
  rw [List.toList_toArray, List.map_map]
  refine List.map_congr_left fun k h => ?_
  show ((SGL.idxOf (SGL.getD k 0) : Nat) : Int) = k
  rw [sgl_idx ⟨k, hk k h⟩]
theorem tn_len (t : Str) : (tn t).length = t.length + 1 := by
  unfold tn
  rw [List.length_cons, List.length_map]
  rfl
theorem v_SIGNS_is : v_SIGNS = SG := rfl
theorem numbers_eq {t : Str} {L : LH} (h : GText t) : z_text_numbers [.str t] L = .ok (.lst ((tn t).map .int)) L := by
  have hl := h.len
  obtain ⟨ks, rfl, b, hk⟩ := h
  have c := told_comp (σ0 := [.val (.str (txt ks)), .no]) (mo := eC (.str v_SIGNS)) (L := L) hk (by omega) rfl fun σ => rfl
  rw [tn_txt hk]
  unfold z_text_numbers zw_text_numbers
  rw [mDef_run]
  show fin (sRet _ [.val (.str (txt ks)), .no] L) = _
  push_cast [x_CompA, c]
  unfold due
  rw [txt_len]
  rfl
theorem ltold_eq {t : Str} {L : LH} (h : GText t) : z__law_told [.str t] L = .ok (.lst ((tn t).map .int)) L := by
  have hl := h.len
  obtain ⟨ks, rfl, b, hk⟩ := h
  have sg : z__law_signs [] L = .ok (.str SG) L := signs_eq
  have c := told_comp (σ0 := [.val (.str (txt ks)), .no]) (mo := eCall 0 z__law_signs aNil) (L := L) hk (by omega) rfl fun σ => by push_cast [sg]
  rw [tn_txt hk]
  unfold z__law_told zw__law_told
  rw [mDef_run]
  show fin (sRet _ [.val (.str (txt ks)), .no] L) = _
  push_cast [x_CompA, c]
  unfold due
  rw [txt_len]
  rfl
/-! ### a drawn head -/
theorem head_eq {o : LO} {T : LH} {nm vl : List Str} (n4 : nm.length = 4) (v5 : vl.length = 5) (hn : ∀ n ∈ nm, GName n) (hv : ∀ v ∈ vl, GText v) (h : RowO o) :
    ∃ (hd : List Pr) (o' : LO), z__law_head [.ref 0, .tup [.lst (nm.map .str), .lst (vl.map .str)]] (o :: T) = .ok (.lst (hd.map prL)) (o' :: T) ∧ RowO o' ∧ hd.length ≤ 6 ∧ ∀ p ∈ hd, GP p := by
  obtain ⟨c, o1, d1, c0, c1, h1⟩ := drawP (T := T) 9 h (by decide)
  have m0 := Int.emod_nonneg c (show (7 : Int) ≠ 0 by decide)
  have m1 := Int.emod_lt_of_pos c (show (0 : Int) < 7 by decide)
  obtain ⟨σ', L', lp, hd, c', t5, rfl, rfl, hl, hp⟩ := for_inv (n := gN 5) (b := zb1__law_head) (fun k σ L => ∃ (hd : List Pr) (c' : Int) (t5 : Sl), σ = [.val (.ref 0), .val (.tup [.lst (nm.map .str), .lst (vl.map .str)]), .own (.lst (hd.map prL)), .val (.int c'), .val (.int (c % 7)), t5] ∧ L = o1 :: T ∧ hd.length = k ∧ ∀ p ∈ hd, GP p) (xs := rng 0 (c % 7).toNat)
    (σ := [.val (.ref 0), .val (.tup [.lst (nm.map .str), .lst (vl.map .str)]), .own (.lst []), .val (.int (c / 7)), .val (.int (c % 7)), .no]) (L := o1 :: T) ⟨[], _, _, rfl, rfl, rfl, fun _ h => by cases h⟩ fun j x σ L hx ⟨hd, c', t5, e1, e2, hl, hp⟩ => by
      subst e1 e2
      obtain ⟨rfl, hj⟩ := rng_get hx
      refine ⟨_, rfl, ?_⟩
      obtain ⟨n, n1, n2⟩ := atI_mem (f := LV.str) (xs := nm) (i := (c' + (j : Int)) % 4) (Int.emod_nonneg _ (by decide)) (by have := Int.emod_lt_of_pos (c' + (j : Int)) (show (0 : Int) < 4 by decide); omega)
      obtain ⟨v, v1, v2⟩ := atI_mem (f := LV.str) (xs := vl) (i := (c' / 4 + (j : Int) * (j : Int)) % 5) (Int.emod_nonneg _ (by decide)) (by have := Int.emod_lt_of_pos (c' / 4 + (j : Int) * (j : Int)) (show (0 : Int) < 5 by decide); omega)
      unfold zb1__law_head
      refine Nx.mk (by push_cast [atI_0, atI_1, n2, v2, prL_eq, cl_prL]; rfl) ⟨hd ++ [(n, v)], _, _, rfl, rfl, by simp [hl], fun p h => ?_⟩
      rcases List.mem_append.mp h with h | h
      · exact hp p h
      · rw [show p = (n, v) by simpa using h]
        exact ⟨hn n n1, hv v v1⟩
  rw [rng_len] at hl
  refine ⟨hd, o1, ?_, h1, by omega, hp⟩
  unfold z__law_head zw__law_head
  rw [mDef_run]
  show fin (sSeq _ _ [.val (.ref 0), .val (.tup [.lst (nm.map .str), .lst (vl.map .str)]), .no, .no, .no, .no] (o :: T)) = _
  push_cast [d1, v_pow9, lp]
/-! ### a head told -/
def tellP (ps : List Pr) (p : Pr) : List Int × List Pr :=
  if p ∈ ps then ([0, ((ps.findIdx fun q => decide (q = p) : Nat) : Int)], ps)
  else if p.1 ∈ ps.map (·.1) then ([1, (((ps.map (·.1)).findIdx fun q => decide (q = p.1) : Nat) : Int)] ++ tn p.2, putP p ps)
  else ([2] ++ tn p.1 ++ tn p.2, putP p ps)
def tellH : List Pr → List Pr → List Int × List Pr
  | ps, [] => ([], ps)
  | ps, p :: h => ((tellP ps p).1 ++ (tellH (tellP ps p).2 h).1, (tellH (tellP ps p).2 h).2)
theorem in_prR {σ : SL} {L : LH} {l : Nat} {p : Pr} {ps : List Pr} (hL : L[l]? = some (.lst (ps.map prL))) (hg : ∀ q ∈ ps, GP q) (hp : GP p) : fInR false (prL p) (.ref l) σ L = .ok (.bl (decide (p ∈ ps))) L :=
  in_meansT (α := Pr) (by decide) (means_lv hp.ok) (means_ref hL fun q h => (hg q h).ok)
theorem in_prL {σ : SL} {L : LH} {p : Pr} {ps : List Pr} (hg : ∀ q ∈ ps, GP q) (hp : GP p) : fInR false (prL p) (.lst (ps.map prL)) σ L = .ok (.bl (decide (p ∈ ps))) L :=
  in_meansT (α := Pr) (by decide) (means_lv hp.ok) (means_lv (α := List Pr) fun q h => (hg q h).ok)
theorem nin_prL {σ : SL} {L : LH} {p : Pr} {ps : List Pr} (hg : ∀ q ∈ ps, GP q) (hp : GP p) : fInR true (prL p) (.lst (ps.map prL)) σ L = .ok (.bl (!decide (p ∈ ps))) L :=
  in_meansN (α := Pr) (by decide) (means_lv hp.ok) (means_lv (α := List Pr) fun q h => (hg q h).ok)
theorem ix_prR {σ : SL} {L : LH} {l : Nat} {p : Pr} {ps : List Pr} (hL : L[l]? = some (.lst (ps.map prL))) (hg : ∀ q ∈ ps, GP q) (hp : GP p) (h : p ∈ ps) : fLIdxR (.ref l) [prL p] σ L = .ok (.int ((ps.findIdx fun q => decide (q = p) : Nat) : Int)) L :=
  idx_means (α := Pr) (by decide) (means_lv hp.ok) (means_ref hL fun q h => (hg q h).ok) h
theorem ix_prL {σ : SL} {L : LH} {p : Pr} {ps : List Pr} (hg : ∀ q ∈ ps, GP q) (hp : GP p) (h : p ∈ ps) : fLIdxR (.lst (ps.map prL)) [prL p] σ L = .ok (.int ((ps.findIdx fun q => decide (q = p) : Nat) : Int)) L :=
  idx_means (α := Pr) (by decide) (means_lv hp.ok) (means_lv (α := List Pr) fun q h => (hg q h).ok) h
theorem in_st {σ : SL} {L : LH} {n : Str} {ns : List Str} (hg : ∀ q ∈ ns, GText q) (hp : GText n) : fInR false (.str n) (.lst (ns.map .str)) σ L = .ok (.bl (decide (n ∈ ns))) L :=
  in_meansT (α := Str) (by decide) (means_lv hp.ok) (means_lv (α := List Str) fun q h => (hg q h).ok)
theorem ix_st {σ : SL} {L : LH} {n : Str} {ns : List Str} (hg : ∀ q ∈ ns, GText q) (hp : GText n) (h : n ∈ ns) : fLIdxR (.lst (ns.map .str)) [.str n] σ L = .ok (.int ((ns.findIdx fun q => decide (q = n) : Nat) : Int)) L :=
  idx_means (α := Str) (by decide) (means_lv hp.ok) (means_lv (α := List Str) fun q h => (hg q h).ok) h
theorem names_ok {ps : List Pr} (hg : ∀ q ∈ ps, GP q) : ∀ n ∈ ps.map (·.1), GText n := fun n h => by
  obtain ⟨q, hq, rfl⟩ := List.mem_map.mp h
  exact (hg q hq).1.text
theorem tellP_gp {ps : List Pr} {p : Pr} (hg : ∀ q ∈ ps, GP q) (hp : GP p) (hw : wts ps ≤ 96) : (∀ q ∈ (tellP ps p).2, GP q) ∧ wts (tellP ps p).2 ≤ 96 ∧ (tellP ps p).1.length ≤ 32 := by
  have := hp.1.len
  have := hp.2.len
  have hq : ∀ q ∈ putP p ps, GP q := fun q hq => by
    rcases putP_mem hq with h | h
    · rw [h]; exact hp
    · exact hg q h
  unfold tellP
  split
  · exact ⟨hg, hw, by show 2 ≤ 32; decide⟩
  · split
    · refine ⟨hq, putP_w _ _, ?_⟩
      simp [tn_len]
      omega
    · refine ⟨hq, putP_w _ _, ?_⟩
      simp [tn_len]
      omega
theorem told_pair_eq {s l : Nat} {L : LH} {ps : List Pr} {p : Pr} (hs : L[s]? = some (shelfO l)) (hl : L[l]? = some (.lst (ps.map prL))) (hw : wts ps ≤ 96) (hg : ∀ q ∈ ps, GP q) (hp : GP p) :
    z_told_pair [.ref s, prL p] L = .ok (.lst ((tellP ps p).1.map .int)) (L.set l (.lst ((tellP ps p).2.map prL))) := by
  have wp := hp.wt
  have h4 := wts_len ps
  have t1 := hp.1.len
  have t2 := hp.2.len
  have n1 := tn_len p.1
  have n2 := tn_len p.2
  unfold tellP z_told_pair zw_told_pair
  rw [mDef_run]
  show fin (sSeq _ _ [.val (.ref s), .val (prL p), .no, .no, .no, .no, .no] L) = _
  by_cases c1 : p ∈ ps
  · rw [if_pos c1, set_same hl]
    push_cast [hs, hl, fl_pairs, in_prR hl hg hp, c1, ix_prR hl hg hp c1, cl_prL]
    rfl
  · rw [if_neg c1]
    have cm := fun (a2 a3 : Sl) => compR_map (n := gN 6) (t := tYes') (m := e2 fIx (eVar 6) (eC (.int 0))) (σ0 := [.val (.ref s), .val (prL p), a2, a3, .no, .no, .no]) (L := L) prL LV.str (·.1) (fun _ => rfl) ps (by omega) hl fun q h => ⟨_, rfl, rfl, by
      push_cast [prL, atI_0]⟩
    have pe := put_eq hs hl (p := p) (by omega) (by omega)
    by_cases c2 : p.1 ∈ ps.map (·.1)
    · rw [if_pos c2]
      have nm := fun L => numbers_eq (L := L) hp.2
      have pr : prL p = .tup [.str p.1, .str p.2] := rfl
      have ci := in_st (σ := [.val (.ref s), .val (prL p), .val (.str p.1), .val (.str p.2), .val (.lst ((ps.map (·.1)).map .str)), .no, .no]) (L := L) (names_ok hg) hp.1.text
      have cx := ix_st (σ := [.val (.ref s), .val (prL p), .val (.str p.1), .val (.str p.2), .val (.lst ((ps.map (·.1)).map .str)), .no, .no]) (L := L) (names_ok hg) hp.1.text c2
      push_cast [hs, hl, fl_pairs, in_prR hl hg hp, c1, cl_prL]
      rw [pr] at cm ci cx pe ⊢
      push_cast [hs, hl, fl_pairs, fl_put, x_CompA, cm, ci, cx, c2, pe, nm]
      rw [List.map_append]
      rfl
    · rw [if_neg c2]
      have nm := fun L => numbers_eq (L := L) hp.2
      have nm1 := fun L => numbers_eq (L := L) hp.1.text
      have pr : prL p = .tup [.str p.1, .str p.2] := rfl
      have ci := in_st (σ := [.val (.ref s), .val (prL p), .val (.str p.1), .val (.str p.2), .val (.lst ((ps.map (·.1)).map .str)), .no, .no]) (L := L) (names_ok hg) hp.1.text
      push_cast [hs, hl, fl_pairs, in_prR hl hg hp, c1, cl_prL]
      rw [pr] at cm ci pe ⊢
      push_cast [hs, hl, fl_pairs, fl_put, x_CompA, cm, ci, c2, pe, nm, nm1]
      rw [List.map_append, List.map_append]
      rfl
end Z
namespace Z
open PySem PySem.Spec L2 TL
local macro_rules | `(tactic| push_cast [$xs,*]) => `(tactic| simp (disch := (first | assumption | omega | (simp only [List.length_map, List.length_append, List.length_cons, List.length_nil, List.length_reverse, rng_len]; omega))) only [x_Var, x_C, x_Nil, x_Cons, x_e2, x_e1, x_eA, x_Clean, x_Tup, x_Frz, x_New, x_tOf, x_tTr, x_tAnd, x_tOr, x_tNot, x_And, x_Or, x_Not, x_eIf, x_Chain, x_Call, x_Meth, x_Pop, x_Pop0, x_LMt, x_Mt, x_Sl, x_SlT, x_oNone, x_oSome, x_List, x_CompA, x_Comp, x_iA, x_iQ1, x_iQ2, x_iZ, x_sNil, x_Seq, sq_nx, sq_rt, sq_er, sq_bk, sq_ct, x_sSet, x_sOwn, x_sDrop, x_sFrz, x_frzSlot, x_sRet, x_sRetN, x_sBk, x_sCt, x_sRaise, x_sIf, x_sItem, x_sAsg, x_sAug, x_sFldAugM, x_sFldM, x_sMod, x_sExt, x_sFor, x_gN, x_gT, x_gsNil, x_gsCons, v_add, v_sub, v_lt, v_le, v_gt, v_ge, v_mod, v_div, v_mul, v_eqR, v_neR, v_eqsR, v_nesR, v_eqbR, v_addL, v_addTxt, v_sgIx, v_isNon, in_str, in_tup, in_ref, in_int, in_non, v_lenT, v_lenL, v_lenS, v_sz, v_szi, v_rq1, v_rq2, Int.reduceToNat, Int.toNat_natCast, v_ixTup, v_ixLst, v_ixRdl, v_ixRef, v_ixStr, v_ixPr0, v_ixPr1, cl_prL, v_fLen, v_fLenLoc, v_seqLoc, v_fFld, v_insR, v_seqR, v_seqL, v_seqRd, v_seqMR, v_seqML, v_seqMo, bind_ok, bind_er, lift_ok, lift_er, fin_nx, fin_rt, fin_er, con1, cl_non, cl_bl, cl_int, cl_str, cl_ref, cl_tup, cl_lst, cl_rdl, cl_ins, frzO, truL, itemsOf, v_is_int, v_is_bl, v_is_str, v_is_tup, v_is_lst, v_is_non, v_is_ref, v_isO, isB_int, isB_int_bool, isB_bool_int, isB_list, isB_tuple, isB_str, Int.cast_ofNat_Int, ms_str, ms_int, ms_pr, ma_int, v_gApp, v_gIns0, List.set_cons_succ, List.set_cons_zero, List.getElem?_cons_succ, List.getElem?_cons_zero, List.length_cons, List.length_nil, List.all_cons, List.all_nil, Bool.and_true, Bool.true_and, Bool.and_false, Bool.false_and, Bool.and_self, Bool.not_true, Bool.not_false, Bool.or_true, Bool.true_or, Bool.or_false, Bool.false_or, if_true, if_false, decide_true, decide_false, decide_eq_true_eq, Bool.false_eq_true, Bool.not_eq_true', decide_eq_false_iff_not, Option.bind_some, Option.isNone_none, Option.isNone_some, Nat.reduceAdd, Int.reduceLT, Int.reduceLE, Int.reduceEq, Int.reduceNeg, Nat.reduceLT, Nat.reduceLeDiff, Nat.reduceEqDiff, Int.reduceAdd, Int.reduceSub, Int.reduceMul, List.set_set, wipeL, List.append_nil, List.nil_append, not_true_eq_false, not_false_eq_true, Int.natCast_nonneg, and_true, true_and, and_self, $xs,*])
theorem told_loop {s l : Nat} {a1 : Sl} : ∀ (hd : List Pr) (acc : List Int) (ps : List Pr) (L : LH) (s3 : Sl), L[s]? = some (shelfO l) → L[l]? = some (.lst (ps.map prL)) → wts ps ≤ 96 → (∀ q ∈ ps, GP q) → (∀ q ∈ hd, GP q) → acc.length + 32 * hd.length ≤ 100000 →
    ∃ s3', loop (gN 3) zb1_told_head (hd.map prL) [.val (.ref s), a1, .own (.lst (acc.map .int)), s3] L = .nx [.val (.ref s), a1, .own (.lst ((acc ++ (tellH ps hd).1).map .int)), s3'] (L.set l (.lst ((tellH ps hd).2.map prL))) ∧ wts (tellH ps hd).2 ≤ 96 ∧ (∀ q ∈ (tellH ps hd).2, GP q) ∧ (tellH ps hd).1.length ≤ 32 * hd.length
  | [], acc, ps, L, s3, hs, hl, hw, hg, hh, hz => ⟨s3, by rw [show (tellH ps []).1 = [] from rfl, List.append_nil, show (tellH ps []).2 = ps from rfl, set_same hl]; rfl, hw, hg, Nat.le_refl _⟩
  | p :: hd, acc, ps, L, s3, hs, hl, hw, hg, hh, hz => by
    have sl : s ≠ l := fun e => by rw [e, hl] at hs; cases hs
    have gp := hh p List.mem_cons_self
    obtain ⟨g1, g2, g3⟩ := tellP_gp hg gp hw
    have tp := told_pair_eq hs hl hw hg gp
    rw [List.length_cons] at hz
    have e : tellH ps (p :: hd) = ((tellP ps p).1 ++ (tellH (tellP ps p).2 hd).1, (tellH (tellP ps p).2 hd).2) := rfl
    generalize tellP ps p = r at *
    obtain ⟨ns, qs⟩ := r
    obtain ⟨s3', ih, i2, i3, i4⟩ := told_loop (s := s) (l := l) (a1 := a1) hd (acc ++ ns) qs (L.set l (.lst (qs.map prL))) (.val (prL p)) (by rw [set_get_ne (Ne.symm sl)]; exact hs) (set_get (has_lt hl)) g2 g1 (fun q h => hh q (List.mem_cons_of_mem _ h)) (by rw [List.length_append]; simp only at g3; omega)
    rw [e]
    refine ⟨s3', ?_, i2, i3, by simp only [List.length_append, List.length_cons] at *; omega⟩
    rw [List.set_set] at ih
    rw [List.map_cons]
    unfold loop
    have hb : zb1_told_head [.val (.ref s), a1, .own (.lst (acc.map .int)), .val (prL p)] L = .nx [.val (.ref s), a1, .own (.lst ((acc ++ ns).map .int)), .val (prL p)] (L.set l (.lst (qs.map prL))) := by
      unfold zb1_told_head
      simp only at g3
      push_cast [tp, cl_prL]
    have hg2 : gN 3 (prL p) [.val (.ref s), a1, .own (.lst (acc.map .int)), s3] = some [.val (.ref s), a1, .own (.lst (acc.map .int)), .val (prL p)] := rfl
    simp only [hg2, hb, ih, List.append_assoc]
theorem told_head_eq {s l : Nat} {L : LH} {ps hd : List Pr} (hs : L[s]? = some (shelfO l)) (hl : L[l]? = some (.lst (ps.map prL))) (hw : wts ps ≤ 96) (hg : ∀ q ∈ ps, GP q) (hh : ∀ q ∈ hd, GP q) (hz : hd.length ≤ 100) :
    z_told_head [.ref s, .lst (hd.map prL)] L = .ok (.lst ((tellH ps hd).1.map .int)) (L.set l (.lst ((tellH ps hd).2.map prL))) ∧ wts (tellH ps hd).2 ≤ 96 ∧ (∀ q ∈ (tellH ps hd).2, GP q) ∧ (tellH ps hd).1.length ≤ 32 * hd.length := by
  obtain ⟨s3, lp, i2, i3, i4⟩ := told_loop (a1 := .val (.lst (hd.map prL))) hd [] ps L .no hs hl hw hg hh (by simp; omega)
  rw [List.nil_append, List.map_nil] at lp
  refine ⟨?_, i2, i3, i4⟩
  unfold z_told_head zw_told_head
  rw [mDef_run]
  show fin (sSeq _ _ [.val (.ref s), .val (.lst (hd.map prL)), .no, .no] L) = _
  push_cast [x_sForA, lp]
/-! the law's own telling -/
theorem coded_loop {a1 : Sl} {L : LH} : ∀ (hd : List Pr) (acc : List Int) (ps : List Pr) (s3 s4 s5 : Sl), wts ps ≤ 96 → (∀ q ∈ ps, GP q) → (∀ q ∈ hd, GP q) → acc.length + 32 * hd.length ≤ 100000 →
    ∃ s3' s4' s5', loop (gN 3) zb1__law_coded (hd.map prL) [.val (.lst (ps.map prL)), a1, .val (.lst (acc.map .int)), s3, s4, s5] L = .nx [.val (.lst ((tellH ps hd).2.map prL)), a1, .val (.lst ((acc ++ (tellH ps hd).1).map .int)), s3', s4', s5'] L
  | [], acc, ps, s3, s4, s5, hw, hg, hh, hz => ⟨s3, s4, s5, by rw [show (tellH ps []).1 = [] from rfl, List.append_nil]; rfl⟩
  | p :: hd, acc, ps, s3, s4, s5, hw, hg, hh, hz => by
    have gp := hh p List.mem_cons_self
    obtain ⟨g1, g2, g3⟩ := tellP_gp hg gp hw
    have wp := gp.wt
    have h4 := wts_len ps
    have t1 := gp.1.len
    have t2 := gp.2.len
    have n1 := tn_len p.1
    have n2 := tn_len p.2
    rw [List.length_cons] at hz
    have e : tellH ps (p :: hd) = ((tellP ps p).1 ++ (tellH (tellP ps p).2 hd).1, (tellH (tellP ps p).2 hd).2) := rfl
    have hb : ∃ t4 t5, zb1__law_coded [.val (.lst (ps.map prL)), a1, .val (.lst (acc.map .int)), .val (prL p), s4, s5] L = .nx [.val (.lst ((tellP ps p).2.map prL)), a1, .val (.lst ((acc ++ (tellP ps p).1).map .int)), .val (prL p), t4, t5] L := by
      have cm := compL_map (n := gN 5) (t := tYes') (m := e2 fIx (eVar 5) (eC (.int 0))) (σ0 := [.val (.lst (ps.map prL)), a1, .val (.lst (acc.map .int)), .val (prL p), s4, .no]) (L := L) prL LV.str (·.1) (fun _ => rfl) ps (by omega) fun q h => ⟨_, rfl, rfl, by push_cast [prL, atI_0]⟩
      have put := lput_eq (L := L) (ps := ps) (p := p) (by omega) (by omega)
      have nm := ltold_eq (L := L) gp.2
      have nm1 := ltold_eq (L := L) gp.1.text
      have pr : prL p = .tup [.str p.1, .str p.2] := rfl
      have x0 : ∀ σ : SL, fIx (prL p) (.int 0) σ L = .ok (.str p.1) L := fun σ => by push_cast [pr, atI_0]
      have x1 : ∀ σ : SL, fIx (prL p) (.int 1) σ L = .ok (.str p.2) L := fun σ => by push_cast [pr, atI_1]
      unfold tellP zb1__law_coded
      by_cases c1 : p ∈ ps
      · rw [if_pos c1]
        exact ⟨_, _, by push_cast [x_CompA, cm, in_prL hg gp, c1, ix_prL hg gp c1, nin_prL hg gp, cl_prL]; simp only [List.map_append, List.map_cons, List.map_nil]; rfl⟩
      · rw [if_neg c1]
        by_cases c2 : p.1 ∈ ps.map (·.1)
        · rw [if_pos c2]
          have ci := fun σ => in_st (σ := σ) (L := L) (names_ok hg) gp.1.text
          have cx := fun σ => ix_st (σ := σ) (L := L) (names_ok hg) gp.1.text c2
          have b1 : acc.length + 2 + (tn p.2).length ≤ 1000000 := by omega
          exact ⟨_, _, by push_cast [x_CompA, cm, in_prL hg gp, c1, nin_prL hg gp, cl_prL, x0, x1, ci, cx, c2, nm, put]; simp only [List.map_append, List.map_cons, List.map_nil, List.append_assoc]; rfl⟩
        · rw [if_neg c2]
          have ci := fun σ => in_st (σ := σ) (L := L) (names_ok hg) gp.1.text
          exact ⟨_, _, by push_cast [x_CompA, cm, in_prL hg gp, c1, nin_prL hg gp, cl_prL, x0, x1, ci, c2, nm, nm1, put]; simp only [List.map_append, List.map_cons, List.map_nil, List.append_assoc]; rfl⟩
    obtain ⟨t4, t5, hb⟩ := hb
    rw [e]
    generalize tellP ps p = r at *
    obtain ⟨ns, qs⟩ := r
    simp only at g1 g2 g3 hb
    obtain ⟨s3', s4', s5', ih⟩ := coded_loop (a1 := a1) (L := L) hd (acc ++ ns) qs (.val (prL p)) t4 t5 g2 g1 (fun q h => hh q (List.mem_cons_of_mem _ h)) (by rw [List.length_append]; omega)
    refine ⟨s3', s4', s5', ?_⟩
    rw [List.map_cons]
    unfold loop
    have hg2 : gN 3 (prL p) [.val (.lst (ps.map prL)), a1, .val (.lst (acc.map .int)), s3, s4, s5] = some [.val (.lst (ps.map prL)), a1, .val (.lst (acc.map .int)), .val (prL p), s4, s5] := rfl
    simp only [hg2, hb, ih, List.append_assoc]
theorem coded_eq {L : LH} {ps hd : List Pr} (hw : wts ps ≤ 96) (hg : ∀ q ∈ ps, GP q) (hh : ∀ q ∈ hd, GP q) (hz : hd.length ≤ 100) :
    z__law_coded [.lst (ps.map prL), .lst (hd.map prL)] L = .ok (.tup [.lst ((tellH ps hd).1.map .int), .lst ((tellH ps hd).2.map prL)]) L := by
  obtain ⟨s3, s4, s5, lp⟩ := coded_loop (a1 := .val (.lst (hd.map prL))) (L := L) hd [] ps .no .no .no hw hg hh (by simp; omega)
  rw [List.nil_append, List.map_nil] at lp
  unfold z__law_coded zw__law_coded
  rw [mDef_run]
  show fin (sSeq _ _ [.val (.lst (ps.map prL)), .val (.lst (hd.map prL)), .no, .no, .no, .no] L) = _
  push_cast [x_sForA, lp]
theorem lwhole_eq {i : Int} {L : LH} : z__law_whole [.int i] L = .ok (.bl true) L := by
  unfold z__law_whole zw__law_whole
  rw [mDef_run]
  show fin (sRet _ [.val (.int i)] L) = _
  push_cast []
theorem llist_eq {L : LH} {a : LV} {ns : List Int} (h : SeqAs L a (ns.map .int)) (hl : ns.length ≤ 100000) : z__law_list [a, .lst (ns.map .int)] L = .ok (.bl true) L := by
  have m1 : ∀ σ : SL, Means σ L a ns := fun σ => SeqAs.means (α := Int) h fun _ _ => trivial
  have m2 : ∀ σ : SL, Means σ L (.lst (ns.map .int)) ns := fun σ => means_lv (α := List Int) fun _ _ => trivial
  have e1 : ∀ σ : SL, fEqR false a (.lst (ns.map .int)) σ L = .ok (.bl true) L := fun σ => by
    rw [eqT_means (by decide) (SeqAs.ns (ws := []) h) (m1 σ) (m2 σ)]
    simp
  obtain ⟨σ', lp, hσ⟩ := forA_same (mo := eVar 0) (n := gN 2) (b := zb1__law_list) (σ := [.val a, .val (.lst (ns.map .int)), .no]) (fun σ => ∃ s, σ = [.val a, .val (.lst (ns.map .int)), s]) rfl h ⟨_, rfl⟩ fun x σ hx ⟨s, e⟩ => by
    subst e
    obtain ⟨n, hn, rfl⟩ := List.mem_map.mp hx
    have w := @lwhole_eq n L
    refine ⟨_, [.val a, .val (.lst (ns.map .int)), .val (.int n)], rfl, ?_, _, rfl⟩
    unfold zb1__law_list
    push_cast [w]
  obtain ⟨s, rfl⟩ := hσ
  unfold z__law_list zw__law_list
  rw [mDef_run]
  show fin (sSeq _ _ [.val a, .val (.lst (ns.map .int)), .no] L) = _
  push_cast [h.isl, h.len, List.length_map, lp, h.clean, e1]
theorem v_int_bl {σ : SL} {L : LH} (b : Bool) : fInt [.bl b] σ L = .ok (.int (if b then 1 else 0)) L := rfl
theorem v_int_int {σ : SL} {L : LH} (b : Int) : fInt [.int b] σ L = .ok (.int b) L := rfl
theorem tellP_len {ps : List Pr} {p : Pr} (hp : GP p) : (tellP ps p).1.length ≤ p.1.length + p.2.length + 3 := by
  have := hp.1.len
  unfold tellP
  split
  · show 2 ≤ _; omega
  · split
    · simp [tn_len] <;> omega
    · simp [tn_len] <;> omega
theorem tellH_len : ∀ (hd ps : List Pr), (∀ q ∈ hd, GP q) → ((tellH ps hd).1.length : Int) ≤ (hd.map fun p => ((p.1.length : Nat) : Int) + ((p.2.length : Nat) : Int) + 3).sum
  | [], _, _ => by show ((0 : Nat) : Int) ≤ 0; omega
  | p :: hd, ps, h => by
    have ih := tellH_len hd (tellP ps p).2 fun q hq => h q (List.mem_cons_of_mem _ hq)
    have := tellP_len (ps := ps) (h p List.mem_cons_self)
    show (((tellP ps p).1 ++ (tellH (tellP ps p).2 hd).1).length : Int) ≤ _
    rw [List.length_append, List.map_cons, List.sum_cons]
    omega
end Z
namespace Z
open PySem PySem.Spec L2 TL
local macro_rules | `(tactic| push_cast [$xs,*]) => `(tactic| simp (disch := (first | assumption | omega | (simp only [List.length_map, List.length_append, List.length_cons, List.length_nil, List.length_reverse, rng_len]; omega))) only [x_Var, x_C, x_Nil, x_Cons, x_e2, x_e1, x_eA, x_Clean, x_Tup, x_Frz, x_New, x_tOf, x_tTr, x_tAnd, x_tOr, x_tNot, x_And, x_Or, x_Not, x_eIf, x_Chain, x_Call, x_Meth, x_Pop, x_Pop0, x_LMt, x_Mt, x_Sl, x_SlT, x_oNone, x_oSome, x_List, x_CompA, x_Comp, x_iA, x_iQ1, x_iQ2, x_iZ, x_sNil, x_Seq, sq_nx, sq_rt, sq_er, sq_bk, sq_ct, x_sSet, x_sOwn, x_sDrop, x_sFrz, x_frzSlot, x_sRet, x_sRetN, x_sBk, x_sCt, x_sRaise, x_sIf, x_sItem, x_sAsg, x_sAug, x_sFldAugM, x_sFldM, x_sMod, x_sExt, x_sFor, x_gN, x_gT, x_gsNil, x_gsCons, v_add, v_sub, v_lt, v_le, v_gt, v_ge, v_mod, v_div, v_mul, v_eqR, v_neR, v_eqsR, v_nesR, v_eqbR, v_addL, v_addTxt, v_sgIx, v_isNon, in_str, in_tup, in_ref, in_int, in_non, v_lenT, v_lenL, v_lenS, v_sz, v_szi, v_rq1, v_rq2, Int.reduceToNat, Int.toNat_natCast, v_ixTup, v_ixLst, v_ixRdl, v_ixRef, v_ixStr, v_ixPr0, v_ixPr1, cl_prL, v_fLen, v_fLenLoc, v_seqLoc, v_fFld, v_insR, v_seqR, v_seqL, v_seqRd, v_seqMR, v_seqML, v_seqMo, bind_ok, bind_er, lift_ok, lift_er, fin_nx, fin_rt, fin_er, con1, cl_non, cl_bl, cl_int, cl_str, cl_ref, cl_tup, cl_lst, cl_rdl, cl_ins, frzO, truL, itemsOf, v_is_int, v_is_bl, v_is_str, v_is_tup, v_is_lst, v_is_non, v_is_ref, v_isO, isB_int, isB_int_bool, isB_bool_int, isB_list, isB_tuple, isB_str, Int.cast_ofNat_Int, ms_str, ms_int, ms_pr, ma_int, v_gApp, v_gIns0, List.set_cons_succ, List.set_cons_zero, List.getElem?_cons_succ, List.getElem?_cons_zero, List.length_cons, List.length_nil, List.all_cons, List.all_nil, Bool.and_true, Bool.true_and, Bool.and_false, Bool.false_and, Bool.and_self, Bool.not_true, Bool.not_false, Bool.or_true, Bool.true_or, Bool.or_false, Bool.false_or, if_true, if_false, decide_true, decide_false, decide_eq_true_eq, Bool.false_eq_true, Bool.not_eq_true', decide_eq_false_iff_not, Option.bind_some, Option.isNone_none, Option.isNone_some, Nat.reduceAdd, Int.reduceLT, Int.reduceLE, Int.reduceEq, Int.reduceNeg, Nat.reduceLT, Nat.reduceLeDiff, Nat.reduceEqDiff, Int.reduceAdd, Int.reduceSub, Int.reduceMul, List.set_set, wipeL, List.append_nil, List.nil_append, not_true_eq_false, not_false_eq_true, Int.natCast_nonneg, and_true, true_and, and_self, $xs,*])
theorem x_CompX {σ : SL} {L : LH} (mi : MA) (n : LV → SL → Option SL) (t : MT) (m : ME) (vs : List Nat) : aCompX mi n t m vs σ L = (mi σ L).bind fun items L1 => compLX n t m (wipeL σ vs) items [] L1 := rfl
theorem z_size_is : z_text_size = mDef 2 w_text_size := rfl
theorem z_sign_is : z_sign_of = mDef 1 w_sign_of := rfl
theorem v_joinS {σ : SL} {L : LH} (M : List Int) (h : M.length ≤ 1000) : fJoin (.str "") [.lst (M.map fun z => LV.str (sg1 z.toNat))] σ L = .ok (.str (txt (M.map Int.toNat))) L := by
  have st : strs? (M.map fun z => LV.str (sg1 z.toNat)) = some ((M.map Int.toNat).map sg1) := by
    have := strs_map (M.map Int.toNat)
    rw [List.map_map] at this
    exact this
  have js := join_signs (M.map Int.toNat)
  have z1 : (((M.map Int.toNat).map sg1).map (·.length)).sum + ((M.map Int.toNat).map sg1).length * ("" : Str).length ≤ 16777216 := by
    rw [sum_ones, show ("" : Str).length = 0 from rfl, Nat.mul_zero]
    simp; omega
  unfold fJoin
  simp only [seqL, st, z1, if_true, js]
/-- the text told at a place -/
def textAt (ns : List Int) (a : Nat) : Option (Str × Nat) := match ns[a]? with
  | none => none
  | some n => if n ≤ 20 ∧ a + 1 + n.toNat ≤ ns.length ∧ ((ns.drop (a + 1)).take n.toNat).all (fun z => decide (z ≤ 93)) = true then some (txt (((ns.drop (a + 1)).take n.toNat).map Int.toNat), a + 1 + n.toNat) else none
theorem textAt_ok {ns : List Int} {a b : Nat} {t : Str} (h0 : ∀ z ∈ ns, 0 ≤ z) (h : textAt ns a = some (t, b)) : GText t ∧ a < b ∧ b ≤ ns.length := by
  unfold textAt at h
  split at h
  · cases h
  · rename_i n hn
    split at h
    · rename_i hc
      cases h
      have n0 := h0 n (List.mem_of_getElem? hn)
      refine ⟨⟨_, rfl, ?_, fun k hk => ?_⟩, by omega, hc.2.1⟩
      · rw [List.length_map, List.length_take]; omega
      · obtain ⟨z, hz, rfl⟩ := List.mem_map.mp hk
        have z1 := of_decide_eq_true (List.all_eq_true.mp hc.2.2 z hz)
        have z0 := h0 z (List.mem_of_mem_drop (List.mem_of_mem_take hz))
        omega
    · cases h
def outT (o : Option (Str × Nat)) (L : LH) : O LV := match o with
  | some (t, b) => .ok (.tup [.str t, .int (b : Nat)]) L
  | none => .er "BadHead" [] [] L
theorem text_at_gen {ns : List Int} {a : Nat} {L : LH} (h0 : ∀ z ∈ ns, 0 ≤ z) (hl : ns.length ≤ 100000) : z_text_at [.lst (ns.map .int), .int (a : Nat)] L = outT (textAt ns a) L := by
  unfold textAt
  cases hn : ns[a]? with
  | none =>
    have s1 := size_none (L := L) (List.getElem?_eq_none_iff.mp hn)
    exact at_none s1
  | some n =>
    show z_text_at _ L = outT (if n ≤ 20 ∧ a + 1 + n.toNat ≤ ns.length ∧ ((ns.drop (a + 1)).take n.toNat).all (fun z => decide (z ≤ 93)) = true then some (txt (((ns.drop (a + 1)).take n.toNat).map Int.toNat), a + 1 + n.toNat) else none) L
    have n0 := h0 n (List.mem_of_getElem? hn)
    have ha : a < ns.length := (List.getElem?_eq_some_iff.mp hn).1
    by_cases h1 : n ≤ 20
    · have s1 := text_size_eq (L := L) hn n0 h1
      rw [← z_size_is] at s1
      by_cases h2 : a + 1 + n.toNat ≤ ns.length
      · have c1 : cutL (ns.map LV.int) (some ((a : Int) + 1)) (some ((a : Int) + 1 + n)) = ((ns.drop (a + 1)).take n.toNat).map LV.int := by
          have e1 : (a : Int) + 1 = ((a + 1 : Nat) : Int) := by omega
          have e2 : (a : Int) + 1 + n = ((a + 1 + n.toNat : Nat) : Int) := by omega
          rw [e2, e1]
          unfold cutL
          rw [HT.sIx_nat, HT.sIx_nat, List.length_map, Nat.min_eq_left (by omega), Nat.min_eq_left (by omega), Nat.add_sub_cancel_left, List.map_take, List.map_drop]
        have ml : ((ns.drop (a + 1)).take n.toNat).length ≤ 1000 := by rw [List.length_take]; omega
        have m0 : ∀ z ∈ (ns.drop (a + 1)).take n.toNat, 0 ≤ z := fun z hz => h0 z (List.mem_of_mem_drop (List.mem_of_mem_take hz))
        generalize (ns.drop (a + 1)).take n.toNat = M at *
        have q7 : ∀ a b c d e f g : Sl, compLX (gN 6) tYes' (eCall 1 z_sign_of (aCons (eVar 6) aNil)) [a, b, c, d, e, f, g] (M.map .int) [] L = if M.all (fun z => decide (z ≤ 93)) = true then .ok (M.map fun z => .str (sg1 z.toNat)) L else .er "BadHead" [] [] L := fun a b c d e f g => by
          rw [z_sign_is]
          exact comp_signs M [] a b c d e f g m0 (by simp; omega)
        have g1 : ¬ ((ns.length : Nat) : Int) < (a : Int) + 1 + n := by omega
        have eb : (((a + 1 + n.toNat : Nat)) : Int) = (a : Int) + 1 + n := by omega
        unfold z_text_at zw_text_at
        rw [mDef_run]
        show fin (sSeq _ _ [.val (.lst (ns.map .int)), .val (.int (a : Nat)), .no, .no, .no, .no, .no] L) = _
        by_cases hb : M.all (fun z => decide (z ≤ 93)) = true
        · have q8 := fun a b c d e f g => (q7 a b c d e f g).trans (if_pos hb)
          push_cast [s1, List.length_map, g1, x_CompX, c1, q8, v_joinS M ml]
          rw [if_pos ⟨h1, h2, hb⟩]
          unfold outT
          simp only [eb]
        · have q8 := fun a b c d e f g => (q7 a b c d e f g).trans (if_neg hb)
          push_cast [s1, List.length_map, g1, x_CompX, c1, q8]
          rw [if_neg (fun h => hb h.2.2)]
          rfl
      · have g1 : ((ns.length : Nat) : Int) < (a : Int) + 1 + n := by omega
        unfold z_text_at zw_text_at
        rw [mDef_run]
        show fin (sSeq _ _ [.val (.lst (ns.map .int)), .val (.int (a : Nat)), .no, .no, .no, .no, .no] L) = _
        push_cast [s1, List.length_map, g1]
        rw [if_neg (fun h => h2 h.2.1)]
        rfl
    · have s1 := size_long (L := L) hn n0 (by omega)
      rw [if_neg (fun h => h1 h.1)]
      exact at_none s1
/-! ### pairs read -/
def keptAt (ps : List Pr) (ns : List Int) (a : Nat) : Option Pr := match ns[a]? with
  | none => none
  | some i => ps[i.toNat]?
def pairAt (ps : List Pr) (ns : List Int) (a : Nat) : Option (Pr × Nat × List Pr) := match ns[a]? with
  | none => none
  | some w => if w = 0 then (keptAt ps ns (a + 1)).map fun p => (p, a + 2, ps)
    else if w = 1 then (keptAt ps ns (a + 1)).bind fun q => (textAt ns (a + 2)).map fun v => ((q.1, v.1), v.2, putP (q.1, v.1) ps)
    else if w = 2 then (textAt ns (a + 1)).bind fun n => if 1 ≤ n.1.length ∧ n.1.length ≤ 8 then (textAt ns n.2).map fun v => ((n.1, v.1), v.2, putP (n.1, v.1) ps) else none
    else none
def outK (o : Option Pr) (L : LH) : O LV := match o with
  | some p => .ok (prL p) L
  | none => .er "BadHead" [] [] L
theorem kept_eq {s l : Nat} {L : LH} {ps : List Pr} {ns : List Int} {a : Nat} (hs : L[s]? = some (shelfO l)) (hl : L[l]? = some (.lst (ps.map prL))) (h0 : ∀ z ∈ ns, 0 ≤ z) : z_kept_pair [.ref s, .lst (ns.map .int), .int (a : Nat)] L = outK (keptAt ps ns a) L := by
  unfold keptAt z_kept_pair zw_kept_pair
  rw [mDef_run]
  show fin (sSeq _ _ [.val (.ref s), .val (.lst (ns.map .int)), .val (.int (a : Nat)), .no] L) = _
  cases hn : ns[a]? with
  | none =>
    have h := List.getElem?_eq_none_iff.mp hn
    push_cast [List.length_map, show ((ns.length : Nat) : Int) ≤ ((a : Nat) : Int) by omega]
    rfl
  | some i =>
    have i0 := h0 i (List.mem_of_getElem? hn)
    have ha : a < ns.length := (List.getElem?_eq_some_iff.mp hn).1
    have ix : L2.atI (ns.map LV.int) ((a : Nat) : Int) = some (.int i) := atI_nat (by rw [List.getElem?_map, hn]; rfl)
    show _ = outK (ps[i.toNat]?) L
    by_cases hi : i.toNat < ps.length
    · have iy : L2.atI (ps.map prL) i = some (prL ps[i.toNat]) := by
        have := atI_nat (j := i.toNat) (xs := ps.map prL) (v := prL ps[i.toNat]) (by rw [List.getElem?_map]; simp [hi])
        rw [show ((i.toNat : Nat) : Int) = i by omega] at this
        exact this
      rw [List.getElem?_eq_getElem hi]
      push_cast [List.length_map, show ¬ ((ns.length : Nat) : Int) ≤ ((a : Nat) : Int) by omega, ix, i0, hs, hl, fl_pairs, show i < ((ps.length : Nat) : Int) by omega, iy]
      rfl
    · rw [List.getElem?_eq_none (by omega)]
      push_cast [List.length_map, show ¬ ((ns.length : Nat) : Int) ≤ ((a : Nat) : Int) by omega, ix, i0, hs, hl, fl_pairs, show ¬ i < ((ps.length : Nat) : Int) by omega]
      rfl
theorem keptAt_mem {ps : List Pr} {ns : List Int} {a : Nat} {p : Pr} (h : keptAt ps ns a = some p) : p ∈ ps ∧ a < ns.length := by
  unfold keptAt at h
  split at h
  · cases h
  · rename_i i hi
    exact ⟨List.mem_of_getElem? h, (List.getElem?_eq_some_iff.mp hi).1⟩
theorem pairAt_ok {ps ps' : List Pr} {ns : List Int} {a b : Nat} {p : Pr} (h0 : ∀ z ∈ ns, 0 ≤ z) (hg : ∀ q ∈ ps, GP q) (hw : wts ps ≤ 96) (h : pairAt ps ns a = some (p, b, ps')) : GP p ∧ a < b ∧ b ≤ ns.length ∧ (∀ q ∈ ps', GP q) ∧ wts ps' ≤ 96 := by
  have put : ∀ p, GP p → (∀ q ∈ putP p ps, GP q) ∧ wts (putP p ps) ≤ 96 := fun p gp => ⟨fun q hq => by
    rcases putP_mem hq with h | h
    · rw [h]; exact gp
    · exact hg q h, putP_w p ps⟩
  unfold pairAt at h
  split at h
  · cases h
  · split at h
    · cases k : keptAt ps ns (a + 1) with
      | none => rw [k] at h; cases h
      | some q =>
        rw [k] at h
        cases h
        obtain ⟨k1, k2⟩ := keptAt_mem k
        exact ⟨hg _ k1, by omega, by omega, hg, hw⟩
    · split at h
      · cases k : keptAt ps ns (a + 1) with
        | none => rw [k] at h; cases h
        | some q =>
          rw [k] at h
          cases t : textAt ns (a + 2) with
          | none => rw [t] at h; cases h
          | some v =>
            rw [t] at h
            cases h
            obtain ⟨k1, k2⟩ := keptAt_mem k
            obtain ⟨t1, t2, t3⟩ := textAt_ok h0 (show textAt ns (a + 2) = some (v.1, v.2) from t)
            have gp : GP (q.1, v.1) := ⟨(hg _ k1).1, t1⟩
            exact ⟨gp, by omega, t3, put _ gp⟩
      · split at h
        · cases k : textAt ns (a + 1) with
          | none => rw [k] at h; cases h
          | some n =>
            rw [k] at h
            obtain ⟨k1, k2, k3⟩ := textAt_ok h0 (show textAt ns (a + 1) = some (n.1, n.2) from k)
            simp only [Option.bind_some] at h
            split at h
            · rename_i hc
              cases t : textAt ns n.2 with
              | none => rw [t] at h; cases h
              | some v =>
                rw [t] at h
                cases h
                obtain ⟨t1, t2, t3⟩ := textAt_ok h0 (show textAt ns n.2 = some (v.1, v.2) from t)
                have gp : GP (n.1, v.1) := ⟨k1.name hc.1 hc.2, t1⟩
                exact ⟨gp, by omega, t3, put _ gp⟩
            · cases h
        · cases h
def outP (l : Nat) (o : Option (Pr × Nat × List Pr)) (L : LH) : O LV := match o with
  | some (p, b, ps) => .ok (.tup [prL p, .int (b : Nat)]) (L.set l (.lst (ps.map prL)))
  | none => .er "BadHead" [] [] L
theorem name_at_eq {ns : List Int} {a : Nat} {L : LH} (h0 : ∀ z ∈ ns, 0 ≤ z) (hl : ns.length ≤ 100000) : z_name_at [.lst (ns.map .int), .int (a : Nat)] L = outT ((textAt ns a).bind fun n => if 1 ≤ n.1.length ∧ n.1.length ≤ 8 then some n else none) L := by
  have t := text_at_gen (a := a) (L := L) h0 hl
  unfold z_name_at zw_name_at
  rw [mDef_run]
  show fin (sSeq _ _ [.val (.lst (ns.map .int)), .val (.int (a : Nat)), .no, .no] L) = _
  cases k : textAt ns a with
  | none =>
    rw [k] at t
    unfold outT at t
    push_cast [t]
    rfl
  | some n =>
    obtain ⟨n, b⟩ := n
    rw [k] at t
    unfold outT at t
    have hn := (textAt_ok h0 k).1.len
    simp only [Option.bind_some]
    by_cases h1 : 1 ≤ n.length
    · by_cases h8 : n.length ≤ 8
      · rw [if_pos ⟨h1, h8⟩]
        push_cast [t, show (1 : Int) ≤ ((n.length : Nat) : Int) by omega, show ((n.length : Nat) : Int) ≤ 8 by omega]
        rfl
      · rw [if_neg (fun h => h8 h.2)]
        push_cast [t, show (1 : Int) ≤ ((n.length : Nat) : Int) by omega, show ¬ ((n.length : Nat) : Int) ≤ 8 by omega]
        rfl
    · rw [if_neg (fun h => h1 h.1)]
      push_cast [t, show ¬ (1 : Int) ≤ ((n.length : Nat) : Int) by omega]
      rfl
end Z
namespace Z
open PySem PySem.Spec L2 TL
local macro_rules | `(tactic| push_cast [$xs,*]) => `(tactic| simp (disch := (first | assumption | omega | (simp only [List.length_map, List.length_append, List.length_cons, List.length_nil, List.length_reverse, rng_len]; omega))) only [x_Var, x_C, x_Nil, x_Cons, x_e2, x_e1, x_eA, x_Clean, x_Tup, x_Frz, x_New, x_tOf, x_tTr, x_tAnd, x_tOr, x_tNot, x_And, x_Or, x_Not, x_eIf, x_Chain, x_Call, x_Meth, x_Pop, x_Pop0, x_LMt, x_Mt, x_Sl, x_SlT, x_oNone, x_oSome, x_List, x_CompA, x_Comp, x_iA, x_iQ1, x_iQ2, x_iZ, x_sNil, x_Seq, sq_nx, sq_rt, sq_er, sq_bk, sq_ct, x_sSet, x_sOwn, x_sDrop, x_sFrz, x_frzSlot, x_sRet, x_sRetN, x_sBk, x_sCt, x_sRaise, x_sIf, x_sItem, x_sAsg, x_sAug, x_sFldAugM, x_sFldM, x_sMod, x_sExt, x_sFor, x_gN, x_gT, x_gsNil, x_gsCons, v_add, v_sub, v_lt, v_le, v_gt, v_ge, v_mod, v_div, v_mul, v_eqR, v_neR, v_eqsR, v_nesR, v_eqbR, v_addL, v_addTxt, v_sgIx, v_isNon, in_str, in_tup, in_ref, in_int, in_non, v_lenT, v_lenL, v_lenS, v_sz, v_szi, v_rq1, v_rq2, Int.reduceToNat, Int.toNat_natCast, v_ixTup, v_ixLst, v_ixRdl, v_ixRef, v_ixStr, v_ixPr0, v_ixPr1, cl_prL, v_fLen, v_fLenLoc, v_seqLoc, v_fFld, v_insR, v_seqR, v_seqL, v_seqRd, v_seqMR, v_seqML, v_seqMo, bind_ok, bind_er, lift_ok, lift_er, fin_nx, fin_rt, fin_er, con1, cl_non, cl_bl, cl_int, cl_str, cl_ref, cl_tup, cl_lst, cl_rdl, cl_ins, frzO, truL, itemsOf, v_is_int, v_is_bl, v_is_str, v_is_tup, v_is_lst, v_is_non, v_is_ref, v_isO, isB_int, isB_int_bool, isB_bool_int, isB_list, isB_tuple, isB_str, Int.cast_ofNat_Int, ms_str, ms_int, ms_pr, ma_int, v_gApp, v_gIns0, List.set_cons_succ, List.set_cons_zero, List.getElem?_cons_succ, List.getElem?_cons_zero, List.length_cons, List.length_nil, List.all_cons, List.all_nil, Bool.and_true, Bool.true_and, Bool.and_false, Bool.false_and, Bool.and_self, Bool.not_true, Bool.not_false, Bool.or_true, Bool.true_or, Bool.or_false, Bool.false_or, if_true, if_false, decide_true, decide_false, decide_eq_true_eq, Bool.false_eq_true, Bool.not_eq_true', decide_eq_false_iff_not, Option.bind_some, Option.isNone_none, Option.isNone_some, Nat.reduceAdd, Int.reduceLT, Int.reduceLE, Int.reduceEq, Int.reduceNeg, Nat.reduceLT, Nat.reduceLeDiff, Nat.reduceEqDiff, Int.reduceAdd, Int.reduceSub, Int.reduceMul, List.set_set, wipeL, List.append_nil, List.nil_append, not_true_eq_false, not_false_eq_true, Int.natCast_nonneg, and_true, true_and, and_self, $xs,*])
theorem pair_at_eq {s l : Nat} {L : LH} {ps : List Pr} {ns : List Int} {a : Nat} (hs : L[s]? = some (shelfO l)) (hl : L[l]? = some (.lst (ps.map prL))) (hw : wts ps ≤ 96) (hg : ∀ q ∈ ps, GP q) (h0 : ∀ z ∈ ns, 0 ≤ z) (hz : ns.length ≤ 90000) (ha : a < ns.length) :
    z_pair_at [.ref s, .lst (ns.map .int), .int (a : Nat)] L = outP l (pairAt ps ns a) L := by
  have h4 := wts_len ps
  obtain ⟨w, hn⟩ : ∃ w, ns[a]? = some w := ⟨_, List.getElem?_eq_getElem ha⟩
  have w0 := h0 w (List.mem_of_getElem? hn)
  have ix : L2.atI (ns.map LV.int) ((a : Nat) : Int) = some (.int w) := atI_nat (by rw [List.getElem?_map, hn]; rfl)
  have k1 := kept_eq (a := a + 1) hs hl h0
  have c1 : (((a + 1 : Nat)) : Int) = (a : Int) + 1 := by omega
  have c2 : (((a + 2 : Nat)) : Int) = (a : Int) + 2 := by omega
  rw [c1] at k1
  have t1 := fun (b : Nat) => text_at_gen (a := b) (L := L) h0 (by omega)
  have n1 := name_at_eq (a := a + 1) (L := L) h0 (by omega)
  rw [c1] at n1
  have put : ∀ p : Pr, GP p → z_Shelf_put [.ref s, prL p] L = .ok .non (L.set l (.lst ((putP p ps).map prL))) := fun p gp => put_eq hs hl (by omega) (by have := gp.wt; omega)
  unfold pairAt z_pair_at zw_pair_at
  rw [mDef_run]
  show fin (sSeq _ _ [.val (.ref s), .val (.lst (ns.map .int)), .val (.int (a : Nat)), .no, .no, .no, .no, .no] L) = _
  rw [hn]
  simp only
  by_cases e0 : w = 0
  · rw [if_pos e0]
    cases k : keptAt ps ns (a + 1) with
    | none =>
      rw [k] at k1
      unfold outK at k1
      push_cast [ix, e0, k1]
      rfl
    | some p =>
      rw [k] at k1
      unfold outK at k1
      push_cast [ix, e0, k1, c2]
      unfold outP
      simp only [Option.map_some, set_same hl, c2]
  · rw [if_neg e0]
    by_cases e1 : w = 1
    · rw [if_pos e1]
      cases k : keptAt ps ns (a + 1) with
      | none =>
        rw [k] at k1
        unfold outK at k1
        push_cast [ix, e1, k1]
        rfl
      | some p =>
        rw [k] at k1
        unfold outK at k1
        have t := t1 (a + 2)
        rw [c2] at t
        cases kt : textAt ns (a + 2) with
        | none =>
          rw [kt] at t
          unfold outT at t
          push_cast [ix, e1, k1, t]
          rfl
        | some v =>
          obtain ⟨v, b⟩ := v
          rw [kt] at t
          unfold outT at t
          obtain ⟨g1, g2⟩ := keptAt_mem k
          have gp : GP (p.1, v) := ⟨(hg _ g1).1, (textAt_ok h0 kt).1⟩
          push_cast [ix, e1, k1, t, prL_eq, hs, fl_put, put _ gp]
          rfl
    · rw [if_neg e1]
      by_cases e2 : w = 2
      · rw [if_pos e2]
        cases k : textAt ns (a + 1) with
        | none =>
          rw [k] at n1
          simp only [Option.bind_none] at n1 ⊢
          unfold outT at n1
          push_cast [ix, e2, n1]
          rfl
        | some n =>
          obtain ⟨n, b⟩ := n
          rw [k] at n1
          simp only [Option.bind_some] at n1 ⊢
          by_cases hc : 1 ≤ n.length ∧ n.length ≤ 8
          · rw [if_pos hc] at n1 ⊢
            unfold outT at n1
            have t := t1 b
            cases kt : textAt ns b with
            | none =>
              rw [kt] at t
              unfold outT at t
              push_cast [ix, e2, n1, t]
              rfl
            | some v =>
              obtain ⟨v, b2⟩ := v
              rw [kt] at t
              unfold outT at t
              have gp : GP (n, v) := ⟨(textAt_ok h0 k).1.name hc.1 hc.2, (textAt_ok h0 kt).1⟩
              push_cast [ix, e2, n1, t, prL_eq, hs, fl_put, put _ gp]
              rfl
          · rw [if_neg hc] at n1 ⊢
            unfold outT at n1
            push_cast [ix, e2, n1]
            rfl
      · rw [if_neg e2]
        push_cast [ix, e0, e1, e2]
        rfl
/-! ### heads read -/
def readH (ns : List Int) : Nat → Nat → List Pr → List Pr → Option (List Pr × List Pr)
  | 0, _, _, _ => none
  | k + 1, a, hd, ps => if a < ns.length then (if hd.length = 6 then none else match pairAt ps ns a with
      | none => none
      | some (p, b, ps') => readH ns k b (hd ++ [p]) ps')
    else some (hd, ps)
/-- how the reading ends -/
def RdEnd (s l h : Nat) (a1 : Sl) (L : LH) (r : Option (List Pr × List Pr)) (o : SO) : Prop := match r with
  | some (hd, ps) => ∃ t3 t4, o = .nx [.val (.ref s), a1, .val (.ref h), t3, t4] ((L.set l (.lst (ps.map prL))).set h (.lst (hd.map prL))) ∧ hd.length ≤ 6 ∧ (∀ q ∈ hd, GP q) ∧ (∀ q ∈ ps, GP q) ∧ wts ps ≤ 96
  | none => ∃ σ hd ps, o = .er "BadHead" [] [] σ ((L.set l (.lst (List.map prL ps))).set h (.lst (List.map prL hd))) ∧ (∀ q ∈ ps, GP q) ∧ wts ps ≤ 96
theorem read_loop {s l h : Nat} {ns : List Int} (sh : s ≠ h) (lh : l ≠ h) (h0 : ∀ z ∈ ns, 0 ≤ z) (hz : ns.length ≤ 90000) : ∀ (k a : Nat) (hd ps : List Pr) (s4 : Sl) (L : LH), ns.length < k + a → L[s]? = some (shelfO l) → L[l]? = some (.lst (ps.map prL)) → L[h]? = some (.lst (hd.map prL)) → wts ps ≤ 96 → (∀ q ∈ ps, GP q) → (∀ q ∈ hd, GP q) → hd.length ≤ 6 → a ≤ ns.length →
    RdEnd s l h (.val (.lst (ns.map .int))) L (readH ns k a hd ps) (wloop (tOf (e2 fLt (eVar 3) (eA fLen (aCons (eVar 1) aNil)))) zb1_read_head k [.val (.ref s), .val (.lst (ns.map .int)), .val (.ref h), .val (.int (a : Nat)), s4] L)
  | 0, a, hd, ps, s4, L, hk, _, _, _, _, _, _, _, ha => by omega
  | k + 1, a, hd, ps, s4, L, hk, hs, hl, hh, hw, hg, hgd, h6, ha => by
    have sl : s ≠ l := fun e => by rw [e, hl] at hs; cases hs
    unfold readH wloop
    by_cases c : a < ns.length
    · rw [if_pos c]
      have cc : ((a : Nat) : Int) < ((ns.length : Nat) : Int) := by omega
      by_cases c6 : hd.length = 6
      · rw [if_pos c6]
        have hb : zb1_read_head [.val (.ref s), .val (.lst (ns.map .int)), .val (.ref h), .val (.int (a : Nat)), s4] L = .er "BadHead" [] [] [.val (.ref s), .val (.lst (ns.map .int)), .val (.ref h), .val (.int (a : Nat)), s4] L := by
          unfold zb1_read_head
          push_cast [hh, List.length_map, c6]
        refine ⟨[.val (.ref s), .val (.lst (ns.map .int)), .val (.ref h), .val (.int (a : Nat)), s4], hd, ps, ?_, hg, hw⟩
        push_cast [List.length_map, cc, hb, set_same hl, set_same hh]
      · rw [if_neg c6]
        have pe := pair_at_eq hs hl hw hg h0 hz c
        cases kp : pairAt ps ns a with
        | none =>
          rw [kp] at pe
          unfold outP at pe
          have hb : zb1_read_head [.val (.ref s), .val (.lst (ns.map .int)), .val (.ref h), .val (.int (a : Nat)), s4] L = .er "BadHead" [] [] [.val (.ref s), .val (.lst (ns.map .int)), .val (.ref h), .val (.int (a : Nat)), s4] L := by
            unfold zb1_read_head
            push_cast [hh, List.length_map, show ¬ ((hd.length : Nat) : Int) = 6 by omega, pe]
          refine ⟨[.val (.ref s), .val (.lst (ns.map .int)), .val (.ref h), .val (.int (a : Nat)), s4], hd, ps, ?_, hg, hw⟩
          push_cast [List.length_map, cc, hb, set_same hl, set_same hh]
        | some v =>
          obtain ⟨p, b, ps'⟩ := v
          rw [kp] at pe
          unfold outP at pe
          obtain ⟨gp, b1, b2, g1, g2⟩ := pairAt_ok h0 hg hw kp
          have hh2 : (L.set l (.lst (ps'.map prL)))[h]? = some (.lst (hd.map prL)) := by rw [set_get_ne lh]; exact hh
          have hb : zb1_read_head [.val (.ref s), .val (.lst (ns.map .int)), .val (.ref h), .val (.int (a : Nat)), s4] L = .nx [.val (.ref s), .val (.lst (ns.map .int)), .val (.ref h), .val (.int (b : Nat)), .val (prL p)] ((L.set l (.lst (ps'.map prL))).set h (.lst ((hd ++ [p]).map prL))) := by
            unfold zb1_read_head
            push_cast [hh, List.length_map, show ¬ ((hd.length : Nat) : Int) = 6 by omega, pe, hh2]
          have ih := read_loop (s := s) (l := l) (h := h) sh lh h0 hz k b (hd ++ [p]) ps' (.val (prL p)) ((L.set l (.lst (ps'.map prL))).set h (.lst ((hd ++ [p]).map prL))) (by omega)
            (by rw [set_get_ne (Ne.symm sh), set_get_ne (Ne.symm sl)]; exact hs) (by rw [set_get_ne (Ne.symm lh)]; exact set_get (has_lt hl)) (set_get (by rw [List.length_set]; exact has_lt hh)) g2 g1 (fun q hq => by
              rcases List.mem_append.mp hq with e | e
              · exact hgd q e
              · rw [show q = p by simpa using e]; exact gp) (by rw [List.length_append, List.length_singleton]; omega) b2
          have e5 : ∀ (x y : LO), (((L.set l (.lst (ps'.map prL))).set h (.lst ((hd ++ [p]).map prL))).set l x).set h y = (L.set l x).set h y := fun x y => by
            rw [List.set_comm _ _ lh, List.set_set, List.set_comm _ _ (Ne.symm lh), List.set_set]
          push_cast [List.length_map, cc, hb]
          unfold RdEnd at ih ⊢
          simp only [e5] at ih
          exact ih
    · rw [if_neg c]
      have cc : ¬ ((a : Nat) : Int) < ((ns.length : Nat) : Int) := by omega
      refine ⟨.val (.int (a : Nat)), s4, ?_, h6, hgd, hg, hw⟩
      push_cast [List.length_map, cc, set_same hl, set_same hh]
end Z
namespace Z
open PySem PySem.Spec L2 TL
local macro_rules | `(tactic| push_cast [$xs,*]) => `(tactic| simp (disch := (first | assumption | omega | (simp only [List.length_map, List.length_append, List.length_cons, List.length_nil, List.length_reverse, rng_len]; omega))) only [x_Var, x_C, x_Nil, x_Cons, x_e2, x_e1, x_eA, x_Clean, x_Tup, x_Frz, x_New, x_tOf, x_tTr, x_tAnd, x_tOr, x_tNot, x_And, x_Or, x_Not, x_eIf, x_Chain, x_Call, x_Meth, x_Pop, x_Pop0, x_LMt, x_Mt, x_Sl, x_SlT, x_oNone, x_oSome, x_List, x_CompA, x_Comp, x_iA, x_iQ1, x_iQ2, x_iZ, x_sNil, x_Seq, sq_nx, sq_rt, sq_er, sq_bk, sq_ct, x_sSet, x_sOwn, x_sDrop, x_sFrz, x_frzSlot, x_sRet, x_sRetN, x_sBk, x_sCt, x_sRaise, x_sIf, x_sItem, x_sAsg, x_sAug, x_sFldAugM, x_sFldM, x_sMod, x_sExt, x_sFor, x_gN, x_gT, x_gsNil, x_gsCons, v_add, v_sub, v_lt, v_le, v_gt, v_ge, v_mod, v_div, v_mul, v_eqR, v_neR, v_eqsR, v_nesR, v_eqbR, v_addL, v_addTxt, v_sgIx, v_isNon, in_str, in_tup, in_ref, in_int, in_non, v_lenT, v_lenL, v_lenS, v_sz, v_szi, v_rq1, v_rq2, Int.reduceToNat, Int.toNat_natCast, v_ixTup, v_ixLst, v_ixRdl, v_ixRef, v_ixStr, v_ixPr0, v_ixPr1, cl_prL, v_fLen, v_fLenLoc, v_seqLoc, v_fFld, v_insR, v_seqR, v_seqL, v_seqRd, v_seqMR, v_seqML, v_seqMo, bind_ok, bind_er, lift_ok, lift_er, fin_nx, fin_rt, fin_er, con1, cl_non, cl_bl, cl_int, cl_str, cl_ref, cl_tup, cl_lst, cl_rdl, cl_ins, frzO, truL, itemsOf, v_is_int, v_is_bl, v_is_str, v_is_tup, v_is_lst, v_is_non, v_is_ref, v_isO, isB_int, isB_int_bool, isB_bool_int, isB_list, isB_tuple, isB_str, Int.cast_ofNat_Int, ms_str, ms_int, ms_pr, ma_int, v_gApp, v_gIns0, List.set_cons_succ, List.set_cons_zero, List.getElem?_cons_succ, List.getElem?_cons_zero, List.length_cons, List.length_nil, List.all_cons, List.all_nil, Bool.and_true, Bool.true_and, Bool.and_false, Bool.false_and, Bool.and_self, Bool.not_true, Bool.not_false, Bool.or_true, Bool.true_or, Bool.or_false, Bool.false_or, if_true, if_false, decide_true, decide_false, decide_eq_true_eq, Bool.false_eq_true, Bool.not_eq_true', decide_eq_false_iff_not, Option.bind_some, Option.isNone_none, Option.isNone_some, Nat.reduceAdd, Int.reduceLT, Int.reduceLE, Int.reduceEq, Int.reduceNeg, Nat.reduceLT, Nat.reduceLeDiff, Nat.reduceEqDiff, Int.reduceAdd, Int.reduceSub, Int.reduceMul, List.set_set, wipeL, List.append_nil, List.nil_append, not_true_eq_false, not_false_eq_true, Int.natCast_nonneg, and_true, true_and, and_self, $xs,*])
def RdOut (l : Nat) (L : LH) (r : Option (List Pr × List Pr)) (o : O LV) : Prop := match r with
  | some (hd, ps) => o = .ok (.ref L.length) (L.set l (.lst (ps.map prL)) ++ [.lst (hd.map prL)]) ∧ hd.length ≤ 6 ∧ (∀ q ∈ hd, GP q) ∧ (∀ q ∈ ps, GP q) ∧ wts ps ≤ 96
  | none => ∃ hd ps : List Pr, o = .er "BadHead" [] [] (L.set l (.lst (ps.map prL)) ++ [.lst (hd.map prL)]) ∧ (∀ q ∈ ps, GP q) ∧ wts ps ≤ 96
def readAll (ps : List Pr) (ns : List Int) : Option (List Pr × List Pr) := readH ns (ns.length + 1) 0 [] ps
theorem set_app {L : LH} {l : Nat} {x y z : LO} (h : l < L.length) : ((L ++ [x]).set l y).set L.length z = L.set l y ++ [z] := by
  rw [List.set_append_left _ _ h, List.set_append_right _ _ (by rw [List.length_set]; exact Nat.le_refl _), List.length_set, Nat.sub_self]
  rfl
theorem read_head_eq {s l : Nat} {L : LH} {ps : List Pr} {ns : List Int} (hs : L[s]? = some (shelfO l)) (hl : L[l]? = some (.lst (ps.map prL))) (hw : wts ps ≤ 96) (hg : ∀ q ∈ ps, GP q) (h0 : ∀ z ∈ ns, 0 ≤ z) (hz : ns.length ≤ 90000) :
    RdOut l L (readAll ps ns) (z_read_head [.ref s, .lst (ns.map .int)] L) := by
  have ls := has_lt hs
  have ll := has_lt hl
  have lp := read_loop (s := s) (l := l) (h := L.length) (by omega) (by omega) h0 hz (ns.length + 1) 0 [] ps .no (L ++ [.lst []]) (by omega) (app_get hs _) (app_get hl _) (by simp) hw hg (fun _ h => by cases h) (by decide) (Nat.zero_le _)
  have em : ∀ (a0 a2 a3 a4 : Sl) (L : LH), mLen 1 [a0, .val (.lst (ns.map .int)), a2, a3, a4] L = ns.length + 1 := fun a0 a2 a3 a4 L => by
    show (ns.map LV.int).length + 1 = _
    rw [List.length_map]
  have c0 : LV.int ((0 : Nat) : Int) = .int 0 := rfl
  rw [c0] at lp
  unfold readAll
  generalize readH ns (ns.length + 1) 0 [] ps = r at *
  have go : z_read_head [.ref s, .lst (ns.map .int)] L = fin (sq (sRet (eVar 2)) (wloop (tOf (e2 fLt (eVar 3) (eA fLen (aCons (eVar 1) aNil)))) zb1_read_head (ns.length + 1) [.val (.ref s), .val (.lst (ns.map .int)), .val (.ref L.length), .val (.int 0), .no] (L ++ [.lst []]))) := by
    unfold z_read_head zw_read_head
    rw [mDef_run]
    show fin (sSeq _ _ [.val (.ref s), .val (.lst (ns.map .int)), .no, .no, .no] L) = _
    push_cast []
    unfold sWhile
    simp only [em]
  rw [go]
  match r, lp with
  | some (hd, qs), lp =>
    obtain ⟨t3, t4, e, h6, g1, g2, g3⟩ := lp
    refine ⟨?_, h6, g1, g2, g3⟩
    rw [e, set_app ll]
    push_cast []
  | none, lp =>
    obtain ⟨σ, hd, qs, e, g2, g3⟩ := lp
    refine ⟨hd, qs, ?_, g2, g3⟩
    rw [e, set_app ll]
    push_cast []
/-! ### what was told is read -/
theorem textAt_tn {A B : List Int} {t : Str} (h : GText t) : textAt (A ++ tn t ++ B) A.length = some (t, A.length + (tn t).length) := by
  obtain ⟨ks, rfl, hl, hk⟩ := h
  rw [tn_txt hk]
  unfold due
  unfold textAt
  have e1 : (A ++ (((ks.length : Nat) : Int) :: ks.map fun (k : Nat) => (k : Int)) ++ B)[A.length]? = some ((ks.length : Nat) : Int) := by simp
  rw [e1]
  simp only
  have e2 : ((A ++ (((ks.length : Nat) : Int) :: ks.map fun (k : Nat) => (k : Int)) ++ B).drop (A.length + 1)).take (((ks.length : Nat) : Int)).toNat = ks.map fun (k : Nat) => (k : Int) := by
    rw [Int.toNat_natCast, List.append_assoc, List.drop_append]
    rw [List.drop_of_length_le (by omega), List.nil_append]
    rw [show A.length + 1 - A.length = 1 by omega]
    simp
  rw [e2]
  have back : ∀ xs : List Nat, (xs.map fun (k : Nat) => (k : Int)).map Int.toNat = xs := fun xs => by
    induction xs with
    | nil => rfl
    | cons x xs ih => rw [List.map_cons, List.map_cons, ih]; rfl
  rw [if_pos]
  · rw [back]
    congr 2
    simp
    omega
  · refine ⟨by omega, by simp; omega, ?_⟩
    rw [List.all_eq_true]
    intro z hz
    obtain ⟨k, h1, rfl⟩ := List.mem_map.mp hz
    have := hk k h1
    exact decide_eq_true (by omega)
theorem findIdx_at {α : Type} [DecidableEq α] {xs : List α} {a : α} (h : a ∈ xs) : (xs.findIdx fun q => decide (q = a)) < xs.length ∧ xs[xs.findIdx fun q => decide (q = a)]? = some a := by
  have hl : (xs.findIdx fun q => decide (q = a)) < xs.length := List.findIdx_lt_length_of_exists ⟨a, h, decide_eq_true rfl⟩
  have e := List.findIdx_getElem (p := fun q => decide (q = a)) (w := hl)
  rw [List.getElem?_eq_getElem hl, of_decide_eq_true e]
  exact ⟨hl, rfl⟩
theorem keptAt_of {ps : List Pr} {A B : List Int} {i : Nat} {p : Pr} {x : Int} (h : ps[i]? = some p) : keptAt ps (A ++ [x, (i : Int)] ++ B) (A.length + 1) = some p := by
  unfold keptAt
  have e : (A ++ [x, (i : Int)] ++ B)[A.length + 1]? = some ((i : Nat) : Int) := by
    rw [List.append_assoc, List.getElem?_append_right (by omega), show A.length + 1 - A.length = 1 by omega]
    rfl
  rw [e]
  simpa using h
theorem pairAt_told {ps : List Pr} {p : Pr} {A B : List Int} (hp : GP p) : pairAt ps (A ++ (tellP ps p).1 ++ B) A.length = some (p, A.length + (tellP ps p).1.length, (tellP ps p).2) := by
  unfold tellP
  split
  · rename_i c1
    obtain ⟨h1, h2⟩ := findIdx_at c1
    have k := keptAt_of (A := A) (B := B) (x := 0) h2
    unfold pairAt
    have e : (A ++ [0, ((ps.findIdx fun q => decide (q = p) : Nat) : Int)] ++ B)[A.length]? = some 0 := by simp
    simp only [e, if_true, k, Option.map_some]
    rfl
  · split
    · rename_i c1 c2
      obtain ⟨h1, h2⟩ := findIdx_at c2
      rw [List.getElem?_map] at h2
      obtain ⟨q, hq, eq⟩ := Option.map_eq_some_iff.mp h2
      have k := keptAt_of (A := A) (B := tn p.2 ++ B) (x := 1) hq
      have t := textAt_tn (A := A ++ [1, (((ps.map (·.1)).findIdx fun q => decide (q = p.1) : Nat) : Int)]) (B := B) hp.2
      have e0 : A ++ ([1, (((ps.map (·.1)).findIdx fun q => decide (q = p.1) : Nat) : Int)] ++ tn p.2) ++ B = A ++ [1, (((ps.map (·.1)).findIdx fun q => decide (q = p.1) : Nat) : Int)] ++ (tn p.2 ++ B) := by simp
      have e1 : A ++ ([1, (((ps.map (·.1)).findIdx fun q => decide (q = p.1) : Nat) : Int)] ++ tn p.2) ++ B = A ++ [1, (((ps.map (·.1)).findIdx fun q => decide (q = p.1) : Nat) : Int)] ++ tn p.2 ++ B := by simp
      have l1 : (A ++ [1, (((ps.map (·.1)).findIdx fun q => decide (q = p.1) : Nat) : Int)]).length = A.length + 2 := by simp
      rw [l1, ← e1] at t
      rw [← e0] at k
      have e : (A ++ ([1, (((ps.map (·.1)).findIdx fun q => decide (q = p.1) : Nat) : Int)] ++ tn p.2) ++ B)[A.length]? = some 1 := by simp
      unfold pairAt
      simp only [e, k, t, show ¬ (1 : Int) = 0 by decide, if_false, if_true, Option.bind_some, Option.map_some, eq]
      congr 2
      simp
      omega
    · have t := textAt_tn (A := A ++ [2]) (B := tn p.2 ++ B) hp.1.text
      have t2 := textAt_tn (A := A ++ [2] ++ tn p.1) (B := B) hp.2
      have e0 : A ++ ([2] ++ tn p.1 ++ tn p.2) ++ B = A ++ [2] ++ tn p.1 ++ (tn p.2 ++ B) := by simp
      have e1 : A ++ ([2] ++ tn p.1 ++ tn p.2) ++ B = A ++ [2] ++ tn p.1 ++ tn p.2 ++ B := by simp
      have l1 : (A ++ [2]).length = A.length + 1 := by simp
      have l2 : (A ++ [2] ++ tn p.1).length = A.length + 1 + (tn p.1).length := by simp; omega
      rw [l1, ← e0] at t
      rw [l2, ← e1] at t2
      have e : (A ++ ([2] ++ tn p.1 ++ tn p.2) ++ B)[A.length]? = some 2 := by simp
      have hn := hp.1.len
      unfold pairAt
      simp only [e, t, show ¬ (2 : Int) = 0 by decide, show ¬ (2 : Int) = 1 by decide, if_false, if_true, Option.bind_some, hn, and_self, t2, Option.map_some]
      congr 2
      simp
      omega
theorem tellP_pos (ps : List Pr) (p : Pr) : 1 ≤ (tellP ps p).1.length := by
  unfold tellP
  split
  · simp
  · split <;> simp <;> omega
theorem read_told : ∀ (hd ps done : List Pr) (A : List Int) (k : Nat), (∀ q ∈ hd, GP q) → done.length + hd.length ≤ 6 → (tellH ps hd).1.length < k → readH (A ++ (tellH ps hd).1) k A.length done ps = some (done ++ hd, (tellH ps hd).2)
  | [], ps, done, A, k + 1, _, _, _ => by
    unfold readH tellH
    rw [List.append_nil, if_neg (Nat.lt_irrefl _), List.append_nil]
  | p :: hd, ps, done, A, k + 1, hh, h6, hk => by
    have gp := hh p List.mem_cons_self
    rw [List.length_cons] at h6
    have pos := tellP_pos ps p
    have e : tellH ps (p :: hd) = ((tellP ps p).1 ++ (tellH (tellP ps p).2 hd).1, (tellH (tellP ps p).2 hd).2) := rfl
    rw [e] at hk ⊢
    simp only [List.length_append] at hk
    have pa := pairAt_told (ps := ps) (A := A) (B := (tellH (tellP ps p).2 hd).1) gp
    have ih := read_told hd (tellP ps p).2 (done ++ [p]) (A ++ (tellP ps p).1) k (fun q hq => hh q (List.mem_cons_of_mem _ hq)) (by rw [List.length_append, List.length_singleton]; omega) (by omega)
    unfold readH
    rw [if_pos (by simp only [List.length_append]; omega), if_neg (by omega)]
    simp only
    rw [← List.append_assoc, pa]
    simp only
    rw [List.length_append] at ih
    rw [ih, List.append_assoc]
    rfl
theorem read_all_told {hd ps : List Pr} (hh : ∀ q ∈ hd, GP q) (h6 : hd.length ≤ 6) : readAll ps (tellH ps hd).1 = some (hd, (tellH ps hd).2) := by
  have := read_told hd ps [] [] ((tellH ps hd).1.length + 1) hh (by simpa using h6) (by omega)
  rw [List.nil_append, List.nil_append] at this
  exact this
theorem tn_nonneg (t : Str) : ∀ z ∈ tn t, 0 ≤ z := fun z hz => by
  unfold tn at hz
  rcases List.mem_cons.mp hz with h | h
  · omega
  · obtain ⟨c, _, rfl⟩ := List.mem_map.mp h
    omega
theorem tellP_nonneg (ps : List Pr) (p : Pr) : ∀ z ∈ (tellP ps p).1, 0 ≤ z := fun z hz => by
  unfold tellP at hz
  split at hz
  · simp at hz; omega
  · split at hz
    · rcases List.mem_append.mp hz with h | h
      · simp at h; omega
      · exact tn_nonneg _ z h
    · rcases List.mem_append.mp hz with h | h
      · rcases List.mem_append.mp h with h | h
        · simp at h; omega
        · exact tn_nonneg _ z h
      · exact tn_nonneg _ z h
theorem tellH_nonneg : ∀ (hd ps : List Pr), ∀ z ∈ (tellH ps hd).1, 0 ≤ z
  | [], _, z, hz => by cases hz
  | p :: hd, ps, z, hz => by
    rcases List.mem_append.mp (show z ∈ (tellP ps p).1 ++ (tellH (tellP ps p).2 hd).1 from hz) with h | h
    · exact tellP_nonneg _ _ z h
    · exact tellH_nonneg hd _ z h
theorem get_last {G : LH} {y : LO} : (G ++ [y])[G.length]? = some y := by simp
theorem set_last {G : LH} {y z : LO} : (G ++ [y]).set G.length z = G ++ [z] := by rw [List.set_append_right _ _ (Nat.le_refl _), Nat.sub_self]; rfl
end Z
namespace Z
open PySem PySem.Spec L2 TL
local macro_rules | `(tactic| push_cast [$xs,*]) => `(tactic| simp (disch := (first | assumption | omega | (simp only [List.length_map, List.length_append, List.length_cons, List.length_nil, List.length_reverse, rng_len]; omega))) only [x_Var, x_C, x_Nil, x_Cons, x_e2, x_e1, x_eA, x_Clean, x_Tup, x_Frz, x_New, x_tOf, x_tTr, x_tAnd, x_tOr, x_tNot, x_And, x_Or, x_Not, x_eIf, x_Chain, x_Call, x_Meth, x_Pop, x_Pop0, x_LMt, x_Mt, x_Sl, x_SlT, x_oNone, x_oSome, x_List, x_CompA, x_Comp, x_iA, x_iQ1, x_iQ2, x_iZ, x_sNil, x_Seq, sq_nx, sq_rt, sq_er, sq_bk, sq_ct, x_sSet, x_sOwn, x_sDrop, x_sFrz, x_frzSlot, x_sRet, x_sRetN, x_sBk, x_sCt, x_sRaise, x_sIf, x_sItem, x_sAsg, x_sAug, x_sFldAugM, x_sFldM, x_sMod, x_sExt, x_sFor, x_gN, x_gT, x_gsNil, x_gsCons, v_add, v_sub, v_lt, v_le, v_gt, v_ge, v_mod, v_div, v_mul, v_eqR, v_neR, v_eqsR, v_nesR, v_eqbR, v_addL, v_addTxt, v_sgIx, v_isNon, in_str, in_tup, in_ref, in_int, in_non, v_lenT, v_lenL, v_lenS, v_sz, v_szi, v_rq1, v_rq2, Int.reduceToNat, Int.toNat_natCast, v_ixTup, v_ixLst, v_ixRdl, v_ixRef, v_ixStr, v_ixPr0, v_ixPr1, cl_prL, v_fLen, v_fLenLoc, v_seqLoc, v_fFld, v_insR, v_seqR, v_seqL, v_seqRd, v_seqMR, v_seqML, v_seqMo, bind_ok, bind_er, lift_ok, lift_er, fin_nx, fin_rt, fin_er, con1, cl_non, cl_bl, cl_int, cl_str, cl_ref, cl_tup, cl_lst, cl_rdl, cl_ins, frzO, truL, itemsOf, v_is_int, v_is_bl, v_is_str, v_is_tup, v_is_lst, v_is_non, v_is_ref, v_isO, isB_int, isB_int_bool, isB_bool_int, isB_list, isB_tuple, isB_str, Int.cast_ofNat_Int, ms_str, ms_int, ms_pr, ma_int, v_gApp, v_gIns0, List.set_cons_succ, List.set_cons_zero, List.getElem?_cons_succ, List.getElem?_cons_zero, List.length_cons, List.length_nil, List.all_cons, List.all_nil, Bool.and_true, Bool.true_and, Bool.and_false, Bool.false_and, Bool.and_self, Bool.not_true, Bool.not_false, Bool.or_true, Bool.true_or, Bool.or_false, Bool.false_or, if_true, if_false, decide_true, decide_false, decide_eq_true_eq, Bool.false_eq_true, Bool.not_eq_true', decide_eq_false_iff_not, Option.bind_some, Option.isNone_none, Option.isNone_some, Nat.reduceAdd, Int.reduceLT, Int.reduceLE, Int.reduceEq, Int.reduceNeg, Nat.reduceLT, Nat.reduceLeDiff, Nat.reduceEqDiff, Int.reduceAdd, Int.reduceSub, Int.reduceMul, List.set_set, wipeL, List.append_nil, List.nil_append, not_true_eq_false, not_false_eq_true, Int.natCast_nonneg, and_true, true_and, and_self, $xs,*])
theorem x_While {σ : SL} {L : LH} (k : SL → LH → Nat) (t : MT) (b : MS) : sWhile k t b σ L = wloop t b (k σ L) σ L := rfl
theorem str_empty {s : Str} (h : s.length = 0) : s = "" := by
  cases s with
  | mk c =>
    have : c = #[] := Array.eq_empty_of_size_eq_zero h
    rw [this]
    rfl
theorem textAt_end {ns : List Int} {a b : Nat} {t : Str} (h : textAt ns a = some (t, b)) : b = a + 1 + t.length := by
  unfold textAt at h
  split at h
  · cases h
  · split at h
    · rename_i n hn hc
      cases h
      rw [txt_len, List.length_map, List.length_take, List.length_drop]
      omega
    · cases h
def outS (o : Option (Str × Nat)) : LV := match o with
  | some (t, _) => .str t
  | none => .non
theorem text_of_loop {s0 s1 : Sl} {L : LH} : ∀ (M : List Int) (ks : List Nat) (s3 : Sl), (∀ z ∈ M, 0 ≤ z) → ks.length + M.length ≤ 1000 →
    ∃ t3, loop (gN 3) zb1__law_text_of (M.map .int) [s0, s1, .val (.str (txt ks)), s3] L = if M.all (fun z => decide (z ≤ 93)) = true then .nx [s0, s1, .val (.str (txt (ks ++ M.map Int.toNat))), t3] L else .rt .non L
  | [], ks, s3, _, _ => ⟨s3, by simp [loop]⟩
  | z :: M, ks, s3, h0, hl => by
    rw [List.length_cons] at hl
    have z0 := h0 z List.mem_cons_self
    have sg : z__law_signs [] L = .ok (.str SG) L := signs_eq
    obtain ⟨t3, ih⟩ := text_of_loop (s0 := s0) (s1 := s1) (L := L) M (ks ++ [z.toNat]) (.val (.int z)) (fun y hy => h0 y (List.mem_cons_of_mem _ hy)) (by rw [List.length_append, List.length_singleton]; omega)
    refine ⟨t3, ?_⟩
    rw [List.map_cons]
    unfold loop
    have hg : gN 3 (.int z) [s0, s1, .val (.str (txt ks)), s3] = some [s0, s1, .val (.str (txt ks)), .val (.int z)] := rfl
    by_cases hz : z ≤ 93
    · have hb : zb1__law_text_of [s0, s1, .val (.str (txt ks)), .val (.int z)] L = .nx [s0, s1, .val (.str (txt (ks ++ [z.toNat]))), .val (.int z)] L := by
        unfold zb1__law_text_of
        push_cast [show ¬ (93 : Int) < z by omega, sg]
      simp only [hg, hb, ih, List.all_cons, decide_eq_true hz, Bool.true_and, List.map_cons, List.append_assoc, List.singleton_append]
    · have hb : zb1__law_text_of [s0, s1, .val (.str (txt ks)), .val (.int z)] L = .rt .non L := by
        unfold zb1__law_text_of
        push_cast [show (93 : Int) < z by omega]
      simp only [hg, hb, List.all_cons, decide_eq_false hz, Bool.false_and, Bool.false_eq_true, if_false]
theorem text_of_eq {ns : List Int} {a : Nat} {L : LH} (h0 : ∀ z ∈ ns, 0 ≤ z) (hl : ns.length ≤ 100000) : z__law_text_of [.lst (ns.map .int), .int (a : Nat)] L = .ok (outS (textAt ns a)) L := by
  unfold textAt z__law_text_of zw__law_text_of
  rw [mDef_run]
  show fin (sSeq _ _ [.val (.lst (ns.map .int)), .val (.int (a : Nat)), .no, .no] L) = _
  cases hn : ns[a]? with
  | none =>
    have h := List.getElem?_eq_none_iff.mp hn
    push_cast [List.length_map, show ((ns.length : Nat) : Int) ≤ ((a : Nat) : Int) by omega]
    rfl
  | some n =>
    have n0 := h0 n (List.mem_of_getElem? hn)
    have ha : a < ns.length := (List.getElem?_eq_some_iff.mp hn).1
    have ix : L2.atI (ns.map LV.int) ((a : Nat) : Int) = some (.int n) := atI_nat (by rw [List.getElem?_map, hn]; rfl)
    have ca : ¬ ((ns.length : Nat) : Int) ≤ ((a : Nat) : Int) := by omega
    show _ = O.ok (outS (if n ≤ 20 ∧ a + 1 + n.toNat ≤ ns.length ∧ ((ns.drop (a + 1)).take n.toNat).all (fun z => decide (z ≤ 93)) = true then some (txt (((ns.drop (a + 1)).take n.toNat).map Int.toNat), a + 1 + n.toNat) else none)) L
    by_cases h1 : n ≤ 20
    · by_cases h2 : a + 1 + n.toNat ≤ ns.length
      · have c1 : cutL (ns.map LV.int) (some ((a : Int) + 1)) (some ((a : Int) + 1 + n)) = ((ns.drop (a + 1)).take n.toNat).map LV.int := by
          have e1 : (a : Int) + 1 = ((a + 1 : Nat) : Int) := by omega
          have e2 : (a : Int) + 1 + n = ((a + 1 + n.toNat : Nat) : Int) := by omega
          rw [e2, e1]
          unfold cutL
          rw [HT.sIx_nat, HT.sIx_nat, List.length_map, Nat.min_eq_left (by omega), Nat.min_eq_left (by omega), Nat.add_sub_cancel_left, List.map_take, List.map_drop]
        have ml : ((ns.drop (a + 1)).take n.toNat).length ≤ 900 := by rw [List.length_take]; omega
        have m0 : ∀ z ∈ (ns.drop (a + 1)).take n.toNat, 0 ≤ z := fun z hz => h0 z (List.mem_of_mem_drop (List.mem_of_mem_take hz))
        generalize (ns.drop (a + 1)).take n.toNat = M at *
        obtain ⟨t3, lp⟩ := text_of_loop (s0 := .val (.lst (ns.map .int))) (s1 := .val (.int (a : Nat))) (L := L) M [] .no m0 (by simp; omega)
        have e0 : txt [] = ("" : Str) := rfl
        rw [e0, List.nil_append] at lp
        by_cases hb : M.all (fun z => decide (z ≤ 93)) = true
        · rw [if_pos hb] at lp
          rw [if_pos ⟨h1, h2, hb⟩]
          push_cast [List.length_map, ca, ix, show ¬ (20 : Int) < n by omega, show ¬ ((ns.length : Nat) : Int) ≤ (a : Int) + n by omega, x_sForA, c1, lp]
          rfl
        · rw [if_neg hb] at lp
          rw [if_neg (fun h => hb h.2.2)]
          push_cast [List.length_map, ca, ix, show ¬ (20 : Int) < n by omega, show ¬ ((ns.length : Nat) : Int) ≤ (a : Int) + n by omega, x_sForA, c1, lp]
          rfl
      · rw [if_neg (fun h => h2 h.2.1)]
        push_cast [List.length_map, ca, ix, show ¬ (20 : Int) < n by omega, show ((ns.length : Nat) : Int) ≤ (a : Int) + n by omega]
        rfl
    · rw [if_neg (fun h => h1 h.1)]
      push_cast [List.length_map, ca, ix, show (20 : Int) < n by omega]
      rfl
def outQ (o : Option (Pr × Nat × List Pr)) : LV := match o with
  | some (p, b, _) => .tup [.str p.1, .str p.2, .int (b : Nat)]
  | none => .non
theorem pair_of_eq {ps : List Pr} {ns : List Int} {a : Nat} {L : LH} (h0 : ∀ z ∈ ns, 0 ≤ z) (hl : ns.length ≤ 90000) (ha : a < ns.length) (hg : ∀ q ∈ ps, GP q) : z__law_pair_of [.lst (ps.map prL), .lst (ns.map .int), .int (a : Nat)] L = .ok (outQ (pairAt ps ns a)) L := by
  obtain ⟨w, hn⟩ : ∃ w, ns[a]? = some w := ⟨_, List.getElem?_eq_getElem ha⟩
  have w0 := h0 w (List.mem_of_getElem? hn)
  have ix : L2.atI (ns.map LV.int) ((a : Nat) : Int) = some (.int w) := atI_nat (by rw [List.getElem?_map, hn]; rfl)
  have t1 := fun (b : Nat) => text_of_eq (a := b) (L := L) h0 (by omega)
  have c1 : (((a + 1 : Nat)) : Int) = (a : Int) + 1 := by omega
  have c2 : (((a + 2 : Nat)) : Int) = (a : Int) + 2 := by omega
  unfold pairAt z__law_pair_of zw__law_pair_of
  rw [mDef_run, hn]
  show fin (sSeq _ _ [.val (.lst (ps.map prL)), .val (.lst (ns.map .int)), .val (.int (a : Nat)), .no, .no, .no] L) = _
  simp only
  by_cases e2 : w = 2
  · subst e2
    have t2 := t1 (a + 1)
    rw [c1] at t2
    cases k : textAt ns (a + 1) with
    | none =>
      rw [k] at t2
      unfold outS at t2
      push_cast [ix, t2]
      rfl
    | some n =>
      obtain ⟨n, b⟩ := n
      rw [k] at t2
      unfold outS at t2
      have be := textAt_end k
      have nl := (textAt_ok h0 k).1.len
      simp only [show ¬ (2 : Int) = 0 by decide, show ¬ (2 : Int) = 1 by decide, if_false, if_true, Option.bind_some]
      by_cases hc : 1 ≤ n.length ∧ n.length ≤ 8
      · have ne : ¬ n = "" := fun h => by rw [h] at hc; exact absurd hc.1 (by decide)
        rw [if_pos hc]
        have t3 := t1 b
        have cb : ((b : Nat) : Int) = (a : Int) + 2 + ((n.length : Nat) : Int) := by omega
        rw [cb] at t3
        cases kt : textAt ns b with
        | none =>
          rw [kt] at t3
          unfold outS at t3
          push_cast [ix, t2, ne, show ¬ (8 : Int) < ((n.length : Nat) : Int) by omega, t3]
          rfl
        | some v =>
          obtain ⟨v, b2⟩ := v
          rw [kt] at t3
          unfold outS at t3
          have be2 := textAt_end kt
          have vl := (textAt_ok h0 kt).1.len
          have ce : (a : Int) + 3 + ((n.length : Nat) : Int) + ((v.length : Nat) : Int) = ((b2 : Nat) : Int) := by omega
          push_cast [ix, t2, ne, show ¬ (8 : Int) < ((n.length : Nat) : Int) by omega, t3, ce]
          rfl
      · rw [if_neg hc]
        by_cases h1 : 1 ≤ n.length
        · have ne : ¬ n = "" := fun h => by rw [h] at h1; exact absurd h1 (by decide)
          push_cast [ix, t2, ne, show (8 : Int) < ((n.length : Nat) : Int) by omega]
          rfl
        · have ne : n = "" := str_empty (by omega)
          push_cast [ix, t2, ne]
          rfl
  · by_cases h3 : 2 < w
    · rw [if_neg (by omega), if_neg (by omega), if_neg e2]
      push_cast [ix, e2, show (2 : Int) < w from h3]
      rfl
    · have cw : ¬ (2 : Int) < w := h3
      unfold keptAt
      cases hi : ns[a + 1]? with
      | none =>
        have h := List.getElem?_eq_none_iff.mp hi
        have cq : (a : Int) + 1 = ((ns.length : Nat) : Int) := by omega
        push_cast [ix, e2, cw, List.length_map, cq]
        by_cases e0 : w = 0
        · rw [if_pos e0]; rfl
        · rw [if_neg e0, if_pos (by omega)]; rfl
      | some i =>
        have i0 := h0 i (List.mem_of_getElem? hi)
        have ha1 : a + 1 < ns.length := (List.getElem?_eq_some_iff.mp hi).1
        have ix1 : L2.atI (ns.map LV.int) ((a : Int) + 1) = some (.int i) := by
          rw [← c1]
          exact atI_nat (by rw [List.getElem?_map, hi]; rfl)
        have cq : ¬ (a : Int) + 1 = ((ns.length : Nat) : Int) := by omega
        simp only
        by_cases hip : i.toNat < ps.length
        · have iy : L2.atI (ps.map prL) i = some (prL ps[i.toNat]) := by
            have := atI_nat (j := i.toNat) (xs := ps.map prL) (v := prL ps[i.toNat]) (by rw [List.getElem?_map]; simp [hip])
            rw [show ((i.toNat : Nat) : Int) = i by omega] at this
            exact this
          rw [List.getElem?_eq_getElem hip]
          generalize ps[i.toNat] = q at *
          by_cases e0 : w = 0
          · rw [if_pos e0]
            push_cast [ix, e2, cw, List.length_map, cq, ix1, show ¬ ((ps.length : Nat) : Int) ≤ i by omega, iy, e0]
            rfl
          · rw [if_neg e0, if_pos (by omega)]
            have t2 := t1 (a + 2)
            rw [c2] at t2
            cases k : textAt ns (a + 2) with
            | none =>
              rw [k] at t2
              unfold outS at t2
              push_cast [ix, e2, cw, List.length_map, cq, ix1, show ¬ ((ps.length : Nat) : Int) ≤ i by omega, iy, e0, t2]
              rfl
            | some v =>
              obtain ⟨v, b⟩ := v
              rw [k] at t2
              unfold outS at t2
              have be := textAt_end k
              have vl := (textAt_ok h0 k).1.len
              have ce : (a : Int) + 3 + ((v.length : Nat) : Int) = ((b : Nat) : Int) := by omega
              push_cast [ix, e2, cw, List.length_map, cq, ix1, show ¬ ((ps.length : Nat) : Int) ≤ i by omega, iy, e0, t2, ce]
              rfl
        · rw [List.getElem?_eq_none (by omega)]
          push_cast [ix, e2, cw, List.length_map, cq, ix1, show ((ps.length : Nat) : Int) ≤ i by omega]
          by_cases e0 : w = 0
          · rw [if_pos e0]; rfl
          · rw [if_neg e0, if_pos (by omega)]; rfl
end Z
namespace Z
open PySem PySem.Spec L2 TL
local macro_rules | `(tactic| push_cast [$xs,*]) => `(tactic| simp (disch := (first | assumption | omega | (simp only [List.length_map, List.length_append, List.length_cons, List.length_nil, List.length_reverse, rng_len]; omega))) only [x_Var, x_C, x_Nil, x_Cons, x_e2, x_e1, x_eA, x_Clean, x_Tup, x_Frz, x_New, x_tOf, x_tTr, x_tAnd, x_tOr, x_tNot, x_And, x_Or, x_Not, x_eIf, x_Chain, x_Call, x_Meth, x_Pop, x_Pop0, x_LMt, x_Mt, x_Sl, x_SlT, x_oNone, x_oSome, x_List, x_CompA, x_Comp, x_iA, x_iQ1, x_iQ2, x_iZ, x_sNil, x_Seq, sq_nx, sq_rt, sq_er, sq_bk, sq_ct, x_sSet, x_sOwn, x_sDrop, x_sFrz, x_frzSlot, x_sRet, x_sRetN, x_sBk, x_sCt, x_sRaise, x_sIf, x_sItem, x_sAsg, x_sAug, x_sFldAugM, x_sFldM, x_sMod, x_sExt, x_sFor, x_gN, x_gT, x_gsNil, x_gsCons, v_add, v_sub, v_lt, v_le, v_gt, v_ge, v_mod, v_div, v_mul, v_eqR, v_neR, v_eqsR, v_nesR, v_eqbR, v_addL, v_addTxt, v_sgIx, v_isNon, in_str, in_tup, in_ref, in_int, in_non, v_lenT, v_lenL, v_lenS, v_sz, v_szi, v_rq1, v_rq2, Int.reduceToNat, Int.toNat_natCast, v_ixTup, v_ixLst, v_ixRdl, v_ixRef, v_ixStr, v_ixPr0, v_ixPr1, cl_prL, v_fLen, v_fLenLoc, v_seqLoc, v_fFld, v_insR, v_seqR, v_seqL, v_seqRd, v_seqMR, v_seqML, v_seqMo, bind_ok, bind_er, lift_ok, lift_er, fin_nx, fin_rt, fin_er, con1, cl_non, cl_bl, cl_int, cl_str, cl_ref, cl_tup, cl_lst, cl_rdl, cl_ins, frzO, truL, itemsOf, v_is_int, v_is_bl, v_is_str, v_is_tup, v_is_lst, v_is_non, v_is_ref, v_isO, isB_int, isB_int_bool, isB_bool_int, isB_list, isB_tuple, isB_str, Int.cast_ofNat_Int, ms_str, ms_int, ms_pr, ma_int, v_gApp, v_gIns0, List.set_cons_succ, List.set_cons_zero, List.getElem?_cons_succ, List.getElem?_cons_zero, List.length_cons, List.length_nil, List.all_cons, List.all_nil, Bool.and_true, Bool.true_and, Bool.and_false, Bool.false_and, Bool.and_self, Bool.not_true, Bool.not_false, Bool.or_true, Bool.true_or, Bool.or_false, Bool.false_or, if_true, if_false, decide_true, decide_false, decide_eq_true_eq, Bool.false_eq_true, Bool.not_eq_true', decide_eq_false_iff_not, Option.bind_some, Option.isNone_none, Option.isNone_some, Nat.reduceAdd, Int.reduceLT, Int.reduceLE, Int.reduceEq, Int.reduceNeg, Nat.reduceLT, Nat.reduceLeDiff, Nat.reduceEqDiff, Int.reduceAdd, Int.reduceSub, Int.reduceMul, List.set_set, wipeL, List.append_nil, List.nil_append, not_true_eq_false, not_false_eq_true, Int.natCast_nonneg, and_true, true_and, and_self, $xs,*])
def LrEnd (a1 : Sl) (L : LH) (r : Option (List Pr × List Pr)) (o : SO) : Prop := match r with
  | some (hd, ps) => ∃ t3 t4, o = .nx [.val (.lst (ps.map prL)), a1, .own (.lst (hd.map prL)), t3, t4] L
  | none => o = .rt .non L
theorem lread_loop {ns : List Int} {L : LH} (h0 : ∀ z ∈ ns, 0 ≤ z) (hz : ns.length ≤ 90000) : ∀ (k a : Nat) (hd ps : List Pr) (s4 : Sl), ns.length < k + a → wts ps ≤ 96 → (∀ q ∈ ps, GP q) → hd.length ≤ 6 → a ≤ ns.length →
    LrEnd (.val (.lst (ns.map .int))) L (readH ns k a hd ps) (wloop (tOf (e2 fLt (eVar 3) (eA fLen (aCons (eVar 1) aNil)))) zb1__law_read k [.val (.lst (ps.map prL)), .val (.lst (ns.map .int)), .own (.lst (hd.map prL)), .val (.int (a : Nat)), s4] L)
  | 0, a, hd, ps, s4, hk, _, _, _, ha => by omega
  | k + 1, a, hd, ps, s4, hk, hw, hg, h6, ha => by
    unfold readH wloop
    by_cases c : a < ns.length
    · rw [if_pos c]
      have cc : ((a : Nat) : Int) < ((ns.length : Nat) : Int) := by omega
      obtain ⟨w, hn⟩ : ∃ w, ns[a]? = some w := ⟨_, List.getElem?_eq_getElem c⟩
      have ix : L2.atI (ns.map LV.int) ((a : Nat) : Int) = some (.int w) := atI_nat (by rw [List.getElem?_map, hn]; rfl)
      have pe := pair_of_eq (L := L) h0 hz c hg
      cases kp : pairAt ps ns a with
      | none =>
        rw [kp] at pe
        unfold outQ at pe
        have hb : zb1__law_read [.val (.lst (ps.map prL)), .val (.lst (ns.map .int)), .own (.lst (hd.map prL)), .val (.int (a : Nat)), s4] L = .rt .non L := by
          unfold zb1__law_read
          push_cast [pe]
        simp only [ite_self]
        push_cast [List.length_map, cc, hb]
        rfl
      | some v =>
        obtain ⟨p, b, ps'⟩ := v
        rw [kp] at pe
        simp only [outQ] at pe
        obtain ⟨gp, b1, b2, g1, g2⟩ := pairAt_ok h0 hg hw kp
        by_cases c6 : hd.length = 6
        · have hb : zb1__law_read [.val (.lst (ps.map prL)), .val (.lst (ns.map .int)), .own (.lst (hd.map prL)), .val (.int (a : Nat)), s4] L = .rt .non L := by
            unfold zb1__law_read
            push_cast [pe, List.length_map, c6]
          rw [if_pos c6]
          push_cast [List.length_map, cc, hb]
          rfl
        · rw [if_neg c6]
          have h4 := wts_len ps
          have wp := gp.wt
          have put := lput_eq (L := L) (ps := ps) (p := p) (by omega) (by omega)
          have x0 : L2.atI [LV.str p.1, .str p.2, .int (b : Nat)] 0 = some (.str p.1) := atI_0
          have x1 : L2.atI [LV.str p.1, .str p.2, .int (b : Nat)] 1 = some (.str p.2) := atI_1
          have x2 : L2.atI [LV.str p.1, .str p.2, .int (b : Nat)] 2 = some (.int (b : Nat)) := atI_2
          have pr : LV.tup [.str p.1, .str p.2] = prL p := rfl
          have hb : zb1__law_read [.val (.lst (ps.map prL)), .val (.lst (ns.map .int)), .own (.lst (hd.map prL)), .val (.int (a : Nat)), s4] L = .nx [.val (.lst (ps'.map prL)), .val (.lst (ns.map .int)), .own (.lst ((hd ++ [p]).map prL)), .val (.int (b : Nat)), .val (.tup [.str p.1, .str p.2, .int (b : Nat)])] L := by
            unfold zb1__law_read
            by_cases e0 : w = 0
            · have ep : ps' = ps := by
                unfold pairAt at kp
                rw [hn] at kp
                simp only [e0, if_true] at kp
                cases kk : keptAt ps ns (a + 1) with
                | none => rw [kk] at kp; cases kp
                | some q => rw [kk] at kp; cases kp; rfl
              push_cast [pe, List.length_map, show ¬ ((hd.length : Nat) : Int) = 6 by omega, x0, x1, x2, pr, ix, e0, ep]
            · have ep : ps' = putP p ps := by
                unfold pairAt at kp
                rw [hn] at kp
                simp only [e0, if_false] at kp
                split at kp
                · cases kk : keptAt ps ns (a + 1) with
                  | none => rw [kk] at kp; cases kp
                  | some q =>
                    rw [kk] at kp
                    cases kt : textAt ns (a + 2) with
                    | none => rw [kt] at kp; cases kp
                    | some v => rw [kt] at kp; cases kp; rfl
                · split at kp
                  · cases kk : textAt ns (a + 1) with
                    | none => rw [kk] at kp; cases kp
                    | some n =>
                      rw [kk] at kp
                      simp only [Option.bind_some] at kp
                      split at kp
                      · cases kt : textAt ns n.2 with
                        | none => rw [kt] at kp; cases kp
                        | some v => rw [kt] at kp; cases kp; rfl
                      · cases kp
                  · cases kp
              push_cast [pe, List.length_map, show ¬ ((hd.length : Nat) : Int) = 6 by omega, x0, x1, x2, pr, ix, e0, ep, put]
          have ih := lread_loop (ns := ns) (L := L) h0 hz k b (hd ++ [p]) ps' (.val (.tup [.str p.1, .str p.2, .int (b : Nat)])) (by omega) g2 g1 (by rw [List.length_append, List.length_singleton]; omega) b2
          push_cast [List.length_map, cc, hb]
          exact ih
    · rw [if_neg c]
      have cc : ¬ ((a : Nat) : Int) < ((ns.length : Nat) : Int) := by omega
      refine ⟨.val (.int (a : Nat)), s4, ?_⟩
      push_cast [List.length_map, cc]
def outR (r : Option (List Pr × List Pr)) : LV := match r with
  | some (hd, ps) => .tup [.lst (hd.map prL), .lst (ps.map prL)]
  | none => .non
theorem lread_eq {ns : List Int} {ps : List Pr} {L : LH} (h0 : ∀ z ∈ ns, 0 ≤ z) (hz : ns.length ≤ 90000) (hw : wts ps ≤ 96) (hg : ∀ q ∈ ps, GP q) : z__law_read [.lst (ps.map prL), .lst (ns.map .int)] L = .ok (outR (readAll ps ns)) L := by
  have lp := lread_loop (L := L) h0 hz (ns.length + 1) 0 [] ps .no (by omega) hw hg (by decide) (Nat.zero_le _)
  have c0 : LV.int ((0 : Nat) : Int) = .int 0 := rfl
  rw [c0] at lp
  have em : ∀ (a0 a2 a3 a4 : Sl) (L : LH), mLen 1 [a0, .val (.lst (ns.map .int)), a2, a3, a4] L = ns.length + 1 := fun a0 a2 a3 a4 L => by
    show (ns.map LV.int).length + 1 = _
    rw [List.length_map]
  unfold readAll
  generalize readH ns (ns.length + 1) 0 [] ps = r at *
  unfold z__law_read zw__law_read
  rw [mDef_run]
  show fin (sSeq _ _ [.val (.lst (ps.map prL)), .val (.lst (ns.map .int)), .no, .no, .no] L) = _
  match r, lp with
  | some (hd, qs), lp =>
    obtain ⟨t3, t4, e⟩ := lp
    rw [List.map_nil] at e
    push_cast [x_While, em, e]
    rfl
  | none, lp =>
    have e : _ = SO.rt .non L := lp
    rw [List.map_nil] at e
    push_cast [x_While, em, e]
    rfl
theorem refused_eq {s l : Nat} {L : LH} {ps : List Pr} {ns : List Int} (hs : L[s]? = some (shelfO l)) (hl : L[l]? = some (.lst (ps.map prL))) (hw : wts ps ≤ 96) (hg : ∀ q ∈ ps, GP q) (h0 : ∀ z ∈ ns, 0 ≤ z) (hz : ns.length ≤ 90000) (hn : readAll ps ns = none) :
    ∃ L', z__law_refused [.ref s, .lst (ns.map .int)] L = .ok (.bl true) L' := by
  have rd := read_head_eq hs hl hw hg h0 hz
  rw [hn] at rd
  obtain ⟨hd, qs, e, _⟩ := rd
  refine ⟨L.set l (.lst (qs.map prL)) ++ [.lst (hd.map prL)], ?_⟩
  unfold z__law_refused zw__law_refused
  rw [mDef_run]
  show fin (sSeq _ _ [.val (.ref s), .val (.lst (ns.map .int)), .no] L) = _
  unfold sSeq sTryAs
  have eb : sDrop (eCall 2 z_read_head (aCons (eVar 0) (aCons (eVar 1) aNil))) [.val (.ref s), .val (.lst (ns.map .int)), .no] L = .er "BadHead" [] [] [.val (.ref s), .val (.lst (ns.map .int)), .no] (L.set l (.lst (qs.map prL)) ++ [.lst (hd.map prL)]) := by
    push_cast [e]
  rw [eb]
  have hm : ((Str.ofString "BadHead", ([] : List Str)) ∈ [(Str.ofString "BadHead", ([] : List Str))]) = True := by simp
  simp only [hm, if_true]
  push_cast [endI]
/-! ### numbers drawn by every way to tell -/
theorem text_upto {cell size : Int} (L : LH) (h0 : 0 ≤ size) (h1 : size ≤ 30) : ∃ ks : List Nat, z__law_text [.int cell, .int size] L = .ok (.str (txt ks)) L ∧ (ks.length : Int) = size ∧ ∀ k ∈ ks, k < 94 := by
  have s0 := Int.emod_nonneg cell (show (7 : Int) ≠ 0 by decide)
  have s1 := Int.emod_lt_of_pos cell (show (0 : Int) < 7 by decide)
  obtain ⟨cell', ks, s', e, e1, e2⟩ := text_loop (sz := .val (.int size)) (L := L) (step := 1 + cell % 7) (by omega) (by omega) (List.range size.toNat) cell [] .no (fun x hx => by have := List.mem_range.mp hx; omega) (fun k h => by simp at h) (by simp; omega)
  have hl : ks.length = size.toNat := by rw [e1]; simp
  have er : loop (gN 5) zb1__law_text (rng 0 size.toNat) [.val (.int cell), .val (.int size), .val (.str SG), .val (.int (1 + cell % 7)), .val (.str ""), .no] L = .nx [.val (.int cell'), .val (.int size), .val (.str SG), .val (.int (1 + cell % 7)), .val (.str (txt ks)), s'] L := e
  refine ⟨ks, ?_, by omega, e2⟩
  have sg : z__law_signs [] L = .ok (.str SG) L := signs_eq
  unfold z__law_text zw__law_text
  rw [mDef_run]
  show fin (sSeq _ _ [.val (.int cell), .val (.int size), .no, .no, .no, .no] L) = _
  push_cast [sg, er]
theorem ltold_any {ks : List Nat} (L : LH) (hk : ∀ k ∈ ks, k < 94) (hl : ks.length ≤ 1000) : z__law_told [.str (txt ks)] L = .ok (.lst ((due ks).map .int)) L := by
  have hl2 : (txt ks).length ≤ 1000 := by rw [txt_len]; exact hl
  have sg : z__law_signs [] L = .ok (.str SG) L := signs_eq
  have c := told_comp (σ0 := [.val (.str (txt ks)), .no]) (mo := eCall 0 z__law_signs aNil) (L := L) hk (by omega) rfl fun σ => by push_cast [sg]
  unfold z__law_told zw__law_told
  rw [mDef_run]
  show fin (sRet _ [.val (.str (txt ks)), .no] L) = _
  push_cast [x_CompA, c]
  unfold due
  rw [txt_len]
  rfl
theorem due_ok {ks : List Nat} : (∀ z ∈ due ks, 0 ≤ z) ∧ (due ks).length = ks.length + 1 := by
  refine ⟨fun z hz => ?_, by unfold due; simp⟩
  unfold due at hz
  rcases List.mem_cons.mp hz with h | h
  · omega
  · obtain ⟨k, _, rfl⟩ := List.mem_map.mp h
    omega
theorem pickB {a b : LV} (c : Prop) [Decidable c] : L2.atI [a, b] (if decide c = true then 1 else 0) = some (if c then b else a) := by
  by_cases h : c
  · rw [if_pos (decide_eq_true h), if_pos h]; exact atI_1
  · rw [if_neg (by simpa using h), if_neg h]; exact atI_0
end Z
namespace Z
open PySem PySem.Spec L2 TL
local macro_rules | `(tactic| push_cast [$xs,*]) => `(tactic| simp (disch := (first | assumption | omega | (simp only [List.length_map, List.length_append, List.length_cons, List.length_nil, List.length_reverse, rng_len]; omega))) only [x_Var, x_C, x_Nil, x_Cons, x_e2, x_e1, x_eA, x_Clean, x_Tup, x_Frz, x_New, x_tOf, x_tTr, x_tAnd, x_tOr, x_tNot, x_And, x_Or, x_Not, x_eIf, x_Chain, x_Call, x_Meth, x_Pop, x_Pop0, x_LMt, x_Mt, x_Sl, x_SlT, x_oNone, x_oSome, x_List, x_CompA, x_Comp, x_iA, x_iQ1, x_iQ2, x_iZ, x_sNil, x_Seq, sq_nx, sq_rt, sq_er, sq_bk, sq_ct, x_sSet, x_sOwn, x_sDrop, x_sFrz, x_frzSlot, x_sRet, x_sRetN, x_sBk, x_sCt, x_sRaise, x_sIf, x_sItem, x_sAsg, x_sAug, x_sFldAugM, x_sFldM, x_sMod, x_sExt, x_sFor, x_gN, x_gT, x_gsNil, x_gsCons, v_add, v_sub, v_lt, v_le, v_gt, v_ge, v_mod, v_div, v_mul, v_eqR, v_neR, v_eqsR, v_nesR, v_eqbR, v_addL, v_addTxt, v_sgIx, v_isNon, in_str, in_tup, in_ref, in_int, in_non, v_lenT, v_lenL, v_lenS, v_sz, v_szi, v_rq1, v_rq2, Int.reduceToNat, Int.toNat_natCast, v_ixTup, v_ixLst, v_ixRdl, v_ixRef, v_ixStr, v_ixPr0, v_ixPr1, cl_prL, v_fLen, v_fLenLoc, v_seqLoc, v_fFld, v_insR, v_seqR, v_seqL, v_seqRd, v_seqMR, v_seqML, v_seqMo, bind_ok, bind_er, lift_ok, lift_er, fin_nx, fin_rt, fin_er, con1, cl_non, cl_bl, cl_int, cl_str, cl_ref, cl_tup, cl_lst, cl_rdl, cl_ins, frzO, truL, itemsOf, v_is_int, v_is_bl, v_is_str, v_is_tup, v_is_lst, v_is_non, v_is_ref, v_isO, isB_int, isB_int_bool, isB_bool_int, isB_list, isB_tuple, isB_str, Int.cast_ofNat_Int, ms_str, ms_int, ms_pr, ma_int, v_gApp, v_gIns0, List.set_cons_succ, List.set_cons_zero, List.getElem?_cons_succ, List.getElem?_cons_zero, List.length_cons, List.length_nil, List.all_cons, List.all_nil, Bool.and_true, Bool.true_and, Bool.and_false, Bool.false_and, Bool.and_self, Bool.not_true, Bool.not_false, Bool.or_true, Bool.true_or, Bool.or_false, Bool.false_or, if_true, if_false, decide_true, decide_false, decide_eq_true_eq, Bool.false_eq_true, Bool.not_eq_true', decide_eq_false_iff_not, Option.bind_some, Option.isNone_none, Option.isNone_some, Nat.reduceAdd, Int.reduceLT, Int.reduceLE, Int.reduceEq, Int.reduceNeg, Nat.reduceLT, Nat.reduceLeDiff, Nat.reduceEqDiff, Int.reduceAdd, Int.reduceSub, Int.reduceMul, List.set_set, wipeL, List.append_nil, List.nil_append, not_true_eq_false, not_false_eq_true, Int.natCast_nonneg, and_true, true_and, and_self, $xs,*])
theorem pickT {c : Prop} [Decidable c] {a b : Str} (P : Str → Prop) (ha : P a) (hb : P b) : ∃ s, L2.atI [LV.str a, LV.str b] (if c then 1 else 0) = some (.str s) ∧ P s := by
  by_cases h : c
  · rw [if_pos h]; exact ⟨b, atI_1, hb⟩
  · rw [if_neg h]; exact ⟨a, atI_0, ha⟩
def T21 (s : Str) : Prop := ∃ ks : List Nat, s = txt ks ∧ ks.length ≤ 30 ∧ ∀ k ∈ ks, k < 94
theorem GText.t21 {s : Str} (h : GText s) : T21 s := by
  obtain ⟨ks, e, a, b⟩ := h
  exact ⟨ks, e, by omega, b⟩
theorem T21.told {s : Str} (h : T21 s) : ∃ ns : List Int, (∀ L, z__law_told [.str s] L = .ok (.lst (ns.map .int)) L) ∧ ns.length ≤ 31 ∧ ∀ z ∈ ns, 0 ≤ z := by
  obtain ⟨ks, rfl, a, b⟩ := h
  have := due_ok (ks := ks)
  exact ⟨due ks, fun L => ltold_any L b (by omega), by omega, this.1⟩
theorem by_turn {nm vl : List Str} {o : LO} {T : LH} {many : Int} {acc : List Int} {s4 s5 s6 s7 s8 : Sl} (n4 : nm.length = 4) (v5 : vl.length = 5) (hn : ∀ n ∈ nm, GName n) (hv : ∀ v ∈ vl, GText v) (ho : RowO o) (m0 : 0 ≤ many) (m1 : many ≤ 1000) (hl : acc.length ≤ 10000) (ha : ∀ z ∈ acc, 0 ≤ z) :
    Nx (zb1__law_numbers_by [.val (.ref 0), .val (.tup [.lst (nm.map .str), .lst (vl.map .str)]), .val (.int many), .val (.lst (acc.map .int)), s4, s5, s6, s7, s8] (o :: T))
      (fun σ L => ∃ (o' : LO) (many' : Int) (acc' : List Int) (t5 t6 t7 t8 : Sl), σ = [.val (.ref 0), .val (.tup [.lst (nm.map .str), .lst (vl.map .str)]), .val (.int many'), .val (.lst (acc'.map .int)), s4, t5, t6, t7, t8] ∧ L = o' :: T ∧ RowO o' ∧ 0 ≤ many' ∧ many' ≤ many + 1 ∧ acc'.length ≤ acc.length + 70 ∧ ∀ z ∈ acc', 0 ≤ z) := by
  obtain ⟨way, o1, d1, w0, w1, h1⟩ := drawS (T := T) (many := 3) ho (by decide) (by decide)
  obtain ⟨c, o2, d2, c0, c1, h2⟩ := drawP (T := T) 9 h1 (by decide)
  obtain ⟨v, v1, v2⟩ := atI_mem (f := LV.str) (xs := vl) (i := c % 5) (Int.emod_nonneg _ (by decide)) (by have := Int.emod_lt_of_pos c (show (0 : Int) < 5 by decide); omega)
  obtain ⟨e, o3, d3, e0, e1, h3⟩ := drawP (T := T) 41 h2 (by decide)
  obtain ⟨ks, tx, kl, kk⟩ := text_upto (cell := e) (size := c / 5 % 22) (o3 :: T) (Int.emod_nonneg _ (by decide)) (by have := Int.emod_lt_of_pos (c / 5) (show (0 : Int) < 22 by decide); omega)
  have k22 := Int.emod_lt_of_pos (c / 5) (show (0 : Int) < 22 by decide)
  obtain ⟨val, pv, tv⟩ := pickT (c := c % 3 = 1) (a := v) (b := txt ks) T21 (hv v v1).t21 ⟨ks, rfl, by omega, kk⟩
  obtain ⟨nv, ev, lv, zv⟩ := tv.told
  have mp : 0 < many + 2 := by omega
  have mm := Int.emod_nonneg c (show many + 2 ≠ 0 by omega)
  have app : ∀ (xs ys : List Int), (∀ z ∈ xs, 0 ≤ z) → (∀ z ∈ ys, 0 ≤ z) → ∀ z ∈ xs ++ ys, 0 ≤ z := fun xs ys h1 h2 z hz => (List.mem_append.mp hz).elim (h1 z) (h2 z)
  unfold zb1__law_numbers_by
  rcases (show way = 0 ∨ way = 1 ∨ way = 2 by omega) with rfl | rfl | rfl
  · exact Nx.mk (by push_cast [d1, d2, d3, v_pow9, v_pow41, atI_0, atI_1, v2, tx, v_int_bl, pv]; rfl) ⟨_, many + 0, acc ++ [0, c % (many + 2)], _, _, _, _, by rw [List.map_append] <;> rfl, rfl, h3, by omega, by omega, by simp, app _ _ ha (by simp; exact mm)⟩
  · exact Nx.mk (by push_cast [d1, d2, d3, v_pow9, v_pow41, atI_0, atI_1, v2, tx, v_int_bl, pv, ev]; rfl) ⟨_, many + 1, acc ++ [1, c % (many + 2)] ++ nv, _, _, _, _, by rw [List.map_append, List.map_append] <;> rfl, rfl, h3, by omega, by omega, by simp; omega, app _ _ (app _ _ ha (by simp; exact mm)) zv⟩
  · obtain ⟨n, n1, n2⟩ := atI_mem (f := LV.str) (xs := nm) (i := c % 4) (Int.emod_nonneg _ (by decide)) (by have := Int.emod_lt_of_pos c (show (0 : Int) < 4 by decide); omega)
    obtain ⟨f, o4, d4, f0, f1, h4⟩ := drawP (T := T) 17 h3 (by decide)
    obtain ⟨ks2, tx2, kl2, kk2⟩ := text_upto (cell := f) (size := c / 7 % 10) (o4 :: T) (Int.emod_nonneg _ (by decide)) (by have := Int.emod_lt_of_pos (c / 7) (show (0 : Int) < 10 by decide); omega)
    have k10 := Int.emod_lt_of_pos (c / 7) (show (0 : Int) < 10 by decide)
    obtain ⟨nam, pn, tnm⟩ := pickT (c := c % 4 = 2) (a := n) (b := txt ks2) T21 (hn n n1).text.t21 ⟨ks2, rfl, by omega, kk2⟩
    obtain ⟨nn, en, ln, zn⟩ := tnm.told
    exact Nx.mk (by push_cast [d1, d2, d3, v_pow9, v_pow41, v_pow17, d4, atI_0, atI_1, v2, n2, tx, tx2, v_int_bl, pv, pn, ev, en]; rfl) ⟨_, many + 1, acc ++ [2] ++ nn ++ nv, _, _, _, _, by rw [List.map_append, List.map_append, List.map_append] <;> rfl, rfl, h4, by omega, by omega, by simp; omega, app _ _ (app _ _ (app _ _ ha (by simp)) zn) zv⟩
theorem numbers_by_eq {nm vl : List Str} {o : LO} {T : LH} {many : Int} (n4 : nm.length = 4) (v5 : vl.length = 5) (hn : ∀ n ∈ nm, GName n) (hv : ∀ v ∈ vl, GText v) (ho : RowO o) (m0 : 0 ≤ many) (m1 : many ≤ 100) :
    ∃ (ns : List Int) (o' : LO), z__law_numbers_by [.ref 0, .tup [.lst (nm.map .str), .lst (vl.map .str)], .int many] (o :: T) = .ok (.lst (ns.map .int)) (o' :: T) ∧ RowO o' ∧ ns.length ≤ 600 ∧ ∀ z ∈ ns, 0 ≤ z := by
  obtain ⟨v, o1, d1, v0, v1, h1⟩ := drawS (T := T) (many := 8) ho (by decide) (by decide)
  obtain ⟨σ', L', lp, o2, my, acc, t4, t5, t6, t7, t8, rfl, rfl, h2, _, _, hl, hz⟩ := for_inv (n := gN 4) (b := zb1__law_numbers_by) (fun k σ L => ∃ (o' : LO) (many' : Int) (acc' : List Int) (t4 t5 t6 t7 t8 : Sl), σ = [.val (.ref 0), .val (.tup [.lst (nm.map .str), .lst (vl.map .str)]), .val (.int many'), .val (.lst (acc'.map .int)), t4, t5, t6, t7, t8] ∧ L = o' :: T ∧ RowO o' ∧ 0 ≤ many' ∧ many' ≤ 100 + k ∧ acc'.length ≤ 70 * k ∧ ∀ z ∈ acc', 0 ≤ z) (xs := rng 0 v.toNat) (σ := [.val (.ref 0), .val (.tup [.lst (nm.map .str), .lst (vl.map .str)]), .val (.int many), .val (.lst []), .no, .no, .no, .no, .no]) (L := o1 :: T)
    ⟨o1, many, [], .no, .no, .no, .no, .no, rfl, rfl, h1, m0, by omega, by simp, by simp⟩ fun j x σ L hx ⟨o', many', acc', t4, t5, t6, t7, t8, e1, e2, ho, a0, a1, hl, hz⟩ => by
      subst e1 e2
      obtain ⟨rfl, hj⟩ := rng_get hx
      refine ⟨_, rfl, ?_⟩
      obtain ⟨σ2, L2, q, o2, m2, acc2, u5, u6, u7, u8, e3, e4, b1, b2, b3, b4, b5⟩ := by_turn (T := T) (s4 := .val (.int (j : Int))) (s5 := t5) (s6 := t6) (s7 := t7) (s8 := t8) n4 v5 hn hv ho a0 (show many' ≤ 1000 by omega) (show acc'.length ≤ 10000 by omega) hz
      exact ⟨σ2, L2, q, o2, m2, acc2, _, u5, u6, u7, u8, e3, e4, b1, b2, by omega, by omega, b5⟩
  rw [rng_len] at hl
  refine ⟨acc, o2, ?_, h2, by omega, hz⟩
  unfold z__law_numbers_by zw__law_numbers_by
  rw [mDef_run]
  show fin (sSeq _ _ [.val (.ref 0), .val (.tup [.lst (nm.map .str), .lst (vl.map .str)]), .val (.int many), .no, .no, .no, .no, .no, .no] (o :: T)) = _
  push_cast [d1, lp]
theorem law_k07_turn {nm vl : List Str} {o : LO} {ps : List Pr} {s0 s5 s6 s7 s8 s9 s10 s11 s12 : Sl} (n4 : nm.length = 4) (v5 : vl.length = 5) (hn : ∀ n ∈ nm, GName n) (hv : ∀ v ∈ vl, GText v) (ho : RowO o) (hw : wts ps ≤ 96) (hg : ∀ p ∈ ps, GP p) :
    Nx (zb1_law_k07 [s0, .val (.ref 0), .val (.tup [.lst (nm.map .str), .lst (vl.map .str)]), .val (.ref 1), .val (.lst (ps.map prL)), s5, s6, s7, s8, s9, s10, s11, s12] [o, shelfO 2, .lst (ps.map prL)])
      (fun σ L => ∃ (o' : LO) (ps' : List Pr) (t6 : Sl), σ = [s0, .val (.ref 0), .val (.tup [.lst (nm.map .str), .lst (vl.map .str)]), .val (.ref 1), .val (.lst (ps'.map prL)), s5, t6, s7, s8, s9, s10, s11, s12] ∧ L = [o', shelfO 2, .lst (ps'.map prL)] ∧ RowO o' ∧ wts ps' ≤ 96 ∧ ∀ p ∈ ps', GP p) := by
  obtain ⟨c, o1, d1, c0, c1, h1⟩ := drawS (T := [shelfO 2, .lst (ps.map prL)]) (many := 20) ho (by decide) (by decide)
  obtain ⟨n, n1, n2⟩ := atI_mem (f := LV.str) (xs := nm) (i := c % 4) (Int.emod_nonneg _ (by decide)) (by have := Int.emod_lt_of_pos c (show (0 : Int) < 4 by decide); omega)
  obtain ⟨v, v1, v2⟩ := atI_mem (f := LV.str) (xs := vl) (i := c / 4) (by omega) (by omega)
  have gp : GP (n, v) := ⟨hn n n1, hv v v1⟩
  have wp := gp.wt
  have put := put_eq (s := 1) (l := 2) (L := [o1, shelfO 2, .lst (ps.map prL)]) (ps := ps) (p := (n, v)) rfl rfl (by omega) (by omega)
  have lput := fun L => lput_eq (L := L) (ps := ps) (p := (n, v)) (by omega) (by omega)
  unfold zb1_law_k07
  exact Nx.mk (by push_cast [d1, atI_0, atI_1, n2, v2, prL_eq, fl_put, put, lput]; rfl) ⟨_, _, _, rfl, rfl, h1, putP_w _ _, fun q hq => by
    rcases putP_mem hq with h | h
    · rw [h]; exact gp
    · exact hg q h⟩
theorem cut_take {α : Type} {xs : List α} {f : α → LV} {k : Nat} (h : k ≤ xs.length) : cutL (xs.map f) none (some (k : Int)) = (xs.take k).map f := by
  unfold cutL
  rw [HT.sIx_nat, List.length_map]
  have e0 : HT.sIx xs.length 0 none = 0 := rfl
  rw [e0, List.drop_zero, Nat.sub_zero, Nat.min_eq_left h, List.map_take]
theorem cut_drop {α : Type} {xs : List α} {f : α → LV} {k : Nat} (h : k ≤ xs.length) : cutL (xs.map f) (some (k : Int)) none = (xs.drop k).map f := by
  unfold cutL
  rw [HT.sIx_nat, List.length_map]
  have e0 : HT.sIx xs.length xs.length none = xs.length := rfl
  rw [e0, Nat.min_eq_left h, List.map_drop, List.take_of_length_le (by rw [List.length_drop, List.length_map]; exact Nat.le_refl _)]
theorem v_rep2 {σ : SL} {L : LH} (vs : List LV) (h : vs.length ≤ 1000) : fRep (.lst vs) (.int 2) σ L = .ok (.lst (vs ++ vs)) L := by
  have e1 : Nat.ble (2 : Int).natAbs 1000 = true := by decide
  have e2 : decide (vs.length * (2 : Int).toNat ≤ sizeLine) = true := decide_eq_true (small (by show vs.length * 2 ≤ _; omega))
  unfold fRep
  simp only [seqM, seqL, e1, e2, if_true]
  show O.ok (LV.lst (List.replicate 2 vs).flatten) L = _
  simp [List.replicate]
/-- what becomes of the numbers -/
def w_spoil : MS := (sSeq (sSet 10 (e2 fMod (eVar 8) (eA fLen (aCons (eVar 9) aNil))))
  (sSet 9 (e2 fAdd (e2 fAdd (eFrz (aSl (eVar 9) oNone (oSome (eVar 10)))) (e2 fIx (eFrz (aClean (aCons (eFrz (aClean (aCons (e2 fMod (e2 fDiv (eVar 8) (eC (.int 256))) (eC (.int 256))) aNil))) (aCons (eFrz (aClean aNil)) (aCons (e2 fRep (eFrz (aClean (aCons (e2 fIx (eVar 9) (eVar 10)) aNil))) (eC (.int 2))) aNil))))) (eVar 7))) (eFrz (aSl (eVar 9) (oSome (e2 fAdd (eVar 10) (eC (.int 1)))) oNone)))))
theorem spoil_eq {ns : List Int} {way spoil : Int} {L : LH} {s0 s1 s2 s3 s4 s5 s6 s10 s11 s12 : Sl} (hw0 : 0 ≤ way) (hw1 : way < 3) (hz : ∀ z ∈ ns, 0 ≤ z) (hne : ns ≠ []) (hl : ns.length ≤ 600) (hs : 0 ≤ spoil) :
    ∃ (ms : List Int) (t10 : Sl), w_spoil [s0, s1, s2, s3, s4, s5, s6, .val (.int way), .val (.int spoil), .val (.lst (ns.map .int)), s10, s11, s12] L = .nx [s0, s1, s2, s3, s4, s5, s6, .val (.int way), .val (.int spoil), .val (.lst (ms.map .int)), t10, s11, s12] L ∧ ms.length ≤ 700 ∧ ∀ z ∈ ms, 0 ≤ z := by
  have lp : 0 < ns.length := List.length_pos_iff.mpr hne
  have lp2 : (0 : Int) < ((ns.length : Nat) : Int) := by omega
  obtain ⟨k, hk⟩ : ∃ k : Nat, spoil % ((ns.length : Nat) : Int) = (k : Int) := ⟨(spoil % ((ns.length : Nat) : Int)).toNat, by have := Int.emod_nonneg spoil (show ((ns.length : Nat) : Int) ≠ 0 by omega); omega⟩
  have kl : k < ns.length := by have := Int.emod_lt_of_pos spoil lp2; omega
  have ix : L2.atI (ns.map LV.int) ((k : Nat) : Int) = some (.int ns[k]) := atI_nat (by rw [List.getElem?_map]; simp [kl])
  have y0 := hz _ (List.getElem_mem kl)
  have x0 := Int.emod_nonneg (spoil / 256) (show (256 : Int) ≠ 0 by decide)
  have ct := cut_take (f := LV.int) (show k ≤ ns.length by omega)
  have cd := cut_drop (f := LV.int) (show k + 1 ≤ ns.length by omega)
  have c1 : ((k + 1 : Nat) : Int) = (k : Int) + 1 := by omega
  rw [c1] at cd
  have tk : ∀ z ∈ ns.take k, 0 ≤ z := fun z h => hz z (List.mem_of_mem_take h)
  have td : ∀ z ∈ ns.drop (k + 1), 0 ≤ z := fun z h => hz z (List.mem_of_mem_drop h)
  have l1 : (ns.take k).length ≤ 600 := by rw [List.length_take]; omega
  have l2 : (ns.drop (k + 1)).length ≤ 600 := by rw [List.length_drop]; omega
  have l3 : (ns.take k).length + (ns.drop (k + 1)).length ≤ 600 := by rw [List.length_take, List.length_drop]; omega
  generalize ns[k] = y at *
  generalize ns.take k = A at *
  generalize ns.drop (k + 1) = B at *
  generalize hx : spoil / 256 % 256 = x at *
  unfold w_spoil
  rcases (show way = 0 ∨ way = 1 ∨ way = 2 by omega) with rfl | rfl | rfl
  · refine ⟨A ++ [x] ++ B, .val (.int (k : Nat)), ?_, by simp; omega, fun z hz => ?_⟩
    · push_cast [List.length_map, hk, hx, ct, cd, ix, v_rep2, atI_0] <;> simp only [List.map_append, List.map_cons, List.map_nil, List.append_assoc, List.cons_append, List.nil_append]
    · simp at hz
      rcases hz with h | h | h
      · exact tk z h
      · omega
      · exact td z h
  · refine ⟨A ++ B, .val (.int (k : Nat)), ?_, by simp; omega, fun z hz => ?_⟩
    · push_cast [List.length_map, hk, hx, ct, cd, ix, v_rep2, atI_1]
    · simp at hz
      rcases hz with h | h
      · exact tk z h
      · exact td z h
  · refine ⟨A ++ [y, y] ++ B, .val (.int (k : Nat)), ?_, by simp; omega, fun z hz => ?_⟩
    · push_cast [List.length_map, hk, hx, ct, cd, ix, v_rep2, atI_2, List.cons_append] <;> simp only [List.map_append, List.map_cons, List.map_nil, List.append_assoc, List.cons_append, List.nil_append]
    · simp at hz
      rcases hz with h | h | h
      · exact tk z h
      · omega
      · exact td z h
def w_tail07 : MS := ((sSeq (sSet 11 (eCall 2 z__law_read (aCons (eVar 4) (aCons (eVar 9) aNil))))
      (sSeq (sIf (tOf (e2 (fIsN false) (eVar 11) (eC .non))) (sRet (eCall 2 z__law_refused (aCons (eVar 3) (aCons (eVar 9) aNil)))) sNil)
      (sSeq (sSet 12 (eCall 2 z_read_head (aCons (eVar 3) (aCons (eFrz (aList (aCons (eVar 9) aNil))) aNil))))
      (sRet (eAnd (eCall 2 z__law_pairs (aCons (eVar 12) (aCons (e2 fIx (eVar 11) (eC (.int 0))) aNil))) (eCall 2 z__law_pairs (aCons (e1 (fFld ["Shelf"] "pairs") (eVar 3)) (aCons (e2 fIx (eVar 11) (eC (.int 1))) aNil)))))))))
theorem law_k07 (ns : List Int) : ∃ L, z_law_k07 [.rdl (ns.map .int)] [] = .ok (.bl true) L := by
  obtain ⟨o0, e0, h0⟩ := row0 ns
  obtain ⟨nm, vl, o1, ep, h1, n4, v5, hn, hv⟩ := pool_eq (T := []) h0
  have mk : ∀ σ, eMake "Shelf" 1 z_Shelf___init__ aNil σ [o1] = .ok (.ref 1) [o1, shelfO 2, .lst []] := fun σ => make_shelf (L := [o1])
  obtain ⟨c, o2, d2, c0, c1, h2⟩ := drawS (T := [shelfO 2, .lst []]) (many := 3) h1 (by decide) (by decide)
  have pk := pick2 (.int 7) (.int 20) c0 c1
  obtain ⟨m, hm, m0, m1⟩ : ∃ m : Int, (if c < 2 then LV.int 7 else .int 20) = .int m ∧ 0 < m ∧ m ≤ 50 := by
    by_cases h : c < 2
    · exact ⟨7, if_pos h, by decide, by decide⟩
    · exact ⟨20, if_neg h, by decide, by decide⟩
  rw [hm] at pk
  obtain ⟨e, o3, d3, f0, f1, h3⟩ := drawS (T := [shelfO 2, .lst []]) (many := m) h2 m0 (by omega)
  obtain ⟨σ', L', lp, o4, ps, t5, t6, rfl, rfl, h4, hw, hg⟩ := for_inv (n := gN 5) (b := zb1_law_k07) (fun k σ L => ∃ (o' : LO) (ps' : List Pr) (t5 t6 : Sl), σ = [.val (.rdl (ns.map .int)), .val (.ref 0), .val (.tup [.lst (nm.map .str), .lst (vl.map .str)]), .val (.ref 1), .val (.lst (ps'.map prL)), t5, t6, .no, .no, .no, .no, .no, .no] ∧ L = [o', shelfO 2, .lst (ps'.map prL)] ∧ RowO o' ∧ wts ps' ≤ 96 ∧ ∀ p ∈ ps', GP p) (xs := rng 0 e.toNat) (σ := [.val (.rdl (ns.map .int)), .val (.ref 0), .val (.tup [.lst (nm.map .str), .lst (vl.map .str)]), .val (.ref 1), .val (.lst []), .no, .no, .no, .no, .no, .no, .no, .no]) (L := [o3, shelfO 2, .lst []])
    ⟨o3, [], .no, .no, rfl, rfl, h3, by decide, (fun _ h => by cases h)⟩ fun j x σ L hx ⟨o', ps', t5, t6, e1, e2, ho, w0, g0⟩ => by
      subst e1 e2
      obtain ⟨rfl, hj⟩ := rng_get hx
      refine ⟨_, rfl, ?_⟩
      obtain ⟨σ2, L2, q, o2, r0, u6, z⟩ := law_k07_turn (s0 := .val (.rdl (ns.map .int))) (s5 := .val (.int (j : Int))) (s6 := t6) (s7 := .no) (s8 := .no) (s9 := .no) (s10 := .no) (s11 := .no) (s12 := .no) n4 v5 hn hv ho w0 g0
      exact ⟨σ2, L2, q, o2, r0, _, u6, z⟩
  obtain ⟨way, o5, d5, w0, w1, h5⟩ := drawS (T := [shelfO 2, .lst (ps.map prL)]) (many := 6) h4 (by decide) (by decide)
  obtain ⟨sp, o6, d6, s0, s1, h6⟩ := drawP (T := [shelfO 2, .lst (ps.map prL)]) 9 h5 (by decide)
  have h4l := wts_len ps
  obtain ⟨ms, o7, d7, h7, ml, mz⟩ := numbers_by_eq (T := [shelfO 2, .lst (ps.map prL)]) (many := ((ps.length : Nat) : Int)) n4 v5 hn hv h6 (by omega) (by omega)
  have nq : ∀ σ L, fEqR true (.lst (ms.map LV.int)) (.lst []) σ L = .ok (.bl (!decide (ms = []))) L := fun σ L =>
    eq_means (α := List Int) (by decide) rfl (means_lv (α := List Int) fun _ _ => trivial) (means_lv (α := List Int) (a := []) fun _ _ => trivial) true
  -- the numbers as they are read
  have goal : ∀ (qs : List Int) (t10 : Sl), qs.length ≤ 700 → (∀ z ∈ qs, 0 ≤ z) → ∃ L, fin (w_tail07 [.val (.rdl (ns.map .int)), .val (.ref 0), .val (.tup [.lst (nm.map .str), .lst (vl.map .str)]), .val (.ref 1), .val (.lst (ps.map prL)), t5, t6, .val (.int way), .val (.int sp), .val (.lst (qs.map .int)), t10, .no, .no] [o7, shelfO 2, .lst (ps.map prL)]) = .ok (.bl true) L := fun qs t10 ql qz => by
    unfold w_tail07
    have lr := lread_eq (L := [o7, shelfO 2, .lst (ps.map prL)]) qz (by omega) hw hg
    have rd := read_head_eq (s := 1) (l := 2) (L := [o7, shelfO 2, .lst (ps.map prL)]) (ns := qs) rfl rfl hw hg qz (by omega)
    cases hr : readAll ps qs with
    | none =>
      obtain ⟨L', rf⟩ := refused_eq (s := 1) (l := 2) (L := [o7, shelfO 2, .lst (ps.map prL)]) rfl rfl hw hg qz (by omega) hr
      rw [hr] at lr
      simp only [outR] at lr
      exact ⟨L', by push_cast [lr, rf]⟩
    | some v =>
      obtain ⟨hd, ps'⟩ := v
      rw [hr] at lr rd
      simp only [outR] at lr
      obtain ⟨rd, l6, g1, g2, w2⟩ := rd
      have l4 := wts_len ps'
      have pa := pairs_gp (L := [o7, shelfO 2, .lst (ps'.map prL), .lst (hd.map prL)]) (a := .ref 3) (.inr ⟨3, rfl, rfl⟩) g1 (by omega)
      have pb := pairs_gp (L := [o7, shelfO 2, .lst (ps'.map prL), .lst (hd.map prL)]) (a := .ref 2) (.inr ⟨2, rfl, rfl⟩) g2 (by omega)
      simp only [List.set_cons_succ, List.set_cons_zero, List.cons_append, List.nil_append, List.length_cons, List.length_nil] at rd
      exact ⟨_, by push_cast [lr, rd, atI_0, atI_1, pa, fl_pairs, pb]; rfl⟩
  unfold z_law_k07 zw_law_k07
  rw [mDef_run]
  show ∃ L, fin (sSeq _ (sSeq _ (sSeq _ (sSeq _ (sSeq _ (sSeq _ (sSeq _ (sSeq _ (sSeq (sIf _ w_spoil _) w_tail07)))))))) [.val (.rdl (ns.map .int)), .no, .no, .no, .no, .no, .no, .no, .no, .no, .no, .no, .no] []) = _
  by_cases hne : ms = []
  · subst hne
    obtain ⟨L, g⟩ := goal [] .no (by decide) (by simp)
    refine ⟨L, ?_⟩
    push_cast [e0, ep, mk, d2, pk, d3, lp, d5, v_pow9, d6, d7, List.length_map, nq]
    exact g
  · by_cases hw3 : way < 3
    · obtain ⟨qs, t10, sp1, ql, qz⟩ := spoil_eq (ns := ms) (L := [o7, shelfO 2, .lst (ps.map prL)]) (s0 := .val (.rdl (ns.map .int))) (s1 := .val (.ref 0)) (s2 := .val (.tup [.lst (nm.map .str), .lst (vl.map .str)])) (s3 := .val (.ref 1)) (s4 := .val (.lst (ps.map prL))) (s5 := t5) (s6 := t6) (s10 := .no) (s11 := .no) (s12 := .no) w0 hw3 mz hne ml s0
      obtain ⟨L, g⟩ := goal qs t10 ql qz
      refine ⟨L, ?_⟩
      push_cast [e0, ep, mk, d2, pk, d3, lp, d5, v_pow9, d6, d7, List.length_map, nq, hne, hw3, sp1]
      exact g
    · obtain ⟨L, g⟩ := goal ms .no (by omega) mz
      refine ⟨L, ?_⟩
      push_cast [e0, ep, mk, d2, pk, d3, lp, d5, v_pow9, d6, d7, List.length_map, nq, hne, hw3]
      exact g
end Z
namespace Law
open PySem PySem.Spec L2 Z
/-! ### the text -/
def topS (i : Nat) : Stmt := PySem.Challenge.pw_oneline_k07_heads_read_or_refused.main.body.getD i (.Pass ⟨0, 0, 0, 0⟩)
def v_SIGNS : Str := " !\"#$&'()*+,-./0123456789:;<=>?@ABCDEFGHIJKLMNOPQRSTUVWXYZ[\\]^_`abcdefghijklmnopqrstuvwxyz{|}~"
abbrev s__law_row : Stmt := topS 26
abbrev N__law_row : List Str := ["_law_script", "_law_mixed", "_law_cell"]
abbrev p__law_row : List Str := ["_law_script"]
theorem sc__law_row : FnScope N__law_row p__law_row (defScope s__law_row) := ⟨rfl, rfl, rfl, by decide +kernel, rfl, by decide +kernel, by decide +kernel⟩
abbrev s__law_taken : Stmt := topS 27
abbrev N__law_taken : List Str := ["_law_row_here", "_law_many", "_law_found", "_law_cell"]
abbrev p__law_taken : List Str := ["_law_row_here", "_law_many"]
theorem sc__law_taken : FnScope N__law_taken p__law_taken (defScope s__law_taken) := ⟨rfl, rfl, rfl, by decide +kernel, rfl, by decide +kernel, by decide +kernel⟩
abbrev s__law_signs : Stmt := topS 28
abbrev N__law_signs : List Str := ["_law_found"]
abbrev p__law_signs : List Str := []
theorem sc__law_signs : FnScope N__law_signs p__law_signs (defScope s__law_signs) := ⟨rfl, rfl, rfl, by decide +kernel, rfl, by decide +kernel, by decide +kernel⟩
abbrev s__law_text : Stmt := topS 29
abbrev N__law_text : List Str := ["_law_cell", "_law_size", "_law_some", "_law_step", "_law_found", "_law_k"]
abbrev p__law_text : List Str := ["_law_cell", "_law_size"]
theorem sc__law_text : FnScope N__law_text p__law_text (defScope s__law_text) := ⟨rfl, rfl, rfl, by decide +kernel, rfl, by decide +kernel, by decide +kernel⟩
abbrev s__law_pool : Stmt := topS 33
abbrev N__law_pool : List Str := ["_law_row_here", "_law_names", "_law_k", "_law_size", "_law_values"]
abbrev p__law_pool : List Str := ["_law_row_here"]
theorem sc__law_pool : FnScope N__law_pool p__law_pool (defScope s__law_pool) := ⟨rfl, rfl, rfl, by decide +kernel, rfl, by decide +kernel, by decide +kernel⟩
abbrev s_Shelf___init__ : Stmt := inClass (topS 23) 0
abbrev N_Shelf___init__ : List Str := ["self"]
abbrev p_Shelf___init__ : List Str := ["self"]
theorem sc_Shelf___init__ : FnScope N_Shelf___init__ p_Shelf___init__ (defScope s_Shelf___init__) := ⟨rfl, rfl, rfl, by decide +kernel, rfl, by decide +kernel, by decide +kernel⟩
abbrev s__law_told : Stmt := topS 31
abbrev N__law_told : List Str := ["_law_text_here", "_law_sign"]
abbrev p__law_told : List Str := ["_law_text_here"]
theorem sc__law_told : FnScope N__law_told p__law_told (defScope s__law_told) := ⟨rfl, rfl, rfl, by decide +kernel, rfl, by decide +kernel, by decide +kernel⟩
abbrev s__law_numbers_by : Stmt := topS 37
abbrev N__law_numbers_by : List Str := ["_law_row_here", "_law_pool_here", "_law_many", "_law_found", "_law_k", "_law_way", "_law_cell", "_law_value", "_law_name"]
abbrev p__law_numbers_by : List Str := ["_law_row_here", "_law_pool_here", "_law_many"]
theorem sc__law_numbers_by : FnScope N__law_numbers_by p__law_numbers_by (defScope s__law_numbers_by) := ⟨rfl, rfl, rfl, by decide +kernel, rfl, by decide +kernel, by decide +kernel⟩
abbrev s__law_text_of : Stmt := topS 34
abbrev N__law_text_of : List Str := ["_law_numbers", "_law_at", "_law_found", "_law_number"]
abbrev p__law_text_of : List Str := ["_law_numbers", "_law_at"]
theorem sc__law_text_of : FnScope N__law_text_of p__law_text_of (defScope s__law_text_of) := ⟨rfl, rfl, rfl, by decide +kernel, rfl, by decide +kernel, by decide +kernel⟩
abbrev s__law_pair_of : Stmt := topS 35
abbrev N__law_pair_of : List Str := ["_law_pairs_here", "_law_numbers", "_law_at", "_law_name", "_law_value", "_law_pair"]
abbrev p__law_pair_of : List Str := ["_law_pairs_here", "_law_numbers", "_law_at"]
theorem sc__law_pair_of : FnScope N__law_pair_of p__law_pair_of (defScope s__law_pair_of) := ⟨rfl, rfl, rfl, by decide +kernel, rfl, by decide +kernel, by decide +kernel⟩
abbrev s__law_put : Stmt := topS 32
abbrev N__law_put : List Str := ["_law_pairs_here", "_law_pair", "_law_found", "_law_weight", "_law_k"]
abbrev p__law_put : List Str := ["_law_pairs_here", "_law_pair"]
theorem sc__law_put : FnScope N__law_put p__law_put (defScope s__law_put) := ⟨rfl, rfl, rfl, by decide +kernel, rfl, by decide +kernel, by decide +kernel⟩
abbrev s__law_read : Stmt := topS 36
abbrev N__law_read : List Str := ["_law_pairs_here", "_law_numbers", "_law_found", "_law_at", "_law_told_here"]
abbrev p__law_read : List Str := ["_law_pairs_here", "_law_numbers"]
theorem sc__law_read : FnScope N__law_read p__law_read (defScope s__law_read) := ⟨rfl, rfl, rfl, by decide +kernel, rfl, by decide +kernel, by decide +kernel⟩
abbrev s_text_size : Stmt := topS 8
abbrev N_text_size : List Str := ["numbers", "at"]
abbrev p_text_size : List Str := ["numbers", "at"]
theorem sc_text_size : FnScope N_text_size p_text_size (defScope s_text_size) := ⟨rfl, rfl, rfl, by decide +kernel, rfl, by decide +kernel, by decide +kernel⟩
abbrev s_sign_of : Stmt := topS 9
abbrev N_sign_of : List Str := ["number"]
abbrev p_sign_of : List Str := ["number"]
theorem sc_sign_of : FnScope N_sign_of p_sign_of (defScope s_sign_of) := ⟨rfl, rfl, rfl, by decide +kernel, rfl, by decide +kernel, by decide +kernel⟩
abbrev s_text_at : Stmt := topS 7
abbrev N_text_at : List Str := ["numbers", "at", "size", "first", "behind", "text", "number"]
abbrev p_text_at : List Str := ["numbers", "at"]
theorem sc_text_at : FnScope N_text_at p_text_at (defScope s_text_at) := ⟨rfl, rfl, rfl, by decide +kernel, rfl, by decide +kernel, by decide +kernel⟩
abbrev s_pair_weight : Stmt := topS 24
abbrev N_pair_weight : List Str := ["pair"]
abbrev p_pair_weight : List Str := ["pair"]
theorem sc_pair_weight : FnScope N_pair_weight p_pair_weight (defScope s_pair_weight) := ⟨rfl, rfl, rfl, by decide +kernel, rfl, by decide +kernel, by decide +kernel⟩
abbrev s_Shelf_put : Stmt := inClass (topS 23) 1
abbrev N_Shelf_put : List Str := ["self", "pair", "weight", "kept"]
abbrev p_Shelf_put : List Str := ["self", "pair"]
theorem sc_Shelf_put : FnScope N_Shelf_put p_Shelf_put (defScope s_Shelf_put) := ⟨rfl, rfl, rfl, by decide +kernel, rfl, by decide +kernel, by decide +kernel⟩
abbrev s_kept_pair : Stmt := topS 18
abbrev N_kept_pair : List Str := ["shelf", "numbers", "at", "place"]
abbrev p_kept_pair : List Str := ["shelf", "numbers", "at"]
theorem sc_kept_pair : FnScope N_kept_pair p_kept_pair (defScope s_kept_pair) := ⟨rfl, rfl, rfl, by decide +kernel, rfl, by decide +kernel, by decide +kernel⟩
abbrev s_name_at : Stmt := topS 19
abbrev N_name_at : List Str := ["numbers", "at", "name", "behind"]
abbrev p_name_at : List Str := ["numbers", "at"]
theorem sc_name_at : FnScope N_name_at p_name_at (defScope s_name_at) := ⟨rfl, rfl, rfl, by decide +kernel, rfl, by decide +kernel, by decide +kernel⟩
abbrev s_pair_at : Stmt := topS 17
abbrev N_pair_at : List Str := ["shelf", "numbers", "at", "way", "name", "behind", "value", "pair"]
abbrev p_pair_at : List Str := ["shelf", "numbers", "at"]
theorem sc_pair_at : FnScope N_pair_at p_pair_at (defScope s_pair_at) := ⟨rfl, rfl, rfl, by decide +kernel, rfl, by decide +kernel, by decide +kernel⟩
abbrev s_read_head : Stmt := topS 16
abbrev N_read_head : List Str := ["shelf", "numbers", "head", "at", "pair"]
abbrev p_read_head : List Str := ["shelf", "numbers"]
theorem sc_read_head : FnScope N_read_head p_read_head (defScope s_read_head) := ⟨rfl, rfl, rfl, by decide +kernel, rfl, by decide +kernel, by decide +kernel⟩
abbrev s__law_refused : Stmt := topS 38
abbrev N__law_refused : List Str := ["_law_shelf", "_law_numbers", "e"]
abbrev p__law_refused : List Str := ["_law_shelf", "_law_numbers"]
theorem sc__law_refused : FnScope N__law_refused p__law_refused (defScope s__law_refused) := ⟨rfl, rfl, rfl, by decide +kernel, rfl, by decide +kernel, by decide +kernel⟩
abbrev s__law_pairs : Stmt := topS 30
abbrev N__law_pairs : List Str := ["_law_found", "_law_due", "_law_one"]
abbrev p__law_pairs : List Str := ["_law_found", "_law_due"]
theorem sc__law_pairs : FnScope N__law_pairs p__law_pairs (defScope s__law_pairs) := ⟨rfl, rfl, rfl, by decide +kernel, rfl, by decide +kernel, by decide +kernel⟩
abbrev s_law : Stmt := topS 39
abbrev N_law : List Str := ["_law_script", "_law_row_here", "_law_pool_here", "_law_shelf", "_law_pairs_here", "_law_k", "_law_cell", "_law_way", "_law_spoil", "_law_numbers", "_law_at", "_law_due", "_law_found"]
abbrev p_law : List Str := ["_law_script"]
theorem sc_law : FnScope N_law p_law (defScope s_law) := ⟨rfl, rfl, rfl, by decide +kernel, rfl, by decide +kernel, by decide +kernel⟩
/-! ### the mirrors -/
def w__law_row : MS := (sSeq (sSet 1 (eC (.int 7)))
  (sSeq (sForA (eVar 0) (gN 2) (sSet 1 (e2 fMod (e2 fAdd (e2 fAdd (e2 fMul (eVar 1) (eC (.int 48271))) (eVar 2)) (eC (.int 11))) (eC (.int 2147483647)))))
  (sRet (eNew (aClean (aCons (eVar 0) (aCons (eC (.int 0)) (aCons (eC (.int 0)) (aCons (eVar 1) aNil)))))))))
def m__law_row : List LV → LH → O LV := mDef 3 w__law_row
def w__law_taken : MS := (sSeq (sIf (tOf (e2 fGt (e2 fIx (eVar 0) (eC (.int 2))) (eC (.int 0)))) (sSeq (sSet 2 (e2 fMod (e2 fIx (eVar 0) (eC (.int 2))) (eVar 1)))
  (sSeq (sItem (eVar 0) (eC (.int 2)) (e2 fDiv (e2 fIx (eVar 0) (eC (.int 2))) (eVar 1)))
  (sRet (eVar 2)))) sNil)
  (sSeq (sIf (tOf (e2 fLt (e2 fIx (eVar 0) (eC (.int 1))) (eA fLen (aCons (e2 fIx (eVar 0) (eC (.int 0))) aNil)))) (sSeq (sSet 3 (e2 fIx (e2 fIx (eVar 0) (eC (.int 0))) (e2 fIx (eVar 0) (eC (.int 1)))))
  (sSeq (sItem (eVar 0) (eC (.int 1)) (e2 fAdd (e2 fIx (eVar 0) (eC (.int 1))) (eC (.int 1))))
  (sSeq (sIf (tOf (e2 fGe (eVar 3) (e2 fPow (eC (.int 10)) (eC (.int 18))))) (sItem (eVar 0) (eC (.int 2)) (e2 fDiv (eVar 3) (eVar 1))) sNil)
  (sRet (e2 fMod (eVar 3) (eVar 1)))))) sNil)
  (sSeq (sItem (eVar 0) (eC (.int 3)) (e2 fMod (e2 fAdd (e2 fMul (e2 fIx (eVar 0) (eC (.int 3))) (eC (.int 48271))) (eC (.int 12345))) (eC (.int 2147483647))))
  (sRet (e2 fMod (e2 fDiv (e2 fIx (eVar 0) (eC (.int 3))) (eC (.int 1009))) (eVar 1))))))
def m__law_taken : List LV → LH → O LV := mDef 4 w__law_taken
def w__law_signs : MS := (sSeq (sSet 0 (eC (.str " !\"#$&'()*+,-./0123456789:;<=>?@ABCDEFGHIJKLMNOPQRSTUVWXYZ[\\]^_`")))
  (sRet (e2 fAdd (eVar 0) (eC (.str "abcdefghijklmnopqrstuvwxyz{|}~")))))
def m__law_signs : List LV → LH → O LV := mDef 1 w__law_signs
def w__law_text : MS := (sSeq (sSet 2 (eCall 0 m__law_signs aNil))
  (sSeq (sSet 3 (e2 fAdd (eC (.int 1)) (e2 fMod (eVar 0) (eC (.int 7)))))
  (sSeq (sSet 4 (eC (.str "")))
  (sSeq (sFor (iQ1 (aCons (eVar 1) aNil)) (gN 5) (sSeq (sSet 4 (e2 fAdd (eVar 4) (e2 fIx (eVar 2) (e2 fMod (e2 fAdd (eVar 0) (e2 fMul (eVar 3) (eVar 5))) (eC (.int 94))))))
  (sSet 0 (e2 fDiv (eVar 0) (eC (.int 94))))))
  (sRet (eVar 4))))))
def m__law_text : List LV → LH → O LV := mDef 6 w__law_text
def w__law_pool : MS := (sSeq (sOwn 1 (aClean aNil))
  (sSeq (sFor (iQ1 (aCons (eC (.int 4)) aNil)) (gN 2) (sSeq (sSet 3 (e2 fAdd (eC (.int 1)) (eCall 2 m__law_taken (aCons (eVar 0) (aCons (eC (.int 8)) aNil)))))
  (sMod gApp (eVar 1) (aCons (eCall 2 m__law_text (aCons (eCall 2 m__law_taken (aCons (eVar 0) (aCons (e2 fPow (eC (.int 10)) (eC (.int 17))) aNil))) (aCons (eVar 3) aNil))) aNil))))
  (sSeq (sOwn 4 (aClean (aCons (eC (.str "")) aNil)))
  (sSeq (sFor (iQ1 (aCons (eC (.int 4)) aNil)) (gN 2) (sSeq (sSet 3 (eCall 2 m__law_taken (aCons (eVar 0) (aCons (eC (.int 21)) aNil))))
  (sMod gApp (eVar 4) (aCons (eCall 2 m__law_text (aCons (eCall 2 m__law_taken (aCons (eVar 0) (aCons (e2 fPow (eC (.int 10)) (eC (.int 41))) aNil))) (aCons (eVar 3) aNil))) aNil))))
  (sFrz 4 (sFrz 1 (sRet (eTup (aCons (eVar 1) (aCons (eVar 4) aNil))))))))))
def m__law_pool : List LV → LH → O LV := mDef 5 w__law_pool
def w_Shelf___init__ : MS := (sFldM ["Shelf"] "pairs" (eVar 0) (eNew (aClean aNil)))
def m_Shelf___init__ : List LV → LH → O LV := mDef 1 w_Shelf___init__
def w__law_told : MS := (sRet (e2 fAdd (eFrz (aClean (aCons (eA fLen (aCons (eVar 0) aNil)) aNil))) (eFrz (aCompA (eVar 0) (gN 1) tYes' (eMt fSIdx (eCall 0 m__law_signs aNil) (aCons (eVar 1) aNil)) [1]))))
def m__law_told : List LV → LH → O LV := mDef 2 w__law_told
def w__law_numbers_by : MS := (sSeq (sSet 3 (eFrz (aClean aNil)))
  (sSeq (sFor (iQ1 (aCons (eCall 2 m__law_taken (aCons (eVar 0) (aCons (eC (.int 8)) aNil))) aNil)) (gN 4) (sSeq (sSet 5 (eCall 2 m__law_taken (aCons (eVar 0) (aCons (eC (.int 3)) aNil))))
  (sSeq (sSet 6 (eCall 2 m__law_taken (aCons (eVar 0) (aCons (e2 fPow (eC (.int 10)) (eC (.int 9))) aNil))))
  (sSeq (sSet 7 (e2 fIx (eFrz (aClean (aCons (e2 fIx (e2 fIx (eVar 1) (eC (.int 1))) (e2 fMod (eVar 6) (eC (.int 5)))) (aCons (eCall 2 m__law_text (aCons (eCall 2 m__law_taken (aCons (eVar 0) (aCons (e2 fPow (eC (.int 10)) (eC (.int 41))) aNil))) (aCons (e2 fMod (e2 fDiv (eVar 6) (eC (.int 5))) (eC (.int 22))) aNil))) aNil)))) (eA fInt (aCons (e2 (fEqR false) (e2 fMod (eVar 6) (eC (.int 3))) (eC (.int 1))) aNil))))
  (sSeq (sIf (tOf (e2 (fEqR false) (eVar 5) (eC (.int 0)))) (sSet 3 (e2 fAdd (eVar 3) (eFrz (aClean (aCons (eC (.int 0)) (aCons (e2 fMod (eVar 6) (e2 fAdd (eVar 2) (eC (.int 2)))) aNil)))))) (sIf (tOf (e2 (fEqR false) (eVar 5) (eC (.int 1)))) (sSet 3 (e2 fAdd (e2 fAdd (eVar 3) (eFrz (aClean (aCons (eC (.int 1)) (aCons (e2 fMod (eVar 6) (e2 fAdd (eVar 2) (eC (.int 2)))) aNil))))) (eCall 1 m__law_told (aCons (eVar 7) aNil)))) (sSeq (sSet 8 (e2 fIx (eFrz (aClean (aCons (e2 fIx (e2 fIx (eVar 1) (eC (.int 0))) (e2 fMod (eVar 6) (eC (.int 4)))) (aCons (eCall 2 m__law_text (aCons (eCall 2 m__law_taken (aCons (eVar 0) (aCons (e2 fPow (eC (.int 10)) (eC (.int 17))) aNil))) (aCons (e2 fMod (e2 fDiv (eVar 6) (eC (.int 7))) (eC (.int 10))) aNil))) aNil)))) (eA fInt (aCons (e2 (fEqR false) (e2 fMod (eVar 6) (eC (.int 4))) (eC (.int 2))) aNil))))
  (sSet 3 (e2 fAdd (e2 fAdd (e2 fAdd (eVar 3) (eFrz (aClean (aCons (eC (.int 2)) aNil)))) (eCall 1 m__law_told (aCons (eVar 8) aNil))) (eCall 1 m__law_told (aCons (eVar 7) aNil)))))))
  (sSet 2 (e2 fAdd (eVar 2) (eA fInt (aCons (e2 fGt (eVar 5) (eC (.int 0))) aNil)))))))))
  (sRet (eVar 3))))
def m__law_numbers_by : List LV → LH → O LV := mDef 9 w__law_numbers_by
def w__law_text_of : MS := (sSeq (sIf (tOr' (tOf (e2 fGe (eVar 1) (eA fLen (aCons (eVar 0) aNil)))) (tOr' (tOf (e2 fGt (e2 fIx (eVar 0) (eVar 1)) (eC (.int 20)))) (tOf (e2 fGe (e2 fAdd (eVar 1) (e2 fIx (eVar 0) (eVar 1))) (eA fLen (aCons (eVar 0) aNil)))))) (sRet (eC .non)) sNil)
  (sSeq (sSet 2 (eC (.str "")))
  (sSeq (sForA (eFrz (aSl (eVar 0) (oSome (e2 fAdd (eVar 1) (eC (.int 1)))) (oSome (e2 fAdd (e2 fAdd (eVar 1) (eC (.int 1))) (e2 fIx (eVar 0) (eVar 1)))))) (gN 3) (sSeq (sIf (tOf (e2 fGt (eVar 3) (eC (.int 93)))) (sRet (eC .non)) sNil)
  (sSet 2 (e2 fAdd (eVar 2) (e2 fIx (eCall 0 m__law_signs aNil) (eVar 3))))))
  (sRet (eVar 2)))))
def m__law_text_of : List LV → LH → O LV := mDef 4 w__law_text_of
def w__law_pair_of : MS := (sSeq (sIf (tOf (e2 (fEqR false) (e2 fIx (eVar 1) (eVar 2)) (eC (.int 2)))) (sSeq (sSet 3 (eCall 2 m__law_text_of (aCons (eVar 1) (aCons (e2 fAdd (eVar 2) (eC (.int 1))) aNil))))
  (sSeq (sIf (tOr' (tOf (e2 (fIsN false) (eVar 3) (eC .non))) (tOr' (tOf (e2 (fEqR false) (eVar 3) (eC (.str "")))) (tOf (e2 fGt (eA fLen (aCons (eVar 3) aNil)) (eC (.int 8)))))) (sRet (eC .non)) sNil)
  (sSeq (sSet 4 (eCall 2 m__law_text_of (aCons (eVar 1) (aCons (e2 fAdd (e2 fAdd (eVar 2) (eC (.int 2))) (eA fLen (aCons (eVar 3) aNil))) aNil))))
  (sSeq (sIf (tOf (e2 (fIsN false) (eVar 4) (eC .non))) (sRet (eC .non)) sNil)
  (sRet (eTup (aCons (eVar 3) (aCons (eVar 4) (aCons (e2 fAdd (e2 fAdd (e2 fAdd (eVar 2) (eC (.int 3))) (eA fLen (aCons (eVar 3) aNil))) (eA fLen (aCons (eVar 4) aNil))) aNil))))))))) sNil)
  (sSeq (sIf (tOr' (tOf (e2 fGt (e2 fIx (eVar 1) (eVar 2)) (eC (.int 2)))) (tOr' (tOf (e2 (fEqR false) (e2 fAdd (eVar 2) (eC (.int 1))) (eA fLen (aCons (eVar 1) aNil)))) (tOf (e2 fGe (e2 fIx (eVar 1) (e2 fAdd (eVar 2) (eC (.int 1)))) (eA fLen (aCons (eVar 0) aNil)))))) (sRet (eC .non)) sNil)
  (sSeq (sSet 5 (e2 fIx (eVar 0) (e2 fIx (eVar 1) (e2 fAdd (eVar 2) (eC (.int 1))))))
  (sSeq (sIf (tOf (e2 (fEqR false) (e2 fIx (eVar 1) (eVar 2)) (eC (.int 0)))) (sRet (eTup (aCons (e2 fIx (eVar 5) (eC (.int 0))) (aCons (e2 fIx (eVar 5) (eC (.int 1))) (aCons (e2 fAdd (eVar 2) (eC (.int 2))) aNil))))) sNil)
  (sSeq (sSet 4 (eCall 2 m__law_text_of (aCons (eVar 1) (aCons (e2 fAdd (eVar 2) (eC (.int 2))) aNil))))
  (sSeq (sIf (tOf (e2 (fIsN false) (eVar 4) (eC .non))) (sRet (eC .non)) sNil)
  (sRet (eTup (aCons (e2 fIx (eVar 5) (eC (.int 0))) (aCons (eVar 4) (aCons (e2 fAdd (e2 fAdd (eVar 2) (eC (.int 3))) (eA fLen (aCons (eVar 4) aNil))) aNil)))))))))))
def m__law_pair_of : List LV → LH → O LV := mDef 6 w__law_pair_of
def w__law_put : MS := (sSeq (sSet 2 (e2 fAdd (eFrz (aClean (aCons (eVar 1) aNil))) (eVar 0)))
  (sSeq (sSet 3 (eC (.int 0)))
  (sSeq (sFor (iQ1 (aCons (eA fLen (aCons (eVar 2) aNil)) aNil)) (gN 4) (sSeq (sSet 3 (e2 fAdd (e2 fAdd (e2 fAdd (eVar 3) (eA fLen (aCons (e2 fIx (e2 fIx (eVar 2) (eVar 4)) (eC (.int 0))) aNil))) (eA fLen (aCons (e2 fIx (e2 fIx (eVar 2) (eVar 4)) (eC (.int 1))) aNil))) (eC (.int 4))))
  (sIf (tOf (e2 fGt (eVar 3) (eC (.int 96)))) (sRet (eFrz (aSl (eVar 2) oNone (oSome (eVar 4))))) sNil)))
  (sRet (eVar 2)))))
def m__law_put : List LV → LH → O LV := mDef 5 w__law_put
def w__law_read : MS := (sSeq (sOwn 2 (aClean aNil))
  (sSeq (sSet 3 (eC (.int 0)))
  (sSeq (sWhile (mLen 1) (tOf (e2 fLt (eVar 3) (eA fLen (aCons (eVar 1) aNil)))) (sSeq (sSet 4 (eCall 3 m__law_pair_of (aCons (eVar 0) (aCons (eVar 1) (aCons (eVar 3) aNil)))))
  (sSeq (sIf (tOr' (tOf (e2 (fIsN false) (eVar 4) (eC .non))) (tOf (e2 (fEqR false) (eA fLen (aCons (eVar 2) aNil)) (eC (.int 6))))) (sRet (eC .non)) sNil)
  (sSeq (sMod gApp (eVar 2) (aCons (eTup (aCons (e2 fIx (eVar 4) (eC (.int 0))) (aCons (e2 fIx (eVar 4) (eC (.int 1))) aNil))) aNil))
  (sSeq (sIf (tOf (e2 (fEqR true) (e2 fIx (eVar 1) (eVar 3)) (eC (.int 0)))) (sSet 0 (eCall 2 m__law_put (aCons (eVar 0) (aCons (eTup (aCons (e2 fIx (eVar 4) (eC (.int 0))) (aCons (e2 fIx (eVar 4) (eC (.int 1))) aNil))) aNil)))) sNil)
  (sSet 3 (e2 fIx (eVar 4) (eC (.int 2)))))))))
  (sFrz 2 (sRet (eTup (aCons (eVar 2) (aCons (eVar 0) aNil))))))))
def m__law_read : List LV → LH → O LV := mDef 5 w__law_read
def w_text_size : MS := (sSeq (sIf (tNot' (tOf (eChain fLe fLt (eC (.int 0)) (eVar 1) (eA fLen (aCons (eVar 0) aNil))))) (sRaise "BadHead") sNil)
  (sSeq (sIf (tNot' (tOf (eChain fLe fLe (eC (.int 0)) (e2 fIx (eVar 0) (eVar 1)) (eC (.int 20))))) (sRaise "BadHead") sNil)
  (sRet (e2 fIx (eVar 0) (eVar 1)))))
def m_text_size : List LV → LH → O LV := mDef 2 w_text_size
def w_sign_of : MS := (sSeq (sIf (tNot' (tOf (eChain fLe fLt (eC (.int 0)) (eVar 0) (eA fLen (aCons (eC (.str v_SIGNS)) aNil))))) (sRaise "BadHead") sNil)
  (sRet (e2 fIx (eC (.str v_SIGNS)) (eVar 0))))
def m_sign_of : List LV → LH → O LV := mDef 1 w_sign_of
def w_text_at : MS := (sSeq (sSet 2 (eCall 2 m_text_size (aCons (eVar 0) (aCons (eVar 1) aNil))))
  (sSeq (sSet 3 (e2 fAdd (eVar 1) (eC (.int 1))))
  (sSeq (sSet 4 (e2 fAdd (eVar 3) (eVar 2)))
  (sSeq (sIf (tOf (e2 fGt (eVar 4) (eA fLen (aCons (eVar 0) aNil)))) (sRaise "BadHead") sNil)
  (sSeq (sSet 5 (eMt fJoin (eC (.str "")) (aCons (eFrz (aCompX (iA (eFrz (aSl (eVar 0) (oSome (eVar 3)) (oSome (eVar 4))))) (gN 6) tYes' (eCall 1 m_sign_of (aCons (eVar 6) aNil)) [6])) aNil)))
  (sRet (eTup (aCons (eVar 5) (aCons (eVar 4) aNil)))))))))
def m_text_at : List LV → LH → O LV := mDef 7 w_text_at
def w_pair_weight : MS := (sRet (e2 fAdd (e2 fAdd (eA fLen (aCons (e2 fIx (eVar 0) (eC (.int 0))) aNil)) (eA fLen (aCons (e2 fIx (eVar 0) (eC (.int 1))) aNil))) (eC (.int 4))))
def m_pair_weight : List LV → LH → O LV := mDef 1 w_pair_weight
def w_Shelf_put : MS := (sSeq (sMod gIns (e1 (fFld ["Shelf"] "pairs") (eVar 0)) (aCons (eC (.int 0)) (aCons (eVar 1) aNil)))
  (sSeq (sSet 2 (eA fSum (aCons (eFrz (aCompA (e1 (fFld ["Shelf"] "pairs") (eVar 0)) (gN 3) tYes' (eCall 1 m_pair_weight (aCons (eVar 3) aNil)) [3])) aNil)))
  (sWhile (mInt 2) (tOf (e2 fGt (eVar 2) (eC (.int 96)))) (sAug 2 (fun i j => i - j) (eCall 1 m_pair_weight (aCons (ePop (e1 (fFld ["Shelf"] "pairs") (eVar 0))) aNil))))))
def m_Shelf_put : List LV → LH → O LV := mDef 4 w_Shelf_put
def w_kept_pair : MS := (sSeq (sIf (tOf (e2 fGe (eVar 2) (eA fLen (aCons (eVar 1) aNil)))) (sRaise "BadHead") sNil)
  (sSeq (sSet 3 (e2 fIx (eVar 1) (eVar 2)))
  (sSeq (sIf (tNot' (tOf (eChain fLe fLt (eC (.int 0)) (eVar 3) (eA fLen (aCons (e1 (fFld ["Shelf"] "pairs") (eVar 0)) aNil))))) (sRaise "BadHead") sNil)
  (sRet (e2 fIx (e1 (fFld ["Shelf"] "pairs") (eVar 0)) (eVar 3))))))
def m_kept_pair : List LV → LH → O LV := mDef 4 w_kept_pair
def w_name_at : MS := (sSeq (sAsg (eCall 2 m_text_at (aCons (eVar 0) (aCons (eVar 1) aNil))) (gT 2 (gsCons (gN 2) (gsCons (gN 3) gsNil))))
  (sSeq (sIf (tNot' (tOf (eChain fLe fLe (eC (.int 1)) (eA fLen (aCons (eVar 2) aNil)) (eC (.int 8))))) (sRaise "BadHead") sNil)
  (sRet (eTup (aCons (eVar 2) (aCons (eVar 3) aNil))))))
def m_name_at : List LV → LH → O LV := mDef 4 w_name_at
def w_pair_at : MS := (sSeq (sSet 3 (e2 fIx (eVar 1) (eVar 2)))
  (sSeq (sIf (tOf (e2 (fEqR false) (eVar 3) (eC (.int 0)))) (sRet (eTup (aCons (eCall 3 m_kept_pair (aCons (eVar 0) (aCons (eVar 1) (aCons (e2 fAdd (eVar 2) (eC (.int 1))) aNil)))) (aCons (e2 fAdd (eVar 2) (eC (.int 2))) aNil)))) sNil)
  (sSeq (sIf (tOf (e2 (fEqR false) (eVar 3) (eC (.int 1)))) (sSeq (sSet 4 (e2 fIx (eCall 3 m_kept_pair (aCons (eVar 0) (aCons (eVar 1) (aCons (e2 fAdd (eVar 2) (eC (.int 1))) aNil)))) (eC (.int 0))))
  (sSet 5 (e2 fAdd (eVar 2) (eC (.int 2))))) (sIf (tOf (e2 (fEqR false) (eVar 3) (eC (.int 2)))) (sAsg (eCall 2 m_name_at (aCons (eVar 1) (aCons (e2 fAdd (eVar 2) (eC (.int 1))) aNil))) (gT 2 (gsCons (gN 4) (gsCons (gN 5) gsNil)))) (sRaise "BadHead")))
  (sSeq (sAsg (eCall 2 m_text_at (aCons (eVar 1) (aCons (eVar 5) aNil))) (gT 2 (gsCons (gN 6) (gsCons (gN 5) gsNil))))
  (sSeq (sSet 7 (eTup (aCons (eVar 4) (aCons (eVar 6) aNil))))
  (sSeq (sDrop (eMeth "Shelf" "put" 2 m_Shelf_put (eVar 0) (aCons (eVar 7) aNil)))
  (sRet (eTup (aCons (eVar 7) (aCons (eVar 5) aNil))))))))))
def m_pair_at : List LV → LH → O LV := mDef 8 w_pair_at
def w_read_head : MS := (sSeq (sSet 2 (eNew (aClean aNil)))
  (sSeq (sSet 3 (eC (.int 0)))
  (sSeq (sWhile (mLen 1) (tOf (e2 fLt (eVar 3) (eA fLen (aCons (eVar 1) aNil)))) (sSeq (sIf (tOf (e2 (fEqR false) (eA fLen (aCons (eVar 2) aNil)) (eC (.int 6)))) (sRaise "BadHead") sNil)
  (sSeq (sAsg (eCall 3 m_pair_at (aCons (eVar 0) (aCons (eVar 1) (aCons (eVar 3) aNil)))) (gT 2 (gsCons (gN 4) (gsCons (gN 3) gsNil))))
  (sMod gApp (eVar 2) (aCons (eVar 4) aNil)))))
  (sRet (eVar 2)))))
def m_read_head : List LV → LH → O LV := mDef 5 w_read_head
def w__law_refused : MS := (sSeq (sTryAs 2 [("BadHead", [])] (fun _ => true) (sDrop (eCall 2 m_read_head (aCons (eVar 0) (aCons (eVar 1) aNil)))) (fun c ns vs => (sRet (eAnd (eC (.bl true)) (eAnd (eC (.bl true)) (eC (.bl true)))))))
  (sRet (eC (.bl false))))
def m__law_refused : List LV → LH → O LV := mDef 3 w__law_refused
def w__law_pairs : MS := (sSeq (sIf (tOr' (tNot' (tTr (e1 (fIs (isB "list")) (eVar 0)))) (tOf (e2 (fEqR true) (eA fLen (aCons (eVar 0) aNil)) (eA fLen (aCons (eVar 1) aNil))))) (sRet (eC (.bl false))) sNil)
  (sSeq (sForA (eVar 0) (gN 2) (sIf (tOr' (tNot' (tTr (e1 (fIs (isB "tuple")) (eVar 2)))) (tOr' (tOf (e2 (fEqR true) (eA fLen (aCons (eVar 2) aNil)) (eC (.int 2)))) (tOr' (tNot' (tTr (e1 (fIs (isB "str")) (e2 fIx (eVar 2) (eC (.int 0)))))) (tNot' (tTr (e1 (fIs (isB "str")) (e2 fIx (eVar 2) (eC (.int 1))))))))) (sRet (eC (.bl false))) sNil))
  (sRet (e2 (fEqR false) (eVar 0) (eVar 1)))))
def m__law_pairs : List LV → LH → O LV := mDef 3 w__law_pairs
def w_law : MS := (sSeq (sSet 1 (eCall 1 m__law_row (aCons (eVar 0) aNil)))
  (sSeq (sSet 2 (eCall 1 m__law_pool (aCons (eVar 1) aNil)))
  (sSeq (sSet 3 (eMake "Shelf" 1 m_Shelf___init__ aNil))
  (sSeq (sSet 4 (eFrz (aClean aNil)))
  (sSeq (sFor (iQ1 (aCons (eCall 2 m__law_taken (aCons (eVar 1) (aCons (e2 fIx (eFrz (aClean (aCons (eC (.int 7)) (aCons (eC (.int 20)) aNil)))) (e2 fDiv (eCall 2 m__law_taken (aCons (eVar 1) (aCons (eC (.int 3)) aNil))) (eC (.int 2)))) aNil))) aNil)) (gN 5) (sSeq (sSet 6 (eCall 2 m__law_taken (aCons (eVar 1) (aCons (eC (.int 20)) aNil))))
  (sSeq (sDrop (eMeth "Shelf" "put" 2 m_Shelf_put (eVar 3) (aCons (eTup (aCons (e2 fIx (e2 fIx (eVar 2) (eC (.int 0))) (e2 fMod (eVar 6) (eC (.int 4)))) (aCons (e2 fIx (e2 fIx (eVar 2) (eC (.int 1))) (e2 fDiv (eVar 6) (eC (.int 4)))) aNil))) aNil)))
  (sSet 4 (eCall 2 m__law_put (aCons (eVar 4) (aCons (eTup (aCons (e2 fIx (e2 fIx (eVar 2) (eC (.int 0))) (e2 fMod (eVar 6) (eC (.int 4)))) (aCons (e2 fIx (e2 fIx (eVar 2) (eC (.int 1))) (e2 fDiv (eVar 6) (eC (.int 4)))) aNil))) aNil)))))))
  (sSeq (sSet 7 (eCall 2 m__law_taken (aCons (eVar 1) (aCons (eC (.int 6)) aNil))))
  (sSeq (sSet 8 (eCall 2 m__law_taken (aCons (eVar 1) (aCons (e2 fPow (eC (.int 10)) (eC (.int 9))) aNil))))
  (sSeq (sSet 9 (eCall 3 m__law_numbers_by (aCons (eVar 1) (aCons (eVar 2) (aCons (eA fLen (aCons (eVar 4) aNil)) aNil)))))
  (sSeq (sIf (tAnd' (tOf (e2 (fEqR true) (eVar 9) (eFrz (aClean aNil)))) (tOf (e2 fLt (eVar 7) (eC (.int 3))))) (sSeq (sSet 10 (e2 fMod (eVar 8) (eA fLen (aCons (eVar 9) aNil))))
  (sSet 9 (e2 fAdd (e2 fAdd (eFrz (aSl (eVar 9) oNone (oSome (eVar 10)))) (e2 fIx (eFrz (aClean (aCons (eFrz (aClean (aCons (e2 fMod (e2 fDiv (eVar 8) (eC (.int 256))) (eC (.int 256))) aNil))) (aCons (eFrz (aClean aNil)) (aCons (e2 fRep (eFrz (aClean (aCons (e2 fIx (eVar 9) (eVar 10)) aNil))) (eC (.int 2))) aNil))))) (eVar 7))) (eFrz (aSl (eVar 9) (oSome (e2 fAdd (eVar 10) (eC (.int 1)))) oNone))))) sNil)
  (sSeq (sSet 11 (eCall 2 m__law_read (aCons (eVar 4) (aCons (eVar 9) aNil))))
  (sSeq (sIf (tOf (e2 (fIsN false) (eVar 11) (eC .non))) (sRet (eCall 2 m__law_refused (aCons (eVar 3) (aCons (eVar 9) aNil)))) sNil)
  (sSeq (sSet 12 (eCall 2 m_read_head (aCons (eVar 3) (aCons (eFrz (aList (aCons (eVar 9) aNil))) aNil))))
  (sRet (eAnd (eCall 2 m__law_pairs (aCons (eVar 12) (aCons (e2 fIx (eVar 11) (eC (.int 0))) aNil))) (eCall 2 m__law_pairs (aCons (e1 (fFld ["Shelf"] "pairs") (eVar 3)) (aCons (e2 fIx (eVar 11) (eC (.int 1))) aNil)))))))))))))))))
def m_law : List LV → LH → O LV := mDef 13 w_law
/-! ### what the top has written -/
structure Ads where
  f__law_row : Addr
  d__law_row : FuncData
  f__law_taken : Addr
  d__law_taken : FuncData
  f__law_signs : Addr
  d__law_signs : FuncData
  f__law_text : Addr
  d__law_text : FuncData
  f__law_pool : Addr
  d__law_pool : FuncData
  f_Shelf___init__ : Addr
  d_Shelf___init__ : FuncData
  f__law_told : Addr
  d__law_told : FuncData
  f__law_numbers_by : Addr
  d__law_numbers_by : FuncData
  f__law_text_of : Addr
  d__law_text_of : FuncData
  f__law_pair_of : Addr
  d__law_pair_of : FuncData
  f__law_put : Addr
  d__law_put : FuncData
  f__law_read : Addr
  d__law_read : FuncData
  f_text_size : Addr
  d_text_size : FuncData
  f_sign_of : Addr
  d_sign_of : FuncData
  f_text_at : Addr
  d_text_at : FuncData
  f_pair_weight : Addr
  d_pair_weight : FuncData
  f_Shelf_put : Addr
  d_Shelf_put : FuncData
  f_kept_pair : Addr
  d_kept_pair : FuncData
  f_name_at : Addr
  d_name_at : FuncData
  f_pair_at : Addr
  d_pair_at : FuncData
  f_read_head : Addr
  d_read_head : FuncData
  f__law_refused : Addr
  d__law_refused : FuncData
  f__law_pairs : Addr
  d__law_pairs : FuncData
  f_law : Addr
  d_law : FuncData
  C_BadHead : Addr
  C_LineError : Addr
  C_NoDeed : Addr
  C_Shelf : Addr
structure ExcT (K : PySem.W.Frag) (C : Addr) : Prop where
  ex : PySem.W.excIn K C [.type "ValueError", .type "Exception", .type "BaseException", .type "object"] "ValueError.__new__" = true
  kp : PySem.W.keepIn K (.ref C) = true
  sub : PySem.W.subIn K (.ref C) (.type "BaseException") = some true
  ty : PySem.W.typeIn K (.ref C) = some (.type "type")
structure Txt (K : PySem.W.Frag) (mg : Str → Option Value) (A : Ads) : Prop where
  F__law_row : Fun K "_law_row" "_law_row" s__law_row A.f__law_row A.d__law_row
  b__law_row : Binds K A.d__law_row p__law_row []
  g__law_row : mg "_law_row" = some (.ref A.f__law_row)
  F__law_taken : Fun K "_law_taken" "_law_taken" s__law_taken A.f__law_taken A.d__law_taken
  b__law_taken : Binds K A.d__law_taken p__law_taken []
  g__law_taken : mg "_law_taken" = some (.ref A.f__law_taken)
  F__law_signs : Fun K "_law_signs" "_law_signs" s__law_signs A.f__law_signs A.d__law_signs
  b__law_signs : Binds K A.d__law_signs p__law_signs []
  g__law_signs : mg "_law_signs" = some (.ref A.f__law_signs)
  F__law_text : Fun K "_law_text" "_law_text" s__law_text A.f__law_text A.d__law_text
  b__law_text : Binds K A.d__law_text p__law_text []
  g__law_text : mg "_law_text" = some (.ref A.f__law_text)
  F__law_pool : Fun K "_law_pool" "_law_pool" s__law_pool A.f__law_pool A.d__law_pool
  b__law_pool : Binds K A.d__law_pool p__law_pool []
  g__law_pool : mg "_law_pool" = some (.ref A.f__law_pool)
  F_Shelf___init__ : Fun K "__init__" "Shelf.__init__" s_Shelf___init__ A.f_Shelf___init__ A.d_Shelf___init__
  b_Shelf___init__ : Binds K A.d_Shelf___init__ p_Shelf___init__ []
  F__law_told : Fun K "_law_told" "_law_told" s__law_told A.f__law_told A.d__law_told
  b__law_told : Binds K A.d__law_told p__law_told []
  g__law_told : mg "_law_told" = some (.ref A.f__law_told)
  F__law_numbers_by : Fun K "_law_numbers_by" "_law_numbers_by" s__law_numbers_by A.f__law_numbers_by A.d__law_numbers_by
  b__law_numbers_by : Binds K A.d__law_numbers_by p__law_numbers_by []
  g__law_numbers_by : mg "_law_numbers_by" = some (.ref A.f__law_numbers_by)
  F__law_text_of : Fun K "_law_text_of" "_law_text_of" s__law_text_of A.f__law_text_of A.d__law_text_of
  b__law_text_of : Binds K A.d__law_text_of p__law_text_of []
  g__law_text_of : mg "_law_text_of" = some (.ref A.f__law_text_of)
  F__law_pair_of : Fun K "_law_pair_of" "_law_pair_of" s__law_pair_of A.f__law_pair_of A.d__law_pair_of
  b__law_pair_of : Binds K A.d__law_pair_of p__law_pair_of []
  g__law_pair_of : mg "_law_pair_of" = some (.ref A.f__law_pair_of)
  F__law_put : Fun K "_law_put" "_law_put" s__law_put A.f__law_put A.d__law_put
  b__law_put : Binds K A.d__law_put p__law_put []
  g__law_put : mg "_law_put" = some (.ref A.f__law_put)
  F__law_read : Fun K "_law_read" "_law_read" s__law_read A.f__law_read A.d__law_read
  b__law_read : Binds K A.d__law_read p__law_read []
  g__law_read : mg "_law_read" = some (.ref A.f__law_read)
  F_text_size : Fun K "text_size" "text_size" s_text_size A.f_text_size A.d_text_size
  b_text_size : Binds K A.d_text_size p_text_size []
  g_text_size : mg "text_size" = some (.ref A.f_text_size)
  F_sign_of : Fun K "sign_of" "sign_of" s_sign_of A.f_sign_of A.d_sign_of
  b_sign_of : Binds K A.d_sign_of p_sign_of []
  g_sign_of : mg "sign_of" = some (.ref A.f_sign_of)
  F_text_at : Fun K "text_at" "text_at" s_text_at A.f_text_at A.d_text_at
  b_text_at : Binds K A.d_text_at p_text_at []
  g_text_at : mg "text_at" = some (.ref A.f_text_at)
  F_pair_weight : Fun K "pair_weight" "pair_weight" s_pair_weight A.f_pair_weight A.d_pair_weight
  b_pair_weight : Binds K A.d_pair_weight p_pair_weight []
  g_pair_weight : mg "pair_weight" = some (.ref A.f_pair_weight)
  F_Shelf_put : Fun K "put" "Shelf.put" s_Shelf_put A.f_Shelf_put A.d_Shelf_put
  b_Shelf_put : Binds K A.d_Shelf_put p_Shelf_put []
  F_kept_pair : Fun K "kept_pair" "kept_pair" s_kept_pair A.f_kept_pair A.d_kept_pair
  b_kept_pair : Binds K A.d_kept_pair p_kept_pair []
  g_kept_pair : mg "kept_pair" = some (.ref A.f_kept_pair)
  F_name_at : Fun K "name_at" "name_at" s_name_at A.f_name_at A.d_name_at
  b_name_at : Binds K A.d_name_at p_name_at []
  g_name_at : mg "name_at" = some (.ref A.f_name_at)
  F_pair_at : Fun K "pair_at" "pair_at" s_pair_at A.f_pair_at A.d_pair_at
  b_pair_at : Binds K A.d_pair_at p_pair_at []
  g_pair_at : mg "pair_at" = some (.ref A.f_pair_at)
  F_read_head : Fun K "read_head" "read_head" s_read_head A.f_read_head A.d_read_head
  b_read_head : Binds K A.d_read_head p_read_head []
  g_read_head : mg "read_head" = some (.ref A.f_read_head)
  F__law_refused : Fun K "_law_refused" "_law_refused" s__law_refused A.f__law_refused A.d__law_refused
  b__law_refused : Binds K A.d__law_refused p__law_refused []
  g__law_refused : mg "_law_refused" = some (.ref A.f__law_refused)
  F__law_pairs : Fun K "_law_pairs" "_law_pairs" s__law_pairs A.f__law_pairs A.d__law_pairs
  b__law_pairs : Binds K A.d__law_pairs p__law_pairs []
  g__law_pairs : mg "_law_pairs" = some (.ref A.f__law_pairs)
  F_law : Fun K "law" "law" s_law A.f_law A.d_law
  b_law : Binds K A.d_law p_law []
  g_law : mg "law" = some (.ref A.f_law)
  z_ValueError : mg "ValueError" = none
  z_int : mg "int" = none
  z_isinstance : mg "isinstance" = none
  z_len : mg "len" = none
  z_list : mg "list" = none
  z_range : mg "range" = none
  z_str : mg "str" = none
  z_sum : mg "sum" = none
  z_tuple : mg "tuple" = none
  k_FULL : ∃ t, mg "FULL" = some (.int 2 t)
  k_LONGEST_NAME : ∃ t, mg "LONGEST_NAME" = some (.int 8 t)
  k_LONGEST_TEXT : ∃ t, mg "LONGEST_TEXT" = some (.int 20 t)
  k_MOST_PAIRS : ∃ t, mg "MOST_PAIRS" = some (.int 6 t)
  k_MOST_WEIGHT : ∃ t, mg "MOST_WEIGHT" = some (.int 96 t)
  k_NAMED : ∃ t, mg "NAMED" = some (.int 1 t)
  k_SIGNS : ∃ t, mg "SIGNS" = some (.str v_SIGNS t)
  k_WEIGHT_OF_A_PAIR : ∃ t, mg "WEIGHT_OF_A_PAIR" = some (.int 4 t)
  k_WHOLE : ∃ t, mg "WHOLE" = some (.int 0 t)
  C_BadHead : mg "BadHead" = some (.ref A.C_BadHead)
  C_LineError : mg "LineError" = some (.ref A.C_LineError)
  C_NoDeed : mg "NoDeed" = some (.ref A.C_NoDeed)
  C_Shelf : mg "Shelf" = some (.ref A.C_Shelf)
  X_BadHead : ExcT K A.C_BadHead
  m_BadHead_LineError : PySem.W.exmOne K (.ref A.C_BadHead) (.ref A.C_LineError) = some true
  i_BadHead_BadHead : PySem.W.kitOne K (.ref A.C_BadHead) (.ref A.C_BadHead) = some true
  i_BadHead_NoDeed : PySem.W.kitOne K (.ref A.C_BadHead) (.ref A.C_NoDeed) = some false
  i_BadHead_ValueError : PySem.W.kitOne K (.ref A.C_BadHead) (.type "ValueError") = some true
  e_BadHead : ExcC K A.C_BadHead
  cl_Shelf : Cls K A.C_Shelf
  fl_Shelf_pairs : FldF K mg ["Shelf"] "pairs"
  mk_Shelf : Mk K A.C_Shelf A.f_Shelf___init__
  me_Shelf_put : Meth K A.C_Shelf "put" A.f_Shelf_put
section
variable {P : Program} {w : World} {K : PySem.W.Frag} {mg : Str → Option Value} {base : Heap} {A : Ads}
theorem Txt.c_FULL (T : Txt K mg A) (X : Cx) (W : WX) {pos : Pos} (hk : X.K = K := by rfl) (hm : X.mg = mg := by rfl) (hg : Gl X "FULL" := by rfl) : JE X W (.Name "FULL" pos) (eC (.int 2)) := by
  obtain ⟨t, e⟩ := T.k_FULL
  exact je_glob (w := .int 2) hg (by rw [hm]; exact e) ⟨t, rfl⟩ fun _ _ => .int
theorem Txt.c_LONGEST_NAME (T : Txt K mg A) (X : Cx) (W : WX) {pos : Pos} (hk : X.K = K := by rfl) (hm : X.mg = mg := by rfl) (hg : Gl X "LONGEST_NAME" := by rfl) : JE X W (.Name "LONGEST_NAME" pos) (eC (.int 8)) := by
  obtain ⟨t, e⟩ := T.k_LONGEST_NAME
  exact je_glob (w := .int 8) hg (by rw [hm]; exact e) ⟨t, rfl⟩ fun _ _ => .int
theorem Txt.c_LONGEST_TEXT (T : Txt K mg A) (X : Cx) (W : WX) {pos : Pos} (hk : X.K = K := by rfl) (hm : X.mg = mg := by rfl) (hg : Gl X "LONGEST_TEXT" := by rfl) : JE X W (.Name "LONGEST_TEXT" pos) (eC (.int 20)) := by
  obtain ⟨t, e⟩ := T.k_LONGEST_TEXT
  exact je_glob (w := .int 20) hg (by rw [hm]; exact e) ⟨t, rfl⟩ fun _ _ => .int
theorem Txt.c_MOST_PAIRS (T : Txt K mg A) (X : Cx) (W : WX) {pos : Pos} (hk : X.K = K := by rfl) (hm : X.mg = mg := by rfl) (hg : Gl X "MOST_PAIRS" := by rfl) : JE X W (.Name "MOST_PAIRS" pos) (eC (.int 6)) := by
  obtain ⟨t, e⟩ := T.k_MOST_PAIRS
  exact je_glob (w := .int 6) hg (by rw [hm]; exact e) ⟨t, rfl⟩ fun _ _ => .int
theorem Txt.c_MOST_WEIGHT (T : Txt K mg A) (X : Cx) (W : WX) {pos : Pos} (hk : X.K = K := by rfl) (hm : X.mg = mg := by rfl) (hg : Gl X "MOST_WEIGHT" := by rfl) : JE X W (.Name "MOST_WEIGHT" pos) (eC (.int 96)) := by
  obtain ⟨t, e⟩ := T.k_MOST_WEIGHT
  exact je_glob (w := .int 96) hg (by rw [hm]; exact e) ⟨t, rfl⟩ fun _ _ => .int
theorem Txt.c_NAMED (T : Txt K mg A) (X : Cx) (W : WX) {pos : Pos} (hk : X.K = K := by rfl) (hm : X.mg = mg := by rfl) (hg : Gl X "NAMED" := by rfl) : JE X W (.Name "NAMED" pos) (eC (.int 1)) := by
  obtain ⟨t, e⟩ := T.k_NAMED
  exact je_glob (w := .int 1) hg (by rw [hm]; exact e) ⟨t, rfl⟩ fun _ _ => .int
theorem Txt.c_SIGNS (T : Txt K mg A) (X : Cx) (W : WX) {pos : Pos} (hk : X.K = K := by rfl) (hm : X.mg = mg := by rfl) (hg : Gl X "SIGNS" := by rfl) : JE X W (.Name "SIGNS" pos) (eC (.str v_SIGNS)) := by
  obtain ⟨t, e⟩ := T.k_SIGNS
  exact je_glob (w := .str v_SIGNS) hg (by rw [hm]; exact e) ⟨t, rfl⟩ fun _ _ => .str
theorem Txt.c_WEIGHT_OF_A_PAIR (T : Txt K mg A) (X : Cx) (W : WX) {pos : Pos} (hk : X.K = K := by rfl) (hm : X.mg = mg := by rfl) (hg : Gl X "WEIGHT_OF_A_PAIR" := by rfl) : JE X W (.Name "WEIGHT_OF_A_PAIR" pos) (eC (.int 4)) := by
  obtain ⟨t, e⟩ := T.k_WEIGHT_OF_A_PAIR
  exact je_glob (w := .int 4) hg (by rw [hm]; exact e) ⟨t, rfl⟩ fun _ _ => .int
theorem Txt.c_WHOLE (T : Txt K mg A) (X : Cx) (W : WX) {pos : Pos} (hk : X.K = K := by rfl) (hm : X.mg = mg := by rfl) (hg : Gl X "WHOLE" := by rfl) : JE X W (.Name "WHOLE" pos) (eC (.int 0)) := by
  obtain ⟨t, e⟩ := T.k_WHOLE
  exact je_glob (w := .int 0) hg (by rw [hm]; exact e) ⟨t, rfl⟩ fun _ _ => .int
/-- the promises so far -/
structure D__law_row (P : Program) (w : World) (K : PySem.W.Frag) (mg : Str → Option Value) (base : Heap) (A : Ads) : Prop where
  o : True
theorem ok__law_row (T : Txt K mg A) (D : D__law_row P w K mg base A) : DefOk P w K mg base 1 A.f__law_row A.d__law_row p__law_row m__law_row :=
  have S := sc__law_row
  def_ok T.F__law_row S rfl fun cdv Ar outer s H E h => by
    exact (js_cons (js_set 1 S.nd je_int)
    (js_cons (js_forA (je_var 0) (jg_name 2 S.nd) (js_one (js_set 1 S.nd (je_op op_mod op2_mod (je_op op_addU op2_add (je_op op_addU op2_add (je_op op_mulX op2_mul (je_var 1) je_int) (je_var 2)) je_int) je_int))) h.hp)
    (js_one (js_ret (je_new (jn_lst (ja_cons (je_var 0) (ja_cons je_int (ja_cons je_int (ja_cons (je_var 1) ja_nil))))))))))
/-- the promises so far -/
structure D__law_taken (P : Program) (w : World) (K : PySem.W.Frag) (mg : Str → Option Value) (base : Heap) (A : Ads) : Prop where
  o : True
theorem ok__law_taken (T : Txt K mg A) (D : D__law_taken P w K mg base A) : DefOk P w K mg base 1 A.f__law_taken A.d__law_taken p__law_taken m__law_taken :=
  have S := sc__law_taken
  def_ok T.F__law_taken S rfl fun cdv Ar outer s H E h => by
    exact (js_cons (js_if (jt_cmp op_gt op2_gt (je_ix (je_var 0) je_int (fun _ _ => rfl)) je_int (nomark _)) (js_cons (js_set 2 S.nd (je_op op_mod op2_mod (je_ix (je_var 0) je_int (fun _ _ => rfl)) (je_var 1)))
    (js_cons (js_item (je_var 0) je_int (je_op op_fdivW op2_div (je_ix (je_var 0) je_int (fun _ _ => rfl)) (je_var 1)))
    (js_one (js_ret (je_var 2))))) js_nil)
    (js_cons (js_if (jt_cmp op_lt op2_lt (je_ix (je_var 0) je_int (fun _ _ => rfl)) (je_callB call_len opA_len (by rfl) (by exact T.z_len) (by decide +kernel) (ja_cons (je_ix (je_var 0) je_int (fun _ _ => rfl)) ja_nil)) (nomark _)) (js_cons (js_set 3 S.nd (je_ix (je_ix (je_var 0) je_int (fun _ _ => rfl)) (je_ix (je_var 0) je_int (fun _ _ => rfl)) (fun _ _ => rfl)))
    (js_cons (js_item (je_var 0) je_int (je_op op_addU op2_add (je_ix (je_var 0) je_int (fun _ _ => rfl)) je_int))
    (js_cons (js_if (jt_cmp op_ge op2_ge (je_var 3) (je_op op_pow op2_pow je_int je_int) (nomark _)) (js_one (js_item (je_var 0) je_int (je_op op_fdivW op2_div (je_var 3) (je_var 1)))) js_nil)
    (js_one (js_ret (je_op op_mod op2_mod (je_var 3) (je_var 1))))))) js_nil)
    (js_cons (js_item (je_var 0) je_int (je_op op_mod op2_mod (je_op op_addU op2_add (je_op op_mulX op2_mul (je_ix (je_var 0) je_int (fun _ _ => rfl)) je_int) je_int) je_int))
    (js_one (js_ret (je_op op_mod op2_mod (je_op op_fdivW op2_div (je_ix (je_var 0) je_int (fun _ _ => rfl)) je_int) (je_var 1)))))))
/-- the promises so far -/
structure D__law_signs (P : Program) (w : World) (K : PySem.W.Frag) (mg : Str → Option Value) (base : Heap) (A : Ads) : Prop where
  o : True
theorem ok__law_signs (T : Txt K mg A) (D : D__law_signs P w K mg base A) : DefOk P w K mg base 1 A.f__law_signs A.d__law_signs p__law_signs m__law_signs :=
  have S := sc__law_signs
  def_ok T.F__law_signs S rfl fun cdv Ar outer s H E h => by
    exact (js_cons (js_set 0 S.nd je_str)
    (js_one (js_ret (je_op op_addU op2_add (je_var 0) je_str))))
/-- the promises so far -/
structure D__law_text (P : Program) (w : World) (K : PySem.W.Frag) (mg : Str → Option Value) (base : Heap) (A : Ads) : Prop where
  o__law_signs : DefOk P w K mg base 1 A.f__law_signs A.d__law_signs p__law_signs m__law_signs
theorem ok__law_text (T : Txt K mg A) (D : D__law_text P w K mg base A) : DefOk P w K mg base 2 A.f__law_text A.d__law_text p__law_text m__law_text :=
  have S := sc__law_text
  def_ok T.F__law_text S rfl fun cdv Ar outer s H E h => by
    exact (js_cons (js_set 2 S.nd (je_call0 (by exact h.tk) (D.o__law_signs) (by exact h.hr.mono (by decide)) (by exact T.g__law_signs) (by exact T.F__law_signs.kp) (by exact T.b__law_signs)))
    (js_cons (js_set 3 S.nd (je_op op_addU op2_add je_int (je_op op_mod op2_mod (je_var 0) je_int)))
    (js_cons (js_set 4 S.nd je_str)
    (js_cons (js_for (ji_rangeQ1 (by exact T.z_range) (ja_cons (je_var 1) ja_nil)) (jg_name 5 S.nd) (js_cons (js_set 4 S.nd (je_op op_addU op2_add (je_var 4) (je_ix (je_var 2) (je_op op_mod op2_mod (je_op op_addU op2_add (je_var 0) (je_op op_mulX op2_mul (je_var 3) (je_var 5))) je_int) (fun _ _ => rfl))))
    (js_one (js_set 0 S.nd (je_op op_fdivW op2_div (je_var 0) je_int)))) h.hp)
    (js_one (js_ret (je_var 4)))))))
/-- the promises so far -/
structure D__law_pool (P : Program) (w : World) (K : PySem.W.Frag) (mg : Str → Option Value) (base : Heap) (A : Ads) : Prop where
  o__law_taken : DefOk P w K mg base 1 A.f__law_taken A.d__law_taken p__law_taken m__law_taken
  o__law_text : DefOk P w K mg base 2 A.f__law_text A.d__law_text p__law_text m__law_text
theorem ok__law_pool (T : Txt K mg A) (D : D__law_pool P w K mg base A) : DefOk P w K mg base 3 A.f__law_pool A.d__law_pool p__law_pool m__law_pool :=
  have S := sc__law_pool
  def_ok T.F__law_pool S rfl fun cdv Ar outer s H E h => by
    exact (js_cons (js_own 1 S.nd (jn_lst ja_nil))
    (js_cons (js_for (ji_rangeQ1 (by exact T.z_range) (ja_cons je_int ja_nil)) (jg_name 2 S.nd) (js_cons (js_set 3 S.nd (je_op op_addU op2_add je_int (je_call (by exact h.tk) (D.o__law_taken) (by exact h.hr.mono (by decide)) (by exact T.g__law_taken) (by exact T.F__law_taken.kp) (by exact T.b__law_taken) (ja_cons (je_var 0) (ja_cons je_int ja_nil)))))
    (js_one (js_mod PySem.F.slot_list_append PySem.F.type_list_append (by exact mt_append) lmod_app (je_var 1) (ja_cons (je_call (by exact h.tk) (D.o__law_text) (by exact h.hr.mono (by decide)) (by exact T.g__law_text) (by exact T.F__law_text.kp) (by exact T.b__law_text) (ja_cons (je_call (by exact h.tk) (D.o__law_taken) (by exact h.hr.mono (by decide)) (by exact T.g__law_taken) (by exact T.F__law_taken.kp) (by exact T.b__law_taken) (ja_cons (je_var 0) (ja_cons (je_op op_pow op2_pow je_int je_int) ja_nil))) (ja_cons (je_var 3) ja_nil))) ja_nil)))) h.hp)
    (js_cons (js_own 4 S.nd (jn_lst (ja_cons je_str ja_nil)))
    (js_cons (js_for (ji_rangeQ1 (by exact T.z_range) (ja_cons je_int ja_nil)) (jg_name 2 S.nd) (js_cons (js_set 3 S.nd (je_call (by exact h.tk) (D.o__law_taken) (by exact h.hr.mono (by decide)) (by exact T.g__law_taken) (by exact T.F__law_taken.kp) (by exact T.b__law_taken) (ja_cons (je_var 0) (ja_cons je_int ja_nil))))
    (js_one (js_mod PySem.F.slot_list_append PySem.F.type_list_append (by exact mt_append) lmod_app (je_var 4) (ja_cons (je_call (by exact h.tk) (D.o__law_text) (by exact h.hr.mono (by decide)) (by exact T.g__law_text) (by exact T.F__law_text.kp) (by exact T.b__law_text) (ja_cons (je_call (by exact h.tk) (D.o__law_taken) (by exact h.hr.mono (by decide)) (by exact T.g__law_taken) (by exact T.F__law_taken.kp) (by exact T.b__law_taken) (ja_cons (je_var 0) (ja_cons (je_op op_pow op2_pow je_int je_int) ja_nil))) (ja_cons (je_var 3) ja_nil))) ja_nil)))) h.hp)
    (js_one (js_frz 4 (js_frz 1 (js_ret (je_tup (ja_cons (je_var 1) (ja_cons (je_var 4) ja_nil)))))))))))
/-- the promises so far -/
structure D_Shelf___init__ (P : Program) (w : World) (K : PySem.W.Frag) (mg : Str → Option Value) (base : Heap) (A : Ads) : Prop where
  o : True
theorem ok_Shelf___init__ (T : Txt K mg A) (D : D_Shelf___init__ P w K mg base A) : DefOk P w K mg base 1 A.f_Shelf___init__ A.d_Shelf___init__ p_Shelf___init__ m_Shelf___init__ :=
  have S := sc_Shelf___init__
  def_ok T.F_Shelf___init__ S rfl fun cdv Ar outer s H E h => by
    exact (js_one (js_fld (cs := ["Shelf"]) (by exact T.fl_Shelf_pairs) (je_var 0) (je_new (jn_lst ja_nil))))
/-- the promises so far -/
structure D__law_told (P : Program) (w : World) (K : PySem.W.Frag) (mg : Str → Option Value) (base : Heap) (A : Ads) : Prop where
  o__law_signs : DefOk P w K mg base 1 A.f__law_signs A.d__law_signs p__law_signs m__law_signs
theorem ok__law_told (T : Txt K mg A) (D : D__law_told P w K mg base A) : DefOk P w K mg base 2 A.f__law_told A.d__law_told p__law_told m__law_told :=
  have S := sc__law_told
  def_ok T.F__law_told S rfl fun cdv Ar outer s H E h => by
    exact (js_one (js_ret (je_op op_addU op2_add (je_frz (jn_lst (ja_cons (je_callB call_len opA_len (by rfl) (by exact T.z_len) (by decide +kernel) (ja_cons (je_var 0) ja_nil)) ja_nil))) (je_frz (jn_lcA (own := [("_law_sign", 1)]) S.nd (je_var 0) (blkOk_by (own := [("_law_sign", 1)]) (N := N__law_told) (sc := defScope s__law_told) (by decide +kernel)) (cg_name 1) (fun _ _ _ _ _ => pg_name (i := 1) S.nd rfl (.inl rfl)) if_none (fun _ _ _ _ _ => (je_mt PySem.F.slot_str_index PySem.F.type_str_index mt_sindex opB_sidx (je_call0 (by exact takes0) (D.o__law_signs) (by exact h.hr.mono (by decide)) (by exact T.g__law_signs) (by exact T.F__law_signs.kp) (by exact T.b__law_signs)) (ja_cons (je_var 1) ja_nil))))))))
/-- the promises so far -/
structure D__law_numbers_by (P : Program) (w : World) (K : PySem.W.Frag) (mg : Str → Option Value) (base : Heap) (A : Ads) : Prop where
  o__law_taken : DefOk P w K mg base 1 A.f__law_taken A.d__law_taken p__law_taken m__law_taken
  o__law_text : DefOk P w K mg base 2 A.f__law_text A.d__law_text p__law_text m__law_text
  o__law_told : DefOk P w K mg base 2 A.f__law_told A.d__law_told p__law_told m__law_told
theorem ok__law_numbers_by (T : Txt K mg A) (D : D__law_numbers_by P w K mg base A) : DefOk P w K mg base 3 A.f__law_numbers_by A.d__law_numbers_by p__law_numbers_by m__law_numbers_by :=
  have S := sc__law_numbers_by
  def_ok T.F__law_numbers_by S rfl fun cdv Ar outer s H E h => by
    exact (js_cons (js_set 3 S.nd (je_frz (jn_lst ja_nil)))
    (js_cons (js_for (ji_rangeQ1 (by exact T.z_range) (ja_cons (je_call (by exact h.tk) (D.o__law_taken) (by exact h.hr.mono (by decide)) (by exact T.g__law_taken) (by exact T.F__law_taken.kp) (by exact T.b__law_taken) (ja_cons (je_var 0) (ja_cons je_int ja_nil))) ja_nil)) (jg_name 4 S.nd) (js_cons (js_set 5 S.nd (je_call (by exact h.tk) (D.o__law_taken) (by exact h.hr.mono (by decide)) (by exact T.g__law_taken) (by exact T.F__law_taken.kp) (by exact T.b__law_taken) (ja_cons (je_var 0) (ja_cons je_int ja_nil))))
    (js_cons (js_set 6 S.nd (je_call (by exact h.tk) (D.o__law_taken) (by exact h.hr.mono (by decide)) (by exact T.g__law_taken) (by exact T.F__law_taken.kp) (by exact T.b__law_taken) (ja_cons (je_var 0) (ja_cons (je_op op_pow op2_pow je_int je_int) ja_nil))))
    (js_cons (js_set 7 S.nd (je_ix (je_frz (jn_lst (ja_cons (je_ix (je_ix (je_var 1) je_int (fun _ _ => rfl)) (je_op op_mod op2_mod (je_var 6) je_int) (fun _ _ => rfl)) (ja_cons (je_call (by exact h.tk) (D.o__law_text) (by exact h.hr.mono (by decide)) (by exact T.g__law_text) (by exact T.F__law_text.kp) (by exact T.b__law_text) (ja_cons (je_call (by exact h.tk) (D.o__law_taken) (by exact h.hr.mono (by decide)) (by exact T.g__law_taken) (by exact T.F__law_taken.kp) (by exact T.b__law_taken) (ja_cons (je_var 0) (ja_cons (je_op op_pow op2_pow je_int je_int) ja_nil))) (ja_cons (je_op op_mod op2_mod (je_op op_fdivW op2_div (je_var 6) je_int) je_int) ja_nil))) ja_nil)))) (je_callTy call_int1 opA_int (by rfl) (by exact T.z_int) (by decide +kernel) (ja_cons (je_cmp (op_eqU (by exact h.hr.units)) op2_eqR (je_op op_mod op2_mod (je_var 6) je_int) je_int (nomark _)) ja_nil)) (fun _ _ => rfl)))
    (js_cons (js_if (jt_cmp (op_eqU (by exact h.hr.units)) op2_eqR (je_var 5) je_int (nomark _)) (js_one (js_set 3 S.nd (je_op op_addU op2_add (je_var 3) (je_frz (jn_lst (ja_cons je_int (ja_cons (je_op op_mod op2_mod (je_var 6) (je_op op_addU op2_add (je_var 2) je_int)) ja_nil))))))) (js_one (js_if (jt_cmp (op_eqU (by exact h.hr.units)) op2_eqR (je_var 5) je_int (nomark _)) (js_one (js_set 3 S.nd (je_op op_addU op2_add (je_op op_addU op2_add (je_var 3) (je_frz (jn_lst (ja_cons je_int (ja_cons (je_op op_mod op2_mod (je_var 6) (je_op op_addU op2_add (je_var 2) je_int)) ja_nil))))) (je_call (by exact h.tk) (D.o__law_told) (by exact h.hr.mono (by decide)) (by exact T.g__law_told) (by exact T.F__law_told.kp) (by exact T.b__law_told) (ja_cons (je_var 7) ja_nil))))) (js_cons (js_set 8 S.nd (je_ix (je_frz (jn_lst (ja_cons (je_ix (je_ix (je_var 1) je_int (fun _ _ => rfl)) (je_op op_mod op2_mod (je_var 6) je_int) (fun _ _ => rfl)) (ja_cons (je_call (by exact h.tk) (D.o__law_text) (by exact h.hr.mono (by decide)) (by exact T.g__law_text) (by exact T.F__law_text.kp) (by exact T.b__law_text) (ja_cons (je_call (by exact h.tk) (D.o__law_taken) (by exact h.hr.mono (by decide)) (by exact T.g__law_taken) (by exact T.F__law_taken.kp) (by exact T.b__law_taken) (ja_cons (je_var 0) (ja_cons (je_op op_pow op2_pow je_int je_int) ja_nil))) (ja_cons (je_op op_mod op2_mod (je_op op_fdivW op2_div (je_var 6) je_int) je_int) ja_nil))) ja_nil)))) (je_callTy call_int1 opA_int (by rfl) (by exact T.z_int) (by decide +kernel) (ja_cons (je_cmp (op_eqU (by exact h.hr.units)) op2_eqR (je_op op_mod op2_mod (je_var 6) je_int) je_int (nomark _)) ja_nil)) (fun _ _ => rfl)))
    (js_one (js_set 3 S.nd (je_op op_addU op2_add (je_op op_addU op2_add (je_op op_addU op2_add (je_var 3) (je_frz (jn_lst (ja_cons je_int ja_nil)))) (je_call (by exact h.tk) (D.o__law_told) (by exact h.hr.mono (by decide)) (by exact T.g__law_told) (by exact T.F__law_told.kp) (by exact T.b__law_told) (ja_cons (je_var 8) ja_nil))) (je_call (by exact h.tk) (D.o__law_told) (by exact h.hr.mono (by decide)) (by exact T.g__law_told) (by exact T.F__law_told.kp) (by exact T.b__law_told) (ja_cons (je_var 7) ja_nil)))))))))
    (js_one (js_set 2 S.nd (je_op op_addU op2_add (je_var 2) (je_callTy call_int1 opA_int (by rfl) (by exact T.z_int) (by decide +kernel) (ja_cons (je_cmp op_gt op2_gt (je_var 5) je_int (nomark _)) ja_nil))))))))) h.hp)
    (js_one (js_ret (je_var 3)))))
/-- the promises so far -/
structure D__law_text_of (P : Program) (w : World) (K : PySem.W.Frag) (mg : Str → Option Value) (base : Heap) (A : Ads) : Prop where
  o__law_signs : DefOk P w K mg base 1 A.f__law_signs A.d__law_signs p__law_signs m__law_signs
theorem ok__law_text_of (T : Txt K mg A) (D : D__law_text_of P w K mg base A) : DefOk P w K mg base 2 A.f__law_text_of A.d__law_text_of p__law_text_of m__law_text_of :=
  have S := sc__law_text_of
  def_ok T.F__law_text_of S rfl fun cdv Ar outer s H E h => by
    exact (js_cons (js_if (jt_w (jw_or (jt_cmp op_ge op2_ge (je_var 1) (je_callB call_len opA_len (by rfl) (by exact T.z_len) (by decide +kernel) (ja_cons (je_var 0) ja_nil)) (nomark _)) (jw_or (jt_cmp op_gt op2_gt (je_ix (je_var 0) (je_var 1) (fun _ _ => rfl)) je_int (nomark _)) (jw_or1 (jt_cmp op_ge op2_ge (je_op op_addU op2_add (je_var 1) (je_ix (je_var 0) (je_var 1) (fun _ _ => rfl))) (je_callB call_len opA_len (by rfl) (by exact T.z_len) (by decide +kernel) (ja_cons (je_var 0) ja_nil)) (nomark _)))))) (js_one (js_ret je_non)) js_nil)
    (js_cons (js_set 2 S.nd je_str)
    (js_cons (js_forA (je_frz (jn_slice (je_var 0) (jo_some (je_op op_addU op2_add (je_var 1) je_int)) (jo_some (je_op op_addU op2_add (je_op op_addU op2_add (je_var 1) je_int) (je_ix (je_var 0) (je_var 1) (fun _ _ => rfl)))))) (jg_name 3 S.nd) (js_cons (js_if (jt_cmp op_gt op2_gt (je_var 3) je_int (nomark _)) (js_one (js_ret je_non)) js_nil)
    (js_one (js_set 2 S.nd (je_op op_addU op2_add (je_var 2) (je_ix (je_call0 (by exact h.tk) (D.o__law_signs) (by exact h.hr.mono (by decide)) (by exact T.g__law_signs) (by exact T.F__law_signs.kp) (by exact T.b__law_signs)) (je_var 3) (fun _ _ => rfl)))))) h.hp)
    (js_one (js_ret (je_var 2))))))
/-- the promises so far -/
structure D__law_pair_of (P : Program) (w : World) (K : PySem.W.Frag) (mg : Str → Option Value) (base : Heap) (A : Ads) : Prop where
  o__law_text_of : DefOk P w K mg base 2 A.f__law_text_of A.d__law_text_of p__law_text_of m__law_text_of
theorem ok__law_pair_of (T : Txt K mg A) (D : D__law_pair_of P w K mg base A) : DefOk P w K mg base 3 A.f__law_pair_of A.d__law_pair_of p__law_pair_of m__law_pair_of :=
  have S := sc__law_pair_of
  def_ok T.F__law_pair_of S rfl fun cdv Ar outer s H E h => by
    exact (js_cons (js_if (jt_cmp (op_eqU (by exact h.hr.units)) op2_eqR (je_ix (je_var 1) (je_var 2) (fun _ _ => rfl)) je_int (nomark _)) (js_cons (js_set 3 S.nd (je_call (by exact h.tk) (D.o__law_text_of) (by exact h.hr.mono (by decide)) (by exact T.g__law_text_of) (by exact T.F__law_text_of.kp) (by exact T.b__law_text_of) (ja_cons (je_var 1) (ja_cons (je_op op_addU op2_add (je_var 2) je_int) ja_nil))))
    (js_cons (js_if (jt_w (jw_or (jt_cmp op_isN op2_isN (je_var 3) je_non (nomark _)) (jw_or (jt_cmp (op_eqU (by exact h.hr.units)) op2_eqR (je_var 3) je_str (nomark _)) (jw_or1 (jt_cmp op_gt op2_gt (je_callB call_len opA_len (by rfl) (by exact T.z_len) (by decide +kernel) (ja_cons (je_var 3) ja_nil)) je_int (nomark _)))))) (js_one (js_ret je_non)) js_nil)
    (js_cons (js_set 4 S.nd (je_call (by exact h.tk) (D.o__law_text_of) (by exact h.hr.mono (by decide)) (by exact T.g__law_text_of) (by exact T.F__law_text_of.kp) (by exact T.b__law_text_of) (ja_cons (je_var 1) (ja_cons (je_op op_addU op2_add (je_op op_addU op2_add (je_var 2) je_int) (je_callB call_len opA_len (by rfl) (by exact T.z_len) (by decide +kernel) (ja_cons (je_var 3) ja_nil))) ja_nil))))
    (js_cons (js_if (jt_cmp op_isN op2_isN (je_var 4) je_non (nomark _)) (js_one (js_ret je_non)) js_nil)
    (js_one (js_ret (je_tup (ja_cons (je_var 3) (ja_cons (je_var 4) (ja_cons (je_op op_addU op2_add (je_op op_addU op2_add (je_op op_addU op2_add (je_var 2) je_int) (je_callB call_len opA_len (by rfl) (by exact T.z_len) (by decide +kernel) (ja_cons (je_var 3) ja_nil))) (je_callB call_len opA_len (by rfl) (by exact T.z_len) (by decide +kernel) (ja_cons (je_var 4) ja_nil))) ja_nil)))))))))) js_nil)
    (js_cons (js_if (jt_w (jw_or (jt_cmp op_gt op2_gt (je_ix (je_var 1) (je_var 2) (fun _ _ => rfl)) je_int (nomark _)) (jw_or (jt_cmp (op_eqU (by exact h.hr.units)) op2_eqR (je_op op_addU op2_add (je_var 2) je_int) (je_callB call_len opA_len (by rfl) (by exact T.z_len) (by decide +kernel) (ja_cons (je_var 1) ja_nil)) (nomark _)) (jw_or1 (jt_cmp op_ge op2_ge (je_ix (je_var 1) (je_op op_addU op2_add (je_var 2) je_int) (fun _ _ => rfl)) (je_callB call_len opA_len (by rfl) (by exact T.z_len) (by decide +kernel) (ja_cons (je_var 0) ja_nil)) (nomark _)))))) (js_one (js_ret je_non)) js_nil)
    (js_cons (js_set 5 S.nd (je_ix (je_var 0) (je_ix (je_var 1) (je_op op_addU op2_add (je_var 2) je_int) (fun _ _ => rfl)) (fun _ _ => rfl)))
    (js_cons (js_if (jt_cmp (op_eqU (by exact h.hr.units)) op2_eqR (je_ix (je_var 1) (je_var 2) (fun _ _ => rfl)) je_int (nomark _)) (js_one (js_ret (je_tup (ja_cons (je_ix (je_var 5) je_int (fun _ _ => rfl)) (ja_cons (je_ix (je_var 5) je_int (fun _ _ => rfl)) (ja_cons (je_op op_addU op2_add (je_var 2) je_int) ja_nil)))))) js_nil)
    (js_cons (js_set 4 S.nd (je_call (by exact h.tk) (D.o__law_text_of) (by exact h.hr.mono (by decide)) (by exact T.g__law_text_of) (by exact T.F__law_text_of.kp) (by exact T.b__law_text_of) (ja_cons (je_var 1) (ja_cons (je_op op_addU op2_add (je_var 2) je_int) ja_nil))))
    (js_cons (js_if (jt_cmp op_isN op2_isN (je_var 4) je_non (nomark _)) (js_one (js_ret je_non)) js_nil)
    (js_one (js_ret (je_tup (ja_cons (je_ix (je_var 5) je_int (fun _ _ => rfl)) (ja_cons (je_var 4) (ja_cons (je_op op_addU op2_add (je_op op_addU op2_add (je_var 2) je_int) (je_callB call_len opA_len (by rfl) (by exact T.z_len) (by decide +kernel) (ja_cons (je_var 4) ja_nil))) ja_nil))))))))))))
/-- the promises so far -/
structure D__law_put (P : Program) (w : World) (K : PySem.W.Frag) (mg : Str → Option Value) (base : Heap) (A : Ads) : Prop where
  o : True
theorem ok__law_put (T : Txt K mg A) (D : D__law_put P w K mg base A) : DefOk P w K mg base 1 A.f__law_put A.d__law_put p__law_put m__law_put :=
  have S := sc__law_put
  def_ok T.F__law_put S rfl fun cdv Ar outer s H E h => by
    exact (js_cons (js_set 2 S.nd (je_op op_addU op2_add (je_frz (jn_lst (ja_cons (je_var 1) ja_nil))) (je_var 0)))
    (js_cons (js_set 3 S.nd je_int)
    (js_cons (js_for (ji_rangeQ1 (by exact T.z_range) (ja_cons (je_callB call_len opA_len (by rfl) (by exact T.z_len) (by decide +kernel) (ja_cons (je_var 2) ja_nil)) ja_nil)) (jg_name 4 S.nd) (js_cons (js_set 3 S.nd (je_op op_addU op2_add (je_op op_addU op2_add (je_op op_addU op2_add (je_var 3) (je_callB call_len opA_len (by rfl) (by exact T.z_len) (by decide +kernel) (ja_cons (je_ix (je_ix (je_var 2) (je_var 4) (fun _ _ => rfl)) je_int (fun _ _ => rfl)) ja_nil))) (je_callB call_len opA_len (by rfl) (by exact T.z_len) (by decide +kernel) (ja_cons (je_ix (je_ix (je_var 2) (je_var 4) (fun _ _ => rfl)) je_int (fun _ _ => rfl)) ja_nil))) je_int))
    (js_one (js_if (jt_cmp op_gt op2_gt (je_var 3) je_int (nomark _)) (js_one (js_ret (je_frz (jn_slice (je_var 2) jo_none (jo_some (je_var 4)))))) js_nil))) h.hp)
    (js_one (js_ret (je_var 2))))))
/-- the promises so far -/
structure D__law_read (P : Program) (w : World) (K : PySem.W.Frag) (mg : Str → Option Value) (base : Heap) (A : Ads) : Prop where
  o__law_pair_of : DefOk P w K mg base 3 A.f__law_pair_of A.d__law_pair_of p__law_pair_of m__law_pair_of
  o__law_put : DefOk P w K mg base 1 A.f__law_put A.d__law_put p__law_put m__law_put
theorem ok__law_read (T : Txt K mg A) (D : D__law_read P w K mg base A) : DefOk P w K mg base 4 A.f__law_read A.d__law_read p__law_read m__law_read :=
  have S := sc__law_read
  def_ok T.F__law_read S rfl fun cdv Ar outer s H E h => by
    exact (js_cons (js_own 2 S.nd (jn_lst ja_nil))
    (js_cons (js_set 3 S.nd je_int)
    (js_cons (js_while (mLen 1) (jt_cmp op_lt op2_lt (je_var 3) (je_callB call_len opA_len (by rfl) (by exact T.z_len) (by decide +kernel) (ja_cons (je_var 1) ja_nil)) (nomark _)) (js_cons (js_set 4 S.nd (je_call (by exact h.tk) (D.o__law_pair_of) (by exact h.hr.mono (by decide)) (by exact T.g__law_pair_of) (by exact T.F__law_pair_of.kp) (by exact T.b__law_pair_of) (ja_cons (je_var 0) (ja_cons (je_var 1) (ja_cons (je_var 3) ja_nil)))))
    (js_cons (js_if (jt_w (jw_or (jt_cmp op_isN op2_isN (je_var 4) je_non (nomark _)) (jw_or1 (jt_cmp (op_eqU (by exact h.hr.units)) op2_eqR (je_callB call_len opA_len (by rfl) (by exact T.z_len) (by decide +kernel) (ja_cons (je_var 2) ja_nil)) je_int (nomark _))))) (js_one (js_ret je_non)) js_nil)
    (js_cons (js_mod PySem.F.slot_list_append PySem.F.type_list_append (by exact mt_append) lmod_app (je_var 2) (ja_cons (je_tup (ja_cons (je_ix (je_var 4) je_int (fun _ _ => rfl)) (ja_cons (je_ix (je_var 4) je_int (fun _ _ => rfl)) ja_nil))) ja_nil))
    (js_cons (js_if (jt_cmp (op_neU (by exact h.hr.units)) op2_neR (je_ix (je_var 1) (je_var 3) (fun _ _ => rfl)) je_int (nomark _)) (js_one (js_set 0 S.nd (je_call (by exact h.tk) (D.o__law_put) (by exact h.hr.mono (by decide)) (by exact T.g__law_put) (by exact T.F__law_put.kp) (by exact T.b__law_put) (ja_cons (je_var 0) (ja_cons (je_tup (ja_cons (je_ix (je_var 4) je_int (fun _ _ => rfl)) (ja_cons (je_ix (je_var 4) je_int (fun _ _ => rfl)) ja_nil))) ja_nil))))) js_nil)
    (js_one (js_set 3 S.nd (je_ix (je_var 4) je_int (fun _ _ => rfl)))))))) h.hp)
    (js_one (js_frz 2 (js_ret (je_tup (ja_cons (je_var 2) (ja_cons (je_var 0) ja_nil)))))))))
/-- the promises so far -/
structure D_text_size (P : Program) (w : World) (K : PySem.W.Frag) (mg : Str → Option Value) (base : Heap) (A : Ads) : Prop where
  o : True
theorem ok_text_size (T : Txt K mg A) (D : D_text_size P w K mg base A) : DefOk P w K mg base 1 A.f_text_size A.d_text_size p_text_size m_text_size :=
  have S := sc_text_size
  def_ok T.F_text_size S rfl fun cdv Ar outer s H E h => by
    exact (js_cons (js_if (jt_not (jt_chain op_le op2_le op_lt op2_lt je_int (je_var 1) (je_callB call_len opA_len (by rfl) (by exact T.z_len) (by decide +kernel) (ja_cons (je_var 0) ja_nil)))) (js_one (js_raise (by exact h.tk) (by exact T.C_BadHead) (by exact T.X_BadHead.ex) (by exact T.X_BadHead.kp) (by exact T.X_BadHead.sub) (by exact T.X_BadHead.ty))) js_nil)
    (js_cons (js_if (jt_not (jt_chain op_le op2_le op_le op2_le je_int (je_ix (je_var 0) (je_var 1) (fun _ _ => rfl)) (T.c_LONGEST_TEXT _ _))) (js_one (js_raise (by exact h.tk) (by exact T.C_BadHead) (by exact T.X_BadHead.ex) (by exact T.X_BadHead.kp) (by exact T.X_BadHead.sub) (by exact T.X_BadHead.ty))) js_nil)
    (js_one (js_ret (je_ix (je_var 0) (je_var 1) (fun _ _ => rfl))))))
/-- the promises so far -/
structure D_sign_of (P : Program) (w : World) (K : PySem.W.Frag) (mg : Str → Option Value) (base : Heap) (A : Ads) : Prop where
  o : True
theorem ok_sign_of (T : Txt K mg A) (D : D_sign_of P w K mg base A) : DefOk P w K mg base 1 A.f_sign_of A.d_sign_of p_sign_of m_sign_of :=
  have S := sc_sign_of
  def_ok T.F_sign_of S rfl fun cdv Ar outer s H E h => by
    exact (js_cons (js_if (jt_not (jt_chain op_le op2_le op_lt op2_lt je_int (je_var 0) (je_callB call_len opA_len (by rfl) (by exact T.z_len) (by decide +kernel) (ja_cons (T.c_SIGNS _ _) ja_nil)))) (js_one (js_raise (by exact h.tk) (by exact T.C_BadHead) (by exact T.X_BadHead.ex) (by exact T.X_BadHead.kp) (by exact T.X_BadHead.sub) (by exact T.X_BadHead.ty))) js_nil)
    (js_one (js_ret (je_ix (T.c_SIGNS _ _) (je_var 0) (fun _ _ => rfl)))))
/-- the promises so far -/
structure D_text_at (P : Program) (w : World) (K : PySem.W.Frag) (mg : Str → Option Value) (base : Heap) (A : Ads) : Prop where
  o_text_size : DefOk P w K mg base 1 A.f_text_size A.d_text_size p_text_size m_text_size
  o_sign_of : DefOk P w K mg base 1 A.f_sign_of A.d_sign_of p_sign_of m_sign_of
theorem ok_text_at (T : Txt K mg A) (D : D_text_at P w K mg base A) : DefOk P w K mg base 2 A.f_text_at A.d_text_at p_text_at m_text_at :=
  have S := sc_text_at
  def_ok T.F_text_at S rfl fun cdv Ar outer s H E h => by
    exact (js_cons (js_set 2 S.nd (je_call (by exact h.tk) (D.o_text_size) (by exact h.hr.mono (by decide)) (by exact T.g_text_size) (by exact T.F_text_size.kp) (by exact T.b_text_size) (ja_cons (je_var 0) (ja_cons (je_var 1) ja_nil))))
    (js_cons (js_set 3 S.nd (je_op op_addU op2_add (je_var 1) je_int))
    (js_cons (js_set 4 S.nd (je_op op_addU op2_add (je_var 3) (je_var 2)))
    (js_cons (js_if (jt_cmp op_gt op2_gt (je_var 4) (je_callB call_len opA_len (by rfl) (by exact T.z_len) (by decide +kernel) (ja_cons (je_var 0) ja_nil)) (nomark _)) (js_one (js_raise (by exact h.tk) (by exact T.C_BadHead) (by exact T.X_BadHead.ex) (by exact T.X_BadHead.kp) (by exact T.X_BadHead.sub) (by exact T.X_BadHead.ty))) js_nil)
    (js_cons (js_set 5 S.nd (je_mt PySem.F.slot_str_join PySem.F.type_str_join mt_join opB_join je_str (ja_cons (je_frz (jn_lcx (own := [("number", 6)]) (by exact h.tk) S.nd (ji_any (je_frz (jn_slice (je_var 0) (jo_some (je_var 3)) (jo_some (je_var 4))))) (blkOk_by (own := [("number", 6)]) (N := N_text_at) (sc := defScope s_text_at) (by decide +kernel)) (cg_name 6) (fun _ _ _ _ _ => pg_name (i := 6) S.nd rfl (.inl rfl)) if_none (fun _ _ _ _ _ _ _ _ tkx => (je_call (by exact tkx) (D.o_sign_of) (by exact h.hr.mono (by decide)) (by exact T.g_sign_of) (by exact T.F_sign_of.kp) (by exact T.b_sign_of) (ja_cons (je_var 6) ja_nil))))) ja_nil)))
    (js_one (js_ret (je_tup (ja_cons (je_var 5) (ja_cons (je_var 4) ja_nil))))))))))
/-- the promises so far -/
structure D_pair_weight (P : Program) (w : World) (K : PySem.W.Frag) (mg : Str → Option Value) (base : Heap) (A : Ads) : Prop where
  o : True
theorem ok_pair_weight (T : Txt K mg A) (D : D_pair_weight P w K mg base A) : DefOk P w K mg base 1 A.f_pair_weight A.d_pair_weight p_pair_weight m_pair_weight :=
  have S := sc_pair_weight
  def_ok T.F_pair_weight S rfl fun cdv Ar outer s H E h => by
    exact (js_one (js_ret (je_op op_addU op2_add (je_op op_addU op2_add (je_callB call_len opA_len (by rfl) (by exact T.z_len) (by decide +kernel) (ja_cons (je_ix (je_var 0) je_int (fun _ _ => rfl)) ja_nil)) (je_callB call_len opA_len (by rfl) (by exact T.z_len) (by decide +kernel) (ja_cons (je_ix (je_var 0) je_int (fun _ _ => rfl)) ja_nil))) (T.c_WEIGHT_OF_A_PAIR _ _))))
/-- the promises so far -/
structure D_Shelf_put (P : Program) (w : World) (K : PySem.W.Frag) (mg : Str → Option Value) (base : Heap) (A : Ads) : Prop where
  o_pair_weight : DefOk P w K mg base 1 A.f_pair_weight A.d_pair_weight p_pair_weight m_pair_weight
theorem ok_Shelf_put (T : Txt K mg A) (D : D_Shelf_put P w K mg base A) : DefOk P w K mg base 2 A.f_Shelf_put A.d_Shelf_put p_Shelf_put m_Shelf_put :=
  have S := sc_Shelf_put
  def_ok T.F_Shelf_put S rfl fun cdv Ar outer s H E h => by
    exact (js_cons (js_mod PySem.F.slot_list_insert PySem.F.type_list_insert (by exact mt_insert) lmod_ins (je_fld (cs := ["Shelf"]) (by exact T.fl_Shelf_pairs) (je_var 0)) (ja_cons je_int (ja_cons (je_var 1) ja_nil)))
    (js_cons (js_set 2 S.nd (je_callB (cr_sum rfl) opA_sum (by rfl) (by exact T.z_sum) (by decide +kernel) (ja_cons (je_frz (jn_lcA (own := [("kept", 3)]) S.nd (je_fld (cs := ["Shelf"]) (by exact T.fl_Shelf_pairs) (je_var 0)) (blkOk_by (own := [("kept", 3)]) (N := N_Shelf_put) (sc := defScope s_Shelf_put) (by decide +kernel)) (cg_name 3) (fun _ _ _ _ _ => pg_name (i := 3) S.nd rfl (.inl rfl)) if_none (fun _ _ _ _ _ => (je_call (by exact takes0) (D.o_pair_weight) (by exact h.hr.mono (by decide)) (by exact T.g_pair_weight) (by exact T.F_pair_weight.kp) (by exact T.b_pair_weight) (ja_cons (je_var 3) ja_nil))))) ja_nil)))
    (js_one (js_while (mInt 2) (jt_cmp op_gt op2_gt (je_var 2) (T.c_MOST_WEIGHT _ _) (nomark _)) (js_one (js_aug 2 S.nd ip_sub ip2_I (je_call (by exact h.tk) (D.o_pair_weight) (by exact h.hr.mono (by decide)) (by exact T.g_pair_weight) (by exact T.F_pair_weight.kp) (by exact T.b_pair_weight) (ja_cons (je_pop (je_fld (cs := ["Shelf"]) (by exact T.fl_Shelf_pairs) (je_var 0))) ja_nil)))) h.hp))))
/-- the promises so far -/
structure D_kept_pair (P : Program) (w : World) (K : PySem.W.Frag) (mg : Str → Option Value) (base : Heap) (A : Ads) : Prop where
  o : True
theorem ok_kept_pair (T : Txt K mg A) (D : D_kept_pair P w K mg base A) : DefOk P w K mg base 1 A.f_kept_pair A.d_kept_pair p_kept_pair m_kept_pair :=
  have S := sc_kept_pair
  def_ok T.F_kept_pair S rfl fun cdv Ar outer s H E h => by
    exact (js_cons (js_if (jt_cmp op_ge op2_ge (je_var 2) (je_callB call_len opA_len (by rfl) (by exact T.z_len) (by decide +kernel) (ja_cons (je_var 1) ja_nil)) (nomark _)) (js_one (js_raise (by exact h.tk) (by exact T.C_BadHead) (by exact T.X_BadHead.ex) (by exact T.X_BadHead.kp) (by exact T.X_BadHead.sub) (by exact T.X_BadHead.ty))) js_nil)
    (js_cons (js_set 3 S.nd (je_ix (je_var 1) (je_var 2) (fun _ _ => rfl)))
    (js_cons (js_if (jt_not (jt_chain op_le op2_le op_lt op2_lt je_int (je_var 3) (je_callB call_len opA_len (by rfl) (by exact T.z_len) (by decide +kernel) (ja_cons (je_fld (cs := ["Shelf"]) (by exact T.fl_Shelf_pairs) (je_var 0)) ja_nil)))) (js_one (js_raise (by exact h.tk) (by exact T.C_BadHead) (by exact T.X_BadHead.ex) (by exact T.X_BadHead.kp) (by exact T.X_BadHead.sub) (by exact T.X_BadHead.ty))) js_nil)
    (js_one (js_ret (je_ix (je_fld (cs := ["Shelf"]) (by exact T.fl_Shelf_pairs) (je_var 0)) (je_var 3) (fun _ _ => rfl)))))))
/-- the promises so far -/
structure D_name_at (P : Program) (w : World) (K : PySem.W.Frag) (mg : Str → Option Value) (base : Heap) (A : Ads) : Prop where
  o_text_at : DefOk P w K mg base 2 A.f_text_at A.d_text_at p_text_at m_text_at
theorem ok_name_at (T : Txt K mg A) (D : D_name_at P w K mg base A) : DefOk P w K mg base 3 A.f_name_at A.d_name_at p_name_at m_name_at :=
  have S := sc_name_at
  def_ok T.F_name_at S rfl fun cdv Ar outer s H E h => by
    exact (js_cons (js_asg (je_call (by exact h.tk) (D.o_text_at) (by exact h.hr.mono (by decide)) (by exact T.g_text_at) (by exact T.F_text_at.kp) (by exact T.b_text_at) (ja_cons (je_var 0) (ja_cons (je_var 1) ja_nil))) (jg_tup (jgs_cons (jg_name 2 S.nd) (jgs_cons (jg_name 3 S.nd) jgs_nil))))
    (js_cons (js_if (jt_not (jt_chain op_le op2_le op_le op2_le je_int (je_callB call_len opA_len (by rfl) (by exact T.z_len) (by decide +kernel) (ja_cons (je_var 2) ja_nil)) (T.c_LONGEST_NAME _ _))) (js_one (js_raise (by exact h.tk) (by exact T.C_BadHead) (by exact T.X_BadHead.ex) (by exact T.X_BadHead.kp) (by exact T.X_BadHead.sub) (by exact T.X_BadHead.ty))) js_nil)
    (js_one (js_ret (je_tup (ja_cons (je_var 2) (ja_cons (je_var 3) ja_nil)))))))
/-- the promises so far -/
structure D_pair_at (P : Program) (w : World) (K : PySem.W.Frag) (mg : Str → Option Value) (base : Heap) (A : Ads) : Prop where
  o_text_at : DefOk P w K mg base 2 A.f_text_at A.d_text_at p_text_at m_text_at
  o_Shelf_put : DefOk P w K mg base 2 A.f_Shelf_put A.d_Shelf_put p_Shelf_put m_Shelf_put
  o_kept_pair : DefOk P w K mg base 1 A.f_kept_pair A.d_kept_pair p_kept_pair m_kept_pair
  o_name_at : DefOk P w K mg base 3 A.f_name_at A.d_name_at p_name_at m_name_at
theorem ok_pair_at (T : Txt K mg A) (D : D_pair_at P w K mg base A) : DefOk P w K mg base 4 A.f_pair_at A.d_pair_at p_pair_at m_pair_at :=
  have S := sc_pair_at
  def_ok T.F_pair_at S rfl fun cdv Ar outer s H E h => by
    exact (js_cons (js_set 3 S.nd (je_ix (je_var 1) (je_var 2) (fun _ _ => rfl)))
    (js_cons (js_if (jt_cmp (op_eqU (by exact h.hr.units)) op2_eqR (je_var 3) (T.c_WHOLE _ _) (nomark _)) (js_one (js_ret (je_tup (ja_cons (je_call (by exact h.tk) (D.o_kept_pair) (by exact h.hr.mono (by decide)) (by exact T.g_kept_pair) (by exact T.F_kept_pair.kp) (by exact T.b_kept_pair) (ja_cons (je_var 0) (ja_cons (je_var 1) (ja_cons (je_op op_addU op2_add (je_var 2) je_int) ja_nil)))) (ja_cons (je_op op_addU op2_add (je_var 2) je_int) ja_nil))))) js_nil)
    (js_cons (js_if (jt_cmp (op_eqU (by exact h.hr.units)) op2_eqR (je_var 3) (T.c_NAMED _ _) (nomark _)) (js_cons (js_set 4 S.nd (je_ix (je_call (by exact h.tk) (D.o_kept_pair) (by exact h.hr.mono (by decide)) (by exact T.g_kept_pair) (by exact T.F_kept_pair.kp) (by exact T.b_kept_pair) (ja_cons (je_var 0) (ja_cons (je_var 1) (ja_cons (je_op op_addU op2_add (je_var 2) je_int) ja_nil)))) je_int (fun _ _ => rfl)))
    (js_one (js_set 5 S.nd (je_op op_addU op2_add (je_var 2) je_int)))) (js_one (js_if (jt_cmp (op_eqU (by exact h.hr.units)) op2_eqR (je_var 3) (T.c_FULL _ _) (nomark _)) (js_one (js_asg (je_call (by exact h.tk) (D.o_name_at) (by exact h.hr.mono (by decide)) (by exact T.g_name_at) (by exact T.F_name_at.kp) (by exact T.b_name_at) (ja_cons (je_var 1) (ja_cons (je_op op_addU op2_add (je_var 2) je_int) ja_nil))) (jg_tup (jgs_cons (jg_name 4 S.nd) (jgs_cons (jg_name 5 S.nd) jgs_nil))))) (js_one (js_raise (by exact h.tk) (by exact T.C_BadHead) (by exact T.X_BadHead.ex) (by exact T.X_BadHead.kp) (by exact T.X_BadHead.sub) (by exact T.X_BadHead.ty))))))
    (js_cons (js_asg (je_call (by exact h.tk) (D.o_text_at) (by exact h.hr.mono (by decide)) (by exact T.g_text_at) (by exact T.F_text_at.kp) (by exact T.b_text_at) (ja_cons (je_var 1) (ja_cons (je_var 5) ja_nil))) (jg_tup (jgs_cons (jg_name 6 S.nd) (jgs_cons (jg_name 5 S.nd) jgs_nil))))
    (js_cons (js_set 7 S.nd (je_tup (ja_cons (je_var 4) (ja_cons (je_var 6) ja_nil))))
    (js_cons (js_expr (je_meth (c := "Shelf") (by exact h.tk) (by exact T.C_Shelf) (by exact T.cl_Shelf) (by exact T.me_Shelf_put) (D.o_Shelf_put) (by exact h.hr.mono (by decide)) (by exact T.b_Shelf_put) (je_var 0) (ja_cons (je_var 7) ja_nil)))
    (js_one (js_ret (je_tup (ja_cons (je_var 7) (ja_cons (je_var 5) ja_nil)))))))))))
/-- the promises so far -/
structure D_read_head (P : Program) (w : World) (K : PySem.W.Frag) (mg : Str → Option Value) (base : Heap) (A : Ads) : Prop where
  o_pair_at : DefOk P w K mg base 4 A.f_pair_at A.d_pair_at p_pair_at m_pair_at
theorem ok_read_head (T : Txt K mg A) (D : D_read_head P w K mg base A) : DefOk P w K mg base 5 A.f_read_head A.d_read_head p_read_head m_read_head :=
  have S := sc_read_head
  def_ok T.F_read_head S rfl fun cdv Ar outer s H E h => by
    exact (js_cons (js_set 2 S.nd (je_new (jn_lst ja_nil)))
    (js_cons (js_set 3 S.nd je_int)
    (js_cons (js_while (mLen 1) (jt_cmp op_lt op2_lt (je_var 3) (je_callB call_len opA_len (by rfl) (by exact T.z_len) (by decide +kernel) (ja_cons (je_var 1) ja_nil)) (nomark _)) (js_cons (js_if (jt_cmp (op_eqU (by exact h.hr.units)) op2_eqR (je_callB call_len opA_len (by rfl) (by exact T.z_len) (by decide +kernel) (ja_cons (je_var 2) ja_nil)) (T.c_MOST_PAIRS _ _) (nomark _)) (js_one (js_raise (by exact h.tk) (by exact T.C_BadHead) (by exact T.X_BadHead.ex) (by exact T.X_BadHead.kp) (by exact T.X_BadHead.sub) (by exact T.X_BadHead.ty))) js_nil)
    (js_cons (js_asg (je_call (by exact h.tk) (D.o_pair_at) (by exact h.hr.mono (by decide)) (by exact T.g_pair_at) (by exact T.F_pair_at.kp) (by exact T.b_pair_at) (ja_cons (je_var 0) (ja_cons (je_var 1) (ja_cons (je_var 3) ja_nil)))) (jg_tup (jgs_cons (jg_name 4 S.nd) (jgs_cons (jg_name 3 S.nd) jgs_nil))))
    (js_one (js_mod PySem.F.slot_list_append PySem.F.type_list_append (by exact mt_append) lmod_app (je_var 2) (ja_cons (je_var 4) ja_nil))))) h.hp)
    (js_one (js_ret (je_var 2))))))
/-- the promises so far -/
structure D__law_refused (P : Program) (w : World) (K : PySem.W.Frag) (mg : Str → Option Value) (base : Heap) (A : Ads) : Prop where
  o_read_head : DefOk P w K mg base 5 A.f_read_head A.d_read_head p_read_head m_read_head
theorem ok__law_refused (T : Txt K mg A) (D : D__law_refused P w K mg base A) : DefOk P w K mg base 6 A.f__law_refused A.d__law_refused p__law_refused m__law_refused :=
  have S := sc__law_refused
  def_ok T.F__law_refused S rfl fun cdv Ar outer s H E h => by
    exact (js_cons (js_try_as (i := 2) (cs := [("BadHead", [])]) (hit := (fun _ => true)) (ms := fun c ns vs => (sRet (eAnd (eC (.bl true)) (eAnd (eC (.bl true)) (eC (.bl true)))))) (by exact h.tk) rfl rfl S.nd ⟨rfl, by decide, .inl T.C_LineError⟩ ⟨fun p hp C hC => by
      rcases List.mem_singleton.mp hp with rfl
      cases (T.C_BadHead).symm.trans hC
      exact T.m_BadHead_LineError⟩ (fun pn xe W' tkx pox => (js_one (js_expr (je_call (by exact tkx) (D.o_read_head) (by exact h.hr.mono (by decide)) (by exact T.g_read_head) (by exact T.F_read_head.kp) (by exact T.b_read_head) (ja_cons (je_var 0) (ja_cons (je_var 1) ja_nil)))))) (fun c ns hin hh C hC a oe d pn vs hd hz hf => by
      cases List.mem_singleton.mp hin
      cases (T.C_BadHead).symm.trans hC
      cases hd rfl
      exact jx_retY (jy_and (jy_isi (X := (dX P w K mg base N__law_refused "_law_refused" s__law_refused A.f__law_refused cdv Ar outer s H E)) (a := a) (oe := oe) (pn := pn) (i := 2) (b := true) (by exact T.e_BadHead) (by exact hz) (by exact hf) (by rfl) (by exact T.z_isinstance) (by exact ⟨_, pe_glob (x := "BadHead") (v := .ref A.C_BadHead) rfl (by exact T.C_BadHead) rfl (by decide), fun _ _ _ q => q⟩) (by exact fun _ e => e) (by exact T.i_BadHead_BadHead)) (jy_and (jy_isi (X := (dX P w K mg base N__law_refused "_law_refused" s__law_refused A.f__law_refused cdv Ar outer s H E)) (a := a) (oe := oe) (pn := pn) (i := 2) (b := true) (by exact T.e_BadHead) (by exact hz) (by exact hf) (by rfl) (by exact T.z_isinstance) (by exact ⟨_, pe_bltn (x := "ValueError") (v := .ty "ValueError") rfl (by exact T.z_ValueError) (by decide +kernel) rfl (by decide) (by decide), fun _ _ _ q => q⟩) (by exact fun _ e => e) (by exact T.i_BadHead_ValueError)) (jy_one (jy_not (b := false) (jy_isi (X := (dX P w K mg base N__law_refused "_law_refused" s__law_refused A.f__law_refused cdv Ar outer s H E)) (a := a) (oe := oe) (pn := pn) (i := 2) (b := false) (by exact T.e_BadHead) (by exact hz) (by exact hf) (by rfl) (by exact T.z_isinstance) (by exact ⟨_, pe_glob (x := "NoDeed") (v := .ref A.C_NoDeed) rfl (by exact T.C_NoDeed) rfl (by decide), fun _ _ _ q => q⟩) (by exact fun _ e => e) (by exact T.i_BadHead_NoDeed))))))))
    (js_one (js_ret je_bl)))
/-- the promises so far -/
structure D__law_pairs (P : Program) (w : World) (K : PySem.W.Frag) (mg : Str → Option Value) (base : Heap) (A : Ads) : Prop where
  o : True
theorem ok__law_pairs (T : Txt K mg A) (D : D__law_pairs P w K mg base A) : DefOk P w K mg base 1 A.f__law_pairs A.d__law_pairs p__law_pairs m__law_pairs :=
  have S := sc__law_pairs
  def_ok T.F__law_pairs S rfl fun cdv Ar outer s H E h => by
    exact (js_cons (js_if (jt_w (jw_or (jt_not (jt_tr (je_isiT (je_var 0) (by rfl) (by exact T.z_isinstance) (by rfl) (by exact T.z_list) (by decide +kernel)))) (jw_or1 (jt_cmp (op_neU (by exact h.hr.units)) op2_neR (je_callB call_len opA_len (by rfl) (by exact T.z_len) (by decide +kernel) (ja_cons (je_var 0) ja_nil)) (je_callB call_len opA_len (by rfl) (by exact T.z_len) (by decide +kernel) (ja_cons (je_var 1) ja_nil)) (nomark _))))) (js_one (js_ret je_bl)) js_nil)
    (js_cons (js_forA (je_var 0) (jg_name 2 S.nd) (js_one (js_if (jt_w (jw_or (jt_not (jt_tr (je_isiT (je_var 2) (by rfl) (by exact T.z_isinstance) (by rfl) (by exact T.z_tuple) (by decide +kernel)))) (jw_or (jt_cmp (op_neU (by exact h.hr.units)) op2_neR (je_callB call_len opA_len (by rfl) (by exact T.z_len) (by decide +kernel) (ja_cons (je_var 2) ja_nil)) je_int (nomark _)) (jw_or (jt_not (jt_tr (je_isiT (je_ix (je_var 2) je_int (fun _ _ => rfl)) (by rfl) (by exact T.z_isinstance) (by rfl) (by exact T.z_str) (by decide +kernel)))) (jw_or1 (jt_not (jt_tr (je_isiT (je_ix (je_var 2) je_int (fun _ _ => rfl)) (by rfl) (by exact T.z_isinstance) (by rfl) (by exact T.z_str) (by decide +kernel))))))))) (js_one (js_ret je_bl)) js_nil)) h.hp)
    (js_one (js_ret (je_cmp (op_eqU (by exact h.hr.units)) op2_eqR (je_var 0) (je_var 1) (nomark _))))))
/-- the promises so far -/
structure D_law (P : Program) (w : World) (K : PySem.W.Frag) (mg : Str → Option Value) (base : Heap) (A : Ads) : Prop where
  o__law_row : DefOk P w K mg base 1 A.f__law_row A.d__law_row p__law_row m__law_row
  o__law_pool : DefOk P w K mg base 3 A.f__law_pool A.d__law_pool p__law_pool m__law_pool
  o_Shelf___init__ : DefOk P w K mg base 1 A.f_Shelf___init__ A.d_Shelf___init__ p_Shelf___init__ m_Shelf___init__
  o__law_taken : DefOk P w K mg base 1 A.f__law_taken A.d__law_taken p__law_taken m__law_taken
  o__law_numbers_by : DefOk P w K mg base 3 A.f__law_numbers_by A.d__law_numbers_by p__law_numbers_by m__law_numbers_by
  o__law_read : DefOk P w K mg base 4 A.f__law_read A.d__law_read p__law_read m__law_read
  o_read_head : DefOk P w K mg base 5 A.f_read_head A.d_read_head p_read_head m_read_head
  o_Shelf_put : DefOk P w K mg base 2 A.f_Shelf_put A.d_Shelf_put p_Shelf_put m_Shelf_put
  o__law_put : DefOk P w K mg base 1 A.f__law_put A.d__law_put p__law_put m__law_put
  o__law_refused : DefOk P w K mg base 6 A.f__law_refused A.d__law_refused p__law_refused m__law_refused
  o__law_pairs : DefOk P w K mg base 1 A.f__law_pairs A.d__law_pairs p__law_pairs m__law_pairs
theorem ok_law (T : Txt K mg A) (D : D_law P w K mg base A) : DefOk P w K mg base 7 A.f_law A.d_law p_law m_law :=
  have S := sc_law
  def_ok T.F_law S rfl fun cdv Ar outer s H E h => by
    exact (js_cons (js_set 1 S.nd (je_call (by exact h.tk) (D.o__law_row) (by exact h.hr.mono (by decide)) (by exact T.g__law_row) (by exact T.F__law_row.kp) (by exact T.b__law_row) (ja_cons (je_var 0) ja_nil)))
    (js_cons (js_set 2 S.nd (je_call (by exact h.tk) (D.o__law_pool) (by exact h.hr.mono (by decide)) (by exact T.g__law_pool) (by exact T.F__law_pool.kp) (by exact T.b__law_pool) (ja_cons (je_var 1) ja_nil)))
    (js_cons (js_set 3 S.nd (je_make0 (by exact T.mk_Shelf) (D.o_Shelf___init__) (by exact h.hr.mono (by decide)) (by exact T.C_Shelf) (by exact T.b_Shelf___init__)))
    (js_cons (js_set 4 S.nd (je_frz (jn_lst ja_nil)))
    (js_cons (js_for (ji_rangeQ1 (by exact T.z_range) (ja_cons (je_call (by exact h.tk) (D.o__law_taken) (by exact h.hr.mono (by decide)) (by exact T.g__law_taken) (by exact T.F__law_taken.kp) (by exact T.b__law_taken) (ja_cons (je_var 1) (ja_cons (je_ix (je_frz (jn_lst (ja_cons je_int (ja_cons je_int ja_nil)))) (je_op op_fdivW op2_div (je_call (by exact h.tk) (D.o__law_taken) (by exact h.hr.mono (by decide)) (by exact T.g__law_taken) (by exact T.F__law_taken.kp) (by exact T.b__law_taken) (ja_cons (je_var 1) (ja_cons je_int ja_nil))) je_int) (fun _ _ => rfl)) ja_nil))) ja_nil)) (jg_name 5 S.nd) (js_cons (js_set 6 S.nd (je_call (by exact h.tk) (D.o__law_taken) (by exact h.hr.mono (by decide)) (by exact T.g__law_taken) (by exact T.F__law_taken.kp) (by exact T.b__law_taken) (ja_cons (je_var 1) (ja_cons je_int ja_nil))))
    (js_cons (js_expr (je_meth (c := "Shelf") (by exact h.tk) (by exact T.C_Shelf) (by exact T.cl_Shelf) (by exact T.me_Shelf_put) (D.o_Shelf_put) (by exact h.hr.mono (by decide)) (by exact T.b_Shelf_put) (je_var 3) (ja_cons (je_tup (ja_cons (je_ix (je_ix (je_var 2) je_int (fun _ _ => rfl)) (je_op op_mod op2_mod (je_var 6) je_int) (fun _ _ => rfl)) (ja_cons (je_ix (je_ix (je_var 2) je_int (fun _ _ => rfl)) (je_op op_fdivW op2_div (je_var 6) je_int) (fun _ _ => rfl)) ja_nil))) ja_nil)))
    (js_one (js_set 4 S.nd (je_call (by exact h.tk) (D.o__law_put) (by exact h.hr.mono (by decide)) (by exact T.g__law_put) (by exact T.F__law_put.kp) (by exact T.b__law_put) (ja_cons (je_var 4) (ja_cons (je_tup (ja_cons (je_ix (je_ix (je_var 2) je_int (fun _ _ => rfl)) (je_op op_mod op2_mod (je_var 6) je_int) (fun _ _ => rfl)) (ja_cons (je_ix (je_ix (je_var 2) je_int (fun _ _ => rfl)) (je_op op_fdivW op2_div (je_var 6) je_int) (fun _ _ => rfl)) ja_nil))) ja_nil))))))) h.hp)
    (js_cons (js_set 7 S.nd (je_call (by exact h.tk) (D.o__law_taken) (by exact h.hr.mono (by decide)) (by exact T.g__law_taken) (by exact T.F__law_taken.kp) (by exact T.b__law_taken) (ja_cons (je_var 1) (ja_cons je_int ja_nil))))
    (js_cons (js_set 8 S.nd (je_call (by exact h.tk) (D.o__law_taken) (by exact h.hr.mono (by decide)) (by exact T.g__law_taken) (by exact T.F__law_taken.kp) (by exact T.b__law_taken) (ja_cons (je_var 1) (ja_cons (je_op op_pow op2_pow je_int je_int) ja_nil))))
    (js_cons (js_set 9 S.nd (je_call (by exact h.tk) (D.o__law_numbers_by) (by exact h.hr.mono (by decide)) (by exact T.g__law_numbers_by) (by exact T.F__law_numbers_by.kp) (by exact T.b__law_numbers_by) (ja_cons (je_var 1) (ja_cons (je_var 2) (ja_cons (je_callB call_len opA_len (by rfl) (by exact T.z_len) (by decide +kernel) (ja_cons (je_var 4) ja_nil)) ja_nil)))))
    (js_cons (js_if (jt_w (jw_and (jt_cmp (op_neU (by exact h.hr.units)) op2_neR (je_var 9) (je_frz (jn_lst ja_nil)) (nomark _)) (jw_and1 (jt_cmp op_lt op2_lt (je_var 7) je_int (nomark _))))) (js_cons (js_set 10 S.nd (je_op op_mod op2_mod (je_var 8) (je_callB call_len opA_len (by rfl) (by exact T.z_len) (by decide +kernel) (ja_cons (je_var 9) ja_nil))))
    (js_one (js_set 9 S.nd (je_op op_addU op2_add (je_op op_addU op2_add (je_frz (jn_slice (je_var 9) jo_none (jo_some (je_var 10)))) (je_ix (je_frz (jn_lst (ja_cons (je_frz (jn_lst (ja_cons (je_op op_mod op2_mod (je_op op_fdivW op2_div (je_var 8) je_int) je_int) ja_nil))) (ja_cons (je_frz (jn_lst ja_nil)) (ja_cons (je_op op_rep op2_rep (je_frz (jn_lst (ja_cons (je_ix (je_var 9) (je_var 10) (fun _ _ => rfl)) ja_nil))) je_int) ja_nil))))) (je_var 7) (fun _ _ => rfl))) (je_frz (jn_slice (je_var 9) (jo_some (je_op op_addU op2_add (je_var 10) je_int)) jo_none)))))) js_nil)
    (js_cons (js_set 11 S.nd (je_call (by exact h.tk) (D.o__law_read) (by exact h.hr.mono (by decide)) (by exact T.g__law_read) (by exact T.F__law_read.kp) (by exact T.b__law_read) (ja_cons (je_var 4) (ja_cons (je_var 9) ja_nil))))
    (js_cons (js_if (jt_cmp op_isN op2_isN (je_var 11) je_non (nomark _)) (js_one (js_ret (je_call (by exact h.tk) (D.o__law_refused) (by exact h.hr.mono (by decide)) (by exact T.g__law_refused) (by exact T.F__law_refused.kp) (by exact T.b__law_refused) (ja_cons (je_var 3) (ja_cons (je_var 9) ja_nil))))) js_nil)
    (js_cons (js_set 12 S.nd (je_call (by exact h.tk) (D.o_read_head) (by exact h.hr.mono (by decide)) (by exact T.g_read_head) (by exact T.F_read_head.kp) (by exact T.b_read_head) (ja_cons (je_var 3) (ja_cons (je_frz (jn_list (by exact T.z_list) (ja_cons (je_var 9) ja_nil))) ja_nil))))
    (js_one (js_ret (je_and (je_call (by exact h.tk) (D.o__law_pairs) (by exact h.hr.mono (by decide)) (by exact T.g__law_pairs) (by exact T.F__law_pairs.kp) (by exact T.b__law_pairs) (ja_cons (je_var 12) (ja_cons (je_ix (je_var 11) je_int (fun _ _ => rfl)) ja_nil))) (je_one (je_call (by exact h.tk) (D.o__law_pairs) (by exact h.hr.mono (by decide)) (by exact T.g__law_pairs) (by exact T.F__law_pairs.kp) (by exact T.b__law_pairs) (ja_cons (je_fld (cs := ["Shelf"]) (by exact T.fl_Shelf_pairs) (je_var 3)) (ja_cons (je_ix (je_var 11) je_int (fun _ _ => rfl)) ja_nil)))))))))))))))))))
/-! ### all defs -/
theorem ok_all (T : Txt K mg A) : DefOk P w K mg base 7 A.f_law A.d_law p_law m_law :=
  have h__law_row := ok__law_row (P := P) (w := w) (base := base) T ⟨trivial⟩
  have h__law_taken := ok__law_taken (P := P) (w := w) (base := base) T ⟨trivial⟩
  have h__law_signs := ok__law_signs (P := P) (w := w) (base := base) T ⟨trivial⟩
  have h__law_text := ok__law_text (P := P) (w := w) (base := base) T ⟨h__law_signs⟩
  have h__law_pool := ok__law_pool (P := P) (w := w) (base := base) T ⟨h__law_taken, h__law_text⟩
  have h_Shelf___init__ := ok_Shelf___init__ (P := P) (w := w) (base := base) T ⟨trivial⟩
  have h__law_told := ok__law_told (P := P) (w := w) (base := base) T ⟨h__law_signs⟩
  have h__law_numbers_by := ok__law_numbers_by (P := P) (w := w) (base := base) T ⟨h__law_taken, h__law_text, h__law_told⟩
  have h__law_text_of := ok__law_text_of (P := P) (w := w) (base := base) T ⟨h__law_signs⟩
  have h__law_pair_of := ok__law_pair_of (P := P) (w := w) (base := base) T ⟨h__law_text_of⟩
  have h__law_put := ok__law_put (P := P) (w := w) (base := base) T ⟨trivial⟩
  have h__law_read := ok__law_read (P := P) (w := w) (base := base) T ⟨h__law_pair_of, h__law_put⟩
  have h_text_size := ok_text_size (P := P) (w := w) (base := base) T ⟨trivial⟩
  have h_sign_of := ok_sign_of (P := P) (w := w) (base := base) T ⟨trivial⟩
  have h_text_at := ok_text_at (P := P) (w := w) (base := base) T ⟨h_text_size, h_sign_of⟩
  have h_pair_weight := ok_pair_weight (P := P) (w := w) (base := base) T ⟨trivial⟩
  have h_Shelf_put := ok_Shelf_put (P := P) (w := w) (base := base) T ⟨h_pair_weight⟩
  have h_kept_pair := ok_kept_pair (P := P) (w := w) (base := base) T ⟨trivial⟩
  have h_name_at := ok_name_at (P := P) (w := w) (base := base) T ⟨h_text_at⟩
  have h_pair_at := ok_pair_at (P := P) (w := w) (base := base) T ⟨h_text_at, h_Shelf_put, h_kept_pair, h_name_at⟩
  have h_read_head := ok_read_head (P := P) (w := w) (base := base) T ⟨h_pair_at⟩
  have h__law_refused := ok__law_refused (P := P) (w := w) (base := base) T ⟨h_read_head⟩
  have h__law_pairs := ok__law_pairs (P := P) (w := w) (base := base) T ⟨trivial⟩
  have h_law := ok_law (P := P) (w := w) (base := base) T ⟨h__law_row, h__law_pool, h_Shelf___init__, h__law_taken, h__law_numbers_by, h__law_read, h_read_head, h_Shelf_put, h__law_put, h__law_refused, h__law_pairs⟩
  h_law
end
end Law
namespace Law
open PySem PySem.Spec L2 Z
theorem law_true : ∀ ns : List Int, ns.length ≤ 63 → (∀ z ∈ ns, Builtin.Int.intBits z ≤ 1048576) → ∃ L, m_law [.rdl (ns.map .int)] [] = .ok (.bl true) L := fun ns _ _ => law_k07 ns
end Law
namespace Law
open PySem PySem.Spec L2 Z
def spLaw (K : PySem.W.Frag) : Sp := fun vs H Q _ => ∃ (a : Addr) (ns : List Int), vs = [.ref a] ∧ SqL K H a (ns.map V.int) ∧ ns.length ≤ 63 ∧ (∀ z ∈ ns, Builtin.Int.intBits z ≤ 1048576) ∧ ∀ H', Q (.bl true) H'
theorem all_mk {l : PySem.W.OpenLaw} {w : World} {K : PySem.W.Frag} {h : Heap} {mg : Str → Option Value} {fa : Addr} (X : K.In h) (G : h.Ns mainGlobals mg) (hfa : mg "law" = some (.ref fa))
    {f0 : Addr} {od0 an0 : Option Addr} {sl0 : Array (Option Value)} {oc0 kV0 dc0 pm0 cd0 ct0 : Value}
    (a0 : PySem.W.nsIn K mainGlobals "_law_row" = some (some (.ref f0)))
    (l0 : K.lookup f0 = some ⟨oc0, od0, .func (PySem.W.fnOf "_law_row" "_law_row" (defArgs s__law_row) (defBody s__law_row) (defScope s__law_row) .none kV0 dc0 pm0 an0 cd0 ct0), sl0⟩) (c0 : PySem.W.codeIn K cd0 "_law_row" = true) (k0 : PySem.W.keepIn K (.ref f0) = true)
    {f1 : Addr} {od1 an1 : Option Addr} {sl1 : Array (Option Value)} {oc1 kV1 dc1 pm1 cd1 ct1 : Value}
    (a1 : PySem.W.nsIn K mainGlobals "_law_taken" = some (some (.ref f1)))
    (l1 : K.lookup f1 = some ⟨oc1, od1, .func (PySem.W.fnOf "_law_taken" "_law_taken" (defArgs s__law_taken) (defBody s__law_taken) (defScope s__law_taken) .none kV1 dc1 pm1 an1 cd1 ct1), sl1⟩) (c1 : PySem.W.codeIn K cd1 "_law_taken" = true) (k1 : PySem.W.keepIn K (.ref f1) = true)
    {f2 : Addr} {od2 an2 : Option Addr} {sl2 : Array (Option Value)} {oc2 kV2 dc2 pm2 cd2 ct2 : Value}
    (a2 : PySem.W.nsIn K mainGlobals "_law_signs" = some (some (.ref f2)))
    (l2 : K.lookup f2 = some ⟨oc2, od2, .func (PySem.W.fnOf "_law_signs" "_law_signs" (defArgs s__law_signs) (defBody s__law_signs) (defScope s__law_signs) .none kV2 dc2 pm2 an2 cd2 ct2), sl2⟩) (c2 : PySem.W.codeIn K cd2 "_law_signs" = true) (k2 : PySem.W.keepIn K (.ref f2) = true)
    {f3 : Addr} {od3 an3 : Option Addr} {sl3 : Array (Option Value)} {oc3 kV3 dc3 pm3 cd3 ct3 : Value}
    (a3 : PySem.W.nsIn K mainGlobals "_law_text" = some (some (.ref f3)))
    (l3 : K.lookup f3 = some ⟨oc3, od3, .func (PySem.W.fnOf "_law_text" "_law_text" (defArgs s__law_text) (defBody s__law_text) (defScope s__law_text) .none kV3 dc3 pm3 an3 cd3 ct3), sl3⟩) (c3 : PySem.W.codeIn K cd3 "_law_text" = true) (k3 : PySem.W.keepIn K (.ref f3) = true)
    {f4 : Addr} {od4 an4 : Option Addr} {sl4 : Array (Option Value)} {oc4 kV4 dc4 pm4 cd4 ct4 : Value}
    (a4 : PySem.W.nsIn K mainGlobals "_law_pool" = some (some (.ref f4)))
    (l4 : K.lookup f4 = some ⟨oc4, od4, .func (PySem.W.fnOf "_law_pool" "_law_pool" (defArgs s__law_pool) (defBody s__law_pool) (defScope s__law_pool) .none kV4 dc4 pm4 an4 cd4 ct4), sl4⟩) (c4 : PySem.W.codeIn K cd4 "_law_pool" = true) (k4 : PySem.W.keepIn K (.ref f4) = true)
    {f5 : Addr} {od5 an5 : Option Addr} {sl5 : Array (Option Value)} {oc5 kV5 dc5 pm5 cd5 ct5 : Value}
    (l5 : K.lookup f5 = some ⟨oc5, od5, .func (PySem.W.fnOf "__init__" "Shelf.__init__" (defArgs s_Shelf___init__) (defBody s_Shelf___init__) (defScope s_Shelf___init__) .none kV5 dc5 pm5 an5 cd5 ct5), sl5⟩) (c5 : PySem.W.codeIn K cd5 "Shelf.__init__" = true) (k5 : PySem.W.keepIn K (.ref f5) = true)
    {f6 : Addr} {od6 an6 : Option Addr} {sl6 : Array (Option Value)} {oc6 kV6 dc6 pm6 cd6 ct6 : Value}
    (a6 : PySem.W.nsIn K mainGlobals "_law_told" = some (some (.ref f6)))
    (l6 : K.lookup f6 = some ⟨oc6, od6, .func (PySem.W.fnOf "_law_told" "_law_told" (defArgs s__law_told) (defBody s__law_told) (defScope s__law_told) .none kV6 dc6 pm6 an6 cd6 ct6), sl6⟩) (c6 : PySem.W.codeIn K cd6 "_law_told" = true) (k6 : PySem.W.keepIn K (.ref f6) = true)
    {f7 : Addr} {od7 an7 : Option Addr} {sl7 : Array (Option Value)} {oc7 kV7 dc7 pm7 cd7 ct7 : Value}
    (a7 : PySem.W.nsIn K mainGlobals "_law_numbers_by" = some (some (.ref f7)))
    (l7 : K.lookup f7 = some ⟨oc7, od7, .func (PySem.W.fnOf "_law_numbers_by" "_law_numbers_by" (defArgs s__law_numbers_by) (defBody s__law_numbers_by) (defScope s__law_numbers_by) .none kV7 dc7 pm7 an7 cd7 ct7), sl7⟩) (c7 : PySem.W.codeIn K cd7 "_law_numbers_by" = true) (k7 : PySem.W.keepIn K (.ref f7) = true)
    {f8 : Addr} {od8 an8 : Option Addr} {sl8 : Array (Option Value)} {oc8 kV8 dc8 pm8 cd8 ct8 : Value}
    (a8 : PySem.W.nsIn K mainGlobals "_law_text_of" = some (some (.ref f8)))
    (l8 : K.lookup f8 = some ⟨oc8, od8, .func (PySem.W.fnOf "_law_text_of" "_law_text_of" (defArgs s__law_text_of) (defBody s__law_text_of) (defScope s__law_text_of) .none kV8 dc8 pm8 an8 cd8 ct8), sl8⟩) (c8 : PySem.W.codeIn K cd8 "_law_text_of" = true) (k8 : PySem.W.keepIn K (.ref f8) = true)
    {f9 : Addr} {od9 an9 : Option Addr} {sl9 : Array (Option Value)} {oc9 kV9 dc9 pm9 cd9 ct9 : Value}
    (a9 : PySem.W.nsIn K mainGlobals "_law_pair_of" = some (some (.ref f9)))
    (l9 : K.lookup f9 = some ⟨oc9, od9, .func (PySem.W.fnOf "_law_pair_of" "_law_pair_of" (defArgs s__law_pair_of) (defBody s__law_pair_of) (defScope s__law_pair_of) .none kV9 dc9 pm9 an9 cd9 ct9), sl9⟩) (c9 : PySem.W.codeIn K cd9 "_law_pair_of" = true) (k9 : PySem.W.keepIn K (.ref f9) = true)
    {f10 : Addr} {od10 an10 : Option Addr} {sl10 : Array (Option Value)} {oc10 kV10 dc10 pm10 cd10 ct10 : Value}
    (a10 : PySem.W.nsIn K mainGlobals "_law_put" = some (some (.ref f10)))
    (l10 : K.lookup f10 = some ⟨oc10, od10, .func (PySem.W.fnOf "_law_put" "_law_put" (defArgs s__law_put) (defBody s__law_put) (defScope s__law_put) .none kV10 dc10 pm10 an10 cd10 ct10), sl10⟩) (c10 : PySem.W.codeIn K cd10 "_law_put" = true) (k10 : PySem.W.keepIn K (.ref f10) = true)
    {f11 : Addr} {od11 an11 : Option Addr} {sl11 : Array (Option Value)} {oc11 kV11 dc11 pm11 cd11 ct11 : Value}
    (a11 : PySem.W.nsIn K mainGlobals "_law_read" = some (some (.ref f11)))
    (l11 : K.lookup f11 = some ⟨oc11, od11, .func (PySem.W.fnOf "_law_read" "_law_read" (defArgs s__law_read) (defBody s__law_read) (defScope s__law_read) .none kV11 dc11 pm11 an11 cd11 ct11), sl11⟩) (c11 : PySem.W.codeIn K cd11 "_law_read" = true) (k11 : PySem.W.keepIn K (.ref f11) = true)
    {f12 : Addr} {od12 an12 : Option Addr} {sl12 : Array (Option Value)} {oc12 kV12 dc12 pm12 cd12 ct12 : Value}
    (a12 : PySem.W.nsIn K mainGlobals "text_size" = some (some (.ref f12)))
    (l12 : K.lookup f12 = some ⟨oc12, od12, .func (PySem.W.fnOf "text_size" "text_size" (defArgs s_text_size) (defBody s_text_size) (defScope s_text_size) .none kV12 dc12 pm12 an12 cd12 ct12), sl12⟩) (c12 : PySem.W.codeIn K cd12 "text_size" = true) (k12 : PySem.W.keepIn K (.ref f12) = true)
    {f13 : Addr} {od13 an13 : Option Addr} {sl13 : Array (Option Value)} {oc13 kV13 dc13 pm13 cd13 ct13 : Value}
    (a13 : PySem.W.nsIn K mainGlobals "sign_of" = some (some (.ref f13)))
    (l13 : K.lookup f13 = some ⟨oc13, od13, .func (PySem.W.fnOf "sign_of" "sign_of" (defArgs s_sign_of) (defBody s_sign_of) (defScope s_sign_of) .none kV13 dc13 pm13 an13 cd13 ct13), sl13⟩) (c13 : PySem.W.codeIn K cd13 "sign_of" = true) (k13 : PySem.W.keepIn K (.ref f13) = true)
    {f14 : Addr} {od14 an14 : Option Addr} {sl14 : Array (Option Value)} {oc14 kV14 dc14 pm14 cd14 ct14 : Value}
    (a14 : PySem.W.nsIn K mainGlobals "text_at" = some (some (.ref f14)))
    (l14 : K.lookup f14 = some ⟨oc14, od14, .func (PySem.W.fnOf "text_at" "text_at" (defArgs s_text_at) (defBody s_text_at) (defScope s_text_at) .none kV14 dc14 pm14 an14 cd14 ct14), sl14⟩) (c14 : PySem.W.codeIn K cd14 "text_at" = true) (k14 : PySem.W.keepIn K (.ref f14) = true)
    {f15 : Addr} {od15 an15 : Option Addr} {sl15 : Array (Option Value)} {oc15 kV15 dc15 pm15 cd15 ct15 : Value}
    (a15 : PySem.W.nsIn K mainGlobals "pair_weight" = some (some (.ref f15)))
    (l15 : K.lookup f15 = some ⟨oc15, od15, .func (PySem.W.fnOf "pair_weight" "pair_weight" (defArgs s_pair_weight) (defBody s_pair_weight) (defScope s_pair_weight) .none kV15 dc15 pm15 an15 cd15 ct15), sl15⟩) (c15 : PySem.W.codeIn K cd15 "pair_weight" = true) (k15 : PySem.W.keepIn K (.ref f15) = true)
    {f16 : Addr} {od16 an16 : Option Addr} {sl16 : Array (Option Value)} {oc16 kV16 dc16 pm16 cd16 ct16 : Value}
    (l16 : K.lookup f16 = some ⟨oc16, od16, .func (PySem.W.fnOf "put" "Shelf.put" (defArgs s_Shelf_put) (defBody s_Shelf_put) (defScope s_Shelf_put) .none kV16 dc16 pm16 an16 cd16 ct16), sl16⟩) (c16 : PySem.W.codeIn K cd16 "Shelf.put" = true) (k16 : PySem.W.keepIn K (.ref f16) = true)
    {f17 : Addr} {od17 an17 : Option Addr} {sl17 : Array (Option Value)} {oc17 kV17 dc17 pm17 cd17 ct17 : Value}
    (a17 : PySem.W.nsIn K mainGlobals "kept_pair" = some (some (.ref f17)))
    (l17 : K.lookup f17 = some ⟨oc17, od17, .func (PySem.W.fnOf "kept_pair" "kept_pair" (defArgs s_kept_pair) (defBody s_kept_pair) (defScope s_kept_pair) .none kV17 dc17 pm17 an17 cd17 ct17), sl17⟩) (c17 : PySem.W.codeIn K cd17 "kept_pair" = true) (k17 : PySem.W.keepIn K (.ref f17) = true)
    {f18 : Addr} {od18 an18 : Option Addr} {sl18 : Array (Option Value)} {oc18 kV18 dc18 pm18 cd18 ct18 : Value}
    (a18 : PySem.W.nsIn K mainGlobals "name_at" = some (some (.ref f18)))
    (l18 : K.lookup f18 = some ⟨oc18, od18, .func (PySem.W.fnOf "name_at" "name_at" (defArgs s_name_at) (defBody s_name_at) (defScope s_name_at) .none kV18 dc18 pm18 an18 cd18 ct18), sl18⟩) (c18 : PySem.W.codeIn K cd18 "name_at" = true) (k18 : PySem.W.keepIn K (.ref f18) = true)
    {f19 : Addr} {od19 an19 : Option Addr} {sl19 : Array (Option Value)} {oc19 kV19 dc19 pm19 cd19 ct19 : Value}
    (a19 : PySem.W.nsIn K mainGlobals "pair_at" = some (some (.ref f19)))
    (l19 : K.lookup f19 = some ⟨oc19, od19, .func (PySem.W.fnOf "pair_at" "pair_at" (defArgs s_pair_at) (defBody s_pair_at) (defScope s_pair_at) .none kV19 dc19 pm19 an19 cd19 ct19), sl19⟩) (c19 : PySem.W.codeIn K cd19 "pair_at" = true) (k19 : PySem.W.keepIn K (.ref f19) = true)
    {f20 : Addr} {od20 an20 : Option Addr} {sl20 : Array (Option Value)} {oc20 kV20 dc20 pm20 cd20 ct20 : Value}
    (a20 : PySem.W.nsIn K mainGlobals "read_head" = some (some (.ref f20)))
    (l20 : K.lookup f20 = some ⟨oc20, od20, .func (PySem.W.fnOf "read_head" "read_head" (defArgs s_read_head) (defBody s_read_head) (defScope s_read_head) .none kV20 dc20 pm20 an20 cd20 ct20), sl20⟩) (c20 : PySem.W.codeIn K cd20 "read_head" = true) (k20 : PySem.W.keepIn K (.ref f20) = true)
    {f21 : Addr} {od21 an21 : Option Addr} {sl21 : Array (Option Value)} {oc21 kV21 dc21 pm21 cd21 ct21 : Value}
    (a21 : PySem.W.nsIn K mainGlobals "_law_refused" = some (some (.ref f21)))
    (l21 : K.lookup f21 = some ⟨oc21, od21, .func (PySem.W.fnOf "_law_refused" "_law_refused" (defArgs s__law_refused) (defBody s__law_refused) (defScope s__law_refused) .none kV21 dc21 pm21 an21 cd21 ct21), sl21⟩) (c21 : PySem.W.codeIn K cd21 "_law_refused" = true) (k21 : PySem.W.keepIn K (.ref f21) = true)
    {f22 : Addr} {od22 an22 : Option Addr} {sl22 : Array (Option Value)} {oc22 kV22 dc22 pm22 cd22 ct22 : Value}
    (a22 : PySem.W.nsIn K mainGlobals "_law_pairs" = some (some (.ref f22)))
    (l22 : K.lookup f22 = some ⟨oc22, od22, .func (PySem.W.fnOf "_law_pairs" "_law_pairs" (defArgs s__law_pairs) (defBody s__law_pairs) (defScope s__law_pairs) .none kV22 dc22 pm22 an22 cd22 ct22), sl22⟩) (c22 : PySem.W.codeIn K cd22 "_law_pairs" = true) (k22 : PySem.W.keepIn K (.ref f22) = true)
    {f23 : Addr} {od23 an23 : Option Addr} {sl23 : Array (Option Value)} {oc23 kV23 dc23 pm23 cd23 ct23 : Value}
    (a23 : PySem.W.nsIn K mainGlobals "law" = some (some (.ref f23)))
    (l23 : K.lookup f23 = some ⟨oc23, od23, .func (PySem.W.fnOf "law" "law" (defArgs s_law) (defBody s_law) (defScope s_law) .none kV23 dc23 pm23 an23 cd23 ct23), sl23⟩) (c23 : PySem.W.codeIn K cd23 "law" = true) (k23 : PySem.W.keepIn K (.ref f23) = true)
    (z0 : PySem.W.nsIn K mainGlobals "ValueError" = some none)
    (z1 : PySem.W.nsIn K mainGlobals "int" = some none)
    (z2 : PySem.W.nsIn K mainGlobals "isinstance" = some none)
    (z3 : PySem.W.nsIn K mainGlobals "len" = some none)
    (z4 : PySem.W.nsIn K mainGlobals "list" = some none)
    (z5 : PySem.W.nsIn K mainGlobals "range" = some none)
    (z6 : PySem.W.nsIn K mainGlobals "str" = some none)
    (z7 : PySem.W.nsIn K mainGlobals "sum" = some none)
    (z8 : PySem.W.nsIn K mainGlobals "tuple" = some none)
    {t0 : Tok} (n0 : PySem.W.nsIn K mainGlobals "FULL" = some (some (.int 2 t0)))
    {t1 : Tok} (n1 : PySem.W.nsIn K mainGlobals "LONGEST_NAME" = some (some (.int 8 t1)))
    {t2 : Tok} (n2 : PySem.W.nsIn K mainGlobals "LONGEST_TEXT" = some (some (.int 20 t2)))
    {t3 : Tok} (n3 : PySem.W.nsIn K mainGlobals "MOST_PAIRS" = some (some (.int 6 t3)))
    {t4 : Tok} (n4 : PySem.W.nsIn K mainGlobals "MOST_WEIGHT" = some (some (.int 96 t4)))
    {t5 : Tok} (n5 : PySem.W.nsIn K mainGlobals "NAMED" = some (some (.int 1 t5)))
    {t6 : Tok} (n6 : PySem.W.nsIn K mainGlobals "SIGNS" = some (some (.str v_SIGNS t6)))
    {t7 : Tok} (n7 : PySem.W.nsIn K mainGlobals "WEIGHT_OF_A_PAIR" = some (some (.int 4 t7)))
    {t8 : Tok} (n8 : PySem.W.nsIn K mainGlobals "WHOLE" = some (some (.int 0 t8)))
    {C0 : Addr} (e0 : PySem.W.nsIn K mainGlobals "BadHead" = some (some (.ref C0)))
    {C1 : Addr} (e1 : PySem.W.nsIn K mainGlobals "LineError" = some (some (.ref C1)))
    {C2 : Addr} (e2 : PySem.W.nsIn K mainGlobals "NoDeed" = some (some (.ref C2)))
    {C3 : Addr} (e3 : PySem.W.nsIn K mainGlobals "Shelf" = some (some (.ref C3)))
    (mBadHeadLineError : PySem.W.exmOne K (.ref C0) (.ref C1) = some true)
    (iBadHeadBadHead : PySem.W.kitOne K (.ref C0) (.ref C0) = some true)
    (iBadHeadNoDeed : PySem.W.kitOne K (.ref C0) (.ref C2) = some false)
    (iBadHeadValueError : PySem.W.kitOne K (.ref C0) (.type "ValueError") = some true)
    (u0 : PySem.W.findIn K (.ref C0) "__getattribute__" = some (some (.builtin "BaseException.__getattribute__"))) (v0 : PySem.W.findIn K (.ref C0) "__getattr__" = some none) (us0 : PySem.W.subIn K (.ref C0) (.type "BaseException") = some true)
    (w0 : PySem.W.hasDictIn K C0 = true) (ua0 : PySem.W.findIn K (.ref C0) "__class__" = some (some (.builtin "object.__class__"))) (ug0 : PySem.W.specialIn K (.builtin "object.__class__") "__get__" = some (some (.builtin "getset_descriptor.__get__")))
    (ut0 : PySem.W.takesIn K (.builtin "object.__class__") = some true) (um0 : PySem.W.mroIn K C0 (.type "object") = some true)
    (mi3 : PySem.W.findIn K (.ref C3) "__init__" = some (some (.ref f5))) (mm3 : PySem.W.makesIn K C3 = true) (mf3 : PySem.W.isFn K (.ref f5) = true) (mk3 : PySem.W.keepIn K (.ref C3) = true)
    (ma16 : PySem.W.findIn K (.ref C3) "put" = some (some (.ref f16))) (mg16 : PySem.W.isFn K (.ref f16) = true) (mh16 : PySem.W.keepIn K (.ref f16) = true)
    (cp3 : PySem.W.plainGet K C3 Str.empty = true) (ch3 : PySem.W.hasDictIn K C3 = true) (co3 : PySem.W.plainOver K C3 = true) (cs3 : PySem.W.findIn K (.ref C3) "__setattr__" = some (some (.builtin "object.__setattr__")))
    (naShelfpairs : PySem.W.findIn K (.ref C3) "pairs" = some none)
    (x0 : PySem.W.excIn K C0 [.type "ValueError", .type "Exception", .type "BaseException", .type "object"] "ValueError.__new__" = true) (xk0 : PySem.W.keepIn K (.ref C0) = true) (xs0 : PySem.W.subIn K (.ref C0) (.type "BaseException") = some true) (xt0 : PySem.W.typeIn K (.ref C0) = some (.type "type"))
    : ∃ fd : FuncData, (∀ (s : Shared) (v : Value), BindsTo s fd ⟨[v], []⟩ [("_law_script", v)]) ∧ ∀ base : Heap, K.In base → base.Ns mainGlobals mg → FnOk l.prog w K mg base (L2.CX l.prog w) 7 fa fd ["_law_script"] (spLaw K) := by
  have e := hfa.symm.trans (PySem.W.mg_of X G a23)
  cases e
  have F0 := fun_mk (st := s__law_row) l0 c0 k0
  have F1 := fun_mk (st := s__law_taken) l1 c1 k1
  have F2 := fun_mk (st := s__law_signs) l2 c2 k2
  have F3 := fun_mk (st := s__law_text) l3 c3 k3
  have F4 := fun_mk (st := s__law_pool) l4 c4 k4
  have F5 := fun_mk (st := s_Shelf___init__) l5 c5 k5
  have F6 := fun_mk (st := s__law_told) l6 c6 k6
  have F7 := fun_mk (st := s__law_numbers_by) l7 c7 k7
  have F8 := fun_mk (st := s__law_text_of) l8 c8 k8
  have F9 := fun_mk (st := s__law_pair_of) l9 c9 k9
  have F10 := fun_mk (st := s__law_put) l10 c10 k10
  have F11 := fun_mk (st := s__law_read) l11 c11 k11
  have F12 := fun_mk (st := s_text_size) l12 c12 k12
  have F13 := fun_mk (st := s_sign_of) l13 c13 k13
  have F14 := fun_mk (st := s_text_at) l14 c14 k14
  have F15 := fun_mk (st := s_pair_weight) l15 c15 k15
  have F16 := fun_mk (st := s_Shelf_put) l16 c16 k16
  have F17 := fun_mk (st := s_kept_pair) l17 c17 k17
  have F18 := fun_mk (st := s_name_at) l18 c18 k18
  have F19 := fun_mk (st := s_pair_at) l19 c19 k19
  have F20 := fun_mk (st := s_read_head) l20 c20 k20
  have F21 := fun_mk (st := s__law_refused) l21 c21 k21
  have F22 := fun_mk (st := s__law_pairs) l22 c22 k22
  have F23 := fun_mk (st := s_law) l23 c23 k23
  have T : Txt K mg ⟨f0, _, f1, _, f2, _, f3, _, f4, _, f5, _, f6, _, f7, _, f8, _, f9, _, f10, _, f11, _, f12, _, f13, _, f14, _, f15, _, f16, _, f17, _, f18, _, f19, _, f20, _, f21, _, f22, _, fa, _, C0, C1, C2, C3⟩ := ⟨F0,
    F0.binds (ps := p__law_row) fun _ _ _ _ _ _ us hl => match us, hl with | [_], _ => rfl,
    PySem.W.mg_of X G a0,
    F1,
    F1.binds (ps := p__law_taken) fun _ _ _ _ _ _ us hl => match us, hl with | [_, _], _ => rfl,
    PySem.W.mg_of X G a1,
    F2,
    F2.binds (ps := p__law_signs) fun _ _ _ _ _ _ us hl => match us, hl with | [], _ => rfl,
    PySem.W.mg_of X G a2,
    F3,
    F3.binds (ps := p__law_text) fun _ _ _ _ _ _ us hl => match us, hl with | [_, _], _ => rfl,
    PySem.W.mg_of X G a3,
    F4,
    F4.binds (ps := p__law_pool) fun _ _ _ _ _ _ us hl => match us, hl with | [_], _ => rfl,
    PySem.W.mg_of X G a4,
    F5,
    F5.binds (ps := p_Shelf___init__) fun _ _ _ _ _ _ us hl => match us, hl with | [_], _ => rfl,
    F6,
    F6.binds (ps := p__law_told) fun _ _ _ _ _ _ us hl => match us, hl with | [_], _ => rfl,
    PySem.W.mg_of X G a6,
    F7,
    F7.binds (ps := p__law_numbers_by) fun _ _ _ _ _ _ us hl => match us, hl with | [_, _, _], _ => rfl,
    PySem.W.mg_of X G a7,
    F8,
    F8.binds (ps := p__law_text_of) fun _ _ _ _ _ _ us hl => match us, hl with | [_, _], _ => rfl,
    PySem.W.mg_of X G a8,
    F9,
    F9.binds (ps := p__law_pair_of) fun _ _ _ _ _ _ us hl => match us, hl with | [_, _, _], _ => rfl,
    PySem.W.mg_of X G a9,
    F10,
    F10.binds (ps := p__law_put) fun _ _ _ _ _ _ us hl => match us, hl with | [_, _], _ => rfl,
    PySem.W.mg_of X G a10,
    F11,
    F11.binds (ps := p__law_read) fun _ _ _ _ _ _ us hl => match us, hl with | [_, _], _ => rfl,
    PySem.W.mg_of X G a11,
    F12,
    F12.binds (ps := p_text_size) fun _ _ _ _ _ _ us hl => match us, hl with | [_, _], _ => rfl,
    PySem.W.mg_of X G a12,
    F13,
    F13.binds (ps := p_sign_of) fun _ _ _ _ _ _ us hl => match us, hl with | [_], _ => rfl,
    PySem.W.mg_of X G a13,
    F14,
    F14.binds (ps := p_text_at) fun _ _ _ _ _ _ us hl => match us, hl with | [_, _], _ => rfl,
    PySem.W.mg_of X G a14,
    F15,
    F15.binds (ps := p_pair_weight) fun _ _ _ _ _ _ us hl => match us, hl with | [_], _ => rfl,
    PySem.W.mg_of X G a15,
    F16,
    F16.binds (ps := p_Shelf_put) fun _ _ _ _ _ _ us hl => match us, hl with | [_, _], _ => rfl,
    F17,
    F17.binds (ps := p_kept_pair) fun _ _ _ _ _ _ us hl => match us, hl with | [_, _, _], _ => rfl,
    PySem.W.mg_of X G a17,
    F18,
    F18.binds (ps := p_name_at) fun _ _ _ _ _ _ us hl => match us, hl with | [_, _], _ => rfl,
    PySem.W.mg_of X G a18,
    F19,
    F19.binds (ps := p_pair_at) fun _ _ _ _ _ _ us hl => match us, hl with | [_, _, _], _ => rfl,
    PySem.W.mg_of X G a19,
    F20,
    F20.binds (ps := p_read_head) fun _ _ _ _ _ _ us hl => match us, hl with | [_, _], _ => rfl,
    PySem.W.mg_of X G a20,
    F21,
    F21.binds (ps := p__law_refused) fun _ _ _ _ _ _ us hl => match us, hl with | [_, _], _ => rfl,
    PySem.W.mg_of X G a21,
    F22,
    F22.binds (ps := p__law_pairs) fun _ _ _ _ _ _ us hl => match us, hl with | [_, _], _ => rfl,
    PySem.W.mg_of X G a22,
    F23,
    F23.binds (ps := p_law) fun _ _ _ _ _ _ us hl => match us, hl with | [_], _ => rfl,
    PySem.W.mg_of X G a23,
    PySem.W.mg_none_of X G z0,
    PySem.W.mg_none_of X G z1,
    PySem.W.mg_none_of X G z2,
    PySem.W.mg_none_of X G z3,
    PySem.W.mg_none_of X G z4,
    PySem.W.mg_none_of X G z5,
    PySem.W.mg_none_of X G z6,
    PySem.W.mg_none_of X G z7,
    PySem.W.mg_none_of X G z8,
    ⟨_, PySem.W.mg_of X G n0⟩,
    ⟨_, PySem.W.mg_of X G n1⟩,
    ⟨_, PySem.W.mg_of X G n2⟩,
    ⟨_, PySem.W.mg_of X G n3⟩,
    ⟨_, PySem.W.mg_of X G n4⟩,
    ⟨_, PySem.W.mg_of X G n5⟩,
    ⟨_, PySem.W.mg_of X G n6⟩,
    ⟨_, PySem.W.mg_of X G n7⟩,
    ⟨_, PySem.W.mg_of X G n8⟩,
    PySem.W.mg_of X G e0,
    PySem.W.mg_of X G e1,
    PySem.W.mg_of X G e2,
    PySem.W.mg_of X G e3,
    ⟨x0, xk0, xs0, xt0⟩,
    mBadHeadLineError,
    iBadHeadBadHead,
    iBadHeadNoDeed,
    iBadHeadValueError,
    ⟨u0, v0, us0, w0, ua0, ug0, ut0, um0⟩,
    ⟨cp3, ch3, co3, cs3⟩,
    fun c hc D hD => by
      cases List.mem_singleton.mp hc
      cases (PySem.W.mg_of X G e3).symm.trans hD
      exact ⟨⟨cp3, ch3, co3, cs3⟩, naShelfpairs⟩,
    ⟨mm3, mi3, mf3, mk3⟩,
    ⟨ma16, mg16, mh16⟩⟩
  exact ⟨_, fun s v => .of_eq rfl, fun base _ _ => FnOk.imp (ok_all T) fun vs H Q E ⟨a, ns, e, hS, hl, hb, q⟩ => by
    obtain ⟨L, hm⟩ := law_true ns hl hb
    subst e
    exact law_start hS hm q⟩
end Law
open PySem PySem.W PyProof.Rows
set_option maxRecDepth 100000 in
set_option maxHeartbeats 0 in
theorem PySem.Challenge.cw_oneline_k07_heads_read_or_refused_holds : PySem.Challenge.rw_oneline_k07_heads_read_or_refused.Holds := by
  w_on; o_law; k_head; (case hw => w_witness2)
  k_fill
  refine L2.walk_ofB (l := PySem.Challenge.rw_oneline_k07_heads_read_or_refused) (n := 63) (k := 7) (x := "_law_script") (CX := fun w => L2.CX PySem.Challenge.rw_oneline_k07_heads_read_or_refused.prog w) (sp := fun w => Law.spLaw _) rfl (by decide) rfl ⟨rfl, by decide, by decide⟩ (fun w h Y => PySem.W.kIn_of Y) ?F (fun _ _ a ns hl hb _ hS => ⟨a, ns, rfl, hS, hl, hb, fun _ => rfl⟩) (fun _ _ _ _ _ ⟨_, _, _, _, _, _, _, _, _, _, _, _, z⟩ => z)
  case F =>
    intro w mg fa h KX G hmg
    refine' Law.all_mk KX G hmg (a0 := ?a0) (l0 := ?l0) (c0 := ?c0) (k0 := ?k0) (a1 := ?a1) (l1 := ?l1) (c1 := ?c1) (k1 := ?k1) (a2 := ?a2) (l2 := ?l2) (c2 := ?c2) (k2 := ?k2) (a3 := ?a3) (l3 := ?l3) (c3 := ?c3) (k3 := ?k3) (a4 := ?a4) (l4 := ?l4) (c4 := ?c4) (k4 := ?k4) (l5 := ?l5) (c5 := ?c5) (k5 := ?k5) (a6 := ?a6) (l6 := ?l6) (c6 := ?c6) (k6 := ?k6) (a7 := ?a7) (l7 := ?l7) (c7 := ?c7) (k7 := ?k7) (a8 := ?a8) (l8 := ?l8) (c8 := ?c8) (k8 := ?k8) (a9 := ?a9) (l9 := ?l9) (c9 := ?c9) (k9 := ?k9) (a10 := ?a10) (l10 := ?l10) (c10 := ?c10) (k10 := ?k10) (a11 := ?a11) (l11 := ?l11) (c11 := ?c11) (k11 := ?k11) (a12 := ?a12) (l12 := ?l12) (c12 := ?c12) (k12 := ?k12) (a13 := ?a13) (l13 := ?l13) (c13 := ?c13) (k13 := ?k13) (a14 := ?a14) (l14 := ?l14) (c14 := ?c14) (k14 := ?k14) (a15 := ?a15) (l15 := ?l15) (c15 := ?c15) (k15 := ?k15) (l16 := ?l16) (c16 := ?c16) (k16 := ?k16) (a17 := ?a17) (l17 := ?l17) (c17 := ?c17) (k17 := ?k17) (a18 := ?a18) (l18 := ?l18) (c18 := ?c18) (k18 := ?k18) (a19 := ?a19) (l19 := ?l19) (c19 := ?c19) (k19 := ?k19) (a20 := ?a20) (l20 := ?l20) (c20 := ?c20) (k20 := ?k20) (a21 := ?a21) (l21 := ?l21) (c21 := ?c21) (k21 := ?k21) (a22 := ?a22) (l22 := ?l22) (c22 := ?c22) (k22 := ?k22) (a23 := ?a23) (l23 := ?l23) (c23 := ?c23) (k23 := ?k23) (z0 := ?z0) (z1 := ?z1) (z2 := ?z2) (z3 := ?z3) (z4 := ?z4) (z5 := ?z5) (z6 := ?z6) (z7 := ?z7) (z8 := ?z8) (n0 := ?n0) (n1 := ?n1) (n2 := ?n2) (n3 := ?n3) (n4 := ?n4) (n5 := ?n5) (n6 := ?n6) (n7 := ?n7) (n8 := ?n8) (e0 := ?e0) (e1 := ?e1) (e2 := ?e2) (e3 := ?e3) (mBadHeadLineError := ?mBadHeadLineError) (iBadHeadBadHead := ?iBadHeadBadHead) (iBadHeadNoDeed := ?iBadHeadNoDeed) (iBadHeadValueError := ?iBadHeadValueError) (u0 := ?u0) (v0 := ?v0) (us0 := ?us0) (w0 := ?w0) (ua0 := ?ua0) (ug0 := ?ug0) (ut0 := ?ut0) (um0 := ?um0) (cp3 := ?cp3) (ch3 := ?ch3) (co3 := ?co3) (cs3 := ?cs3) (naShelfpairs := ?naShelfpairs) (x0 := ?x0) (xk0 := ?xk0) (xs0 := ?xs0) (xt0 := ?xt0) (mi3 := ?mi3) (mm3 := ?mm3) (mf3 := ?mf3) (mk3 := ?mk3) (ma16 := ?ma16) (mg16 := ?mg16) (mh16 := ?mh16)
    (case a0 => k_is); (case a1 => k_is); (case a2 => k_is); (case a3 => k_is); (case a4 => k_is); (case a6 => k_is); (case a7 => k_is); (case a8 => k_is); (case a9 => k_is); (case a10 => k_is); (case a11 => k_is); (case a12 => k_is); (case a13 => k_is); (case a14 => k_is); (case a15 => k_is); (case a17 => k_is); (case a18 => k_is); (case a19 => k_is); (case a20 => k_is); (case a21 => k_is); (case a22 => k_is); (case a23 => k_is); (case e0 => k_is); (case e1 => k_is); (case e2 => k_is); (case e3 => k_is); (case mi3 => k_is); (case mm3 => k_is); (case mf3 => k_is); (case mk3 => k_is); (case ma16 => k_is); (case mg16 => k_is); (case mh16 => k_is); (case l0 => k_is); (case c0 => k_is); (case k0 => k_is); (case l1 => k_is); (case c1 => k_is); (case k1 => k_is); (case l2 => k_is); (case c2 => k_is); (case k2 => k_is); (case l3 => k_is); (case c3 => k_is); (case k3 => k_is); (case l4 => k_is); (case c4 => k_is); (case k4 => k_is); (case l5 => k_is); (case c5 => k_is); (case k5 => k_is); (case l6 => k_is); (case c6 => k_is); (case k6 => k_is); (case l7 => k_is); (case c7 => k_is); (case k7 => k_is); (case l8 => k_is); (case c8 => k_is); (case k8 => k_is); (case l9 => k_is); (case c9 => k_is); (case k9 => k_is); (case l10 => k_is); (case c10 => k_is); (case k10 => k_is); (case l11 => k_is); (case c11 => k_is); (case k11 => k_is); (case l12 => k_is); (case c12 => k_is); (case k12 => k_is); (case l13 => k_is); (case c13 => k_is); (case k13 => k_is); (case l14 => k_is); (case c14 => k_is); (case k14 => k_is); (case l15 => k_is); (case c15 => k_is); (case k15 => k_is); (case l16 => k_is); (case c16 => k_is); (case k16 => k_is); (case l17 => k_is); (case c17 => k_is); (case k17 => k_is); (case l18 => k_is); (case c18 => k_is); (case k18 => k_is); (case l19 => k_is); (case c19 => k_is); (case k19 => k_is); (case l20 => k_is); (case c20 => k_is); (case k20 => k_is); (case l21 => k_is); (case c21 => k_is); (case k21 => k_is); (case l22 => k_is); (case c22 => k_is); (case k22 => k_is); (case l23 => k_is); (case c23 => k_is); (case k23 => k_is); (case z0 => k_is); (case z1 => k_is); (case z2 => k_is); (case z3 => k_is); (case z4 => k_is); (case z5 => k_is); (case z6 => k_is); (case z7 => k_is); (case z8 => k_is); (case n0 => k_is); (case n1 => k_is); (case n2 => k_is); (case n3 => k_is); (case n4 => k_is); (case n5 => k_is); (case n6 => k_is); (case n7 => k_is); (case n8 => k_is); (case mBadHeadLineError => first | rfl | k_is); (case iBadHeadBadHead => first | rfl | k_is); (case iBadHeadNoDeed => first | rfl | k_is); (case iBadHeadValueError => first | rfl | k_is); (case u0 => k_is); (case v0 => k_is); (case us0 => k_is); (case w0 => k_is); (case ua0 => k_is); (case ug0 => k_is); (case ut0 => k_is); (case um0 => k_is); (case cp3 => k_is); (case ch3 => k_is); (case co3 => k_is); (case cs3 => k_is); (case naShelfpairs => k_is); (case x0 => k_exc); (case xk0 => k_is); (case xs0 => k_is); (case xt0 => k_is)
