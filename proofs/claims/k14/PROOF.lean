import PyProof.Rows.All
import Wide.All
import OpenK.AllK
import Wide.FinOn
import HandS.ForMost
import HandS.ForExc
import HandS.Wide
import HandS.EndBits
import HandS.StrMore
import HandS.IsInst
import HandS.Walk
import PyProof.ReprRoads
import KE.KDictWalk
import HandS.ExcInit
import HandS.ExcValue
import HandS.ExcIs
import HandS.ExcField
import HandS.FStrTup
import HandS.FStr
import HandS.MakeKw
import KE.KExcIs
import PyProof.ReprBulk
import PyProof.WalksMore
import KE.KSortTupAny
import HandS.TupSets
import HandS.Keys
import HandS.DictComp
import HandS.Rev
import PyProof.InstNe
import KE.KEqDict
import PyProof.P3In
import PySem.Challenge.RW_retime_k14_whole_distances
set_option Elab.async false
set_option linter.all false
set_option maxRecDepth 100000
set_option maxHeartbeats 4000000
/-! defs whose promise holds where no repr is under way -/
namespace Rt
open PySem PySem.Spec L2
open PyProof.Rows hiding St

structure FnG (P : Program) (w : World) (K : PySem.W.Frag) (mg : Str → Option Value) (base : Heap) (k : Nat) (f : Addr) (fd : FuncData) (ps : List Str) (sp : Sp) : Prop where
  ar : ∀ vs H Q E, sp vs H Q E → vs.length = ps.length
  go : ∀ (A : Around) (out : List Env) (s : Shared) (H : Hp) (args : Args) (us : List Value) (vs : List V) (Q : VK) (E : XK),
    A.guards = some [] → Room k A → Env0 P w K mg base A out s H → BindsTo s fd args (ps.zip us) → Vals vs us → sp vs H Q E →
    codeAny (model P w) A (.call (.ref f) args) (CR (L2.CX P w) out P w H s Q E) s
theorem FnG.lift {P : Program} {w : World} {K : PySem.W.Frag} {mg : Str → Option Value} {base : Heap} {j k : Nat} {f : Addr} {fd : FuncData} {ps : List Str} {sp : Sp}
    (F : FnG P w K mg base j f fd ps sp) (h : j ≤ k) : FnG P w K mg base k f fd ps sp :=
  ⟨F.ar, fun A out s H args us vs Q E hg hr => F.go A out s H args us vs Q E hg (hr.mono h)⟩
theorem FnG.weak {P : Program} {w : World} {K : PySem.W.Frag} {mg : Str → Option Value} {base : Heap} {k : Nat} {f : Addr} {fd : FuncData} {ps : List Str} {sp sp' : Sp}
    (F : FnG P w K mg base k f fd ps sp) (h : ∀ vs H Q E, sp' vs H Q E → sp vs H Q E) : FnG P w K mg base k f fd ps sp' :=
  ⟨fun vs H Q E q => F.ar vs H Q E (h _ _ _ _ q), fun A out s H args us vs Q E hg hr he hb hv q => F.go A out s H args us vs Q E hg hr he hb hv (h _ _ _ _ q)⟩

section
variable {P : Program} {w : World} {K : PySem.W.Frag} {mg : Str → Option Value} {base : Heap}
/-- the context of a def's body -/
abbrev bodyCx (P : Program) (w : World) (K : PySem.W.Frag) (mg : Str → Option Value) (base : Heap) (N : List Str) (qual : Str) (sc : Scope) (f : Addr) (cd : Value) (A : Around) (out : List Env) (s : Shared) (H : Hp) (E : XK) : Cx :=
  cxOf (L2.CX P w) P w K mg base N qual sc f cd A out s H E
/-- a def of the text: its body's reading, where no repr is under way -/
theorem fnG_of {x qual : Str} {st : Stmt} {f : Addr} {fd : FuncData} {N ps : List Str} {k : Nat} {sp : Sp} (F : Fun K x qual st f fd) (S : FnScope N ps (defScope st)) (ar : ∀ vs H Q E, sp vs H Q E → vs.length = ps.length)
    (hb : ∀ (cd : Value) (A : Around) (out : List Env) (s : Shared) (H : Hp) (vs : List V) (Q : VK) (E : XK), A.guards = some [] →
      Room k (A.deeper (envOfC qual (defScope st) s.heap.objs.size f cd)) → sp vs H Q E →
      ∃ t, PSs (bodyCx P w K mg base N qual (defScope st) f cd A out s H E) (defBody st) t ∧ t { nx := fun _ H' => Q .non H', rt := Q } (start N vs) H) :
    FnG P w K mg base (k + 1) f fd ps sp := by
  obtain ⟨oc, od, kV, doc, pm, an, cd, ct, osl, rfl, lk, hcd⟩ := F.ex
  refine ⟨ar, ?_⟩
  intro A out s H args us vs Q E hg hr e0 bt r hsp
  have hl := ar _ _ _ _ hsp
  have inH : ∀ b o, base.get? b = some o → s.heap.get? b = some o := fun b o e => (e0.bs b o e).1
  have KX : K.In s.heap := e0.mod.kin.keeps inH
  refine codeAny_call_function hr.depth (KX _ _ lk) rfl S.co S.gen rfl (PySem.W.codeRec_of KX hcd) (bt _ _ _ _ ?_)
  refine wpAny_newFunctionEnv_cells S.kind (fun y hy => ?_) fun env he s1 x => ?_
  · obtain ⟨n, v⟩ := y
    exact (S.par n (List.of_mem_zip hy).1).imp id fun q => ⟨q, PySem.W.cellsFrom_some _ _ _ (Or.inl q)⟩
  · cases he
    refine ⟨(e0.mod.nolimit.keeps inH).keeps x.toInCall.keep, codeAny_func ?_⟩
    obtain ⟨t, ht, hq⟩ := hb cd A out s H vs Q E hg (hr.deeper _) hsp
    refine wpAny_mono (ht.run [] s1 (start N vs) H _ (inv_start S hr.hd e0 hl r x) hq) ?_ (fun _ _ z => z)
    intro fl s' hs
    cases fl with
    | brk => exact hs.elim fun _ z => z.elim fun _ z => z.2.elim
    | cont => exact hs.elim fun _ z => z.elim fun _ z => z.2.elim
    | ret u =>
      obtain ⟨v, σ', H', J, rv, q⟩ := hs
      exact ⟨v, H', J.os, J.bare, J.base, J.hok, rv, q⟩
    | next =>
      obtain ⟨σ', H', J, q⟩ := hs
      exact ⟨V.non, H', J.os, J.bare, J.base, J.hok, rfl, q⟩
end

section
variable {X : Cx} {k : Nat} {f C : Addr} {fd : FuncData} {ps : List Str} {sp : Sp} {E : St → XK} {x m : Str} {p pos apos : Pos} {e o : Expr} {es : List Expr} {ta : TE} {t : TA} {dvs : List V} {ds : List Value}
/-- the callee is run; what it raises goes where this body's exceptions go -/
theorem runG {pins : List (Addr × Obj)} {σ : St} {H : Hp} {s : Shared} {Q : VK} {us : List Value} {vs : List V} (F : FnG X.prog X.w X.K X.mg X.base k f fd ps sp) (hg : X.A.guards = some []) (hr : Room k X.A) (hb : Binds X.K fd ps ds) (hd : Vals dvs ds)
    (hx : PassesAt (L2.CX X.prog X.w) X σ (E σ)) (I : Inv X pins σ H s) (r : Vals vs us) (h : sp (vs ++ dvs) H Q (E σ)) :
    wpAny (model X.prog X.w) X.A (call (.ref f) us) (EP X pins σ Q) X.xe s := by
  have rr := r.append hd
  have hl : (us ++ ds).length = ps.length := rr.length.symm.trans (F.ar _ _ _ _ h)
  refine wpAny_call (codeAny_mono (F.go X.A X.stack s H ⟨us, []⟩ (us ++ ds) (vs ++ dvs) Q (E σ) hg hr I.env0 (hb s us I.kIn hl) rr h) ?_)
  intro r s' hq
  match r, hq with
  | .error e, hq => exact hx pins H s e s' I hq
  | .ok (.ret u), hq => exact I.after hq
/-- a call by a global name -/
def tCl (sp : Sp) (dvs : List V) (E : St → XK) (t : TA) : TE := fun σ H Q => t σ H fun vs H1 => sp (vs ++ dvs) H1 Q (E σ)
theorem peG_call (F : FnG X.prog X.w X.K X.mg X.base k f fd ps sp) (hg0 : X.A.guards = some []) (hr : Room k X.A) (hg : Gl X x) (hm : X.mg x = some (.ref f)) (hk : PySem.W.keepIn X.K (.ref f) = true) (hb : Binds X.K fd ps ds) (hd : Vals dvs ds)
    (hx : ∀ σ, PassesAt (L2.CX X.prog X.w) X σ (E σ)) (ha : PA X (e :: es) t) (hdb : (x == ("__debug__" : Str)) = false := by decide)
    (he : starEach (e :: es) X.env = (false, eval e X.env) :: starEach es X.env := by rfl) (hpl : (backTo pos (starEach es X.env)).any (·.1) = false := by rfl) :
    PE X (.Call (.Name x p) (e :: es) [] pos) (tCl sp dvs E t) := ⟨fun pins s σ H Q I h =>
  wpAny_Call_Name_kw (ld_glob I hg hm (PySem.W.callWith_K (h₀ := X.base) I.ok.mod.kin hk
    (thn (ha.run pos pins s σ H _ I h) fun us s1 q => by
      obtain ⟨vs, H1, I1, r, q⟩ := q
      exact ⟨I1.kIn, runG F hg0 hr hb hd (hx σ) I1 r q⟩) he hpl) hdb)⟩
end
end Rt
set_option Elab.async false
set_option linter.all false
set_option maxRecDepth 100000
set_option maxHeartbeats 4000000
/-! data, how it lies in a heap, a frame's view -/
namespace Rt
open PySem PySem.Spec L2
open PyProof.Rows hiding St

inductive D where
  | non | bl (b : Bool) | int (i : Int) | str (s : Str)
  | lst (l : List D) | tup (l : List D)
  | dct (l : List (Key × D)) | dcT (l : List (List Key × D))
  | obj (c : Str) (fs : List (Str × D))
  | exc (c : Str) (fs : List (Str × D))
  | scr (l : List Int)
  | tup0
  deriving Inhabited

/-- a slot: nothing; a value that stands still; an object of the def's own; the k-th object that is lent to it -/
inductive Sl where
  | no | val (d : D) | own (d : D) | io (k : Nat) (d : D)
abbrev En := List Sl
def Sl.root : Sl → Bool
  | .own _ => true
  | .io _ _ => true
  | _ => false

/-- a run's outcome -/
inductive Rs (α : Type) where
  | ok (a : α) | exc (c : Str) (fs : List (Str × D)) (e : En) | bad
namespace Rs
variable {α β : Type}
@[inline] def bind : Rs α → (α → Rs β) → Rs β
  | .ok a, g => g a
  | .exc c fs e, _ => .exc c fs e
  | .bad, _ => .bad
instance : Monad Rs where
  pure := .ok
  bind := bind
def wp (r : Rs α) (P : α → Prop) (Z : Str → List (Str × D) → En → Prop) : Prop := match r with
  | .ok a => P a
  | .exc c fs e => Z c fs e
  | .bad => False
theorem wp_bind {r : Rs α} {g : α → Rs β} {P : β → Prop} {Z} : (r >>= g).wp P Z ↔ r.wp (fun a => (g a).wp P Z) Z := by cases r <;> exact Iff.rfl
theorem wp_mono {r : Rs α} {P P' : α → Prop} {Z Z'} (h : r.wp P Z) (hP : ∀ a, P a → P' a) (hZ : ∀ c fs e, Z c fs e → Z' c fs e) : r.wp P' Z' := by
  cases r with
  | ok a => exact hP a h
  | exc c fs e => exact hZ c fs e h
  | bad => exact h
@[simp] theorem ok_bind (a : α) (g : α → Rs β) : (Rs.ok a >>= g) = g a := rfl
@[simp] theorem pure_bind (a : α) (g : α → Rs β) : ((pure a : Rs α) >>= g) = g a := rfl
@[simp] theorem exc_bind (c fs e) (g : α → Rs β) : ((Rs.exc c fs e : Rs α) >>= g) = .exc c fs e := rfl
@[simp] theorem bad_bind (g : α → Rs β) : ((Rs.bad : Rs α) >>= g) = .bad := rfl
end Rs
def Rs.of {α} : Option α → Rs α
  | some a => .ok a
  | none => .bad
/-- a condition -/
def Rs.need (b : Bool) : Rs Unit := if b then .ok () else .bad

/-- at a the empty tuple, in the written part -/
def T0 (K : PySem.W.Frag) (a : Addr) : Prop := ∃ (o : Obj) (its : Array Value) (n : Nat), K.lookup a = some o ∧ o.cls = .type "tuple" ∧ o.data = .seq its n ∧ its.size ≤ sizeLine ∧ Vals [] its.toList
section
variable (K : PySem.W.Frag) (mg : Str → Option Value)
mutual
inductive DV (G : Hp) : V → D → Prop
  | non : DV G .non .non
  | bl {b} : DV G (.bl b) (.bl b)
  | int {i} : DV G (.int i) (.int i)
  | str {s} : DV G (.str s) (.str s)
  | lst {a xs ds} : G a = some (.lst xs) → DVs G xs ds → DV G (.ref a) (.lst ds)
  | scr {a ns} : SqL K G a (ns.map V.int) → DV G (.ref a) (.scr ns)
  | tup {a xs ds} : G a = some (.tup xs) → DVs G xs ds → DV G (.ref a) (.tup ds)
  | dct {a ks dk} : Rd G a (.dK ks) → ks.map (·.1) = dk.map (·.1) → DVs G (ks.map (·.2)) (dk.map (·.2)) → DV G (.ref a) (.dct dk)
  | dcT {a ks dk} : Rd G a (.dT ks) → ks.map (·.1) = dk.map (·.1) → DVs G (ks.map (·.2)) (dk.map (·.2)) → DV G (.ref a) (.dcT dk)
  | obj {a C dx fs c df} : mg c = some (.ref C) → G a = some (.ins C dx fs) → fs.map (·.1) = df.map (·.1) → DVs G (fs.map (·.2)) (df.map (·.2)) → DV G (.ref a) (.obj c df)
  | exc {a C dx fs c df} : mg c = some (.ref C) → G a = some (exo a C (some dx)) → G dx = some (exd dx fs) → fs.map (·.1) = df.map (·.1) → DVs G (fs.map (·.2)) (df.map (·.2)) → DV G (.ref a) (.exc c df)
  | tup0 {a} : T0 K a → DV G (.ref a) .tup0
  | ex0 {a C c} : mg c = some (.ref C) → G a = some (ExO (.ref C) a) → DV G (.ref a) (.exc c [])
inductive DVs (G : Hp) : List V → List D → Prop
  | nil : DVs G [] []
  | cons {v vs d ds} : DV G v d → DVs G vs ds → DVs G (v :: vs) (d :: ds)
end
end
def GLe (G G' : Hp) : Prop := ∀ a o, G a = some o → G' a = some o
theorem GLe.refl {G : Hp} : GLe G G := fun _ _ h => h
theorem GLe.trans {G G1 G2 : Hp} (a : GLe G G1) (b : GLe G1 G2) : GLe G G2 := fun x o h => b x o (a x o h)
theorem GLe.rd {G G' : Hp} (g : GLe G G') {a : Addr} {o : HO} (h : Rd G a o) : Rd G' a o := h.imp (g a o) fun ⟨b, e⟩ => ⟨b, g a _ e⟩
theorem GLe.sqL {K : PySem.W.Frag} {G G' : Hp} (g : GLe G G') {a : Addr} {xs : List V} (h : SqL K G a xs) : SqL K G' a xs := h.imp g.rd id
theorem GLe.sqT {K : PySem.W.Frag} {G G' : Hp} (g : GLe G G') {a : Addr} {xs : List V} (h : SqT K G a xs) : SqT K G' a xs := h.imp g.rd id
theorem GLe.upd {G : Hp} {a : Addr} {o : HO} (h : G a = none) : GLe G (L2.upd G a o) := fun b u e => by rw [upd_ne (ne_of_none e h)]; exact e
section
variable {K : PySem.W.Frag} {mg : Str → Option Value} {G G' H : Hp}
mutual
theorem DV.mono (g : GLe G G') : ∀ {v : V} {d : D}, DV K mg G v d → DV K mg G' v d
  | _, _, .non => .non
  | _, _, .bl => .bl
  | _, _, .int => .int
  | _, _, .str => .str
  | _, _, .lst h l => .lst (g _ _ h) (DVs.mono g l)
  | _, _, .scr h => .scr (g.sqL h)
  | _, _, .tup h l => .tup (g _ _ h) (DVs.mono g l)
  | _, _, .dct h e l => .dct (g.rd h) e (DVs.mono g l)
  | _, _, .dcT h e l => .dcT (g.rd h) e (DVs.mono g l)
  | _, _, .obj m h e l => .obj m (g _ _ h) e (DVs.mono g l)
  | _, _, .exc m h h2 e l => .exc m (g _ _ h) (g _ _ h2) e (DVs.mono g l)
  | _, _, .ex0 m h => .ex0 m (g _ _ h)
  | _, _, .tup0 h => .tup0 h
theorem DVs.mono (g : GLe G G') : ∀ {vs : List V} {ds : List D}, DVs K mg G vs ds → DVs K mg G' vs ds
  | _, _, .nil => .nil
  | _, _, .cons h l => .cons (DV.mono g h) (DVs.mono g l)
end
theorem DVs.length : ∀ {vs : List V} {ds : List D}, DVs K mg G vs ds → vs.length = ds.length
  | _, _, .nil => rfl
  | _, _, .cons _ l => congrArg (· + 1) (DVs.length l)
theorem DVs.get : ∀ {vs : List V} {ds : List D} {i : Nat} {d : D}, DVs K mg G vs ds → ds[i]? = some d → ∃ v, vs[i]? = some v ∧ DV K mg G v d
  | _, _, _, _, .nil, e => by simp at e
  | _, _, 0, _, .cons h _, e => by simp at e; subst e; exact ⟨_, rfl, h⟩
  | _, _, i + 1, _, .cons _ l, e => by simpa using DVs.get (i := i) l (by simpa using e)
theorem DVs.getV : ∀ {vs : List V} {ds : List D} {i : Nat} {v : V}, DVs K mg G vs ds → vs[i]? = some v → ∃ d, ds[i]? = some d ∧ DV K mg G v d
  | _, _, _, _, .nil, e => by simp at e
  | _, _, 0, _, .cons h _, e => by simp at e; subst e; exact ⟨_, rfl, h⟩
  | _, _, i + 1, _, .cons _ l, e => by simpa using DVs.getV (i := i) l (by simpa using e)
theorem DVs.append : ∀ {vs ws : List V} {ds es : List D}, DVs K mg G vs ds → DVs K mg G ws es → DVs K mg G (vs ++ ws) (ds ++ es)
  | _, _, _, _, .nil, h => h
  | _, _, _, _, .cons h l, k => .cons h (DVs.append l k)
theorem DVs.take : ∀ {vs : List V} {ds : List D} (n : Nat), DVs K mg G vs ds → DVs K mg G (vs.take n) (ds.take n)
  | _, _, 0, _ => .nil
  | _, _, _ + 1, .nil => .nil
  | _, _, n + 1, .cons h l => .cons h (DVs.take n l)
theorem DVs.drop : ∀ {vs : List V} {ds : List D} (n : Nat), DVs K mg G vs ds → DVs K mg G (vs.drop n) (ds.drop n)
  | _, _, 0, h => h
  | _, _, _ + 1, .nil => .nil
  | _, _, n + 1, .cons _ l => DVs.drop n l
theorem DVs.set {v : V} {d : D} (h : DV K mg G v d) : ∀ {vs : List V} {ds : List D} (n : Nat), DVs K mg G vs ds → DVs K mg G (vs.set n v) (ds.set n d)
  | _, _, _, .nil => .nil
  | _, _, 0, .cons _ l => .cons h l
  | _, _, n + 1, .cons k l => .cons k (DVs.set h n l)
end

section
variable (K : PySem.W.Frag) (mg : Str → Option Value)
/-- the object at a, which may still change, is d -/
inductive Root (G H : Hp) (a : Addr) : D → Prop
  | lst {xs ds} : H a = some (.lst xs) → DVs K mg G xs ds → Root G H a (.lst ds)
  | dct {ks dk} : H a = some (.dK ks) → ks.map (·.1) = dk.map (·.1) → DVs K mg G (ks.map (·.2)) (dk.map (·.2)) → Root G H a (.dct dk)
  | dcT {ks dk} : H a = some (.dT ks) → ks.map (·.1) = dk.map (·.1) → DVs K mg G (ks.map (·.2)) (dk.map (·.2)) → Root G H a (.dcT dk)
  | obj {C dx fs c df} : mg c = some (.ref C) → H a = some (.ins C dx fs) → fs.map (·.1) = df.map (·.1) → DVs K mg G (fs.map (·.2)) (df.map (·.2)) → Root G H a (.obj c df)
/-- v is d as things stand -/
def Cur (G H : Hp) (v : V) (d : D) : Prop := DV K mg G v d ∨ ∃ a, v = .ref a ∧ Root K mg G H a d ∧ G a = none
end
section
variable {K : PySem.W.Frag} {mg : Str → Option Value} {G G' H H' : Hp} {a : Addr} {d : D}
theorem Root.some (r : Root K mg G H a d) : ∃ o, H a = some o := by cases r <;> exact ⟨_, by assumption⟩
theorem Root.mono (r : Root K mg G H a d) (g : GLe G G') (e : H' a = H a) : Root K mg G' H' a d := by
  cases r with
  | lst h l => exact .lst (e.trans h) (l.mono g)
  | dct h k l => exact .dct (e.trans h) k (l.mono g)
  | dcT h k l => exact .dcT (e.trans h) k (l.mono g)
  | obj m h k l => exact .obj m (e.trans h) k (l.mono g)
/-- from now on it stands still -/
theorem Root.dv (r : Root K mg G H a d) {o : HO} (g : G a = none) (e : H a = Option.some o) : DV K mg (upd G a o) (.ref a) d := by
  have gl : GLe G (upd G a o) := GLe.upd g
  have s : upd G a o a = Option.some o := upd_same
  cases r with
  | lst h l => rw [h] at e; cases e; exact .lst s (l.mono gl)
  | dct h k l => rw [h] at e; cases e; exact .dct (.inl s) k (l.mono gl)
  | dcT h k l => rw [h] at e; cases e; exact .dcT (.inl s) k (l.mono gl)
  | obj m h k l => rw [h] at e; cases e; exact .obj m s k (l.mono gl)
end

def isDic : HO → Bool
  | .dK _ => true
  | .dT _ => true
  | _ => false
def isTu : HO → Bool
  | .tup _ => true
  | _ => false
def isFrz : HO → Bool
  | .frz _ _ => true
  | _ => false
/-- a def's entry: the heap, what stands still, the objects lent, those locked, those being made -/
structure Fr where
  H0 : Hp
  G0 : Hp
  ws : List Addr
  lk : Addr → Option Obj := fun _ => none
  ts : List (Addr × D) := []

/-- o stands at a; a dict perhaps under a lock: of this def, or of a caller -/
def Gh (F : Fr) (H : Hp) (a : Addr) (o : HO) : Prop := H a = some o ∨ (isDic o = true ∧ ∃ b, H a = some (.frz b o) ∧ (F.lk a = some b ∨ F.H0 a = some (.frz b o)))
theorem Gh.rd {F : Fr} {H : Hp} {a : Addr} {o : HO} (h : Gh F H a o) : Rd H a o := h.imp id fun h => h.2.imp fun _ h => h.1
/-- slot i holds the object at a -/
def rootAt (σ : L2.St) (env : En) (i : Nat) (a : Addr) : Prop := ∃ s, env[i]? = some s ∧ s.root = true ∧ σ[i]? = some (some (.ref a))
section
variable (K : PySem.W.Frag) (mg : Str → Option Value) (F : Fr) (G : Hp) (σ : L2.St) (env : En) (H : Hp)
def SlOk (v : Option (Option V)) : Sl → Prop
  | .no => True
  | .val d => ∃ x, v = some (some x) ∧ DV K mg G x d
  | .own d => ∃ a, v = some (some (.ref a)) ∧ F.H0 a = none ∧ G a = none ∧ Root K mg G H a d
  | .io k d => ∃ a, v = some (some (.ref a)) ∧ F.ws[k]? = some a ∧ G a = none ∧ Root K mg G H a d
structure Rep : Prop where
  gle : GLe F.G0 G
  gnew : ∀ a o, G a = some o → F.G0 a = some o ∨ F.H0 a = none ∨ (isTu o = true ∧ F.H0 a = some o)
  gh : ∀ a o, G a = some o → Gh F H a o
  base : ∀ a o, F.H0 a = some o → a ∉ F.ws → (F.lk a = none → H a = some o) ∧ (∀ b, F.lk a = some b → H a = some (.frz b o))
  dom : ∀ a o, F.H0 a = some o → ∃ u, H a = some u
  sys : ∃ φ, H sysModules = some (.ext φ)
  wsd : ∀ a ∈ F.ws, ∃ o, F.H0 a = some o ∧ isFrz o = false
  wsT : ∀ a ∈ F.ws, ∀ xs, H a ≠ some (.tup xs)
  lkg : ∀ a b, F.lk a = some b → ∃ o, G a = some o ∧ isDic o = true ∧ H a = some (.frz b o)
  len : env.length = σ.length
  sl : ∀ (i : Nat) (s : Sl), env[i]? = some s → SlOk K mg F G H (σ[i]?) s
  ap : ∀ (i j : Nat) (a : Addr), rootAt σ env i a → rootAt σ env j a → i = j
  apT : ∀ (i : Nat) (a : Addr), rootAt σ env i a → a ∉ F.ts.map (·.1)
  ndT : (F.ts.map (·.1)).Nodup
  tsk : ∀ p ∈ F.ts, F.H0 p.1 = none ∧ G p.1 = none ∧ Root K mg G H p.1 p.2
end

section
variable {K : PySem.W.Frag} {mg : Str → Option Value} {F : Fr} {G G' : Hp} {σ : L2.St} {env : En} {H H' : Hp}
theorem SlOk.mono {v : Option (Option V)} {s : Sl} (h : SlOk K mg F G H v s) (g : GLe G G') (k : ∀ a, v = some (some (.ref a)) → s.root = true → G' a = none ∧ H' a = H a) : SlOk K mg F G' H' v s := by
  cases s with
  | no => trivial
  | val d => obtain ⟨x, e, h⟩ := h; exact ⟨x, e, h.mono g⟩
  | own d => obtain ⟨a, e, h0, hg, r⟩ := h; obtain ⟨k1, k2⟩ := k a e rfl; exact ⟨a, e, h0, k1, r.mono g k2⟩
  | io n d => obtain ⟨a, e, h0, hg, r⟩ := h; obtain ⟨k1, k2⟩ := k a e rfl; exact ⟨a, e, h0, k1, r.mono g k2⟩
theorem Rep.rootSome (R : Rep K mg F G σ env H) {i : Nat} {a : Addr} (r : rootAt σ env i a) : G a = none ∧ ∃ o, H a = some o := by
  obtain ⟨s, h1, h2, h3⟩ := r
  have h := R.sl i s h1
  cases s with
  | no => cases h2
  | val d => cases h2
  | own d => obtain ⟨b, e, _, hg, r⟩ := h; rw [h3] at e; cases e; exact ⟨hg, r.some⟩
  | io n d => obtain ⟨b, e, _, hg, r⟩ := h; rw [h3] at e; cases e; exact ⟨hg, r.some⟩
theorem Root.ne {a : Addr} {d : D} {φ : Heap → Prop} (r : Root K mg G H a d) (h : H a = Option.some (HO.ext φ)) : False := by
  cases r with
  | lst e _ => rw [h] at e; cases e
  | dct e _ _ => rw [h] at e; cases e
  | dcT e _ _ => rw [h] at e; cases e
  | obj _ e _ _ => rw [h] at e; cases e
theorem Rep.rootNE (R : Rep K mg F G σ env H) {i : Nat} {a : Addr} {φ : Heap → Prop} (r : rootAt σ env i a) (h : H a = some (HO.ext φ)) : False := by
  obtain ⟨s, h1, h2, h3⟩ := r
  have q := R.sl i s h1
  cases s with
  | no => cases h2
  | val d => cases h2
  | own d => obtain ⟨b, e, _, _, r⟩ := q; rw [h3] at e; cases e; exact r.ne h
  | io n d => obtain ⟨b, e, _, _, r⟩ := q; rw [h3] at e; cases e; exact r.ne h
/-- the heap and what stands still may grow, where no root is touched -/
theorem Rep.grow (R : Rep K mg F G σ env H) (g : GLe G G') (gn : ∀ a o, G' a = some o → G a = some o ∨ F.H0 a = none ∨ (isTu o = true ∧ F.H0 a = some o)) (gh : ∀ a o, G' a = some o → Gh F H' a o)
    (hH : ∀ a o, H a = some o → H' a = some o) (hr : ∀ i a, rootAt σ env i a → G' a = none) (ht : ∀ p ∈ F.ts, G' p.1 = none) : Rep K mg F G' σ env H' where
  gle := R.gle.trans g
  gnew := fun a o h => (gn a o h).elim (R.gnew a o) .inr
  gh := gh
  base := fun a o h w => ⟨fun l => hH _ _ ((R.base a o h w).1 l), fun b l => hH _ _ ((R.base a o h w).2 b l)⟩
  dom := fun a o h => (R.dom a o h).imp fun _ e => hH _ _ e
  sys := R.sys.imp fun _ e => hH _ _ e
  wsd := R.wsd
  wsT := fun a h xs e => by
    obtain ⟨o, h0, _⟩ := R.wsd a h
    obtain ⟨u, hu⟩ := R.dom a o h0
    have e2 := hH a u hu
    rw [e] at e2; cases e2
    exact R.wsT a h xs hu
  lkg := fun a b h => (R.lkg a b h).imp fun _ q => ⟨g _ _ q.1, q.2.1, hH _ _ q.2.2⟩
  len := R.len
  sl := fun i s e => (R.sl i s e).mono g fun a e1 e2 => ⟨hr i a ⟨s, e, e2, e1⟩, by
    obtain ⟨o, h⟩ := (R.rootSome ⟨s, e, e2, e1⟩).2
    rw [h]; exact hH _ _ h⟩
  ap := R.ap
  apT := R.apT
  ndT := R.ndT
  tsk := fun p hp => by
    obtain ⟨h0, hg, r⟩ := R.tsk p hp
    obtain ⟨o, h⟩ := r.some
    exact ⟨h0, ht p hp, r.mono g (by rw [h]; exact hH _ _ h)⟩
theorem Rep.free0 (R : Rep K mg F G σ env H) {p : Addr} (h : H p = none) : F.H0 p = none := by
  cases e : F.H0 p with
  | none => rfl
  | some o => obtain ⟨u, q⟩ := R.dom p o e; rw [h] at q; cases q
theorem Rep.freeG (R : Rep K mg F G σ env H) {p : Addr} (h : H p = none) : G p = none := by
  cases e : G p with
  | none => rfl
  | some o => rcases R.gh p o e with q | ⟨_, b, q, _⟩ <;> (rw [h] at q; cases q)
theorem rd_upd {p : Addr} {o : HO} (h : H p = none) {a : Addr} {u : HO} {F : Fr} (r : Gh F H a u) : Gh F (upd H p o) a u := by
  have ne : ∀ {x : HO}, H a = some x → a ≠ p := fun e => ne_of_none e h
  rcases r with r | ⟨z, b, r, l⟩
  · exact .inl (by rw [upd_ne (ne r)]; exact r)
  · exact .inr ⟨z, b, by rw [upd_ne (ne r)]; exact r, l⟩
/-- a new object that may still change -/
theorem Rep.alloc (R : Rep K mg F G σ env H) {p : Addr} {o : HO} (h : H p = none) : Rep K mg F G σ env (upd H p o) :=
  R.grow .refl (fun _ _ e => .inl e) (fun a u e => rd_upd h (R.gh a u e)) (fun a u e => by rw [upd_ne (ne_of_none e h)]; exact e)
    (fun i a r => (R.rootSome r).1) fun q hq => (R.tsk q hq).2.1
/-- a new object that stands still -/
theorem Rep.new (R : Rep K mg F G σ env H) {p : Addr} {o : HO} (h : H p = none) : GLe G (upd G p o) ∧ Rep K mg F (upd G p o) σ env (upd H p o) := by
  have hg := R.freeG h
  refine ⟨GLe.upd hg, R.grow (GLe.upd hg) (fun a u e => ?_) (fun a u e => ?_) (fun a u e => by rw [upd_ne (ne_of_none e h)]; exact e) (fun i a r => ?_) fun q hq => ?_⟩
  · by_cases z : a = p
    · subst z; exact .inr (.inl (R.free0 h))
    · rw [upd_ne z] at e; exact .inl e
  · by_cases z : a = p
    · subst z; rw [upd_same] at e; cases e; exact .inl upd_same
    · rw [upd_ne z] at e; exact rd_upd h (R.gh a u e)
  · obtain ⟨r1, u, r2⟩ := R.rootSome r
    rw [upd_ne (ne_of_none r2 h)]; exact r1
  · obtain ⟨_, hg, r⟩ := R.tsk q hq
    obtain ⟨u, r2⟩ := r.some
    rw [upd_ne (ne_of_none r2 h)]; exact hg
end
end Rt
namespace Rt
open PySem PySem.Spec L2
open PyProof.Rows hiding St
section
variable {K : PySem.W.Frag} {mg : Str → Option Value} {F : Fr} {G G' : Hp} {σ : L2.St} {env : En} {H H' : Hp}
theorem rootAt_set {i j : Nat} {s : Sl} {x : Option V} {b : Addr} (h : rootAt (σ.set i x) (env.set i s) j b) (hl : env.length = σ.length) : (j = i ∧ s.root = true ∧ x = some (.ref b)) ∨ (j ≠ i ∧ rootAt σ env j b) := by
  obtain ⟨u, h1, h2, h3⟩ := h
  rw [List.getElem?_set] at h1 h3
  by_cases e : i = j
  · subst e
    rw [if_pos rfl] at h1 h3
    split at h1
    · cases h1
      split at h3
      · cases h3; exact .inl ⟨rfl, h2, rfl⟩
      · cases h3
    · cases h1
  · rw [if_neg e] at h1 h3
    exact .inr ⟨fun z => e z.symm, u, h1, h2, h3⟩
theorem rootAt_env {i j : Nat} {s : Sl} {b : Addr} (h : rootAt σ (env.set i s) j b) (hs : s.root = false) : j ≠ i ∧ rootAt σ env j b := by
  obtain ⟨u, h1, h2, h3⟩ := h
  rw [List.getElem?_set] at h1
  by_cases e : i = j
  · subst e
    rw [if_pos rfl] at h1
    split at h1
    · cases h1; rw [hs] at h2; cases h2
    · cases h1
  · rw [if_neg e] at h1
    exact ⟨fun z => e z.symm, u, h1, h2, h3⟩
/-- a slot is given a value that stands still -/
theorem Rep.setV (R : Rep K mg F G σ env H) {i : Nat} {v : V} {d : D} (h : DV K mg G v d) : Rep K mg F G (σ.set i (some v)) (env.set i (.val d)) H :=
  { R with
    len := by rw [List.length_set, List.length_set]; exact R.len
    sl := fun j s e => by
      rw [List.getElem?_set] at e
      by_cases z : i = j
      · subst z
        rw [if_pos rfl] at e
        split at e
        · rename_i hlt
          cases e
          exact ⟨v, by rw [List.getElem?_set_self (by rw [← R.len]; exact hlt)], h⟩
        · cases e
      · rw [if_neg z] at e
        rw [List.getElem?_set_ne z]
        exact R.sl j s e
    ap := fun j k a h1 h2 => by
      rcases rootAt_set h1 R.len with ⟨_, z, _⟩ | ⟨n1, h1⟩
      · cases z
      · rcases rootAt_set h2 R.len with ⟨_, z, _⟩ | ⟨n2, h2⟩
        · cases z
        · exact R.ap j k a h1 h2
    apT := fun j a h1 => by
      rcases rootAt_set h1 R.len with ⟨_, z, _⟩ | ⟨_, h1⟩
      · cases z
      · exact R.apT j a h1 }
/-- a is no root -/
def Fresh (F : Fr) (σ : L2.St) (env : En) (a : Addr) : Prop := (∀ i, ¬ rootAt σ env i a) ∧ a ∉ F.ts.map (·.1)
/-- a slot is given an object of its own -/
theorem Rep.setO (R : Rep K mg F G σ env H) {i : Nat} {a : Addr} {d : D} (h0 : F.H0 a = none) (hg : G a = none) (r : Root K mg G H a d) (fr : Fresh F σ env a) : Rep K mg F G (σ.set i (some (.ref a))) (env.set i (.own d)) H :=
  { R with
    len := by rw [List.length_set, List.length_set]; exact R.len
    sl := fun j s e => by
      rw [List.getElem?_set] at e
      by_cases z : i = j
      · subst z
        rw [if_pos rfl] at e
        split at e
        · rename_i hlt
          cases e
          exact ⟨a, by rw [List.getElem?_set_self (by rw [← R.len]; exact hlt)], h0, hg, r⟩
        · cases e
      · rw [if_neg z] at e
        rw [List.getElem?_set_ne z]
        exact R.sl j s e
    ap := fun j k b h1 h2 => by
      rcases rootAt_set h1 R.len with ⟨e1, _, z1⟩ | ⟨n1, h1⟩
      · rcases rootAt_set h2 R.len with ⟨e2, _, _⟩ | ⟨n2, h2⟩
        · exact e1.trans e2.symm
        · cases z1; exact absurd h2 (fr.1 k)
      · rcases rootAt_set h2 R.len with ⟨e2, _, z2⟩ | ⟨n2, h2⟩
        · cases z2; exact absurd h1 (fr.1 j)
        · exact R.ap j k b h1 h2
    apT := fun j b h1 => by
      rcases rootAt_set h1 R.len with ⟨_, _, z⟩ | ⟨_, h1⟩
      · cases z; exact fr.2
      · exact R.apT j b h1 }
/-- an object of a slot's own stands still from now on -/
theorem Rep.freeze (R : Rep K mg F G σ env H) {i : Nat} {d : D} (e : env[i]? = some (.own d)) : ∃ a G', σ[i]? = some (some (.ref a)) ∧ GLe G G' ∧ Rep K mg F G' σ (env.set i (.val d)) H ∧ DV K mg G' (.ref a) d := by
  obtain ⟨a, ha, h0, hg, r⟩ := R.sl i _ e
  obtain ⟨o, ho⟩ := r.some
  have hi : rootAt σ env i a := ⟨_, e, rfl, ha⟩
  have dv := r.dv hg ho
  have gl : GLe G (upd G a o) := GLe.upd hg
  refine ⟨a, upd G a o, ha, gl, ?_, dv⟩
  have un : ∀ b, b ≠ a → G b = none → upd G a o b = none := fun b n h => by rw [upd_ne n]; exact h
  exact {
    gle := R.gle.trans gl
    gnew := fun b u q => by
      by_cases z : b = a
      · subst z; exact .inr (.inl h0)
      · rw [upd_ne z] at q; exact R.gnew b u q
    gh := fun b u q => by
      by_cases z : b = a
      · subst z; rw [upd_same] at q; cases q; exact .inl ho
      · rw [upd_ne z] at q; exact R.gh b u q
    base := R.base
    dom := R.dom
    sys := R.sys
    wsd := R.wsd
    wsT := R.wsT
    lkg := fun b c h => (R.lkg b c h).imp fun _ q => ⟨gl _ _ q.1, q.2⟩
    len := by rw [List.length_set]; exact R.len
    sl := fun j s q => by
      rw [List.getElem?_set] at q
      by_cases z : i = j
      · subst z
        rw [if_pos rfl] at q
        split at q
        · cases q; exact ⟨_, ha, dv⟩
        · cases q
      · rw [if_neg z] at q
        exact (R.sl j s q).mono gl fun b hb hs => by
          have rb : rootAt σ env j b := ⟨s, q, hs, hb⟩
          exact ⟨un b (fun y => z (R.ap i j a hi (y ▸ rb))) (R.rootSome rb).1, rfl⟩
    ap := fun j k b h1 h2 => R.ap j k b (rootAt_env h1 rfl).2 (rootAt_env h2 rfl).2
    apT := fun j b h1 => R.apT j b (rootAt_env h1 rfl).2
    ndT := R.ndT
    tsk := fun p hp => by
      obtain ⟨p0, pg, pr⟩ := R.tsk p hp
      exact ⟨p0, un _ (fun y => R.apT i a hi (y ▸ List.mem_map_of_mem hp)) pg, pr.mono gl rfl⟩ }
/-- a slot is forgotten -/
theorem Rep.drop (R : Rep K mg F G σ env H) (i : Nat) : Rep K mg F G σ (env.set i .no) H :=
  { R with
    len := by rw [List.length_set]; exact R.len
    sl := fun j s q => by
      rw [List.getElem?_set] at q
      by_cases z : i = j
      · subst z
        rw [if_pos rfl] at q
        split at q
        · cases q; trivial
        · cases q
      · rw [if_neg z] at q; exact R.sl j s q
    ap := fun j k b h1 h2 => R.ap j k b (rootAt_env h1 rfl).2 (rootAt_env h2 rfl).2
    apT := fun j b h1 => R.apT j b (rootAt_env h1 rfl).2 }
/-- a root's object is changed -/
theorem Rep.write (R : Rep K mg F G σ env H) {i : Nat} {a : Addr} {d d' : D} {s s' : Sl} {o : HO} (e : env[i]? = some s) (hs : s = .own d ∧ s' = .own d' ∨ ∃ k, s = .io k d ∧ s' = .io k d') (ha : σ[i]? = some (some (.ref a)))
    (r : Root K mg G (upd H a o) a d') : Rep K mg F G σ (env.set i s') (upd H a o) := by
  have sr : s.root = true := by rcases hs with ⟨rfl, _⟩ | ⟨k, rfl, _⟩ <;> rfl
  have sr' : s'.root = true := by rcases hs with ⟨_, rfl⟩ | ⟨k, _, rfl⟩ <;> rfl
  have hi : rootAt σ env i a := ⟨s, e, sr, ha⟩
  obtain ⟨hg, u, hu⟩ := R.rootSome hi
  have back : ∀ j b, rootAt σ (env.set i s') j b → rootAt σ env j b := fun j b ⟨x, h1, h2, h3⟩ => by
    rw [List.getElem?_set] at h1
    by_cases z : i = j
    · subst z; exact ⟨s, e, sr, h3⟩
    · rw [if_neg z] at h1; exact ⟨x, h1, h2, h3⟩
  have own0 : F.H0 a = none ∨ a ∈ F.ws := by
    have q := R.sl i s e
    rcases hs with ⟨rfl, _⟩ | ⟨k, rfl, _⟩
    · obtain ⟨b, eb, h0, _⟩ := q; rw [ha] at eb; cases eb; exact .inl h0
    · obtain ⟨b, eb, h0, _⟩ := q; rw [ha] at eb; cases eb; exact .inr (List.mem_of_getElem? h0)
  exact {
    gle := R.gle
    gnew := R.gnew
    gh := fun b v q => by
      have n : b ≠ a := fun z => by subst z; rw [hg] at q; cases q
      unfold Gh; rw [upd_ne n]; exact R.gh b v q
    base := fun b v q w => by
      have n : b ≠ a := fun z => by
        subst z
        rcases own0 with z | z
        · rw [z] at q; cases q
        · exact w z
      rw [upd_ne n]; exact R.base b v q w
    dom := fun b v q => by
      by_cases z : b = a
      · subst z; exact ⟨o, upd_same⟩
      · rw [upd_ne z]; exact R.dom b v q
    sys := by
      obtain ⟨φ, q⟩ := R.sys
      exact ⟨φ, by rw [upd_ne fun z => R.rootNE hi (φ := φ) (by rw [← z]; exact q)]; exact q⟩
    wsd := R.wsd
    wsT := fun b h xs e => by
      by_cases z : b = a
      · subst z
        cases r with
        | lst h2 _ => rw [e] at h2; cases h2
        | dct h2 _ _ => rw [e] at h2; cases h2
        | dcT h2 _ _ => rw [e] at h2; cases h2
        | obj _ h2 _ _ => rw [e] at h2; cases h2
      · rw [upd_ne z] at e; exact R.wsT b h xs e
    lkg := fun b c h => (R.lkg b c h).imp fun _ q => ⟨q.1, q.2.1, by
      rw [upd_ne (fun z : b = a => by have := q.1; rw [z, hg] at this; cases this)]; exact q.2.2⟩
    len := by rw [List.length_set]; exact R.len
    sl := fun j x q => by
      rw [List.getElem?_set] at q
      by_cases z : i = j
      · subst z
        rw [if_pos rfl] at q
        split at q
        · cases q
          have w := R.sl i s e
          rcases hs with ⟨rfl, rfl⟩ | ⟨k, rfl, rfl⟩
          · obtain ⟨b, eb, h0, h1, _⟩ := w; rw [ha] at eb; cases eb; exact ⟨a, ha, h0, h1, r⟩
          · obtain ⟨b, eb, h0, h1, _⟩ := w; rw [ha] at eb; cases eb; exact ⟨a, ha, h0, h1, r⟩
        · cases q
      · rw [if_neg z] at q
        exact (R.sl j x q).mono .refl fun b hb hx => by
          have rb : rootAt σ env j b := ⟨x, q, hx, hb⟩
          exact ⟨(R.rootSome rb).1, upd_ne fun y => z (R.ap i j a hi (y ▸ rb))⟩
    ap := fun j k b h1 h2 => R.ap j k b (back j b h1) (back k b h2)
    apT := fun j b h1 => R.apT j b (back j b h1)
    ndT := R.ndT
    tsk := fun p hp => by
      obtain ⟨p0, pg, pr⟩ := R.tsk p hp
      exact ⟨p0, pg, pr.mono .refl (upd_ne fun y => R.apT i a hi (y ▸ List.mem_map_of_mem hp))⟩ }
/-- a dict is walked: locked -/
def Fr.lock (F : Fr) (d : Addr) (od : Obj) : Fr := { F with lk := fun a => if a = d then some od else F.lk a }
theorem lock_self {F : Fr} {d : Addr} {od : Obj} : (F.lock d od).lk d = some od := if_pos rfl
theorem lock_ne {F : Fr} {d a : Addr} {od : Obj} (h : a ≠ d) : (F.lock d od).lk a = F.lk a := if_neg h
theorem Rep.nolk (R : Rep K mg F G σ env H) {d : Addr} {u : HO} (hd : H d = some u) (hu : isDic u = true) : F.lk d = none := by
  cases e : F.lk d with
  | none => rfl
  | some b =>
    obtain ⟨o, _, _, q⟩ := R.lkg d b e
    rw [hd] at q; cases q; cases hu
theorem Rep.lock (R : Rep K mg F G σ env H) {d : Addr} {u : HO} {od : Obj} (hg : G d = some u) (hd : H d = some u) (hu : isDic u = true) : Rep K mg (F.lock d od) G σ env (upd H d (.frz od u)) := by
  have nr : ∀ i a, rootAt σ env i a → a ≠ d := fun i a r z => by have := (R.rootSome r).1; rw [z, hg] at this; cases this
  have nl := R.nolk hd hu
  exact {
    gle := R.gle
    gnew := R.gnew
    gh := fun a o q => by
      by_cases z : a = d
      · subst z; rw [hg] at q; cases q; exact .inr ⟨hu, od, upd_same, .inl lock_self⟩
      · unfold Gh; rw [upd_ne z, lock_ne z]; exact R.gh a o q
    base := fun a o q w => by
      by_cases z : a = d
      · subst z
        have e := (R.base a o q w).1 nl
        rw [hd] at e; cases e
        rw [lock_self]
        exact ⟨fun z => (nomatch z), fun b z => by cases z; exact upd_same⟩
      · rw [upd_ne z, lock_ne z]; exact R.base a o q w
    dom := fun a o q => by
      by_cases z : a = d
      · subst z; exact ⟨_, upd_same⟩
      · rw [upd_ne z]; exact R.dom a o q
    sys := by
      obtain ⟨φ, q⟩ := R.sys
      exact ⟨φ, by rw [upd_ne fun z => by rw [z, hd] at q; cases q; cases hu]; exact q⟩
    wsd := R.wsd
    wsT := fun a h xs e => by
      by_cases z : a = d
      · subst z; rw [upd_same] at e; cases e
      · rw [upd_ne z] at e; exact R.wsT a h xs e
    lkg := fun a b q => by
      by_cases z : a = d
      · subst z; rw [lock_self] at q; cases q; exact ⟨u, hg, hu, upd_same⟩
      · rw [lock_ne z] at q; rw [upd_ne z]; exact R.lkg a b q
    len := R.len
    sl := fun i s q => (R.sl i s q).mono .refl fun a e1 e2 => ⟨(R.rootSome ⟨s, q, e2, e1⟩).1, upd_ne (nr i a ⟨s, q, e2, e1⟩)⟩
    ap := R.ap
    apT := R.apT
    ndT := R.ndT
    tsk := fun p hp => by
      obtain ⟨p0, pg, pr⟩ := R.tsk p hp
      exact ⟨p0, pg, pr.mono .refl (upd_ne fun z => by rw [z, hg] at pg; cases pg)⟩ }
theorem Rep.unlock {d : Addr} {od : Obj} (R : Rep K mg (F.lock d od) G σ env H) (nl : F.lk d = none) : ∃ u, H d = some (.frz od u) ∧ Rep K mg F G σ env (upd H d u) := by
  obtain ⟨u, hg, hu, hd⟩ := R.lkg d od lock_self
  have nr : ∀ i a, rootAt σ env i a → a ≠ d := fun i a r z => by have := (R.rootSome r).1; rw [z, hg] at this; cases this
  refine ⟨u, hd, {
    gle := R.gle
    gnew := R.gnew
    gh := fun a o q => by
      by_cases z : a = d
      · subst z; rw [hg] at q; cases q; exact .inl upd_same
      · have := R.gh a o q
        unfold Gh at this ⊢; rw [upd_ne z]; rw [lock_ne z] at this; exact this
    base := fun a o q w => by
      by_cases z : a = d
      · subst z
        have e := (R.base a o q w).2 od lock_self
        rw [hd] at e; cases e
        exact ⟨fun _ => upd_same, fun b y => by rw [nl] at y; cases y⟩
      · have := R.base a o q w
        rw [lock_ne z] at this
        rw [upd_ne z]; exact this
    dom := fun a o q => by
      by_cases z : a = d
      · subst z; exact ⟨_, upd_same⟩
      · rw [upd_ne z]; exact R.dom a o q
    sys := by
      obtain ⟨φ, q⟩ := R.sys
      exact ⟨φ, by rw [upd_ne fun z => by rw [z, hd] at q; cases q]; exact q⟩
    wsd := R.wsd
    wsT := fun a h xs e => by
      by_cases z : a = d
      · subst z; rw [upd_same] at e; cases e; cases hu
      · rw [upd_ne z] at e; exact R.wsT a h xs e
    lkg := fun a b q => by
      have z : a ≠ d := fun z => by rw [z, nl] at q; cases q
      rw [upd_ne z]; exact R.lkg a b (by rw [lock_ne z]; exact q)
    len := R.len
    sl := fun i s q => (R.sl i s q).mono .refl fun a e1 e2 => ⟨(R.rootSome ⟨s, q, e2, e1⟩).1, upd_ne (nr i a ⟨s, q, e2, e1⟩)⟩
    ap := R.ap
    apT := R.apT
    ndT := R.ndT
    tsk := fun p hp => by
      obtain ⟨p0, pg, pr⟩ := R.tsk p hp
      exact ⟨p0, pg, pr.mono .refl (upd_ne fun z => by rw [z, hg] at pg; cases pg)⟩ }⟩
theorem Root.nt {a : Addr} {d : D} {xs : List V} (r : Root K mg G H a d) (h : H a = Option.some (HO.tup xs)) : False := by
  cases r with
  | lst e _ => rw [h] at e; cases e
  | dct e _ _ => rw [h] at e; cases e
  | dcT e _ _ => rw [h] at e; cases e
  | obj _ e _ _ => rw [h] at e; cases e
theorem Rep.rootNT (R : Rep K mg F G σ env H) {i : Nat} {a : Addr} {xs : List V} (r : rootAt σ env i a) (h : H a = Option.some (HO.tup xs)) : False := by
  obtain ⟨s, h1, h2, h3⟩ := r
  have q := R.sl i s h1
  cases s with
  | no => cases h2
  | val d => cases h2
  | own d => obtain ⟨b, e, _, _, r⟩ := q; rw [h3] at e; cases e; exact r.nt h
  | io n d => obtain ⟨b, e, _, _, r⟩ := q; rw [h3] at e; cases e; exact r.nt h
/-- a tuple that stands somewhere may be known -/
theorem Rep.know (R : Rep K mg F G σ env H) {q : Addr} {xs : List V} (h : H q = some (.tup xs)) : ∃ G', GLe G G' ∧ G' q = some (.tup xs) ∧ Rep K mg F G' σ env H := by
  cases e : G q with
  | some o =>
    rcases R.gh q o e with z | ⟨_, b, z, _⟩
    · rw [h] at z; cases z; exact ⟨G, .refl, e, R⟩
    · rw [h] at z; cases z
  | none =>
    refine ⟨upd G q (.tup xs), GLe.upd e, upd_same, R.grow (GLe.upd e) (fun a o z => ?_) (fun a o z => ?_) (fun _ _ z => z) (fun i a r => ?_) fun p hp => ?_⟩
    · by_cases y : a = q
      · subst y
        rw [upd_same] at z; cases z
        right
        cases y : F.H0 a with
        | none => exact .inl rfl
        | some o =>
          right
          refine ⟨rfl, ?_⟩
          by_cases w : a ∈ F.ws
          · exact absurd h (R.wsT a w xs)
          · cases l : F.lk a with
            | some b =>
              have y2 := (R.base a o y w).2 b l
              rw [h] at y2; cases y2
            | none =>
              have y2 := (R.base a o y w).1 l
              rw [h] at y2; cases y2; rfl
      · rw [upd_ne y] at z; exact .inl z
    · by_cases y : a = q
      · subst y; rw [upd_same] at z; cases z; exact .inl h
      · rw [upd_ne y] at z; exact R.gh a o z
    · rw [upd_ne fun y => R.rootNT r (by rw [y]; exact h)]
      exact (R.rootSome r).1
    · obtain ⟨_, pg, rt⟩ := R.tsk p hp
      rw [upd_ne fun y => Root.nt (xs := xs) rt (by rw [y]; exact h)]
      exact pg
end
end Rt
set_option Elab.async false
set_option linter.all false
set_option maxRecDepth 100000
set_option maxHeartbeats 4000000
/-! what an expression, a test, an argument list, a statement does to a frame's view -/
namespace Rt
open PySem PySem.Spec L2
open PyProof.Rows hiding St

/-- a value at hand: data, or what slot i holds -/
inductive Hd where
  | dat (d : D) | slot (i : Nat)
def Sl.get : Sl → Option D
  | .no => none
  | .val d => some d
  | .own d => some d
  | .io _ d => some d
def Hd.get (e : En) : Hd → Option D
  | .dat d => some d
  | .slot i => (e[i]?).bind Sl.get
/-- .. to be kept: what was the slot's own stands still from now on -/
def Hd.esc (e : En) : Hd → Rs (D × En)
  | .dat d => .ok (d, e)
  | .slot i => match e[i]? with
    | some (.val d) => .ok (d, e)
    | some (.own d) => .ok (d, e.set i (.val d))
    | _ => .bad
abbrev Wsh := L2.St → XK
/-- an exception's fields -/
def XFs (K : PySem.W.Frag) (mg : Str → Option Value) (G H : Hp) (xd : Option Addr) (fs : List (Str × D)) : Prop :=
  (fs = [] ∧ xd = none) ∨ ∃ d xf, xd = some d ∧ H d = some (.xd xf) ∧ xf.map (·.1) = fs.map (·.1) ∧ DVs K mg G (xf.map (·.2)) (fs.map (·.2))
def HdOk (K : PySem.W.Frag) (mg : Str → Option Value) (G : Hp) (σ : L2.St) (v : V) : Hd → Prop
  | .dat d => DV K mg G v d
  | .slot i => σ[i]? = some (some v)
section
variable (K : PySem.W.Frag) (mg : Str → Option Value) (W : Wsh) (F : Fr)
/-- what is asked where an exception leaves -/
def ZX (G : Hp) (σ : L2.St) : Str → List (Str × D) → En → Prop := fun c fs e => ∀ G' H' C xd, GLe G G' → Rep K mg F G' σ e H' → mg c = some (.ref C) → XFs K mg G' H' xd fs → W σ (.ref C) xd H'
def tB (f : En → Rs (Hd × En)) : TE := fun σ H Q => ∃ G env, Rep K mg F G σ env H ∧ (f env).wp (fun r => ∀ v G' H', GLe G G' → Rep K mg F G' σ r.2 H' → HdOk K mg G' σ v r.1 → Q v H') (ZX K mg W F G σ)
/-- .. a new object of its own comes -/
def tO (f : En → Rs (D × En)) : TE := fun σ H Q => ∃ G env, Rep K mg F G σ env H ∧
  (f env).wp (fun r => ∀ a G' H', GLe G G' → Rep K mg F G' σ r.2 H' → F.H0 a = none → G' a = none → Root K mg G' H' a r.1 → Fresh F σ r.2 a → Q (.ref a) H') (ZX K mg W F G σ)
def tT (f : En → Rs (Bool × En)) : TT := fun σ H Q => ∃ G env, Rep K mg F G σ env H ∧ (f env).wp (fun r => ∀ G' H', GLe G G' → Rep K mg F G' σ r.2 H' → Q r.1 H') (ZX K mg W F G σ)
/-- the values of an argument list -/
inductive HdsOk (G : Hp) (σ : L2.St) : List V → List Hd → Prop
  | nil : HdsOk G σ [] []
  | cons {v vs h hs} : HdOk K mg G σ v h → HdsOk G σ vs hs → HdsOk G σ (v :: vs) (h :: hs)
def tA (f : En → Rs (List Hd × En)) : TA := fun σ H Q => ∃ G env, Rep K mg F G σ env H ∧ (f env).wp (fun r => ∀ vs G' H', GLe G G' → Rep K mg F G' σ r.2 H' → HdsOk K mg G' σ vs r.1 → Q vs H') (ZX K mg W F G σ)
/-- how a statement ends -/
inductive Fl where
  | nx | rt (d : D) | ro (d : D) | bk | ct
def ZS (G : Hp) : Str → List (Str × D) → En → Prop := fun c fs e => ∀ σ' G' H' C xd, GLe G G' → Rep K mg F G' σ' e H' → mg c = some (.ref C) → XFs K mg G' H' xd fs → W σ' (.ref C) xd H'
def FlOk (G : Hp) (D : Ends) : Fl × En → Prop
  | (.nx, e) => ∀ σ' G' H', GLe G G' → Rep K mg F G' σ' e H' → D.nx σ' H'
  | (.bk, e) => ∀ σ' G' H', GLe G G' → Rep K mg F G' σ' e H' → D.bk σ' H'
  | (.ct, e) => ∀ σ' G' H', GLe G G' → Rep K mg F G' σ' e H' → D.ct σ' H'
  | (.rt d, e) => ∀ σ' v G' H', GLe G G' → Rep K mg F G' σ' e H' → DV K mg G' v d → D.rt v H'
  | (.ro d, e) => ∀ σ' a G' H', GLe G G' → Rep K mg F G' σ' e H' → F.H0 a = none → G' a = none → Root K mg G' H' a d → D.rt (.ref a) H'
def tS (f : En → Rs (Fl × En)) : TS := fun D σ H => ∃ G env, Rep K mg F G σ env H ∧ (f env).wp (FlOk K mg F G D) (ZS K mg W F G)
end
/-- the judgements: for every entry -/
def PB (X : Cx) (W : Wsh) (e : Expr) (f : En → Rs (Hd × En)) : Prop := ∀ F, PE X e (tB X.K X.mg W F f)
def PO (X : Cx) (W : Wsh) (e : Expr) (f : En → Rs (D × En)) : Prop := ∀ F, PE X e (tO X.K X.mg W F f)
def PTt (X : Cx) (W : Wsh) (e : Expr) (f : En → Rs (Bool × En)) : Prop := ∀ F, PT X e (tT X.K X.mg W F f)
def PAs (X : Cx) (W : Wsh) (es : List Expr) (f : En → Rs (List Hd × En)) : Prop := ∀ F, PA X es (tA X.K X.mg W F f)
def PSt (X : Cx) (W : Wsh) (s : Stmt) (f : En → Rs (Fl × En)) : Prop := ∀ F, PS X s (tS X.K X.mg W F f)
def PBl (X : Cx) (W : Wsh) (ss : List Stmt) (f : En → Rs (Fl × En)) : Prop := ∀ F, PSs X ss (tS X.K X.mg W F f)
/-- what is known where a body stands -/
structure Hy (X : Cx) (W : Wsh) (k : Nat) : Prop where
  calm : X.calm = true
  nd : X.N.Nodup
  gd : X.A.guards = some []
  rm : Room k X.A
  own : PassesOwn (model X.prog X.w) X.A X.env X.xe
  tk : ∀ σ, PassesAt (L2.CX X.prog X.w) X σ (W σ)
theorem Hy.un {X : Cx} {W : Wsh} {k : Nat} (h : Hy X W k) : X.A.units + 64 < cLine := h.rm.units

theorem pe_weak {X : Cx} {e : Expr} {t t' : TE} (h : PE X e t) (w : ∀ σ H Q, t' σ H Q → t σ H Q) : PE X e t' := ⟨fun pins s σ H Q I q => h.run pins s σ H Q I (w σ H Q q)⟩
theorem pt_weak {X : Cx} {e : Expr} {t t' : TT} (h : PT X e t) (w : ∀ σ H Q, t' σ H Q → t σ H Q) : PT X e t' := ⟨fun pins s σ H Q I q => h.run pins s σ H Q I (w σ H Q q)⟩
theorem pa_weak {X : Cx} {e : List Expr} {t t' : TA} (h : PA X e t) (w : ∀ σ H Q, t' σ H Q → t σ H Q) : PA X e t' := ⟨fun pos pins s σ H Q I q => h.run pos pins s σ H Q I (w σ H Q q)⟩
theorem ps_weak {X : Cx} {e : Stmt} {t t' : TS} (h : PS X e t) (w : ∀ D σ H, t' D σ H → t D σ H) : PS X e t' := ⟨fun pins s σ H D I q => h.run pins s σ H D I (w D σ H q)⟩
theorem pss_weak {X : Cx} {e : List Stmt} {t t' : TS} (h : PSs X e t) (w : ∀ D σ H, t' D σ H → t D σ H) : PSs X e t' := ⟨fun pins s σ H D I q => h.run pins s σ H D I (w D σ H q)⟩

section
variable {K : PySem.W.Frag} {mg : Str → Option Value} {W : Wsh} {F : Fr} {G G' : Hp} {σ : L2.St} {env : En} {H H' : Hp} {v : V} {h : Hd} {d : D}
theorem ZX.mono (g : GLe G G') {c fs e} (z : ZX K mg W F G σ c fs e) : ZX K mg W F G' σ c fs e := fun G1 H1 C xd g1 => z G1 H1 C xd (g.trans g1)
theorem ZS.mono (g : GLe G G') {c fs e} (z : ZS K mg W F G c fs e) : ZS K mg W F G' c fs e := fun σ1 G1 H1 C xd g1 => z σ1 G1 H1 C xd (g.trans g1)
theorem ZS.zx (g : GLe G G') {c fs e} (z : ZS K mg W F G c fs e) : ZX K mg W F G' σ c fs e := fun G1 H1 C xd g1 => z σ G1 H1 C xd (g.trans g1)
theorem FlOk.mono (g : GLe G G') {E : Ends} {r : Fl × En} (z : FlOk K mg F G E r) : FlOk K mg F G' E r := by
  obtain ⟨fl, e⟩ := r
  cases fl with
  | nx => exact fun σ1 G1 H1 g1 => z σ1 G1 H1 (g.trans g1)
  | bk => exact fun σ1 G1 H1 g1 => z σ1 G1 H1 (g.trans g1)
  | ct => exact fun σ1 G1 H1 g1 => z σ1 G1 H1 (g.trans g1)
  | rt d => exact fun σ1 v G1 H1 g1 => z σ1 v G1 H1 (g.trans g1)
  | ro d => exact fun σ1 v G1 H1 g1 => z σ1 v G1 H1 (g.trans g1)
theorem HdOk.mono (g : GLe G G') (o : HdOk K mg G σ v h) : HdOk K mg G' σ v h := by
  cases h with
  | dat d => exact DV.mono g o
  | slot i => exact o
theorem HdsOk.mono (g : GLe G G') : ∀ {vs : List V} {hs : List Hd}, HdsOk K mg G σ vs hs → HdsOk K mg G' σ vs hs
  | _, _, .nil => .nil
  | _, _, .cons a l => .cons (a.mono g) (HdsOk.mono g l)
theorem HdOk.cur (R : Rep K mg F G σ env H) (o : HdOk K mg G σ v h) (e : h.get env = some d) : Cur K mg G H v d := by
  cases h with
  | dat d' => cases e; exact .inl o
  | slot i =>
    have o : σ[i]? = some (some v) := o
    have e : (env[i]?).bind Sl.get = some d := e
    cases q : env[i]? with
    | none => rw [q] at e; cases e
    | some s =>
      rw [q] at e
      have sl := R.sl i s q
      cases s with
      | no => cases e
      | val d' => cases e; obtain ⟨x, ex, dv⟩ := sl; rw [o] at ex; cases ex; exact .inl dv
      | own d' => cases e; obtain ⟨a, ex, _, hg, r⟩ := sl; rw [o] at ex; cases ex; exact .inr ⟨a, rfl, r, hg⟩
      | io n d' => cases e; obtain ⟨a, ex, _, hg, r⟩ := sl; rw [o] at ex; cases ex; exact .inr ⟨a, rfl, r, hg⟩
theorem HdOk.esc {r : D × En} (R : Rep K mg F G σ env H) (o : HdOk K mg G σ v h) (e : h.esc env = .ok r) : ∃ G', GLe G G' ∧ Rep K mg F G' σ r.2 H ∧ DV K mg G' v r.1 := by
  cases h with
  | dat d' => cases e; exact ⟨G, .refl, R, o⟩
  | slot i =>
    have o : σ[i]? = some (some v) := o
    unfold Hd.esc at e
    cases q : env[i]? with
    | none => simp only [q] at e; cases e
    | some s =>
      simp only [q] at e
      cases s with
      | no => cases e
      | val d' =>
        cases e
        obtain ⟨x, ex, dv⟩ := R.sl i _ q
        rw [o] at ex; cases ex
        exact ⟨G, .refl, R, dv⟩
      | own d' =>
        cases e
        obtain ⟨a, G1, ha, g1, R1, dv⟩ := R.freeze q
        rw [o] at ha; cases ha
        exact ⟨G1, g1, R1, dv⟩
      | io n d' => cases e
/-- the handles of an argument list, as they stand -/
def gets (e : En) : List Hd → Option (List D)
  | [] => some []
  | h :: hs => (h.get e).bind fun d => (gets e hs).bind fun ds => some (d :: ds)
inductive Curs (K : PySem.W.Frag) (mg : Str → Option Value) (G H : Hp) : List V → List D → Prop
  | nil : Curs K mg G H [] []
  | cons {v vs d ds} : Cur K mg G H v d → Curs K mg G H vs ds → Curs K mg G H (v :: vs) (d :: ds)
theorem HdsOk.curs (R : Rep K mg F G σ env H) : ∀ {vs : List V} {hs : List Hd} {ds : List D}, HdsOk K mg G σ vs hs → gets env hs = some ds → Curs K mg G H vs ds
  | _, _, _, .nil, e => by cases e; exact .nil
  | _, _, _, .cons (h := h) (hs := hs) a l, e => by
    unfold gets at e
    cases q : h.get env with
    | none => rw [q] at e; cases e
    | some d =>
      rw [q] at e
      cases q2 : gets env hs with
      | none => rw [q2] at e; cases e
      | some ds => rw [q2] at e; cases e; exact .cons (a.cur R q) (HdsOk.curs R l q2)
/-- .. to be kept -/
def escs (e : En) : List Hd → Rs (List D × En)
  | [] => .ok ([], e)
  | h :: hs => h.esc e >>= fun r => escs r.2 hs >>= fun q => .ok (r.1 :: q.1, q.2)
theorem HdsOk.escs : ∀ {vs : List V} {hs : List Hd} {r : List D × En} {G : Hp} {env : En}, Rep K mg F G σ env H → HdsOk K mg G σ vs hs → escs env hs = .ok r → ∃ G', GLe G G' ∧ Rep K mg F G' σ r.2 H ∧ DVs K mg G' vs r.1
  | _, _, _, G, _, R, .nil, e => by cases e; exact ⟨G, .refl, R, .nil⟩
  | _, _, _, G, env, R, .cons (h := h) (hs := hs) a l, e => by
    unfold Rt.escs at e
    cases q : h.esc env with
    | bad => rw [q] at e; cases e
    | exc => rw [q] at e; cases e
    | ok r1 =>
      rw [q] at e
      obtain ⟨G1, g1, R1, d1⟩ := a.esc R q
      cases q2 : Rt.escs r1.2 hs with
      | bad => rw [Rs.ok_bind, q2] at e; cases e
      | exc => rw [Rs.ok_bind, q2] at e; cases e
      | ok r2 =>
        rw [Rs.ok_bind, q2] at e
        cases e
        obtain ⟨G2, g2, R2, d2⟩ := HdsOk.escs R1 (l.mono g1) q2
        exact ⟨G2, g1.trans g2, R2, .cons (d1.mono g2) d2⟩
end

/-! ### the joints -/
section
variable {X : Cx} {W : Wsh} {a b : Expr} {fa fb : En → Rs (Hd × En)}
/-- a two-place operation upon data -/
def OpD (X : Cx) (r : R2) (op : D → D → Option D) : Prop := ∀ (F : Fr) (G : Hp) (σ : L2.St) (env : En) (H : Hp) (x y : V) (p q d : D) (Q : VK), Rep X.K X.mg F G σ env H → Cur X.K X.mg G H x p → Cur X.K X.mg G H y q →
  op p q = some d → (∀ v G' H', GLe G G' → Rep X.K X.mg F G' σ env H' → DV X.K X.mg G' v d → Q v H') → r x y H Q
def fOp (op : D → D → Option D) (fa fb : En → Rs (Hd × En)) : En → Rs (Hd × En) := fun e => fa e >>= fun r => fb r.2 >>= fun q => Rs.of (r.1.get q.2) >>= fun x => Rs.of (q.1.get q.2) >>= fun y => Rs.of (op x y) >>= fun d => .ok (.dat d, q.2)
theorem wp_of {α : Type} {o : Option α} {P : α → Prop} {Z} (h : (Rs.of o).wp P Z) : ∃ a, o = some a ∧ P a := by
  cases o with
  | none => exact h.elim
  | some a => exact ⟨a, rfl, h⟩
theorem wp_need {b : Bool} {P : Unit → Prop} {Z} (h : (Rs.need b).wp P Z) : b = true ∧ P () := by
  cases b with
  | false => exact h.elim
  | true => exact ⟨rfl, h⟩
theorem tOp_of {r : R2} {op : D → D → Option D} (ho : OpD X r op) {F : Fr} {σ : L2.St} {H : Hp} {Q : VK} (h : tB X.K X.mg W F (fOp op fa fb) σ H Q) : tOp r (tB X.K X.mg W F fa) (tB X.K X.mg W F fb) σ H Q := by
  obtain ⟨G, env, R, h⟩ := h
  refine ⟨G, env, R, Rs.wp_mono (Rs.wp_bind.mp h) (fun r h x G1 H1 g1 R1 o1 => ?_) fun _ _ _ z => z⟩
  refine ⟨G1, r.2, R1, Rs.wp_mono (Rs.wp_bind.mp h) (fun q h y G2 H2 g2 R2 o2 => ?_) fun _ _ _ z => z.mono g1⟩
  obtain ⟨p, ep, h⟩ := wp_of (Rs.wp_bind.mp h)
  obtain ⟨u, eu, h⟩ := wp_of (Rs.wp_bind.mp h)
  obtain ⟨d, ed, k⟩ := wp_of (Rs.wp_bind.mp h)
  exact ho F G2 σ q.2 H2 x y p u d Q R2 ((o1.mono g2).cur R2 ep) (o2.cur R2 eu) ed fun v G3 H3 g3 R3 dv => k v G3 H3 ((g1.trans g2).trans g3) R3 dv
theorem pb_op {o : Operator} {pos : Pos} {r : R2} {op : D → D → Option D} (hr : OpR X (binaryOp o) r) (ho : OpD X r op) (ha : PB X W a fa) (hb : PB X W b fb) : PB X W (.BinOp a o b pos) (fOp op fa fb) :=
  fun F => pe_weak (pe_op hr (ha F) (hb F)) fun _ _ _ h => tOp_of ho h
theorem pb_cmp {o : CmpOp} {pos : Pos} {r : R2} {op : D → D → Option D} (hr : OpR X (compareOp o) r) (ho : OpD X r op) (ha : PB X W a fa) (hb : PB X W b fb) (hm : behindInMarks o b = false) : PB X W (.Compare a [o] [b] pos) (fOp op fa fb) :=
  fun F => pe_weak (pe_cmpR hr (ha F) (hb F) hm) fun _ _ _ h => tOp_of ho h
/-- a value that is True or False, as a test -/
def fTst (f : En → Rs (Hd × En)) : En → Rs (Bool × En) := fun e => f e >>= fun r => match r.1 with
  | .dat (.bl b) => .ok (b, r.2)
  | _ => .bad
theorem tB_mono {K : PySem.W.Frag} {mg : Str → Option Value} {F : Fr} {f : En → Rs (Hd × En)} {σ : L2.St} {H : Hp} {Q Q' : VK} (h : tB K mg W F f σ H Q) (m : ∀ v H, Q v H → Q' v H) : tB K mg W F f σ H Q' := by
  obtain ⟨G, env, R, h⟩ := h
  exact ⟨G, env, R, Rs.wp_mono h (fun r k v G' H' g R' o => m _ _ (k v G' H' g R' o)) fun _ _ _ z => z⟩
theorem tst_of {K : PySem.W.Frag} {mg : Str → Option Value} {F : Fr} {f : En → Rs (Hd × En)} {σ : L2.St} {H : Hp} {Q : Bool → Hp → Prop} (h : tT K mg W F (fTst f) σ H Q) : tB K mg W F f σ H fun x H' => ∃ k, x = .bl k ∧ Q k H' := by
  obtain ⟨G, env, R, h⟩ := h
  refine ⟨G, env, R, Rs.wp_mono (Rs.wp_bind.mp h) (fun r k v G' H' g R' o => ?_) fun _ _ _ z => z⟩
  obtain ⟨hd, e⟩ := r
  cases hd with
  | slot i => exact k.elim
  | dat d =>
    cases d with
    | bl b => cases o; exact ⟨b, rfl, k G' H' g R'⟩
    | _ => exact k.elim
theorem ptt_cmp {o : CmpOp} {pos : Pos} {r : R2} {op : D → D → Option D} (hr : OpR X (compareOp o) r) (ho : OpD X r op) (ha : PB X W a fa) (hb : PB X W b fb) (hm : behindInMarks o b = false) : PTt X W (.Compare a [o] [b] pos) (fTst (fOp op fa fb)) :=
  fun F => pt_weak (pt_cmpR hr (ha F) (hb F) hm) fun _ _ _ h => tOp_of ho (tst_of h)
/-- two comparisons in a chain: b is asked once -/
def fChain (op op' : D → D → Option D) (fa fb fc : En → Rs (Hd × En)) : En → Rs (Hd × En) := fun e => fa e >>= fun r => fb r.2 >>= fun q => Rs.of (r.1.get q.2) >>= fun x => Rs.of (q.1.get q.2) >>= fun y => Rs.of (op x y) >>= fun d => match d with
  | .bl true => fc q.2 >>= fun s => Rs.of (q.1.get s.2) >>= fun y => Rs.of (s.1.get s.2) >>= fun z => Rs.of (op' y z) >>= fun d => .ok (.dat d, s.2)
  | .bl false => .ok (.dat (.bl false), q.2)
  | _ => .bad
theorem tChain_of {r r' : R2} {op op' : D → D → Option D} {fc : En → Rs (Hd × En)} (ho : OpD X r op) (ho' : OpD X r' op') {F : Fr} {σ : L2.St} {H : Hp} {Q : VK}
    (h : tB X.K X.mg W F (fChain op op' fa fb fc) σ H Q) : tChain r r' (tB X.K X.mg W F fa) (tB X.K X.mg W F fb) (tB X.K X.mg W F fc) σ H Q := by
  obtain ⟨G, env, R, h⟩ := h
  refine ⟨G, env, R, Rs.wp_mono (Rs.wp_bind.mp h) (fun r h x G1 H1 g1 R1 o1 => ?_) fun _ _ _ z => z⟩
  refine ⟨G1, r.2, R1, Rs.wp_mono (Rs.wp_bind.mp h) (fun q h y G2 H2 g2 R2 o2 => ?_) fun _ _ _ z => z.mono g1⟩
  obtain ⟨p, ep, h⟩ := wp_of (Rs.wp_bind.mp h)
  obtain ⟨u, eu, h⟩ := wp_of (Rs.wp_bind.mp h)
  obtain ⟨d, ed, k⟩ := wp_of (Rs.wp_bind.mp h)
  refine ho F G2 σ q.2 H2 x y p u d _ R2 ((o1.mono g2).cur R2 ep) (o2.cur R2 eu) ed fun v G3 H3 g3 R3 dv => ?_
  cases d with
  | bl b =>
    cases dv
    refine ⟨b, rfl, ?_⟩
    cases b with
    | false => exact k _ G3 H3 ((g1.trans g2).trans g3) R3 .bl
    | true =>
      refine ⟨G3, q.2, R3, Rs.wp_mono (Rs.wp_bind.mp k) (fun s h z G4 H4 g4 R4 o4 => ?_) fun _ _ _ z => z.mono ((g1.trans g2).trans g3)⟩
      obtain ⟨y', ey, h⟩ := wp_of (Rs.wp_bind.mp h)
      obtain ⟨z', ez, h⟩ := wp_of (Rs.wp_bind.mp h)
      obtain ⟨d, ed, k⟩ := wp_of (Rs.wp_bind.mp h)
      exact ho' F G4 σ s.2 H4 y z y' z' d Q R4 ((o2.mono (g3.trans g4)).cur R4 ey) (o4.cur R4 ez) ed fun v G5 H5 g5 R5 dv => k v G5 H5 (((g1.trans g2).trans (g3.trans g4)).trans g5) R5 dv
  | _ => exact k.elim
theorem pb_chain {o o' : CmpOp} {c : Expr} {pos : Pos} {r r' : R2} {op op' : D → D → Option D} {fc : En → Rs (Hd × En)} (hr : OpR X (compareOp o) r) (hr' : OpR X (compareOp o') r') (ho : OpD X r op) (ho' : OpD X r' op')
    (ha : PB X W a fa) (hb : PB X W b fb) (hcc : PB X W c fc) (hm : lastMarks [o, o'] [b, c] = false := by with_unfolding_all rfl) : PB X W (.Compare a [o, o'] [b, c] pos) (fChain op op' fa fb fc) :=
  fun F => pe_weak (pe_chain hr hr' (ha F) (hb F) (hcc F) hm) fun _ _ _ h => tChain_of ho ho' h
theorem ptt_chain {o o' : CmpOp} {c : Expr} {pos : Pos} {r r' : R2} {op op' : D → D → Option D} {fc : En → Rs (Hd × En)} (hr : OpR X (compareOp o) r) (hr' : OpR X (compareOp o') r') (ho : OpD X r op) (ho' : OpD X r' op')
    (ha : PB X W a fa) (hb : PB X W b fb) (hcc : PB X W c fc) (hm : lastMarks [o, o'] [b, c] = false := by with_unfolding_all rfl) : PTt X W (.Compare a [o, o'] [b, c] pos) (fTst (fChain op op' fa fb fc)) :=
  fun F => pt_weak (pt_chain hr hr' (ha F) (hb F) (hcc F) hm) fun _ _ _ h => tChain_of ho ho' (tst_of h)
end
end Rt
set_option Elab.async false
set_option linter.all false
set_option maxRecDepth 100000
set_option maxHeartbeats 4000000
/-! the operators upon data -/
namespace Rt
open PySem PySem.Spec L2
open PyProof.Rows hiding St
section
variable {K : PySem.W.Frag} {mg : Str → Option Value} {F : Fr} {G : Hp} {σ : L2.St} {env : En} {H : Hp} {v : V}
theorem cur_non (c : Cur K mg G H v .non) : v = .non := by rcases c with h | ⟨a, _, h, _⟩ <;> cases h; rfl
theorem cur_bl {b} (c : Cur K mg G H v (.bl b)) : v = .bl b := by rcases c with h | ⟨a, _, h, _⟩ <;> cases h; rfl
theorem cur_int {i} (c : Cur K mg G H v (.int i)) : v = .int i := by rcases c with h | ⟨a, _, h, _⟩ <;> cases h; rfl
theorem cur_str {s} (c : Cur K mg G H v (.str s)) : v = .str s := by rcases c with h | ⟨a, _, h, _⟩ <;> cases h; rfl
theorem gh_of (R : Rep K mg F G σ env H) {a : Addr} {o : HO} (h : G a = some o) (d : isDic o = false) : H a = some o := by
  rcases R.gh a o h with q | ⟨q, _⟩
  · exact q
  · rw [d] at q; cases q
theorem cur_lst (R : Rep K mg F G σ env H) {ds} (c : Cur K mg G H v (.lst ds)) : ∃ a xs, v = .ref a ∧ H a = some (.lst xs) ∧ DVs K mg G xs ds := by
  rcases c with h | ⟨a, rfl, h, _⟩
  · cases h with | lst h l => exact ⟨_, _, rfl, gh_of R h rfl, l⟩
  · cases h with | lst h l => exact ⟨_, _, rfl, h, l⟩
theorem cur_tup (R : Rep K mg F G σ env H) {ds} (c : Cur K mg G H v (.tup ds)) : ∃ a xs, v = .ref a ∧ H a = some (.tup xs) ∧ DVs K mg G xs ds := by
  rcases c with h | ⟨a, rfl, h, _⟩
  · cases h with | tup h l => exact ⟨_, _, rfl, gh_of R h rfl, l⟩
  · cases h
theorem cur_dct (R : Rep K mg F G σ env H) {dk} (c : Cur K mg G H v (.dct dk)) : ∃ a ks, v = .ref a ∧ Rd H a (.dK ks) ∧ ks.map (·.1) = dk.map (·.1) ∧ DVs K mg G (ks.map (·.2)) (dk.map (·.2)) := by
  rcases c with h | ⟨a, rfl, h, _⟩
  · cases h with | dct h e l =>
    refine ⟨_, _, rfl, ?_, e, l⟩
    rcases h with h | ⟨b, h⟩
    · exact (R.gh _ _ h).rd
    · exact .inr ⟨b, gh_of R h rfl⟩
  · cases h with | dct h e l => exact ⟨_, _, rfl, .inl h, e, l⟩
theorem cur_dcT (R : Rep K mg F G σ env H) {dk} (c : Cur K mg G H v (.dcT dk)) : ∃ a ks, v = .ref a ∧ Rd H a (.dT ks) ∧ ks.map (·.1) = dk.map (·.1) ∧ DVs K mg G (ks.map (·.2)) (dk.map (·.2)) := by
  rcases c with h | ⟨a, rfl, h, _⟩
  · cases h with | dcT h e l =>
    refine ⟨_, _, rfl, ?_, e, l⟩
    rcases h with h | ⟨b, h⟩
    · exact (R.gh _ _ h).rd
    · exact .inr ⟨b, gh_of R h rfl⟩
  · cases h with | dcT h e l => exact ⟨_, _, rfl, .inl h, e, l⟩
theorem cur_obj (R : Rep K mg F G σ env H) {c df} (q : Cur K mg G H v (.obj c df)) : ∃ a C dx fs, v = .ref a ∧ mg c = some (.ref C) ∧ H a = some (.ins C dx fs) ∧ fs.map (·.1) = df.map (·.1) ∧ DVs K mg G (fs.map (·.2)) (df.map (·.2)) := by
  rcases q with h | ⟨a, rfl, h, _⟩
  · cases h with | obj m h e l => exact ⟨_, _, _, _, rfl, m, gh_of R h rfl, e, l⟩
  · cases h with | obj m h e l => exact ⟨_, _, _, _, rfl, m, h, e, l⟩
theorem cur_tup0 (c : Cur K mg G H v .tup0) : ∃ a, v = .ref a ∧ SqT K H a [] := by
  rcases c with h | ⟨a, _, h, _⟩
  · cases h with | tup0 h => exact ⟨_, rfl, .inr h⟩
  · cases h
theorem cur_scr (R : Rep K mg F G σ env H) {ns} (c : Cur K mg G H v (.scr ns)) : ∃ a, v = .ref a ∧ SqL K H a (ns.map V.int) := by
  rcases c with h | ⟨a, rfl, h, _⟩
  · cases h with | scr h =>
    refine ⟨_, rfl, h.imp (fun h => ?_) id⟩
    rcases h with h | ⟨b, h⟩
    · exact .inl (gh_of R h rfl)
    · exact .inr ⟨b, gh_of R h rfl⟩
  · cases h
/-- a new list, tuple of data -/
theorem newL (R : Rep K mg F G σ env H) {xs : List V} {ds : List D} (l : DVs K mg G xs ds) {p : Addr} (h : H p = none) : ∃ G', GLe G G' ∧ Rep K mg F G' σ env (upd H p (.lst xs)) ∧ DV K mg G' (.ref p) (.lst ds) := by
  obtain ⟨g, R'⟩ := R.new (o := .lst xs) h
  exact ⟨_, g, R', .lst upd_same (l.mono g)⟩
theorem newT (R : Rep K mg F G σ env H) {xs : List V} {ds : List D} (l : DVs K mg G xs ds) {p : Addr} (h : H p = none) : ∃ G', GLe G G' ∧ Rep K mg F G' σ env (upd H p (.tup xs)) ∧ DV K mg G' (.ref p) (.tup ds) := by
  obtain ⟨g, R'⟩ := R.new (o := .tup xs) h
  exact ⟨_, g, R', .tup upd_same (l.mono g)⟩
end

def rOr (r r' : R2) : R2 := fun x y H Q => r x y H Q ∨ r' x y H Q
theorem OpR.or {X : Cx} {f : Value → Value → Sem Value} {r r' : R2} (a : OpR X f r) (b : OpR X f r') : OpR X f (rOr r r') := fun pins s σ H x y v u Q I rx ry h => h.elim (a pins s σ H x y v u Q I rx ry) (b pins s σ H x y v u Q I rx ry)

def smallI (i : Int) : Bool := decide (-(2 ^ 64) < i) && decide (i < 2 ^ 64)
/-! ### + - * % // ** -/
def dAdd : D → D → Option D
  | .int i, .int j => some (.int (i + j))
  | .str a, .str b => if a.length + b.length ≤ sizeLine then some (.str (a ++ b)) else none
  | .lst a, .lst b => if a.length + b.length ≤ sizeLine then some (.lst (a ++ b)) else none
  | .tup a, .tup b => if a ≠ [] ∧ a.length + b.length ≤ sizeLine then some (.tup (a ++ b)) else none
  | _, _ => none
section
variable {X : Cx} {W : Wsh}
theorem or1 {a b : R2} {x y H Q} (h : a x y H Q) : rOr a b x y H Q := .inl h
theorem or2 {a b : R2} {x y H Q} (h : b x y H Q) : rOr a b x y H Q := .inr h
abbrev rAddI : R2 := rI0 fun i j => V.int (i + j)
abbrev rAddS : R2 := fun x y H Q => ∃ i j, x = .str i ∧ y = .str j ∧ i.length + j.length ≤ sizeLine ∧ Q (.str (i ++ j)) H
theorem opr_add : OpR X (binaryOp .Add) (rOr rAddI (rOr rAddS (rOr rCat (rCatT X.K)))) := op_add.or (op_add_str.or (op_cat.or op_catT))
theorem od_add : OpD X (rOr rAddI (rOr rAddS (rOr rCat (rCatT X.K)))) dAdd := by
  intro F G σ env H x y p q d Q R cx cy e k
  unfold dAdd at e
  split at e
  · cases e; cases cur_int cx; cases cur_int cy
    exact or1 ⟨_, _, rfl, rfl, k _ G H .refl R .int⟩
  · split at e
    · cases e; cases cur_str cx; cases cur_str cy
      exact or2 (or1 ⟨_, _, rfl, rfl, by assumption, k _ G H .refl R .str⟩)
    · cases e
  · split at e
    · rename_i hz
      cases e
      obtain ⟨a, xs, rfl, ha, la⟩ := cur_lst R cx
      obtain ⟨b, ys, rfl, hb, lb⟩ := cur_lst R cy
      refine or2 (or2 (or1 ⟨a, b, xs, ys, rfl, rfl, ha, hb, by rw [la.length, lb.length]; exact hz, fun p hp => ?_⟩))
      obtain ⟨G', g, R', dv⟩ := newL R (la.append lb) hp
      exact k _ G' _ g R' dv
    · cases e
  · split at e
    · rename_i hz
      cases e
      obtain ⟨a, xs, rfl, ha, la⟩ := cur_tup R cx
      obtain ⟨b, ys, rfl, hb, lb⟩ := cur_tup R cy
      refine or2 (or2 (or2 ⟨a, b, xs, ys, rfl, rfl, .of ha, .of hb, fun z => hz.1 ?_, by rw [la.length, lb.length]; exact hz.2, fun z => ?_, fun _ p hp => ?_⟩))
      · subst z; cases la; rfl
      · subst z
        cases lb
        rcases cx with c | ⟨_, _, c, _⟩
        · rw [List.append_nil] at k; exact k _ G H .refl R c
        · cases c
      · obtain ⟨G', g, R', dv⟩ := newT R (la.append lb) hp
        exact k _ G' _ g R' dv
    · cases e
  · cases e
theorem pb_add {a b : Expr} {fa fb} {pos} (ha : PB X W a fa) (hb : PB X W b fb) : PB X W (.BinOp a .Add b pos) (fOp dAdd fa fb) := pb_op opr_add od_add ha hb
def dSub : D → D → Option D
  | .int i, .int j => some (.int (i - j))
  | _, _ => none
theorem od_sub : OpD X (rI0 fun i j => V.int (i - j)) dSub := by
  intro F G σ env H x y p q d Q R cx cy e k
  unfold dSub at e
  split at e
  · cases e; cases cur_int cx; cases cur_int cy
    exact ⟨_, _, rfl, rfl, k _ G H .refl R .int⟩
  · cases e
theorem pb_sub {a b : Expr} {fa fb} {pos} (ha : PB X W a fa) (hb : PB X W b fb) : PB X W (.BinOp a .Sub b pos) (fOp dSub fa fb) := pb_op op_sub od_sub ha hb
def dMul : D → D → Option D
  | .int i, .int j => if (smallI i || smallI j) = true then some (.int (i * j)) else none
  | .lst a, .int k => if -(2 ^ 63) ≤ k ∧ k < 2 ^ 63 ∧ a.length * k.toNat ≤ sizeLine then some (.lst (List.replicate k.toNat a).flatten) else none
  | .str a, .int k => if -(2 ^ 63) ≤ k ∧ k < 2 ^ 63 ∧ a.length * k.toNat ≤ sizeLine then some (.str (Txt.mul a k)) else none
  | _, _ => none
theorem mul_ok {a : Str} {k : Int} (h : -(2 ^ 63) ≤ k ∧ k < 2 ^ 63 ∧ a.length * k.toNat ≤ sizeLine) : MulOk a k := by
  obtain ⟨h1, h2, h3⟩ := h
  refine ⟨?_, fun n _ => ?_, fun n _ => ?_⟩
  · rw [decide_eq_false (by omega), decide_eq_false (by omega)]; rfl
  · intro c
    have hk : (0 : Int) < k := by omega
    have : (a.length : Int) * k ≤ 2 ^ 63 - 1 := by
      have h4 : (a.length : Int) * k = ((a.length * k.toNat : Nat) : Int) := by rw [Int.natCast_mul, Int.toNat_of_nonneg (by omega)]
      have h5 : (sizeLine : Int) ≤ 2 ^ 63 - 1 := by decide
      omega
    have := Int.le_ediv_of_mul_le hk this
    omega
  · show decide (_ > sizeLine) = false
    exact decide_eq_false (by omega)
def rSMul : R2 := fun x y H Q => ∃ i n, x = .str i ∧ y = .int n ∧ MulOk i n ∧ Q (.str (Txt.mul i n)) H
theorem op_smul : OpR X (binaryOp .Mult) rSMul := by
  intro pins s σ H x y v u Q I rx ry h
  obtain ⟨i, n, rfl, rfl, hok, q⟩ := h
  obtain ⟨t, rfl⟩ := rx
  obtain ⟨t', rfl⟩ := ry
  exact SB.mul hok fun t2 k => ⟨.str _, _, I.kept (h' := s.heap) (t' := k) (fun b o e => e), ⟨_, rfl⟩, q⟩
theorem DVs.rep {K : PySem.W.Frag} {mg : Str → Option Value} {G : Hp} {xs : List V} {ds : List D} (l : DVs K mg G xs ds) : ∀ n, DVs K mg G (List.replicate n xs).flatten (List.replicate n ds).flatten
  | 0 => .nil
  | n + 1 => by
    rw [List.replicate_succ, List.replicate_succ, List.flatten_cons, List.flatten_cons]
    exact l.append (DVs.rep l n)
theorem od_mul : OpD X (rOr (rOr (rI CMul fun i j => V.int (i * j)) rRep) rSMul) dMul := by
  intro F G σ env H x y p q d Q R cx cy e k
  unfold dMul at e
  split at e
  · split at e
    · rename_i i j hz
      cases e; cases cur_int cx; cases cur_int cy
      unfold smallI at hz
      simp only [Bool.or_eq_true, Bool.and_eq_true, decide_eq_true_eq] at hz
      exact or1 (or1 ⟨_, _, rfl, rfl, hz, k _ G H .refl R .int⟩)
    · cases e
  · split at e
    · rename_i hz
      cases e
      obtain ⟨a, xs, rfl, ha, la⟩ := cur_lst R cx
      cases cur_int cy
      refine or1 (or2 ⟨a, _, xs, rfl, rfl, ha, hz.1, hz.2.1, by rw [la.length]; exact hz.2.2, fun p hp => ?_⟩)
      obtain ⟨G', g, R', dv⟩ := newL R (la.rep _) hp
      exact k _ G' _ g R' dv
    · cases e
  · split at e
    · rename_i hz
      cases e
      cases cur_str cx
      cases cur_int cy
      exact or2 ⟨_, _, rfl, rfl, mul_ok hz, k _ G H .refl R .str⟩
    · cases e
  · cases e
theorem pb_mul {a b : Expr} {fa fb} {pos} (ha : PB X W a fa) (hb : PB X W b fb) : PB X W (.BinOp a .Mult b pos) (fOp dMul fa fb) := pb_op ((op_mul.or op_rep).or op_smul) od_mul ha hb
def dMod : D → D → Option D
  | .int i, .int j => if 0 < j then some (.int (i % j)) else none
  | _, _ => none
theorem od_mod : OpD X (rI (fun _ j => 0 < j) fun i j => V.int (i % j)) dMod := by
  intro F G σ env H x y p q d Q R cx cy e k
  unfold dMod at e
  split at e
  · split at e
    · cases e; cases cur_int cx; cases cur_int cy
      exact ⟨_, _, rfl, rfl, by assumption, k _ G H .refl R .int⟩
    · cases e
  · cases e
theorem pb_mod {a b : Expr} {fa fb} {pos} (ha : PB X W a fa) (hb : PB X W b fb) : PB X W (.BinOp a .Mod b pos) (fOp dMod fa fb) := pb_op op_mod od_mod ha hb
def dDiv : D → D → Option D
  | .int i, .int j => if 0 < j ∧ j < 1073741824 then some (.int (i / j)) else none
  | _, _ => none
theorem od_div : OpD X (rI CDiv fun i j => V.int (i / j)) dDiv := by
  intro F G σ env H x y p q d Q R cx cy e k
  unfold dDiv at e
  split at e
  · split at e
    · cases e; cases cur_int cx; cases cur_int cy
      exact ⟨_, _, rfl, rfl, by assumption, k _ G H .refl R .int⟩
    · cases e
  · cases e
theorem pb_div {a b : Expr} {fa fb} {pos} (ha : PB X W a fa) (hb : PB X W b fb) : PB X W (.BinOp a .FloorDiv b pos) (fOp dDiv fa fb) := pb_op op_fdiv od_div ha hb
def dPow : D → D → Option D
  | .int i, .int j => if 0 ≤ j ∧ j ≤ 1000000 ∧ i.natAbs < 2 ^ 64 then some (.int (i ^ j.toNat)) else none
  | _, _ => none
theorem od_pow : OpD X (rI CPow fun i j => V.int (i ^ j.toNat)) dPow := by
  intro F G σ env H x y p q d Q R cx cy e k
  unfold dPow at e
  split at e
  · split at e
    · cases e; cases cur_int cx; cases cur_int cy
      exact ⟨_, _, rfl, rfl, by assumption, k _ G H .refl R .int⟩
    · cases e
  · cases e
theorem pb_pow {a b : Expr} {fa fb} {pos} (ha : PB X W a fa) (hb : PB X W b fb) : PB X W (.BinOp a .Pow b pos) (fOp dPow fa fb) := pb_op op_pow od_pow ha hb
end
end Rt
set_option Elab.async false
set_option linter.all false
set_option maxRecDepth 100000
set_option maxHeartbeats 4000000
/-! comparisons upon data; texts of data -/
namespace Rt
open PySem PySem.Spec L2
open PyProof.Rows hiding St

def keyP : Key → PyData
  | .inl i => .int i
  | .inr s => .str s
mutual
def D.py : D → PyData
  | .non => .none
  | .bl b => .bool b
  | .int i => .int i
  | .str s => .str s
  | .lst l => .list (D.pys l)
  | .tup l => .tuple (D.pys l)
  | .dct l => .dict (D.pyk l)
  | .dcT l => .dict (D.pyt l)
  | .obj _ _ => .none
  | .exc _ _ => .none
  | .scr l => .list (l.map .int)
  | .tup0 => .tuple []
def D.pys : List D → List PyData
  | [] => []
  | d :: l => d.py :: D.pys l
def D.pyk : List (Key × D) → List (PyData × PyData)
  | [] => []
  | (k, d) :: l => (keyP k, d.py) :: D.pyk l
def D.pyt : List (List Key × D) → List (PyData × PyData)
  | [] => []
  | (k, d) :: l => (.tuple (k.map keyP), d.py) :: D.pyt l
end
mutual
/-- lists and tuples of flat things -/
def D.seqs : D → Bool
  | .non => true
  | .bl _ => true
  | .int _ => true
  | .str _ => true
  | .lst l => D.seqsA l
  | .tup l => D.seqsA l
  | _ => false
def D.seqsA : List D → Bool
  | [] => true
  | d :: l => d.seqs && D.seqsA l
end
theorem D.pys_eq (l : List D) : D.pys l = l.map D.py := by induction l with
  | nil => rfl
  | cons d l ih => rw [D.pys, ih]; rfl
section
variable {K : PySem.W.Frag} {mg : Str → Option Value} {F : Fr} {G : Hp} {σ : L2.St} {env : En} {H : Hp} {v : V}
theorem seqs_no {d : D} (h : d.seqs = false) (q : d.seqs = true) : False := by rw [h] at q; cases q
mutual
theorem dv_dp (R : Rep K mg F G σ env H) : ∀ (v : V) (d : D), DV K mg G v d → d.seqs = true → L2.Dp K H v d.py
  | _, _, .non, _ => .non
  | _, _, .bl, _ => .bl _
  | _, _, .int, _ => .int _
  | _, _, .str, _ => .str _
  | _, _, .lst h l, q => .lst (.of (gh_of R h rfl)) (dvs_dp R _ _ l q)
  | _, _, .tup h l, q => .tup (.of (gh_of R h rfl)) (dvs_dp R _ _ l q)
  | _, _, .scr _, q => (seqs_no rfl q).elim
  | _, _, .tup0 _, q => (seqs_no rfl q).elim
  | _, _, .dct _ _ _, q => (seqs_no rfl q).elim
  | _, _, .dcT _ _ _, q => (seqs_no rfl q).elim
  | _, _, .obj _ _ _ _, q => (seqs_no rfl q).elim
theorem dvs_dp (R : Rep K mg F G σ env H) : ∀ (vs : List V) (ds : List D), DVs K mg G vs ds → D.seqsA ds = true → L2.DpAll K H vs (D.pys ds)
  | _, _, .nil, _ => .nil
  | _, _, .cons h l, q => .cons (dv_dp R _ _ h (Bool.and_eq_true_iff.mp q).1) (dvs_dp R _ _ l (Bool.and_eq_true_iff.mp q).2)
end
theorem cur_dp (R : Rep K mg F G σ env H) {d : D} (c : Cur K mg G H v d) (q : d.seqs = true) : L2.Dp K H v d.py := by
  rcases c with h | ⟨a, rfl, h, _⟩
  · exact dv_dp R _ _ h q
  · cases h with
    | lst h l => exact .lst (.of h) (dvs_dp R _ _ l q)
    | _ => cases q
end
def dEq : D → D → Option D
  | .int i, .int j => some (.bl (decide (i = j)))
  | .str i, .str j => some (.bl (decide (i = j)))
  | .bl i, .bl j => some (.bl (decide (i = j)))
  | a, b => if (a.seqs && b.seqs && SeqAt.shaped a.py && SeqAt.shaped b.py) = true then some (.bl (PyData.eqv a.py b.py)) else none
def dNot : D → Option D
  | .bl b => some (.bl (!b))
  | _ => none
def dNe (a b : D) : Option D := (dEq a b).bind dNot
section
variable {X : Cx} {W : Wsh}
theorem od_eq : OpD X (rOr rEq (rEqD X.K)) dEq := by
  intro F G σ env H x y p q d Q R cx cy e k
  unfold dEq at e
  split at e
  · cases e; cases cur_int cx; cases cur_int cy
    exact or1 ⟨rfl, by have := k _ G H .refl R (.bl); simpa using this⟩
  · cases e; cases cur_str cx; cases cur_str cy
    exact or1 ⟨rfl, by have := k _ G H .refl R (.bl); simpa using this⟩
  · cases e; cases cur_bl cx; cases cur_bl cy
    exact or1 ⟨rfl, by have := k _ G H .refl R (.bl); simpa using this⟩
  · split at e
    · rename_i hz
      cases e
      simp only [Bool.and_eq_true] at hz
      exact or2 ⟨_, _, cur_dp R cx hz.1.1.1, cur_dp R cy hz.1.1.2, hz.1.2, hz.2, k _ G H .refl R .bl⟩
    · cases e
theorem od_ne : OpD X (rOr rNe (rNeD X.K)) dNe := by
  intro F G σ env H x y p q d Q R cx cy e k
  unfold dNe dEq at e
  split at e
  · cases e; cases cur_int cx; cases cur_int cy
    exact or1 ⟨rfl, by have := k _ G H .refl R (.bl); simpa using this⟩
  · cases e; cases cur_str cx; cases cur_str cy
    exact or1 ⟨rfl, by have := k _ G H .refl R (.bl); simpa using this⟩
  · cases e; cases cur_bl cx; cases cur_bl cy
    exact or1 ⟨rfl, by have := k _ G H .refl R (.bl); simpa using this⟩
  · split at e
    · rename_i hz
      cases e
      simp only [Bool.and_eq_true] at hz
      exact or2 ⟨_, _, cur_dp R cx hz.1.1.1, cur_dp R cy hz.1.1.2, hz.1.2, hz.2, k _ G H .refl R .bl⟩
    · cases e
variable {k : Nat}
theorem pb_eq (Y : Hy X W k) {a b : Expr} {fa fb} {pos} (ha : PB X W a fa) (hb : PB X W b fb) : PB X W (.Compare a [.Eq] [b] pos) (fOp dEq fa fb) := pb_cmp (op_eq.or (op_eqD Y.un)) od_eq ha hb (nobehind _ (by decide) (by decide))
theorem pt_eq (Y : Hy X W k) {a b : Expr} {fa fb} {pos} (ha : PB X W a fa) (hb : PB X W b fb) : PTt X W (.Compare a [.Eq] [b] pos) (fTst (fOp dEq fa fb)) := ptt_cmp (op_eq.or (op_eqD Y.un)) od_eq ha hb (nobehind _ (by decide) (by decide))
theorem pb_ne (Y : Hy X W k) {a b : Expr} {fa fb} {pos} (ha : PB X W a fa) (hb : PB X W b fb) : PB X W (.Compare a [.NotEq] [b] pos) (fOp dNe fa fb) := pb_cmp (op_ne.or (op_neD Y.un)) od_ne ha hb (nobehind _ (by decide) (by decide))
theorem pt_ne (Y : Hy X W k) {a b : Expr} {fa fb} {pos} (ha : PB X W a fa) (hb : PB X W b fb) : PTt X W (.Compare a [.NotEq] [b] pos) (fTst (fOp dNe fa fb)) := ptt_cmp (op_ne.or (op_neD Y.un)) od_ne ha hb (nobehind _ (by decide) (by decide))
/-! < <= > >= -/
abbrev rCi (c : Int → Int → Bool) : R2 := rI0 fun i j => V.bl (c i j)
abbrev rCs (c : List Nat → List Nat → Bool) : R2 := fun x y H Q => ∃ i j, x = .str i ∧ y = .str j ∧ Q (.bl (c i.cps.toList j.cps.toList)) H
def dOrd (c : Int → Int → Bool) (cs : List Nat → List Nat → Bool) : D → D → Option D
  | .int i, .int j => some (.bl (c i j))
  | .str i, .str j => some (.bl (cs i.cps.toList j.cps.toList))
  | _, _ => none
theorem od_ord {c : Int → Int → Bool} {cs : List Nat → List Nat → Bool} : OpD X (rOr (rCi c) (rCs cs)) (dOrd c cs) := by
  intro F G σ env H x y p q d Q R cx cy e k
  unfold dOrd at e
  split at e
  · cases e; cases cur_int cx; cases cur_int cy
    exact or1 ⟨_, _, rfl, rfl, k _ G H .refl R .bl⟩
  · cases e; cases cur_str cx; cases cur_str cy
    exact or2 ⟨_, _, rfl, rfl, k _ G H .refl R .bl⟩
  · cases e
abbrev cLt : Int → Int → Bool := fun i j => decide (i < j)
abbrev cLe : Int → Int → Bool := fun i j => decide (i ≤ j)
abbrev cGt : Int → Int → Bool := fun i j => decide (j < i)
abbrev cGe : Int → Int → Bool := fun i j => decide (j ≤ i)
abbrev sLt : List Nat → List Nat → Bool := fun i j => decide (i < j)
abbrev sLe : List Nat → List Nat → Bool := fun i j => !decide (j < i)
abbrev sGt : List Nat → List Nat → Bool := fun i j => decide (j < i)
abbrev sGe : List Nat → List Nat → Bool := fun i j => !decide (i < j)
abbrev dLt := dOrd cLt sLt
abbrev dLe := dOrd cLe sLe
abbrev dGt := dOrd cGt sGt
abbrev dGe := dOrd cGe sGe
theorem or_lt : OpR X (compareOp .Lt) (rOr (rCi cLt) (rCs sLt)) := op_lt.or op_lt_str
theorem or_le : OpR X (compareOp .LtE) (rOr (rCi cLe) (rCs sLe)) := op_le.or op_le_str
theorem or_gt : OpR X (compareOp .Gt) (rOr (rCi cGt) (rCs sGt)) := op_gt.or op_gt_str
theorem or_ge : OpR X (compareOp .GtE) (rOr (rCi cGe) (rCs sGe)) := op_ge.or op_ge_str
theorem pb_lt {a b : Expr} {fa fb} {pos} (ha : PB X W a fa) (hb : PB X W b fb) : PB X W (.Compare a [.Lt] [b] pos) (fOp dLt fa fb) := pb_cmp or_lt od_ord ha hb (nobehind _ (by decide) (by decide))
theorem pb_le {a b : Expr} {fa fb} {pos} (ha : PB X W a fa) (hb : PB X W b fb) : PB X W (.Compare a [.LtE] [b] pos) (fOp dLe fa fb) := pb_cmp or_le od_ord ha hb (nobehind _ (by decide) (by decide))
theorem pb_gt {a b : Expr} {fa fb} {pos} (ha : PB X W a fa) (hb : PB X W b fb) : PB X W (.Compare a [.Gt] [b] pos) (fOp dGt fa fb) := pb_cmp or_gt od_ord ha hb (nobehind _ (by decide) (by decide))
theorem pb_ge {a b : Expr} {fa fb} {pos} (ha : PB X W a fa) (hb : PB X W b fb) : PB X W (.Compare a [.GtE] [b] pos) (fOp dGe fa fb) := pb_cmp or_ge od_ord ha hb (nobehind _ (by decide) (by decide))
theorem pt_lt {a b : Expr} {fa fb} {pos} (ha : PB X W a fa) (hb : PB X W b fb) : PTt X W (.Compare a [.Lt] [b] pos) (fTst (fOp dLt fa fb)) := ptt_cmp or_lt od_ord ha hb (nobehind _ (by decide) (by decide))
theorem pt_le {a b : Expr} {fa fb} {pos} (ha : PB X W a fa) (hb : PB X W b fb) : PTt X W (.Compare a [.LtE] [b] pos) (fTst (fOp dLe fa fb)) := ptt_cmp or_le od_ord ha hb (nobehind _ (by decide) (by decide))
theorem pt_gt {a b : Expr} {fa fb} {pos} (ha : PB X W a fa) (hb : PB X W b fb) : PTt X W (.Compare a [.Gt] [b] pos) (fTst (fOp dGt fa fb)) := ptt_cmp or_gt od_ord ha hb (nobehind _ (by decide) (by decide))
theorem pt_ge {a b : Expr} {fa fb} {pos} (ha : PB X W a fa) (hb : PB X W b fb) : PTt X W (.Compare a [.GtE] [b] pos) (fTst (fOp dGe fa fb)) := ptt_cmp or_ge od_ord ha hb (nobehind _ (by decide) (by decide))
/-- chains of < and <= -/
theorem pb_lele {a b c : Expr} {fa fb fc} {pos} (ha : PB X W a fa) (hb : PB X W b fb) (hc : PB X W c fc) (hm : lastMarks [.LtE, .LtE] [b, c] = false := by with_unfolding_all rfl) : PB X W (.Compare a [.LtE, .LtE] [b, c] pos) (fChain dLe dLe fa fb fc) := pb_chain or_le or_le od_ord od_ord ha hb hc hm
theorem pt_lele {a b c : Expr} {fa fb fc} {pos} (ha : PB X W a fa) (hb : PB X W b fb) (hc : PB X W c fc) (hm : lastMarks [.LtE, .LtE] [b, c] = false := by with_unfolding_all rfl) : PTt X W (.Compare a [.LtE, .LtE] [b, c] pos) (fTst (fChain dLe dLe fa fb fc)) := ptt_chain or_le or_le od_ord od_ord ha hb hc hm
/-! is None -/
def dIsN : D → D → Option D
  | .non, .non => some (.bl true)
  | .obj _ _, .non => some (.bl false)
  | .bl _, .non => some (.bl false)
  | .int _, .non => some (.bl false)
  | .str _, .non => some (.bl false)
  | .lst _, .non => some (.bl false)
  | .tup _, .non => some (.bl false)
  | .dct _, .non => some (.bl false)
  | .dcT _, .non => some (.bl false)
  | _, _ => none
def dNotN (a b : D) : Option D := (dIsN a b).bind dNot
theorem isn_aux {K : PySem.W.Frag} {mg : Str → Option Value} {F : Fr} {G : Hp} {σ : L2.St} {env : En} {H : Hp} {x y : V} {p q d : D} (R : Rep K mg F G σ env H) (cx : Cur K mg G H x p) (cy : Cur K mg G H y q) (e : dIsN p q = some d) : y = .non ∧ d = .bl (decide (x = .non)) := by
  unfold dIsN at e
  split at e
  · cases e; cases cur_non cx; cases cur_non cy; exact ⟨rfl, by simp⟩
  · cases e; obtain ⟨a, _, _, _, rfl, _⟩ := cur_obj R cx; cases cur_non cy; exact ⟨rfl, by simp⟩
  · cases e; cases cur_bl cx; cases cur_non cy; exact ⟨rfl, by simp⟩
  · cases e; cases cur_int cx; cases cur_non cy; exact ⟨rfl, by simp⟩
  · cases e; cases cur_str cx; cases cur_non cy; exact ⟨rfl, by simp⟩
  · cases e; obtain ⟨a, _, rfl, _⟩ := cur_lst R cx; cases cur_non cy; exact ⟨rfl, by simp⟩
  · cases e; obtain ⟨a, _, rfl, _⟩ := cur_tup R cx; cases cur_non cy; exact ⟨rfl, by simp⟩
  · cases e; obtain ⟨a, _, rfl, _⟩ := cur_dct R cx; cases cur_non cy; exact ⟨rfl, by simp⟩
  · cases e; obtain ⟨a, _, rfl, _⟩ := cur_dcT R cx; cases cur_non cy; exact ⟨rfl, by simp⟩
  · cases e
theorem od_isN : OpD X (fun x y H Q => y = .non ∧ Q (.bl (decide (x = .non))) H) dIsN := by
  intro F G σ env H x y p q d Q R cx cy e k
  obtain ⟨h1, h2⟩ := isn_aux R cx cy e
  exact ⟨h1, k _ G H .refl R (h2 ▸ .bl)⟩
theorem od_notN : OpD X (fun x y H Q => y = .non ∧ Q (.bl (!decide (x = .non))) H) dNotN := by
  intro F G σ env H x y p q d Q R cx cy e k
  unfold dNotN at e
  cases z : dIsN p q with
  | none => rw [z] at e; cases e
  | some u =>
    rw [z] at e
    obtain ⟨h1, rfl⟩ := isn_aux R cx cy z
    cases e
    exact ⟨h1, k _ G H .refl R .bl⟩
theorem pb_is {a b : Expr} {fa fb} {pos} (ha : PB X W a fa) (hb : PB X W b fb) : PB X W (.Compare a [.Is] [b] pos) (fOp dIsN fa fb) := pb_cmp op_isN od_isN ha hb (nobehind _ (by decide) (by decide))
theorem pt_is {a b : Expr} {fa fb} {pos} (ha : PB X W a fa) (hb : PB X W b fb) : PTt X W (.Compare a [.Is] [b] pos) (fTst (fOp dIsN fa fb)) := ptt_cmp op_isN od_isN ha hb (nobehind _ (by decide) (by decide))
theorem pb_isnot {a b : Expr} {fa fb} {pos} (ha : PB X W a fa) (hb : PB X W b fb) : PB X W (.Compare a [.IsNot] [b] pos) (fOp dNotN fa fb) := pb_cmp op_notN od_notN ha hb (nobehind _ (by decide) (by decide))
theorem pt_isnot {a b : Expr} {fa fb} {pos} (ha : PB X W a fa) (hb : PB X W b fb) : PTt X W (.Compare a [.IsNot] [b] pos) (fTst (fOp dNotN fa fb)) := ptt_cmp op_notN od_notN ha hb (nobehind _ (by decide) (by decide))
end
end Rt
set_option Elab.async false
set_option linter.all false
set_option maxRecDepth 100000
set_option maxHeartbeats 4000000
/-! names, constants, and, or, not, if, displays -/
namespace Rt
open PySem PySem.Spec L2
open PyProof.Rows hiding St
section
variable {X : Cx} {W : Wsh} {k : Nat} {a b c : Expr} {fa fb fc : En → Rs (Hd × En)} {ta tb : En → Rs (Bool × En)} {pos : Pos}
def fVar (i : Nat) : En → Rs (Hd × En) := fun e => match e[i]? with
  | some .no => .bad
  | none => .bad
  | some _ => .ok (.slot i, e)
theorem pb_var {x : Str} {i : Nat} (hN : X.N[i]? = some x) (hv : Vis X.env.scope x) (hd : (x == ("__debug__" : Str)) = false := by decide) (hcd : (x == ("__classdict__" : Str)) = false := by decide) : PB X W (.Name x pos) (fVar i) :=
  fun F => pe_weak (pe_var hN hv hd hcd) fun σ H Q h => by
    obtain ⟨G, env, R, h⟩ := h
    unfold fVar at h
    cases q : env[i]? with
    | none => rw [q] at h; exact h.elim
    | some s =>
      have sl := R.sl i s q
      rw [q] at h
      cases s with
      | no => exact h.elim
      | val d => obtain ⟨v, e, _⟩ := sl; exact ⟨v, e, h v G H .refl R e⟩
      | own d => obtain ⟨v, e, _⟩ := sl; exact ⟨_, e, h _ G H .refl R e⟩
      | io n d => obtain ⟨v, e, _⟩ := sl; exact ⟨_, e, h _ G H .refl R e⟩
def fC (d : D) : En → Rs (Hd × En) := fun e => .ok (.dat d, e)
theorem pb_c {e : Expr} {v : V} {d : D} (h : PE X e (tC v)) (hv : ∀ G, DV X.K X.mg G v d) : PB X W e (fC d) := fun F => pe_weak h fun σ H Q q => by
  obtain ⟨G, env, R, q⟩ := q
  exact q v G H .refl R (hv G)
theorem pb_int {i j} : PB X W (.Constant (.int i) j pos) (fC (.int i)) := pb_c pe_int fun _ => .int
theorem pb_bl {i j} : PB X W (.Constant (.bool i) j pos) (fC (.bl i)) := pb_c pe_bl fun _ => .bl
theorem pb_non {j} : PB X W (.Constant .none j pos) (fC .non) := pb_c pe_non fun _ => .non
theorem pb_str {s j} : PB X W (.Constant (.str s) j pos) (fC (.str s)) := pb_c pe_str fun _ => .str
theorem pb_glI {x : Str} {i : Int} {t} (hg : Gl X x) (hm : X.mg x = some (.int i t)) (hd : (x == ("__debug__" : Str)) = false := by decide) : PB X W (.Name x pos) (fC (.int i)) := pb_c (v := .int i) (pe_glob hg hm ⟨_, rfl⟩ hd) fun _ => .int
theorem pb_glS {x s : Str} {t} (hg : Gl X x) (hm : X.mg x = some (.str s t)) (hd : (x == ("__debug__" : Str)) = false := by decide) : PB X W (.Name x pos) (fC (.str s)) := pb_c (v := .str s) (pe_glob hg hm ⟨_, rfl⟩ hd) fun _ => .str

/-! tests -/
theorem tT_of {K : PySem.W.Frag} {mg : Str → Option Value} {F : Fr} {t : En → Rs (Bool × En)} {σ : L2.St} {H : Hp} {Q : Bool → Hp → Prop} (h : tT K mg W F t σ H Q) : tT K mg W F t σ H Q := h
/-- a value that is True or False, as a test -/
theorem pt_pb (h : PB X W a fa) (he : ∀ whole, isTrue a X.env whole = (do let v ← whole; standAt a.pos; holding [v] (truthy v)) := by intro _; rfl) : PTt X W a (fTst fa) := fun F => pt_weak (pt_val (h F) he) fun _ _ _ q => tst_of q
def dTru : D → Option Bool
  | .non => some false
  | .bl b => some b
  | .int i => some (i != 0)
  | .str s => if s.length ≤ sizeLine then some ((s.length : Int) != 0) else none
  | .lst l => some (!l.isEmpty)
  | .tup l => some (!l.isEmpty)
  | _ => none
def fTru (f : En → Rs (Hd × En)) : En → Rs (Bool × En) := fun e => f e >>= fun r => Rs.of (r.1.get r.2) >>= fun d => Rs.of (dTru d) >>= fun b => .ok (b, r.2)
theorem emp_of {K : PySem.W.Frag} {mg : Str → Option Value} {G : Hp} {xs : List V} {ds : List D} (l : DVs K mg G xs ds) : (!ds.isEmpty) = !xs.isEmpty := by cases l <;> rfl
/-- any value, as a test -/
theorem pt_tru (h : PB X W a fa) (he : ∀ whole, isTrue a X.env whole = (do let v ← whole; standAt a.pos; holding [v] (truthy v)) := by intro _; rfl) : PTt X W a (fTru fa) := fun F => pt_weak (pt_truth (h F) he) fun σ H Q q => by
  obtain ⟨G, env, R, q⟩ := q
  refine ⟨G, env, R, Rs.wp_mono (Rs.wp_bind.mp q) (fun r q v G1 H1 g1 R1 o1 => ?_) fun _ _ _ z => z⟩
  obtain ⟨d, ed, q⟩ := wp_of (Rs.wp_bind.mp q)
  obtain ⟨b, eb, q⟩ := wp_of (Rs.wp_bind.mp q)
  have cu := o1.cur R1 ed
  refine ⟨b, ?_, q G1 H1 g1 R1⟩
  unfold dTru at eb
  split at eb
  · cases eb; cases cur_non cu; rfl
  · cases eb; cases cur_bl cu; rfl
  · cases eb; cases cur_int cu; rfl
  · split at eb
    · cases eb; cases cur_str cu; exact ⟨by assumption, rfl⟩
    · cases eb
  · cases eb; obtain ⟨p, xs, rfl, hp, l⟩ := cur_lst R1 cu; exact .inl ⟨xs, .of hp, emp_of l⟩
  · cases eb; obtain ⟨p, xs, rfl, hp, l⟩ := cur_tup R1 cu; exact .inr (.inl ⟨xs, .of hp, emp_of l⟩)
  · cases eb
def fNotT (t : En → Rs (Bool × En)) : En → Rs (Bool × En) := fun e => t e >>= fun r => .ok (!r.1, r.2)
theorem pt_no (h : PTt X W a ta) : PTt X W (.UnaryOp .Not a pos) (fNotT ta) := fun F => pt_weak (pt_not (h F)) fun σ H Q q => by
  obtain ⟨G, env, R, q⟩ := q
  exact ⟨G, env, R, Rs.wp_mono (Rs.wp_bind.mp q) (fun r q G1 H1 g1 R1 => q G1 H1 g1 R1) fun _ _ _ z => z⟩
def fAnd (t u : En → Rs (Bool × En)) : En → Rs (Bool × En) := fun e => t e >>= fun r => if r.1 = true then u r.2 else .ok (false, r.2)
def fOr (t u : En → Rs (Bool × En)) : En → Rs (Bool × En) := fun e => t e >>= fun r => if r.1 = true then .ok (true, r.2) else u r.2
def PWt (X : Cx) (W : Wsh) (e : Expr) (f : En → Rs (Bool × En)) : Prop := ∀ F, PW X e (tT X.K X.mg W F f)
theorem pw_weak {X : Cx} {e : Expr} {t t' : TT} (h : PW X e t) (w : ∀ σ H Q, t' σ H Q → t σ H Q) : PW X e t' := ⟨fun wh pins s σ H Q I q => h.run wh pins s σ H Q I (w σ H Q q)⟩
theorem pt_w (h : PWt X W a ta) : PTt X W a ta := fun F => (h F).pt
theorem pw_a1 (h : PTt X W a ta) : PWt X W (.BoolOp .And [a] pos) ta := fun F => pw_and1 (h F)
theorem pw_o1 (h : PTt X W a ta) : PWt X W (.BoolOp .Or [a] pos) ta := fun F => pw_or1 (h F)
theorem pw_a {rest : List Expr} (h : PTt X W a ta) (h2 : PWt X W (.BoolOp .And (b :: rest) pos) tb) : PWt X W (.BoolOp .And (a :: b :: rest) pos) (fAnd ta tb) := fun F => pw_weak (pw_and (h F) (h2 F)) fun σ H Q q => by
  obtain ⟨G, env, R, q⟩ := q
  refine ⟨G, env, R, Rs.wp_mono (Rs.wp_bind.mp q) (fun r q G1 H1 g1 R1 => ?_) fun _ _ _ z => z⟩
  obtain ⟨b, e1⟩ := r
  cases b with
  | false => exact q G1 H1 g1 R1
  | true => exact ⟨G1, e1, R1, Rs.wp_mono q (fun r q G2 H2 g2 R2 => q G2 H2 (g1.trans g2) R2) fun _ _ _ z => z.mono g1⟩
theorem pw_o {rest : List Expr} (h : PTt X W a ta) (h2 : PWt X W (.BoolOp .Or (b :: rest) pos) tb) : PWt X W (.BoolOp .Or (a :: b :: rest) pos) (fOr ta tb) := fun F => pw_weak (pw_or (h F) (h2 F)) fun σ H Q q => by
  obtain ⟨G, env, R, q⟩ := q
  refine ⟨G, env, R, Rs.wp_mono (Rs.wp_bind.mp q) (fun r q G1 H1 g1 R1 => ?_) fun _ _ _ z => z⟩
  obtain ⟨b, e1⟩ := r
  cases b with
  | true => exact q G1 H1 g1 R1
  | false => exact ⟨G1, e1, R1, Rs.wp_mono q (fun r q G2 H2 g2 R2 => q G2 H2 (g1.trans g2) R2) fun _ _ _ z => z.mono g1⟩
/-! .. as values -/
def fAndV (f g : En → Rs (Hd × En)) : En → Rs (Hd × En) := fun e => f e >>= fun r => match r.1 with
  | .dat (.bl true) => g r.2
  | .dat (.bl false) => .ok (.dat (.bl false), r.2)
  | _ => .bad
def fOrV (f g : En → Rs (Hd × En)) : En → Rs (Hd × En) := fun e => f e >>= fun r => match r.1 with
  | .dat (.bl false) => g r.2
  | .dat (.bl true) => .ok (.dat (.bl true), r.2)
  | _ => .bad
def fNotV (f : En → Rs (Hd × En)) : En → Rs (Hd × En) := fun e => f e >>= fun r => match r.1 with
  | .dat (.bl b) => .ok (.dat (.bl (!b)), r.2)
  | _ => .bad
theorem tB_up {K : PySem.W.Frag} {mg : Str → Option Value} {F : Fr} {f : En → Rs (Hd × En)} {σ : L2.St} {G G1 : Hp} {H1 : Hp} {e1 : En} {Q : VK} (g1 : GLe G G1) (R1 : Rep K mg F G1 σ e1 H1)
    (q : (f e1).wp (fun r => ∀ v G' H', GLe G G' → Rep K mg F G' σ r.2 H' → HdOk K mg G' σ v r.1 → Q v H') (ZX K mg W F G σ)) : tB K mg W F f σ H1 Q :=
  ⟨G1, e1, R1, Rs.wp_mono q (fun r q v G2 H2 g2 R2 o2 => q v G2 H2 (g1.trans g2) R2 o2) fun _ _ _ z => z.mono g1⟩
theorem pb_one {op} (h : PB X W a fa) : PB X W (.BoolOp op [a] pos) fa := fun F => pe_one (h F)
theorem pb_and {rest : List Expr} (h : PB X W a fa) (h2 : PB X W (.BoolOp .And (b :: rest) pos) fb) : PB X W (.BoolOp .And (a :: b :: rest) pos) (fAndV fa fb) := fun F => pe_weak (pe_and (h F) (h2 F)) fun σ H Q q => by
  obtain ⟨G, env, R, q⟩ := q
  refine ⟨G, env, R, Rs.wp_mono (Rs.wp_bind.mp q) (fun r q v G1 H1 g1 R1 o1 => ?_) fun _ _ _ z => z⟩
  obtain ⟨hd, e1⟩ := r
  cases hd with
  | slot i => exact q.elim
  | dat d =>
    cases d with
    | bl b =>
      cases o1
      refine ⟨b, rfl, ?_⟩
      cases b with
      | true => exact tB_up g1 R1 q
      | false => exact q _ G1 H1 g1 R1 .bl
    | _ => exact q.elim
theorem pb_or {rest : List Expr} (h : PB X W a fa) (h2 : PB X W (.BoolOp .Or (b :: rest) pos) fb) : PB X W (.BoolOp .Or (a :: b :: rest) pos) (fOrV fa fb) := fun F => pe_weak (pe_or (h F) (h2 F)) fun σ H Q q => by
  obtain ⟨G, env, R, q⟩ := q
  refine ⟨G, env, R, Rs.wp_mono (Rs.wp_bind.mp q) (fun r q v G1 H1 g1 R1 o1 => ?_) fun _ _ _ z => z⟩
  obtain ⟨hd, e1⟩ := r
  cases hd with
  | slot i => exact q.elim
  | dat d =>
    cases d with
    | bl b =>
      cases o1
      refine ⟨b, rfl, ?_⟩
      cases b with
      | false => exact tB_up g1 R1 q
      | true => exact q _ G1 H1 g1 R1 .bl
    | _ => exact q.elim
theorem pb_not (h : PB X W a fa) : PB X W (.UnaryOp .Not a pos) (fNotV fa) := fun F => pe_weak (pe_not (h F)) fun σ H Q q => by
  obtain ⟨G, env, R, q⟩ := q
  refine ⟨G, env, R, Rs.wp_mono (Rs.wp_bind.mp q) (fun r q v G1 H1 g1 R1 o1 => ?_) fun _ _ _ z => z⟩
  obtain ⟨hd, e1⟩ := r
  cases hd with
  | slot i => exact q.elim
  | dat d =>
    cases d with
    | bl b => cases o1; exact ⟨b, rfl, q _ G1 H1 g1 R1 .bl⟩
    | _ => exact q.elim
def fNeg (f : En → Rs (Hd × En)) : En → Rs (Hd × En) := fun e => f e >>= fun r => Rs.of (r.1.get r.2) >>= fun d => match d with
  | .int i => .ok (.dat (.int (-i)), r.2)
  | _ => .bad
theorem pb_neg (h : PB X W a fa) : PB X W (.UnaryOp .USub a pos) (fNeg fa) := fun F => pe_weak (pe_un un_neg (h F)) fun σ H Q q => by
  obtain ⟨G, env, R, q⟩ := q
  refine ⟨G, env, R, Rs.wp_mono (Rs.wp_bind.mp q) (fun r q v G1 H1 g1 R1 o1 => ?_) fun _ _ _ z => z⟩
  obtain ⟨d, ed, q⟩ := wp_of (Rs.wp_bind.mp q)
  cases d with
  | int i => cases cur_int (o1.cur R1 ed); exact ⟨i, rfl, q _ G1 H1 g1 R1 .int⟩
  | _ => exact q.elim
def fIf (t : En → Rs (Bool × En)) (f g : En → Rs (Hd × En)) : En → Rs (Hd × En) := fun e => t e >>= fun r => if r.1 = true then f r.2 else g r.2
theorem pb_if (ht : PTt X W c ta) (ha : PB X W a fa) (hb : PB X W b fb) : PB X W (.IfExp c a b pos) (fIf ta fa fb) := fun F => pe_weak (pe_ifExp (ht F) (ha F) (hb F)) fun σ H Q q => by
  obtain ⟨G, env, R, q⟩ := q
  refine ⟨G, env, R, Rs.wp_mono (Rs.wp_bind.mp q) (fun r q G1 H1 g1 R1 => ?_) fun _ _ _ z => z⟩
  obtain ⟨b, e1⟩ := r
  cases b with
  | true => exact tB_up g1 R1 q
  | false => exact tB_up g1 R1 q

/-! argument lists and displays -/
def fNil : En → Rs (List Hd × En) := fun e => .ok ([], e)
def fCons (f : En → Rs (Hd × En)) (g : En → Rs (List Hd × En)) : En → Rs (List Hd × En) := fun e => f e >>= fun r => g r.2 >>= fun q => .ok (r.1 :: q.1, q.2)
theorem pas_nil : PAs X W [] fNil := fun F => pa_weak pa_nil fun σ H Q q => by
  obtain ⟨G, env, R, q⟩ := q
  exact q [] G H .refl R .nil
theorem pas_cons {es : List Expr} {g : En → Rs (List Hd × En)} (h : PB X W a fa) (hr : PAs X W es g) (hs : starEach (a :: es) X.env = (false, eval a X.env) :: starEach es X.env := by rfl) : PAs X W (a :: es) (fCons fa g) := fun F => pa_weak (pa_cons (h F) (hr F) hs) fun σ H Q q => by
  obtain ⟨G, env, R, q⟩ := q
  refine ⟨G, env, R, Rs.wp_mono (Rs.wp_bind.mp q) (fun r q v G1 H1 g1 R1 o1 => ?_) fun _ _ _ z => z⟩
  refine ⟨G1, r.2, R1, Rs.wp_mono (Rs.wp_bind.mp q) (fun r2 q vs G2 H2 g2 R2 o2 => ?_) fun _ _ _ z => z.mono g1⟩
  exact q _ G2 H2 (g1.trans g2) R2 (.cons (o1.mono g2) o2)
/-- the items, kept -/
def fItems (g : En → Rs (List Hd × En)) : En → Rs (List D × En) := fun e => g e >>= fun r => escs r.2 r.1
def fTup (g : En → Rs (List Hd × En)) : En → Rs (Hd × En) := fun e => fItems g e >>= fun r => if r.1.length ≤ sizeLine then .ok (.dat (.tup r.1), r.2) else .bad
def fLst (g : En → Rs (List Hd × En)) : En → Rs (D × En) := fun e => fItems g e >>= fun r => if r.1.length ≤ sizeLine then .ok (.lst r.1, r.2) else .bad
theorem hdsok_len {K : PySem.W.Frag} {mg : Str → Option Value} {G : Hp} {σ : L2.St} : ∀ {vs : List V} {hs : List Hd}, HdsOk K mg G σ vs hs → vs.length = hs.length
  | _, _, .nil => rfl
  | _, _, .cons _ l => congrArg (· + 1) (hdsok_len l)
/-- the items of a display: their values, kept -/
theorem items_of {K : PySem.W.Frag} {mg : Str → Option Value} {F : Fr} {g : En → Rs (List Hd × En)} {σ : L2.St} {G : Hp} {env : En} {H : Hp} {P : List D × En → Prop} {Qv : List V → Hp → Prop} (R : Rep K mg F G σ env H)
    (q : (fItems g env).wp P (ZX K mg W F G σ)) (k : ∀ r vs G' H', P r → GLe G G' → Rep K mg F G' σ r.2 H' → DVs K mg G' vs r.1 → Qv vs H') : tA K mg W F g σ H Qv := by
  refine ⟨G, env, R, Rs.wp_mono (Rs.wp_bind.mp q) (fun r q vs G1 H1 g1 R1 o1 => ?_) fun _ _ _ z => z⟩
  cases e : escs r.2 r.1 with
  | bad => rw [e] at q; exact q.elim
  | exc c fs e2 =>
    exfalso
    have no : ∀ (hs : List Hd) (en : En) c fs e2, escs en hs ≠ .exc c fs e2 := by
      intro hs
      induction hs with
      | nil => intro en c fs e2 z; cases z
      | cons h hs ih =>
        intro en c fs e2 z
        have z : (h.esc en >>= fun r => escs r.2 hs >>= fun q => .ok (r.1 :: q.1, q.2)) = .exc c fs e2 := z
        cases y : h.esc en with
        | bad => rw [y] at z; cases z
        | exc c' fs' e' =>
          cases h with
          | dat d => cases y
          | slot i =>
            have y : (match en[i]? with | some (.val d) => Rs.ok (d, en) | some (.own d) => .ok (d, en.set i (.val d)) | _ => .bad) = .exc c' fs' e' := y
            split at y <;> cases y
        | ok r =>
          rw [y, Rs.ok_bind] at z
          cases w : escs r.2 hs with
          | bad => rw [w] at z; cases z
          | exc c' fs' e' => exact ih _ _ _ _ w
          | ok r' => rw [w] at z; cases z
    exact no _ _ _ _ _ e
  | ok r2 =>
    rw [e] at q
    obtain ⟨G2, g2, R2, dv⟩ := HdsOk.escs R1 o1 e
    exact k r2 vs G2 H1 q (g1.trans g2) R2 dv
theorem pb_tup {es : List Expr} {x1} {g : En → Rs (List Hd × En)} (h : PAs X W es g) : PB X W (.Tuple es x1 pos) (fTup g) := fun F => pe_weak (pe_tup (h F)) fun σ H Q q => by
  obtain ⟨G, env, R, q⟩ := q
  refine items_of R (Rs.wp_bind.mp q) fun r vs G1 H1 q g1 R1 dv => ?_
  split at q
  · refine ⟨by rw [dv.length]; assumption, fun p hp => ?_⟩
    obtain ⟨G2, g2, R2, d2⟩ := newT R1 dv hp
    exact q _ G2 _ (g1.trans g2) R2 d2
  · exact q.elim
/-- a new object of its own, kept as it is from now on -/
def fKeep (f : En → Rs (D × En)) : En → Rs (Hd × En) := fun e => f e >>= fun r => .ok (.dat r.1, r.2)
theorem Rep.hold {K : PySem.W.Frag} {mg : Str → Option Value} {F : Fr} {G : Hp} {σ : L2.St} {env : En} {H : Hp} {p : Addr} {d : D} (R : Rep K mg F G σ env H) (h0 : F.H0 p = none) (hg : G p = none) (r : Root K mg G H p d) (fr : Fresh F σ env p) :
    ∃ G', GLe G G' ∧ Rep K mg F G' σ env H ∧ DV K mg G' (.ref p) d := by
  obtain ⟨o, ho⟩ := r.some
  refine ⟨upd G p o, GLe.upd hg, R.grow (GLe.upd hg) (fun a u e => ?_) (fun a u e => ?_) (fun _ _ e => e) (fun i a ra => ?_) (fun q hq => ?_), r.dv hg ho⟩
  · by_cases z : a = p
    · subst z; exact .inr (.inl h0)
    · rw [upd_ne z] at e; exact .inl e
  · by_cases z : a = p
    · subst z; rw [upd_same] at e; cases e; exact .inl ho
    · rw [upd_ne z] at e; exact R.gh a u e
  · rw [upd_ne (fun z : a = p => fr.1 i (z ▸ ra))]; exact (R.rootSome ra).1
  · rw [upd_ne (fun z : q.1 = p => fr.2 (z ▸ List.mem_map_of_mem (f := (·.1)) hq))]; exact (R.tsk q hq).2.1
theorem pb_keep {f : En → Rs (D × En)} (h : PO X W a f) : PB X W a (fKeep f) := fun F => pe_weak (h F) fun σ H Q q => by
  obtain ⟨G, env, R, q⟩ := q
  refine ⟨G, env, R, Rs.wp_mono (Rs.wp_bind.mp q) (fun r q p G1 H1 g1 R1 h0 hg rt fr => ?_) fun _ _ _ z => z⟩
  obtain ⟨G2, g2, R2, dv⟩ := R1.hold h0 hg rt fr
  exact q _ G2 H1 (g1.trans g2) R2 dv
theorem fresh_new {K : PySem.W.Frag} {mg : Str → Option Value} {F : Fr} {G : Hp} {σ : L2.St} {env : En} {H : Hp} {p : Addr} (R : Rep K mg F G σ env H) (h : H p = none) : Fresh F σ env p := by
  refine ⟨fun i r => ?_, fun m => ?_⟩
  · obtain ⟨_, o, q⟩ := R.rootSome r
    rw [h] at q; cases q
  · obtain ⟨q, hq, rfl⟩ := List.mem_map.mp m
    obtain ⟨_, _, r⟩ := R.tsk q hq
    obtain ⟨o, e⟩ := r.some
    rw [h] at e; cases e
/-- a new object may still change -/
theorem own_new {K : PySem.W.Frag} {mg : Str → Option Value} {F : Fr} {G : Hp} {σ : L2.St} {env : En} {H : Hp} {p : Addr} {o : HO} {d : D} {Q : VK} (R : Rep K mg F G σ env H) (h : H p = none) (rt : Root K mg G (upd H p o) p d)
    (q : ∀ a G' H', GLe G G' → Rep K mg F G' σ env H' → F.H0 a = none → G' a = none → Root K mg G' H' a d → Fresh F σ env a → Q (.ref a) H') : Q (.ref p) (upd H p o) :=
  q p G _ .refl (R.alloc h) (R.free0 h) (R.freeG h) rt (fresh_new R h)
theorem po_lst {es : List Expr} {g : En → Rs (List Hd × En)} (h : PAs X W es g) : PO X W (.List es pos) (fLst g) := fun F => pe_weak (pe_lst (h F)) fun σ H Q q => by
  obtain ⟨G, env, R, q⟩ := q
  refine items_of R (Rs.wp_bind.mp q) fun r vs G1 H1 q g1 R1 dv => ?_
  split at q
  · refine ⟨by rw [dv.length]; assumption, fun p hp => ?_⟩
    exact own_new R1 hp (.lst upd_same dv) fun a G' H' g => q a G' H' (g1.trans g)
  · exact q.elim
end
end Rt
set_option Elab.async false
set_option linter.all false
set_option maxRecDepth 100000
set_option maxHeartbeats 4000000
/-! subscripts, slices, in, calls of built-ins -/
namespace Rt
open PySem PySem.Spec L2
open PyProof.Rows hiding St

/-- a key's value -/
def look {κ : Type} [DecidableEq κ] (l : List (κ × D)) (k : κ) : Option D := (l.find? fun p => decide (p.1 = k)).map (·.2)
def keyOf : D → Option Key
  | .int i => some (.inl i)
  | .str s => some (.inr s)
  | _ => none
def keysOf : List D → Option (List Key)
  | [] => some []
  | d :: l => (keyOf d).bind fun k => (keysOf l).bind fun ks => some (k :: ks)
section
variable {K : PySem.W.Frag} {mg : Str → Option Value} {F : Fr} {G : Hp} {σ : L2.St} {env : En} {H : Hp}
theorem look_dv {κ : Type} [DecidableEq κ] : ∀ {ks : List (κ × V)} {dk : List (κ × D)} {k : κ}, ks.map (·.1) = dk.map (·.1) → DVs K mg G (ks.map (·.2)) (dk.map (·.2)) →
    (∀ d, look dk k = some d → ∃ v, valV ks k = some v ∧ DV K mg G v d) ∧ (look dk k = none → valV ks k = none)
  | [], [], k, _, _ => ⟨fun d z => (nomatch z), fun _ => rfl⟩
  | [], _ :: _, _, e, _ => by cases e
  | _ :: _, [], _, e, _ => by cases e
  | (a, v) :: ks, (b, u) :: dk, k, e, l => by
    injection e with e1 e2
    cases l with
    | cons h l =>
      have ih := look_dv (k := k) e2 l
      have e1 : a = b := e1
      subst e1
      by_cases z : a = k
      · refine ⟨fun d q => ?_, fun q => ?_⟩
        · simp only [look, List.find?_cons, z, decide_true, Option.map_some] at q
          cases q
          exact ⟨v, by simp [valV, List.find?_cons, z], h⟩
        · simp [look, List.find?_cons, z] at q
      · refine ⟨fun d q => ?_, fun q => ?_⟩
        · have q : look dk k = some d := by simpa [look, List.find?_cons, z] using q
          obtain ⟨w, e, h⟩ := ih.1 d q
          exact ⟨w, by simpa [valV, List.find?_cons, z] using e, h⟩
        · have q : look dk k = none := by simpa [look, List.find?_cons, z] using q
          simpa [valV, List.find?_cons, z] using ih.2 q
theorem keyOf_v {d : D} {k : Key} {v : V} (h : DV K mg G v d) (e : keyOf d = some k) : v = kV k := by
  cases h with
  | int => cases e; rfl
  | str => cases e; rfl
  | _ => cases e
theorem keysOf_v : ∀ {vs : List V} {ds : List D} {k : List Key}, DVs K mg G vs ds → keysOf ds = some k → vs = k.map kV
  | _, _, _, .nil, e => by cases e; rfl
  | _, _, _, .cons (d := d) (ds := ds) h l, e => by
    unfold keysOf at e
    cases q : keyOf d with
    | none => rw [q] at e; cases e
    | some k =>
      rw [q] at e
      cases q2 : keysOf ds with
      | none => rw [q2] at e; cases e
      | some ks => rw [q2] at e; cases e; rw [keyOf_v h q, keysOf_v l q2]; rfl
/-- what a dict answers -/
def dLook : D → D → Option (Option D)
  | .dct l, .int i => some (look l (.inl i))
  | .dct l, .str s => some (look l (.inr s))
  | .dcT l, .tup ks => (keysOf ks).map fun k => look l k
  | _, _ => none
theorem dLook_ok (R : Rep K mg F G σ env H) {x y : V} {p q : D} {o : Option D} (cx : Cur K mg G H x p) (cy : Cur K mg G H y q) (e : dLook p q = some o) :
    ∃ a r, x = .ref a ∧ DGet H a y r ∧ (∀ d, o = some d → ∃ v, r = some v ∧ DV K mg G v d) ∧ (o = none → r = none) := by
  unfold dLook at e
  split at e
  · rename_i l i
    cases e
    obtain ⟨a, ks, rfl, hr, hk, hv⟩ := cur_dct R cx
    cases cur_int cy
    have z := look_dv (k := (Sum.inl i : Key)) hk hv
    exact ⟨a, _, rfl, .inl ⟨ks, .inl i, hr, rfl, rfl⟩, z.1, z.2⟩
  · rename_i l i
    cases e
    obtain ⟨a, ks, rfl, hr, hk, hv⟩ := cur_dct R cx
    cases cur_str cy
    have z := look_dv (k := (Sum.inr i : Key)) hk hv
    exact ⟨a, _, rfl, .inl ⟨ks, .inr i, hr, rfl, rfl⟩, z.1, z.2⟩
  · rename_i l ds
    obtain ⟨a, ks, rfl, hr, hk, hv⟩ := cur_dcT R cx
    obtain ⟨b, xs, rfl, hb, hd⟩ := cur_tup R cy
    cases q : keysOf ds with
    | none => rw [q] at e; cases e
    | some kk =>
      rw [q] at e
      cases e
      have z := look_dv (k := kk) hk hv
      exact ⟨a, _, rfl, .inr ⟨ks, kk, b, hr, rfl, by rw [hb, keysOf_v hd q], rfl⟩, z.1, z.2⟩
  · cases e
end
/-- x[i] -/
def dIx : D → D → Option D
  | .lst l, .int i => atI l i
  | .tup l, .int i => atI l i
  | .str s, .int i => if s.length ≤ sizeLine then (atI s.cps.toList i).map fun c => .str ⟨#[c]⟩ else none
  | a, b => (dLook a b).bind id
section
variable {X : Cx} {W : Wsh} {k : Nat} {a b c : Expr} {fa fb fc : En → Rs (Hd × En)} {pos : Pos}
theorem atI_dv {K : PySem.W.Frag} {mg : Str → Option Value} {G : Hp} {xs : List V} {ds : List D} {i : Int} {d : D} (l : DVs K mg G xs ds) (e : atI ds i = some d) : ∃ v, atI xs i = some v ∧ DV K mg G v d := by
  unfold atI at e ⊢
  rw [← l.length] at e
  cases q : ixN xs.length i with
  | none => rw [q] at e; cases e
  | some j => rw [q] at e; exact l.get e
def rIxD : R2 := fun x y H Q => ∃ a v, x = .ref a ∧ DGet H a y (some v) ∧ Q v H
theorem tailG {P : Program} {w : World} {A : Around} {E : Value → Shared → Prop} {s : Shared} {value slice : Expr} {o i : Value} {T id : String} {Q : Value → Shared → Prop} (hT : s.TypeIs o T)
    (hl : typeLookup (.type T) "__getitem__" = pure (some (.builtin id))) (h : wpAny (model P w) A (getItem o i) Q E s) (hs : subscripted slice false o i = operate [o, i] (getItem o i)) :
    wpAny (model P w) A (subscriptTail value slice o i) Q E s := by
  have last : wpAny (model P w) A (subscripted slice false o i) (fun r s' => wpAny (model P w) A (letTemporaryGo value o r >>= fun _ => pure r) Q E s') E s := by
    rw [hs]
    refine wpAny_operating (wpAny_mono h (fun r s' q => ?_) fun _ _ z => z)
    exact wpAny_bind (wpAny_letTemporaryGo (wpAny_pure q))
  unfold subscriptTail
  refine wpAny_bind ?_
  rw [getitemInPython_of_ne hT.not_modules]
  refine wpAny_bind (wpAny_specialOf hT hl ?_)
  first
    | exact wpAny_bind last
    | exact wpAny_pure (wpAny_bind last)
    | exact wpAny_bind (wpAny_pure (wpAny_bind last))
theorem ix_dict (hu : X.A.units + 1 < cLine) : IxR X rIxD := by
  intro value slice pins s σ H x y v u Q I rx ry h hs
  obtain ⟨a, w, rfl, g, q⟩ := h
  cases rx
  exact tailG (dict_typeIs I g) PySem.F.slot_dict_getitem.lookup (d_getItem hu I g ry fun w' s3 I3 rw' => ⟨w, H, I3, rw', q⟩) hs
abbrev rIxA (K : PySem.W.Frag) : R2 := fun x y H Q => rIx K x y H Q ∨ rIxD x y H Q
theorem od_ix : OpD X (rIxA X.K) dIx := by
  intro F G σ env H x y p q d Q R cx cy e k
  unfold dIx at e
  split at e
  · obtain ⟨a, xs, rfl, ha, l⟩ := cur_lst R cx
    cases cur_int cy
    obtain ⟨v, ev, dv⟩ := atI_dv l e
    exact .inl (.inl ⟨a, xs, _, v, rfl, rfl, .of ha, ev, k v G H .refl R dv⟩)
  · obtain ⟨a, xs, rfl, ha, l⟩ := cur_tup R cx
    cases cur_int cy
    obtain ⟨v, ev, dv⟩ := atI_dv l e
    exact .inl (.inr (.inl ⟨a, xs, _, v, rfl, rfl, .of ha, ev, k v G H .refl R dv⟩))
  · rename_i z i
    cases cur_str cx; cases cur_int cy
    split at e
    · cases w : atI z.cps.toList i with
      | none => rw [w] at e; cases e
      | some c => rw [w] at e; cases e; exact .inl (.inr (.inr ⟨z, i, c, rfl, rfl, by assumption, w, k _ G H .refl R .str⟩))
    · cases e
  · cases w : dLook p q with
    | none => rw [w] at e; cases e
    | some o =>
      rw [w] at e
      have e : o = some d := e
      obtain ⟨a, r, rfl, g, h1, _⟩ := dLook_ok R cx cy w
      obtain ⟨v, rfl, dv⟩ := h1 d e
      exact .inr ⟨a, v, rfl, g, k v G H .refl R dv⟩
theorem pb_ix (Y : Hy X W k) (ha : PB X W a fa) (hb : PB X W b fb) (hs : PlainIx b) : PB X W (.Subscript a b pos) (fOp dIx fa fb) :=
  fun F => pe_weak (pe_ix (ix_seq.or (ix_dict (by have := Y.un; omega))) (ha F) (hb F) hs) fun _ _ _ h => tOp_of od_ix h
/-! slices -/
def cutD {α : Type} (l : List α) (lo hi : Option Int) : List α := (l.drop (HT.sIx l.length 0 lo)).take (HT.sIx l.length l.length hi - HT.sIx l.length 0 lo)
def dSl : D → Option Int → Option Int → Option D
  | .lst l, lo, hi => some (.lst (cutD l lo hi))
  | .scr l, lo, hi => some (.lst ((cutD l lo hi).map .int))
  | .tup l, lo, hi => if HT.sIx l.length 0 lo = 0 ∧ HT.sIx l.length l.length hi = l.length then none else some (.tup (cutD l lo hi))
  | .str s, lo, hi => if s.length ≤ sizeLine then some (.str (cutS s lo hi)) else none
  | _, _, _ => none
def fPt : Option (En → Rs (Hd × En)) → En → Rs (Option Int × En)
  | none, e => .ok (none, e)
  | some f, e => f e >>= fun r => Rs.of (r.1.get r.2) >>= fun d => match d with
    | .int i => .ok (some i, r.2)
    | _ => .bad
def fSl (f : En → Rs (Hd × En)) (lo hi : Option (En → Rs (Hd × En))) : En → Rs (Hd × En) := fun e => f e >>= fun r => fPt lo r.2 >>= fun l => fPt hi l.2 >>= fun h => Rs.of (r.1.get h.2) >>= fun d => Rs.of (dSl d l.1 h.1) >>= fun d => .ok (.dat d, h.2)
def tPt (K : PySem.W.Frag) (mg : Str → Option Value) (W : Wsh) (F : Fr) (p : Option (En → Rs (Hd × En))) : L2.TO := fun σ H Q => ∃ G env, Rep K mg F G σ env H ∧ (fPt p env).wp (fun r => ∀ G' H', GLe G G' → Rep K mg F G' σ r.2 H' → Q r.1 H') (ZX K mg W F G σ)
def PPt (X : Cx) (W : Wsh) (e : Option Expr) (p : Option (En → Rs (Hd × En))) : Prop := ∀ F, L2.PO X e (tPt X.K X.mg W F p)
theorem po_weak {e : Option Expr} {t t' : L2.TO} (h : L2.PO X e t) (w : ∀ σ H Q, t' σ H Q → t σ H Q) : L2.PO X e t' := ⟨fun pins s σ H Q I q => h.run pins s σ H Q I (w σ H Q q)⟩
theorem ppt_no : PPt X W none none := fun F => po_weak po_none fun σ H Q q => by
  obtain ⟨G, env, R, q⟩ := q
  exact q G H .refl R
theorem ppt_some (h : PB X W a fa) : PPt X W (some a) (some fa) := fun F => po_weak (po_some (h F)) fun σ H Q q => by
  obtain ⟨G, env, R, q⟩ := q
  refine ⟨G, env, R, Rs.wp_mono (Rs.wp_bind.mp q) (fun r q v G1 H1 g1 R1 o1 => ?_) fun _ _ _ z => z⟩
  obtain ⟨d, ed, q⟩ := wp_of (Rs.wp_bind.mp q)
  cases d with
  | int i => cases cur_int (o1.cur R1 ed); exact ⟨i, rfl, q G1 H1 g1 R1⟩
  | _ => exact q.elim
theorem dvs_cut {K : PySem.W.Frag} {mg : Str → Option Value} {G : Hp} {xs : List V} {ds : List D} (l : DVs K mg G xs ds) (lo hi : Option Int) : DVs K mg G (cutV xs lo hi) (cutD ds lo hi) := by
  unfold cutV cutD
  rw [l.length]
  exact (l.drop _).take _
theorem dvs_ints {K : PySem.W.Frag} {mg : Str → Option Value} {G : Hp} : ∀ ns : List Int, DVs K mg G (ns.map V.int) (ns.map D.int)
  | [] => .nil
  | _ :: l => .cons .int (dvs_ints l)
theorem pb_sl {p2} {lo hi : Option Expr} {fl fh : Option (En → Rs (Hd × En))} (ha : PB X W a fa) (hl : PPt X W lo fl) (hh : PPt X W hi fh) : PB X W (.Subscript a (.Slice lo hi none p2) pos) (fSl fa fl fh) :=
  fun F => pe_weak (pe_slice (sl_list.or (sl_tup.or sl_str)) (ha F) (hl F) (hh F)) fun σ H Q q => by
  obtain ⟨G, env, R, q⟩ := q
  refine ⟨G, env, R, Rs.wp_mono (Rs.wp_bind.mp q) (fun r q v G1 H1 g1 R1 o1 => ?_) fun _ _ _ z => z⟩
  refine ⟨G1, r.2, R1, Rs.wp_mono (Rs.wp_bind.mp q) (fun l q G2 H2 g2 R2 => ?_) fun _ _ _ z => z.mono g1⟩
  refine ⟨G2, l.2, R2, Rs.wp_mono (Rs.wp_bind.mp q) (fun h q G3 H3 g3 R3 => ?_) fun _ _ _ z => z.mono (g1.trans g2)⟩
  obtain ⟨d, ed, q⟩ := wp_of (Rs.wp_bind.mp q)
  obtain ⟨d', ed', q⟩ := wp_of (Rs.wp_bind.mp q)
  have cu := (o1.mono (g2.trans g3)).cur R3 ed
  have gg := (g1.trans g2).trans g3
  unfold dSl at ed'
  split at ed'
  · cases ed'
    obtain ⟨p, xs, rfl, hp, dl⟩ := cur_lst R3 cu
    refine .inl ⟨p, xs, rfl, .of hp, fun b hb => ?_⟩
    obtain ⟨G4, g4, R4, d4⟩ := newL R3 (dvs_cut dl l.1 h.1) hb
    exact q _ G4 _ (gg.trans g4) R4 d4
  · cases ed'
    obtain ⟨p, rfl, hp⟩ := cur_scr R3 cu
    refine .inl ⟨p, _, rfl, hp, fun b hb => ?_⟩
    have e : ∀ ns : List Int, cutV (ns.map V.int) l.1 h.1 = (cutD ns l.1 h.1).map V.int := fun ns => by
      unfold cutV cutD; rw [List.length_map, List.map_take, List.map_drop]
    rw [e]
    obtain ⟨G4, g4, R4, d4⟩ := newL R3 (dvs_ints _) hb
    exact q _ G4 _ (gg.trans g4) R4 d4
  · split at ed'
    · cases ed'
    · cases ed'
      obtain ⟨p, xs, rfl, hp, dl⟩ := cur_tup R3 cu
      refine .inr (.inl ⟨p, xs, rfl, .of hp, by rw [dl.length]; assumption, fun b hb => ?_⟩)
      obtain ⟨G4, g4, R4, d4⟩ := newT R3 (dvs_cut dl l.1 h.1) hb
      exact q _ G4 _ (gg.trans g4) R4 d4
  · split at ed'
    · cases ed'
      cases cur_str cu
      exact .inr (.inr ⟨_, rfl, by assumption, q _ G3 H3 gg R3 .str⟩)
    · cases ed'
  · cases ed'
end
end Rt
set_option Elab.async false
set_option linter.all false
set_option maxRecDepth 100000
set_option maxHeartbeats 4000000
/-! in; calls of built-ins -/
namespace Rt
open PySem PySem.Spec L2
open PyProof.Rows hiding St
section
variable {X : Cx} {W : Wsh} {k : Nat} {a b c : Expr} {fa fb fc : En → Rs (Hd × En)} {pos : Pos}
/-! ### in, not in -/
def D.flat : D → Bool
  | .non => true
  | .bl _ => true
  | .int _ => true
  | .str _ => true
  | _ => false
def D.flv : D → V
  | .bl b => .bl b
  | .int i => .int i
  | .str s => .str s
  | _ => .non
theorem flv_of {K : PySem.W.Frag} {mg : Str → Option Value} {G : Hp} {v : V} {d : D} (h : DV K mg G v d) (f : d.flat = true) : v = d.flv ∧ flatV v = true := by
  cases h with
  | non => exact ⟨rfl, rfl⟩
  | bl => exact ⟨rfl, rfl⟩
  | int => exact ⟨rfl, rfl⟩
  | str => exact ⟨rfl, rfl⟩
  | _ => cases f
theorem flvs_of {K : PySem.W.Frag} {mg : Str → Option Value} {G : Hp} : ∀ {vs : List V} {ds : List D}, DVs K mg G vs ds → ds.all D.flat = true → vs = ds.map D.flv ∧ vs.all flatV = true
  | _, _, .nil, _ => ⟨rfl, rfl⟩
  | _, _, .cons h l, f => by
    rw [List.all_cons, Bool.and_eq_true] at f
    obtain ⟨h1, h2⟩ := flv_of h f.1
    obtain ⟨t1, t2⟩ := flvs_of l f.2
    exact ⟨by rw [h1, t1]; rfl, by rw [List.all_cons, h2, t2]; rfl⟩
theorem cur_flv {K : PySem.W.Frag} {mg : Str → Option Value} {G H : Hp} {v : V} {d : D} (h : Cur K mg G H v d) (f : d.flat = true) : v = d.flv ∧ flatV v = true := by
  rcases h with h | ⟨a, _, h, _⟩
  · exact flv_of h f
  · cases h <;> cases f
def dInB (x y : D) : Option Bool := match y with
  | .lst l => if (x.flat && l.all D.flat) = true then some (inV x.flv (l.map D.flv)) else none
  | .tup l => if (x.flat && l.all D.flat) = true then some (inV x.flv (l.map D.flv)) else none
  | .str t => match x with
    | .str s => some (!(Builtin.Str.occurrences t s 0 t.length 1).isEmpty)
    | _ => none
  | _ => (dLook y x).map Option.isSome
def dIn (x y : D) : Option D := (dInB x y).map .bl
def dNin (x y : D) : Option D := (dInB x y).map fun b => .bl (!b)
def rDi (n : Bool) : R2 := fun y x H Q => ∃ a o, x = .ref a ∧ DGet H a y o ∧ Q (.bl (if n = true then !o.isSome else o.isSome)) H
theorem or_din (hu : X.A.units + 1 < cLine) : OpR X (compareOp .In) (rDi false) := by
  intro pins s σ H x y v u Q I rx ry h
  obtain ⟨a, o, rfl, g, q⟩ := h
  cases ry
  exact d_in hu I g rx fun s3 I3 => ⟨.bl o.isSome, H, I3, rfl, q⟩
theorem or_dnin (hu : X.A.units + 1 < cLine) : OpR X (compareOp .NotIn) (rDi true) := by
  intro pins s σ H x y v u Q I rx ry h
  obtain ⟨a, o, rfl, g, q⟩ := h
  cases ry
  exact d_notIn hu I g rx fun s3 I3 => ⟨.bl (!o.isSome), H, I3, rfl, q⟩
abbrev rIs : R2 := fun x y H Q => ∃ i j, x = .str i ∧ y = .str j ∧ Q (.bl (!(Builtin.Str.occurrences j i 0 j.length 1).isEmpty)) H
abbrev rNis : R2 := fun x y H Q => ∃ i j, x = .str i ∧ y = .str j ∧ Q (.bl !(!(Builtin.Str.occurrences j i 0 j.length 1).isEmpty)) H
/-- the three kinds, once for in and not in -/
theorem in_aux {K : PySem.W.Frag} {mg : Str → Option Value} {F : Fr} {G : Hp} {σ : L2.St} {env : En} {H : Hp} {x y : V} {p q : D} {b : Bool} (R : Rep K mg F G σ env H) (cx : Cur K mg G H x p) (cy : Cur K mg G H y q) (e : dInB p q = some b) :
    (∃ a xs, y = .ref a ∧ (SqL K H a xs ∨ SqT K H a xs) ∧ flatV x = true ∧ xs.all flatV = true ∧ inV x xs = b) ∨ (∃ i j, x = .str i ∧ y = .str j ∧ (!(Builtin.Str.occurrences j i 0 j.length 1).isEmpty) = b) ∨ (∃ a o, y = .ref a ∧ DGet H a x o ∧ o.isSome = b) := by
  have dic : (dLook q p).map Option.isSome = some b → ∃ a o, y = .ref a ∧ DGet H a x o ∧ o.isSome = b := fun e => by
    cases z : dLook q p with
    | none => rw [z] at e; cases e
    | some o =>
      rw [z] at e
      obtain ⟨a, r, rfl, g, h1, h2⟩ := dLook_ok R cy cx z
      refine ⟨a, r, rfl, g, ?_⟩
      cases e
      cases o with
      | none => rw [h2 rfl]; rfl
      | some d => obtain ⟨v, rfl, _⟩ := h1 d rfl; rfl
  cases q with
  | lst l =>
    have e : (if (p.flat && l.all D.flat) = true then some (inV p.flv (l.map D.flv)) else none) = some b := e
    split at e
    · rename_i hz
      cases e
      rw [Bool.and_eq_true] at hz
      obtain ⟨a, xs, rfl, ha, dl⟩ := cur_lst R cy
      obtain ⟨t1, t2⟩ := flvs_of dl hz.2
      obtain ⟨u1, u2⟩ := cur_flv cx hz.1
      exact .inl ⟨a, xs, rfl, .inl (.of ha), u2, t2, by rw [u1, t1]⟩
    · cases e
  | tup l =>
    have e : (if (p.flat && l.all D.flat) = true then some (inV p.flv (l.map D.flv)) else none) = some b := e
    split at e
    · rename_i hz
      cases e
      rw [Bool.and_eq_true] at hz
      obtain ⟨a, xs, rfl, ha, dl⟩ := cur_tup R cy
      obtain ⟨t1, t2⟩ := flvs_of dl hz.2
      obtain ⟨u1, u2⟩ := cur_flv cx hz.1
      exact .inl ⟨a, xs, rfl, .inr (.of ha), u2, t2, by rw [u1, t1]⟩
    · cases e
  | str t =>
    cases p with
    | str s => cases cur_str cx; cases cur_str cy; exact .inr (.inl ⟨s, t, rfl, rfl, Option.some.inj e⟩)
    | _ => cases e
  | dct l => exact .inr (.inr (dic e))
  | dcT l => exact .inr (.inr (dic e))
  | _ => cases e
theorem od_in : OpD X (rOr (rIn X.K false) (rOr rIs (rDi false))) dIn := by
  intro F G σ env H x y p q d Q R cx cy e k
  unfold dIn at e
  cases z : dInB p q with
  | none => rw [z] at e; cases e
  | some b =>
    rw [z] at e
    cases e
    rcases in_aux R cx cy z with ⟨a, xs, rfl, h1, h2, h3, h4⟩ | ⟨i, j, rfl, rfl, h⟩ | ⟨a, o, rfl, g, h⟩
    · exact or1 ⟨a, xs, rfl, h1, h2, h3, by rw [h4]; exact k _ G H .refl R .bl⟩
    · exact or2 (or1 ⟨i, j, rfl, rfl, by rw [h]; exact k _ G H .refl R .bl⟩)
    · exact or2 (or2 ⟨a, o, rfl, g, by rw [h]; exact k _ G H .refl R .bl⟩)
theorem od_nin : OpD X (rOr (rIn X.K true) (rOr rNis (rDi true))) dNin := by
  intro F G σ env H x y p q d Q R cx cy e k
  unfold dNin at e
  cases z : dInB p q with
  | none => rw [z] at e; cases e
  | some b =>
    rw [z] at e
    cases e
    rcases in_aux R cx cy z with ⟨a, xs, rfl, h1, h2, h3, h4⟩ | ⟨i, j, rfl, rfl, h⟩ | ⟨a, o, rfl, g, h⟩
    · exact or1 ⟨a, xs, rfl, h1, h2, h3, by rw [h4]; exact k _ G H .refl R .bl⟩
    · exact or2 (or1 ⟨i, j, rfl, rfl, by rw [h]; exact k _ G H .refl R .bl⟩)
    · exact or2 (or2 ⟨a, o, rfl, g, by rw [h]; exact k _ G H .refl R .bl⟩)
theorem orr_in (Y : Hy X W k) : OpR X (compareOp .In) (rOr (rIn X.K false) (rOr rIs (rDi false))) := op_in_seq.or (op_in_str.or (or_din (by have := Y.un; omega)))
theorem orr_nin (Y : Hy X W k) : OpR X (compareOp .NotIn) (rOr (rIn X.K true) (rOr rNis (rDi true))) := op_notIn_seq.or (op_notin_str.or (or_dnin (by have := Y.un; omega)))
theorem pb_in (Y : Hy X W k) (ha : PB X W a fa) (hb : PB X W b fb) (hm : behindInMarks .In b = false) : PB X W (.Compare a [.In] [b] pos) (fOp dIn fa fb) := pb_cmp (orr_in Y) od_in ha hb hm
theorem pt_in (Y : Hy X W k) (ha : PB X W a fa) (hb : PB X W b fb) (hm : behindInMarks .In b = false) : PTt X W (.Compare a [.In] [b] pos) (fTst (fOp dIn fa fb)) := ptt_cmp (orr_in Y) od_in ha hb hm
theorem pb_nin (Y : Hy X W k) (ha : PB X W a fa) (hb : PB X W b fb) (hm : behindInMarks .NotIn b = false) : PB X W (.Compare a [.NotIn] [b] pos) (fOp dNin fa fb) := pb_cmp (orr_nin Y) od_nin ha hb hm
theorem pt_nin (Y : Hy X W k) (ha : PB X W a fa) (hb : PB X W b fb) (hm : behindInMarks .NotIn b = false) : PTt X W (.Compare a [.NotIn] [b] pos) (fTst (fOp dNin fa fb)) := ptt_cmp (orr_nin Y) od_nin ha hb hm

/-! ### calls by values -/
abbrev RN := List V → Hp → VK → Prop
def rnOr (r r' : RN) : RN := fun x H Q => r x H Q ∨ r' x H Q
theorem CallR.or {f : Value} {r r' : RN} (h : CallR X f r) (h' : CallR X f r') : CallR X f (rnOr r r') := fun pins s σ H xs us Q I rv q => q.elim (h pins s σ H xs us Q I rv) (h' pins s σ H xs us Q I rv)
def CallD (X : Cx) (r : RN) (op : List D → Option D) : Prop := ∀ (F : Fr) (G : Hp) (σ : L2.St) (env : En) (H : Hp) (vs : List V) (ds : List D) (d : D) (Q : VK), Rep X.K X.mg F G σ env H → Curs X.K X.mg G H vs ds → op ds = some d →
  (∀ v G' H', GLe G G' → Rep X.K X.mg F G' σ env H' → DV X.K X.mg G' v d → Q v H') → r vs H Q
/-- .. whose answer is a new object of its own -/
def CallO (X : Cx) (r : RN) (op : List D → Option D) : Prop := ∀ (F : Fr) (G : Hp) (σ : L2.St) (env : En) (H : Hp) (vs : List V) (ds : List D) (d : D) (Q : VK), Rep X.K X.mg F G σ env H → Curs X.K X.mg G H vs ds → op ds = some d →
  (∀ a G' H', GLe G G' → Rep X.K X.mg F G' σ env H' → F.H0 a = none → G' a = none → Root X.K X.mg G' H' a d → Fresh F σ env a → Q (.ref a) H') → r vs H Q
def fCall (op : List D → Option D) (g : En → Rs (List Hd × En)) : En → Rs (Hd × En) := fun e => g e >>= fun r => Rs.of (gets r.2 r.1) >>= fun ds => Rs.of (op ds) >>= fun d => .ok (.dat d, r.2)
def fCallO (op : List D → Option D) (g : En → Rs (List Hd × En)) : En → Rs (D × En) := fun e => g e >>= fun r => Rs.of (gets r.2 r.1) >>= fun ds => Rs.of (op ds) >>= fun d => .ok (d, r.2)
theorem tCB_of {r : RN} {op : List D → Option D} {g : En → Rs (List Hd × En)} (hc : CallD X r op) {F : Fr} {σ : L2.St} {H : Hp} {Q : VK} (q : tB X.K X.mg W F (fCall op g) σ H Q) : tCB r (tA X.K X.mg W F g) σ H Q := by
  obtain ⟨G, env, R, q⟩ := q
  refine ⟨G, env, R, Rs.wp_mono (Rs.wp_bind.mp q) (fun r q vs G1 H1 g1 R1 o1 => ?_) fun _ _ _ z => z⟩
  obtain ⟨ds, ed, q⟩ := wp_of (Rs.wp_bind.mp q)
  obtain ⟨d, ed', q⟩ := wp_of (Rs.wp_bind.mp q)
  exact hc F G1 σ r.2 H1 vs ds d Q R1 (o1.curs R1 ed) ed' fun v G' H' g' R' dv => q v G' H' (g1.trans g') R' dv
theorem tCB_ofO {r : RN} {op : List D → Option D} {g : En → Rs (List Hd × En)} (hc : CallO X r op) {F : Fr} {σ : L2.St} {H : Hp} {Q : VK} (q : tO X.K X.mg W F (fCallO op g) σ H Q) : tCB r (tA X.K X.mg W F g) σ H Q := by
  obtain ⟨G, env, R, q⟩ := q
  refine ⟨G, env, R, Rs.wp_mono (Rs.wp_bind.mp q) (fun r q vs G1 H1 g1 R1 o1 => ?_) fun _ _ _ z => z⟩
  obtain ⟨ds, ed, q⟩ := wp_of (Rs.wp_bind.mp q)
  obtain ⟨d, ed', q⟩ := wp_of (Rs.wp_bind.mp q)
  exact hc F G1 σ r.2 H1 vs ds d Q R1 (o1.curs R1 ed) ed' fun v G' H' g' R' => q v G' H' (g1.trans g') R'
variable {e : Expr} {es : List Expr} {g : En → Rs (List Hd × En)} {x : Str} {p : Pos}
theorem pb_callB {id : String} {r : RN} {op : List D → Option D} (hc : CallR X (.builtin id) r) (hd : CallD X r op) (hg : Gl X x) (hm : X.mg x = none) (hv : bootBuiltins x = some (.builtin id)) (ha : PAs X W (e :: es) g) (hn : x ≠ "__name__" := by decide) (hdb : (x == ("__debug__" : Str)) = false := by decide)
    (he : starEach (e :: es) X.env = (false, eval e X.env) :: starEach es X.env := by rfl) (hpl : (backTo pos (starEach es X.env)).any (·.1) = false := by rfl) : PB X W (.Call (.Name x p) (e :: es) [] pos) (fCall op g) :=
  fun F => pe_weak (pe_callB hc hg hm hv (ha F) hn hdb he hpl) fun _ _ _ q => tCB_of hd q
theorem pb_callT {T : String} {r : RN} {op : List D → Option D} (hc : CallR X (.type T) r) (hd : CallD X r op) (hg : Gl X x) (hm : X.mg x = none) (hv : bootBuiltins x = some (.type T)) (ha : PAs X W (e :: es) g) (hn : x ≠ "__name__" := by decide) (hdb : (x == ("__debug__" : Str)) = false := by decide)
    (he : starEach (e :: es) X.env = (false, eval e X.env) :: starEach es X.env := by rfl) (hpl : (backTo pos (starEach es X.env)).any (·.1) = false := by rfl) : PB X W (.Call (.Name x p) (e :: es) [] pos) (fCall op g) :=
  fun F => pe_weak (pe_callTy hc hg hm hv (ha F) hn hdb he hpl) fun _ _ _ q => tCB_of hd q
theorem po_callB {id : String} {r : RN} {op : List D → Option D} (hc : CallR X (.builtin id) r) (hd : CallO X r op) (hg : Gl X x) (hm : X.mg x = none) (hv : bootBuiltins x = some (.builtin id)) (ha : PAs X W (e :: es) g) (hn : x ≠ "__name__" := by decide) (hdb : (x == ("__debug__" : Str)) = false := by decide)
    (he : starEach (e :: es) X.env = (false, eval e X.env) :: starEach es X.env := by rfl) (hpl : (backTo pos (starEach es X.env)).any (·.1) = false := by rfl) : PO X W (.Call (.Name x p) (e :: es) [] pos) (fCallO op g) :=
  fun F => pe_weak (pe_callB hc hg hm hv (ha F) hn hdb he hpl) fun _ _ _ q => tCB_ofO hd q
theorem po_callT {T : String} {r : RN} {op : List D → Option D} (hc : CallR X (.type T) r) (hd : CallO X r op) (hg : Gl X x) (hm : X.mg x = none) (hv : bootBuiltins x = some (.type T)) (ha : PAs X W (e :: es) g) (hn : x ≠ "__name__" := by decide) (hdb : (x == ("__debug__" : Str)) = false := by decide)
    (he : starEach (e :: es) X.env = (false, eval e X.env) :: starEach es X.env := by rfl) (hpl : (backTo pos (starEach es X.env)).any (·.1) = false := by rfl) : PO X W (.Call (.Name x p) (e :: es) [] pos) (fCallO op g) :=
  fun F => pe_weak (pe_callTy hc hg hm hv (ha F) hn hdb he hpl) fun _ _ _ q => tCB_ofO hd q
theorem curs1 {K : PySem.W.Frag} {mg : Str → Option Value} {G H : Hp} {vs : List V} {d : D} (c : Curs K mg G H vs [d]) : ∃ v, vs = [v] ∧ Cur K mg G H v d := by
  cases c with | cons h l => cases l; exact ⟨_, rfl, h⟩
theorem curs2 {K : PySem.W.Frag} {mg : Str → Option Value} {G H : Hp} {vs : List V} {d d2 : D} (c : Curs K mg G H vs [d, d2]) : ∃ v w, vs = [v, w] ∧ Cur K mg G H v d ∧ Cur K mg G H w d2 := by
  cases c with | cons h l => obtain ⟨w, rfl, h2⟩ := curs1 l; exact ⟨_, _, rfl, h, h2⟩
/-! len -/
def dLen : List D → Option D
  | [.str s] => if s.length ≤ sizeLine then some (.int s.length) else none
  | [.lst l] => some (.int l.length)
  | [.tup l] => some (.int l.length)
  | _ => none
theorem cd_len : CallD X (fun xs H Q => ∃ x n, xs = [x] ∧ LenV X.K x H n ∧ Q (.int (n : Nat)) H) dLen := by
  intro F G σ env H vs ds d Q R c e k
  unfold dLen at e
  split at e
  · split at e
    · cases e
      obtain ⟨v, rfl, cu⟩ := curs1 c
      cases cur_str cu
      exact ⟨_, _, rfl, ⟨by assumption, rfl⟩, k _ G H .refl R .int⟩
    · cases e
  · cases e
    obtain ⟨v, rfl, cu⟩ := curs1 c
    obtain ⟨a, xs, rfl, ha, l⟩ := cur_lst R cu
    exact ⟨_, _, rfl, .inl ⟨xs, .of ha, l.length.symm⟩, k _ G H .refl R .int⟩
  · cases e
    obtain ⟨v, rfl, cu⟩ := curs1 c
    obtain ⟨a, xs, rfl, ha, l⟩ := cur_tup R cu
    exact ⟨_, _, rfl, .inr ⟨xs, .of ha, l.length.symm⟩, k _ G H .refl R .int⟩
  · cases e
/-! list(x) -/
def dList : List D → Option D
  | [.lst l] => some (.lst l)
  | [.tup l] => some (.lst l)
  | _ => none
theorem co_list : CallO X (fun xs H Q => ∃ p ys, xs = [.ref p] ∧ (SqL X.K H p ys ∨ SqT X.K H p ys) ∧ ∀ l, H l = none → Q (.ref l) (upd H l (.lst ys))) dList := by
  intro F G σ env H vs ds d Q R c e k
  unfold dList at e
  split at e
  · cases e
    obtain ⟨v, rfl, cu⟩ := curs1 c
    obtain ⟨a, xs, rfl, ha, l⟩ := cur_lst R cu
    exact ⟨a, xs, rfl, .inl (.of ha), fun q hq => own_new R hq (.lst upd_same l) k⟩
  · cases e
    obtain ⟨v, rfl, cu⟩ := curs1 c
    obtain ⟨a, xs, rfl, ha, l⟩ := cur_tup R cu
    exact ⟨a, xs, rfl, .inr (.of ha), fun q hq => own_new R hq (.lst upd_same l) k⟩
  · cases e
end
end Rt
set_option Elab.async false
set_option linter.all false
set_option maxRecDepth 100000
set_option maxHeartbeats 4000000
/-! statements -/
namespace Rt
open PySem PySem.Spec L2
open PyProof.Rows hiding St
section
variable {X : Cx} {W : Wsh} {k : Nat} {a b c e : Expr} {fa fb fc fe : En → Rs (Hd × En)} {ta : En → Rs (Bool × En)} {pos : Pos} {st : Stmt} {rest : List Stmt} {f g : En → Rs (Fl × En)}
theorem tS_up {K : PySem.W.Frag} {mg : Str → Option Value} {F : Fr} {σ : L2.St} {G G1 : Hp} {H1 : Hp} {e1 : En} {D : Ends} (g1 : GLe G G1) (R1 : Rep K mg F G1 σ e1 H1) (q : (f e1).wp (FlOk K mg F G D) (ZS K mg W F G)) : tS K mg W F f D σ H1 :=
  ⟨G1, e1, R1, Rs.wp_mono q (fun r q => q.mono g1) fun _ _ _ z => z.mono g1⟩
def fNx : En → Rs (Fl × En) := fun e => .ok (.nx, e)
def fSeq (f g : En → Rs (Fl × En)) : En → Rs (Fl × En) := fun e => f e >>= fun r => match r.1 with
  | .nx => g r.2
  | _ => .ok r
theorem pbl_nil : PBl X W [] fNx := fun F => pss_weak pss_nil fun D σ H q => by
  obtain ⟨G, env, R, q⟩ := q
  exact q σ G H .refl R
theorem pbl_cons (h : PSt X W st f) (h2 : PBl X W rest g) : PBl X W (st :: rest) (fSeq f g) := fun F => pss_weak (pss_cons (h F) (h2 F)) fun D σ H q => by
  obtain ⟨G, env, R, q⟩ := q
  refine ⟨G, env, R, Rs.wp_mono (Rs.wp_bind.mp q) (fun r q => ?_) fun _ _ _ z => z⟩
  obtain ⟨fl, e1⟩ := r
  cases fl with
  | nx => exact fun σ' G' H' g' R' => tS_up g' R' q
  | bk => exact q
  | ct => exact q
  | rt d => exact q
  | ro d => exact q
theorem pbl_one (h : PSt X W st f) : PBl X W [st] f := fun F => pss_one (h F)
theorem pst_pass : PSt X W (.Pass pos) fNx := fun F => ps_weak ps_pass fun D σ H q => by
  obtain ⟨G, env, R, q⟩ := q
  exact q σ G H .refl R
theorem pst_break : PSt X W (.Break pos) (fun e => .ok (.bk, e)) := fun F => ps_weak ps_break fun D σ H q => by
  obtain ⟨G, env, R, q⟩ := q
  exact q σ G H .refl R
theorem pst_cont : PSt X W (.Continue pos) (fun e => .ok (.ct, e)) := fun F => ps_weak ps_continue fun D σ H q => by
  obtain ⟨G, env, R, q⟩ := q
  exact q σ G H .refl R
theorem pst_doc {x j pos'} : PSt X W (.Expr (.Constant (.str x) j pos) pos') fNx := fun F => ps_weak ps_doc fun D σ H q => by
  obtain ⟨G, env, R, q⟩ := q
  exact q σ G H .refl R
/-- never reached -/
theorem pst_never : PSt X W st (fun _ => .bad) := fun F => ps_weak ps_never fun D σ H q => by
  obtain ⟨G, env, R, q⟩ := q
  exact q
theorem pbl_never {ss : List Stmt} : PBl X W ss (fun _ => .bad) := fun F => pss_weak pss_never fun D σ H q => by
  obtain ⟨G, env, R, q⟩ := q
  exact q
def fDrop (f : En → Rs (Hd × En)) : En → Rs (Fl × En) := fun e => f e >>= fun r => .ok (.nx, r.2)
theorem pst_expr (h : PB X W e fe) (hs : swapsWith e none pos.line X.env = pure false := by rfl) : PSt X W (.Expr e pos) (fDrop fe) := fun F => ps_weak (ps_expr (h F) hs) fun D σ H q => by
  obtain ⟨G, env, R, q⟩ := q
  exact ⟨G, env, R, Rs.wp_mono (Rs.wp_bind.mp q) (fun r q v G1 H1 g1 R1 _ => q σ G1 H1 g1 R1) fun _ _ _ z => z.zx .refl⟩
def fRet (f : En → Rs (Hd × En)) : En → Rs (Fl × En) := fun e => f e >>= fun r => match r.1 with
  | .dat d => .ok (.rt d, r.2)
  | .slot i => match r.2[i]? with
    | some (.val d) => .ok (.rt d, r.2)
    | some (.own d) => .ok (.ro d, r.2.set i .no)
    | _ => .bad
theorem pst_ret (h : PB X W e fe) : PSt X W (.Return (some e) pos) (fRet fe) := fun F => ps_weak (ps_ret (h F)) fun D σ H q => by
  obtain ⟨G, env, R, q⟩ := q
  refine ⟨G, env, R, Rs.wp_mono (Rs.wp_bind.mp q) (fun r q v G1 H1 g1 R1 o1 => ?_) fun _ _ _ z => z.zx .refl⟩
  obtain ⟨hd, e1⟩ := r
  cases hd with
  | dat d => exact q σ v G1 H1 g1 R1 o1
  | slot i =>
    have o1 : σ[i]? = some (some v) := o1
    simp only at q
    cases z : e1[i]? with
    | none => rw [z] at q; exact q.elim
    | some s =>
      rw [z] at q
      have sl := R1.sl i s z
      cases s with
      | no => exact q.elim
      | io n d => exact q.elim
      | val d =>
        obtain ⟨x, ex, dv⟩ := sl
        rw [o1] at ex; cases ex
        exact q σ v G1 H1 g1 R1 dv
      | own d =>
        obtain ⟨x, ex, h0, hg, rt⟩ := sl
        rw [o1] at ex; cases ex
        exact q σ x G1 H1 g1 (R1.drop i) h0 hg rt
def fRetO (f : En → Rs (D × En)) : En → Rs (Fl × En) := fun e => f e >>= fun r => .ok (.ro r.1, r.2)
theorem pst_retO {fo : En → Rs (D × En)} (h : PO X W e fo) : PSt X W (.Return (some e) pos) (fRetO fo) := fun F => ps_weak (ps_ret (h F)) fun D σ H q => by
  obtain ⟨G, env, R, q⟩ := q
  exact ⟨G, env, R, Rs.wp_mono (Rs.wp_bind.mp q) (fun r q a G1 H1 g1 R1 h0 hg rt _ => q σ a G1 H1 g1 R1 h0 hg rt) fun _ _ _ z => z.zx .refl⟩
theorem pst_retN : PSt X W (.Return none pos) (fun e => .ok (.rt .non, e)) := fun F => ps_weak ps_retN fun D σ H q => by
  obtain ⟨G, env, R, q⟩ := q
  exact q σ .non G H .refl R .non
def fIfS (t : En → Rs (Bool × En)) (f g : En → Rs (Fl × En)) : En → Rs (Fl × En) := fun e => t e >>= fun r => if r.1 = true then f r.2 else g r.2
theorem pst_if {ss tt : List Stmt} (h : PTt X W c ta) (h1 : PBl X W ss f) (h2 : PBl X W tt g) : PSt X W (.If c ss tt pos) (fIfS ta f g) := fun F => ps_weak (ps_if (h F) (h1 F) (h2 F)) fun D σ H q => by
  obtain ⟨G, env, R, q⟩ := q
  refine ⟨G, env, R, Rs.wp_mono (Rs.wp_bind.mp q) (fun r q G1 H1 g1 R1 => ?_) fun _ _ _ z => z.zx .refl⟩
  obtain ⟨b, e1⟩ := r
  cases b with
  | true => exact tS_up g1 R1 q
  | false => exact tS_up g1 R1 q
/-! targets -/
/-- the slots outside of `is` are as they were -/
def Out (is : List Nat) (σ σ' : L2.St) : Prop := σ'.length = σ.length ∧ ∀ i, i ∉ is → σ'[i]? = σ[i]?
theorem Out.trans {is js : List Nat} {σ σ1 σ2 : L2.St} (a : Out is σ σ1) (b : Out js σ1 σ2) : Out (is ++ js) σ σ2 :=
  ⟨b.1.trans a.1, fun i h => (b.2 i fun z => h (List.mem_append_right _ z)).trans (a.2 i fun z => h (List.mem_append_left _ z))⟩
def tG (K : PySem.W.Frag) (mg : Str → Option Value) (F : Fr) (is : List Nat) (g : D → En → Option En) : TG := fun v σ H Q => ∃ G env d, Rep K mg F G σ env H ∧ DV K mg G v d ∧ ∃ e', g d env = some e' ∧ ∀ σ', Out is σ σ' → Rep K mg F G σ' e' H → Q σ' H
def tGs (K : PySem.W.Frag) (mg : Str → Option Value) (F : Fr) (is : List Nat) (g : List D → En → Option En) : TGs := fun vs σ H Q => ∃ G env ds, Rep K mg F G σ env H ∧ DVs K mg G vs ds ∧ ∃ e', g ds env = some e' ∧ ∀ σ', Out is σ σ' → Rep K mg F G σ' e' H → Q σ' H
def PGt (X : Cx) (tg : Expr) (is : List Nat) (g : D → En → Option En) : Prop := ∀ F, PG X tg (tG X.K X.mg F is g)
def PGts (X : Cx) (tg : List Expr) (is : List Nat) (g : List D → En → Option En) : Prop := ∀ F, PGs X tg (tGs X.K X.mg F is g)
theorem pg_weak {tg : Expr} {t t' : TG} (h : PG X tg t) (w : ∀ v σ H Q, t' v σ H Q → t v σ H Q) : PG X tg t' := ⟨fun pins s σ H v u Q I r q => h.run pins s σ H v u Q I r (w v σ H Q q)⟩
theorem pgs_weak {tg : List Expr} {t t' : TGs} (h : PGs X tg t) (w : ∀ v σ H Q, t' v σ H Q → t v σ H Q) : PGs X tg t' := ⟨fun pins s σ H v u Q I r q => h.run pins s σ H v u Q I r (w v σ H Q q)⟩
def gSet (i : Nat) : D → En → Option En := fun d e => some (e.set i (.val d))
theorem pgt_name {i : Nat} {x : Str} (hN : X.N.Nodup) (hi : X.N[i]? = some x) (hx : Loc X.env.scope x) (hf : X.fn x = true ∨ X.env.scope.names.lookup x = some .local := by first | exact .inl rfl | exact .inr rfl | assumption) : PGt X (.Name x pos) [i] (gSet i) :=
  fun F => pg_weak (pg_name hN hi hx hf) fun v σ H Q q => by
  obtain ⟨G, env, d, R, dv, e', ee, q⟩ := q
  cases ee
  exact q _ ⟨List.length_set, fun j hj => List.getElem?_set_ne fun z => hj (by rw [z]; exact List.mem_singleton_self _)⟩ (R.setV dv)
def gNo : List D → En → Option En
  | [], e => some e
  | _ :: _, _ => none
def gCo (g : D → En → Option En) (h : List D → En → Option En) : List D → En → Option En
  | [], _ => none
  | d :: ds, e => (g d e).bind (h ds)
theorem pgts_nil : PGts X [] [] gNo := fun F => pgs_weak pgs_nil fun v σ H Q q => by
  obtain ⟨G, env, ds, R, dv, e', ee, q⟩ := q
  cases dv with
  | nil => cases ee; exact ⟨rfl, q σ ⟨rfl, fun _ _ => rfl⟩ R⟩
  | cons _ _ => cases ee
theorem pgts_cons {es : List Expr} {is js : List Nat} {g : D → En → Option En} {h : List D → En → Option En} (h1 : PGt X a is g) (h2 : PGts X es js h) (hs : (assignEach (a :: es) X.env).map (·.2) = assign a X.env :: (assignEach es X.env).map (·.2) := by rfl) : PGts X (a :: es) (is ++ js) (gCo g h) :=
  fun F => pgs_weak (pgs_cons (h1 F) (h2 F) hs) fun v σ H Q q => by
  obtain ⟨G, env, ds, R, dv, e', ee, q⟩ := q
  cases dv with
  | nil => cases ee
  | cons dh dl =>
    rename_i v vs d ds
    have ee : (g d env).bind (h ds) = some e' := ee
    cases z : g d env with
    | none => rw [z] at ee; cases ee
    | some e1 =>
      rw [z] at ee
      exact ⟨v, vs, rfl, G, env, d, R, dh, e1, z, fun σ1 o1 R1 => ⟨G, e1, ds, R1, dl, e', ee, fun σ2 o2 R2 => q σ2 (o1.trans o2) R2⟩⟩
def gTu (h : List D → En → Option En) : D → En → Option En
  | .tup ds, e => h ds e
  | _, _ => none
theorem pgt_tup {es : List Expr} {n j : Nat} {is : List Nat} {h : List D → En → Option En} (hc : X.calm = true) (h1 : PGts X es is h) (hl : ∀ ds e e', h ds e = some e' → ds.length = n) (hn : (assignEach es X.env).length = n := by rfl) (hst : (assignEach es X.env).findIdx? (·.1) = none := by rfl) : PGt X (.Tuple es j pos) is (gTu h) :=
  fun F => pg_weak (pg_tup hc (h1 F) hn hst) fun v σ H Q q => by
  obtain ⟨G, env, d, R, dv, e', ee, q⟩ := q
  cases d with
  | tup ds =>
    obtain ⟨p, xs, rfl, hp, dl⟩ := cur_tup R (.inl dv)
    exact ⟨p, xs, rfl, .of hp, by rw [dl.length]; exact hl _ _ _ ee, G, env, ds, R, dl, e', ee, q⟩
  | _ => cases ee
theorem gNo_len : ∀ ds e e', gNo ds e = some e' → ds.length = 0
  | [], _, _, _ => rfl
  | _ :: _, _, _, z => by cases z
theorem gCo_ln {n : Nat} {g : D → En → Option En} {h : List D → En → Option En} (ih : ∀ ds e e', h ds e = some e' → ds.length = n) : ∀ ds e e', gCo g h ds e = some e' → ds.length = n + 1
  | [], _, _, z => by cases z
  | d :: ds, e, e', z => by
    have z : (g d e).bind (h ds) = some e' := z
    cases y : g d e with
    | none => rw [y] at z; cases z
    | some e1 => rw [y] at z; exact congrArg (· + 1) (ih _ _ _ z)
/-! assignments -/
def fAsg (f : En → Rs (Hd × En)) (g : D → En → Option En) : En → Rs (Fl × En) := fun e => f e >>= fun r => r.1.esc r.2 >>= fun q => Rs.of (g q.1 q.2) >>= fun e' => .ok (.nx, e')
theorem wp_esc {K : PySem.W.Frag} {mg : Str → Option Value} {F : Fr} {G : Hp} {σ : L2.St} {env : En} {H : Hp} {v : V} {h : Hd} {P : D × En → Prop} {Z} (R : Rep K mg F G σ env H) (o : HdOk K mg G σ v h) (q : (h.esc env).wp P Z) : ∃ r G', P r ∧ GLe G G' ∧ Rep K mg F G' σ r.2 H ∧ DV K mg G' v r.1 := by
  cases e : h.esc env with
  | bad => rw [e] at q; exact q.elim
  | exc c fs en =>
    exfalso
    cases h with
    | dat d => cases e
    | slot i =>
      have e : (match env[i]? with | some (.val d) => Rs.ok (d, env) | some (.own d) => .ok (d, env.set i (.val d)) | _ => .bad) = .exc c fs en := e
      split at e <;> cases e
  | ok r =>
    rw [e] at q
    obtain ⟨G', g, R', dv⟩ := o.esc R e
    exact ⟨r, G', q, g, R', dv⟩
theorem pst_asg {tg : Expr} {is : List Nat} {gt : D → En → Option En} (h : PB X W e fe) (hg : PGt X tg is gt) (hs : swapsWithSole [tg] e pos.line X.env = pure false := by rfl) (hw : swappedStores [tg] e X.env = pure none := by rfl)
    (h1 : (assignEach [tg] X.env).map (·.2) = [assign tg X.env] := by rfl) : PSt X W (.Assign [tg] e pos) (fAsg fe gt) := fun F => ps_weak (ps_asg (h F) (hg F) hs hw h1) fun D σ H q => by
  obtain ⟨G, env, R, q⟩ := q
  refine ⟨G, env, R, Rs.wp_mono (Rs.wp_bind.mp q) (fun r q v G1 H1 g1 R1 o1 => ?_) fun _ _ _ z => z.zx .refl⟩
  obtain ⟨r2, G2, q, g2, R2, dv⟩ := wp_esc R1 o1 (Rs.wp_bind.mp q)
  obtain ⟨e', ee, q⟩ := wp_of (Rs.wp_bind.mp q)
  exact ⟨G2, r2.2, r2.1, R2, dv, e', ee, fun σ' _ R' => q σ' G2 H1 (g1.trans g2) R'⟩
theorem pst_set {i : Nat} {x : Str} {pos' : Pos} (Y : Hy X W k) (hi : X.N[i]? = some x) (hx : Loc X.env.scope x) (h : PB X W e fe) (hs : swapsWith e (some (.Name x pos')) pos.line X.env = pure false := by rfl) (hf : X.fn x = true ∨ X.env.scope.names.lookup x = some .local := by first | exact .inl rfl | exact .inr rfl | assumption) :
    PSt X W (.Assign [.Name x pos'] e pos) (fAsg fe (gSet i)) := fun F => ps_weak (ps_set Y.nd hi hx (h F) hs hf) fun D σ H q => by
  obtain ⟨G, env, R, q⟩ := q
  refine ⟨G, env, R, Rs.wp_mono (Rs.wp_bind.mp q) (fun r q v G1 H1 g1 R1 o1 => ?_) fun _ _ _ z => z.zx .refl⟩
  obtain ⟨r2, G2, q, g2, R2, dv⟩ := wp_esc R1 o1 (Rs.wp_bind.mp q)
  exact q _ G2 H1 (g1.trans g2) (R2.setV dv)
def fSetO (i : Nat) (f : En → Rs (D × En)) : En → Rs (Fl × En) := fun e => f e >>= fun r => .ok (.nx, r.2.set i (.own r.1))
theorem pst_setO {i : Nat} {x : Str} {pos' : Pos} {fo : En → Rs (D × En)} (Y : Hy X W k) (hi : X.N[i]? = some x) (hx : Loc X.env.scope x) (h : PO X W e fo) (hs : swapsWith e (some (.Name x pos')) pos.line X.env = pure false := by rfl) (hf : X.fn x = true ∨ X.env.scope.names.lookup x = some .local := by first | exact .inl rfl | exact .inr rfl | assumption) :
    PSt X W (.Assign [.Name x pos'] e pos) (fSetO i fo) := fun F => ps_weak (ps_set Y.nd hi hx (h F) hs hf) fun D σ H q => by
  obtain ⟨G, env, R, q⟩ := q
  exact ⟨G, env, R, Rs.wp_mono (Rs.wp_bind.mp q) (fun r q v G1 H1 g1 R1 h0 hg rt fr => q _ G1 H1 g1 (R1.setO h0 hg rt fr)) fun _ _ _ z => z.zx .refl⟩
end
end Rt
set_option Elab.async false
set_option linter.all false
set_option maxRecDepth 100000
set_option maxHeartbeats 4000000
/-! loops -/
namespace Rt
open PySem PySem.Spec L2
open PyProof.Rows hiding St
def Fr.wts (F : Fr) (ts : List (Addr × D)) : Fr := { F with ts := ts }
/-- what a walk gives, as data -/
structure ItOk (K : PySem.W.Frag) (mg : Str → Option Value) (F : Fr) (G : Hp) (ds : List D) (n : Nat) (Gd : Hp → Prop) (Y : Nat → Hp → V → Hp → Prop) : Prop where
  len : n = ds.length
  stays : ∀ ts G' σ env H, GLe G G' → Rep K mg (F.wts ts) G' σ env H → Gd H
  item : ∀ ts i x H H' G' σ env, i < n → GLe G G' → Rep K mg (F.wts ts) G' σ env H → Y i H x H' → ∃ G2 d, ds[i]? = some d ∧ GLe G' G2 ∧ Rep K mg (F.wts ts) G2 σ env H' ∧ DV K mg G2 x d
/-- the heap's lock that a walk may have laid -/
def LkD (X : Cx) (lk : Bool) (F F' : Fr) : Prop := F' = F ∨ (lk = true ∧ ∃ d od, F' = F.lock d od ∧ F.lk d = none ∧ ∀ o u, X.H_0 d ≠ some (.frz o u))
abbrev IR := List D × Bool × En
def tI (X : Cx) (W : Wsh) (F : Fr) (fi : En → Rs IR) : TI := fun σ H R => ∃ G env, Rep X.K X.mg F G σ env H ∧
  (fi env).wp (fun r => ∀ J n Gd Y F' G' H', LkD X r.2.1 F F' → GLe G G' → Rep X.K X.mg F' G' σ r.2.2 H' → Walk J n Gd Y → ItOk X.K X.mg F' G' r.1 n Gd Y → R J H') (ZX X.K X.mg W F G σ)
def PIv (X : Cx) (W : Wsh) (tg it : Expr) (fi : En → Rs IR) : Prop := ∀ F, PI X tg it (tI X W F fi)
/-- a view without the lock -/
def Unl (X : Cx) (H Hu : Hp) : Prop := Hu = H ∨ ∃ d od u, H d = some (.frz od u) ∧ (∀ o u, X.H_0 d ≠ some (.frz o u)) ∧ Hu = upd H d u
theorem Unl.inv {X : Cx} {pins : List (Addr × Obj)} {σ : L2.St} {H Hu : Hp} {s : Shared} (I : Inv X pins σ H s) (u : Unl X H Hu) : Inv X pins σ Hu s := by
  rcases u with rfl | ⟨d, od, u, h, n, rfl⟩
  · exact I
  · exact I.unlock h n
def Ends.unl (X : Cx) (D : Ends) : Ends := ⟨fun σ H => ∃ Hu, Unl X H Hu ∧ D.nx σ Hu, fun v H => ∃ Hu, Unl X H Hu ∧ D.rt v Hu, fun σ H => ∃ Hu, Unl X H Hu ∧ D.bk σ Hu, fun σ H => ∃ Hu, Unl X H Hu ∧ D.ct σ Hu⟩
theorem ps_unl {X : Cx} {st : Stmt} {t : TS} (h : PS X st t) : PS X st (fun D σ H => t (Ends.unl X D) σ H) := ⟨fun pins s σ H D I q => thn (h.run pins s σ H (Ends.unl X D) I q) fun fl s' z => by
  cases fl with
  | next => obtain ⟨σ', H', I', Hu, u, q⟩ := z; exact ⟨σ', Hu, u.inv I', q⟩
  | brk => obtain ⟨σ', H', I', Hu, u, q⟩ := z; exact ⟨σ', Hu, u.inv I', q⟩
  | cont => obtain ⟨σ', H', I', Hu, u, q⟩ := z; exact ⟨σ', Hu, u.inv I', q⟩
  | ret v => obtain ⟨w, σ', H', I', r, Hu, u, q⟩ := z; exact ⟨w, σ', Hu, u.inv I', r, q⟩⟩
theorem pe_unl {X : Cx} {e : Expr} {t : TE} (h : PE X e t) : PE X e (fun σ H Q => t σ H fun v H' => ∃ Hu, Unl X H' Hu ∧ Q v Hu) := ⟨fun pins s σ H Q I q => thn (h.run pins s σ H _ I q) fun v s' z => by
  obtain ⟨w, H', I', r, Hu, u, q⟩ := z
  exact ⟨w, Hu, u.inv I', r, q⟩⟩
theorem unl_of {X : Cx} {K : PySem.W.Frag} {mg : Str → Option Value} {lk : Bool} {F F' : Fr} {G : Hp} {σ : L2.St} {env : En} {H : Hp} (l : LkD X lk F F') (R : Rep K mg F' G σ env H) : ∃ Hu, Unl X H Hu ∧ Rep K mg F G σ env Hu := by
  rcases l with rfl | ⟨_, d, od, rfl, nl, n⟩
  · exact ⟨H, .inl rfl, R⟩
  · obtain ⟨u, h, R'⟩ := R.unlock nl
    exact ⟨_, .inr ⟨d, od, u, h, n, rfl⟩, R'⟩
theorem LkD.h0 {X : Cx} {lk : Bool} {F F' : Fr} (l : LkD X lk F F') : F'.H0 = F.H0 ∧ F'.ts = F.ts := by
  rcases l with rfl | ⟨_, d, od, rfl, _, _⟩ <;> exact ⟨rfl, rfl⟩
/-- no exception is let out -/
def Rs.mute {α : Type} : Rs α → Rs α
  | .exc _ _ _ => .bad
  | r => r
def Rs.muteIf {α : Type} (b : Bool) (r : Rs α) : Rs α := if b = true then r.mute else r
section
variable {X : Cx} {W : Wsh} {k : Nat} {a b c e : Expr} {fa fb fc fe : En → Rs (Hd × En)} {ta : En → Rs (Bool × En)} {pos : Pos} {st : Stmt} {rest : List Stmt} {f : En → Rs (Fl × En)} {g : D → En → Option En}
def fLoop (g : D → En → Option En) (f : En → Rs (Fl × En)) : List D → En → Rs (Fl × En)
  | [], e => .ok (.nx, e)
  | d :: ds, e => Rs.of (g d e) >>= fun e1 => f e1 >>= fun r => match r.1 with
    | .nx => fLoop g f ds r.2
    | .ct => fLoop g f ds r.2
    | .bk => .ok (.nx, r.2)
    | .rt d => .ok (.rt d, r.2)
    | .ro d => .ok (.ro d, r.2)
def fFor (fi : En → Rs IR) (g : D → En → Option En) (f : En → Rs (Fl × En)) : En → Rs (Fl × En) := fun e => fi e >>= fun r => Rs.muteIf r.2.1 (fLoop g f r.1 r.2.2)
/-- where a loop stands at its i-th turn -/
def At (K : PySem.W.Frag) (mg : Str → Option Value) (F : Fr) (G : Hp) (D : Ends) (Z : Str → List (Str × Rt.D) → En → Prop) (g : Rt.D → En → Option En) (f : En → Rs (Fl × En)) (ds : List Rt.D) (i : Nat) (σ : L2.St) (H : Hp) : Prop :=
  ∃ G' env, GLe G G' ∧ Rep K mg F G' σ env H ∧ (fLoop g f (ds.drop i) env).wp (FlOk K mg F G D) Z
theorem at_turn {K : PySem.W.Frag} {mg : Str → Option Value} {F : Fr} {G : Hp} {D : Ends} {Z : Str → List (Str × Rt.D) → En → Prop} {ds : List Rt.D} {i : Nat} {is : List Nat} {x : V} {d : Rt.D} {σ : L2.St} {H : Hp} {G1 : Hp} {env : En} (hZ : ∀ c fs e, Z c fs e → ZS K mg W F G c fs e)
    (g1 : GLe G G1) (R : Rep K mg F G1 σ env H) (q : (fLoop g f (ds.drop i) env).wp (FlOk K mg F G D) Z) (hd : ds[i]? = some d) (dv : DV K mg G1 x d) :
    tG K mg F is g x σ H fun σ2 H2 => tS K mg W F f { D with nx := At K mg F G D Z g f ds (i + 1), ct := At K mg F G D Z g f ds (i + 1), bk := D.nx } σ2 H2 := by
  have hi : i < ds.length := (List.getElem?_eq_some_iff.mp hd).1
  have hdr : ds.drop i = d :: ds.drop (i + 1) := by
    rw [List.drop_eq_getElem_cons hi]
    rw [(List.getElem?_eq_some_iff.mp hd).2]
  rw [hdr] at q
  have q : (Rs.of (g d env) >>= fun e1 => f e1 >>= fun r => match r.1 with
    | .nx => fLoop g f (ds.drop (i + 1)) r.2
    | .ct => fLoop g f (ds.drop (i + 1)) r.2
    | .bk => .ok (.nx, r.2)
    | .rt d => .ok (.rt d, r.2)
    | .ro d => .ok (.ro d, r.2)).wp (FlOk K mg F G D) Z := q
  obtain ⟨e1, ee, q⟩ := wp_of (Rs.wp_bind.mp q)
  refine ⟨G1, env, d, R, dv, e1, ee, fun σ2 _ R2 => ⟨G1, e1, R2, Rs.wp_mono (Rs.wp_bind.mp q) (fun r q => ?_) fun _ _ _ z => (hZ _ _ _ z).mono g1⟩⟩
  obtain ⟨fl, e2⟩ := r
  cases fl with
  | nx => exact fun σ3 G3 H3 g3 R3 => ⟨G3, e2, g1.trans g3, R3, q⟩
  | ct => exact fun σ3 G3 H3 g3 R3 => ⟨G3, e2, g1.trans g3, R3, q⟩
  | bk => exact fun σ3 G3 H3 g3 R3 => q σ3 G3 H3 (g1.trans g3) R3
  | rt d => exact fun σ3 v G3 H3 g3 R3 => q σ3 v G3 H3 (g1.trans g3) R3
  | ro d => exact fun σ3 v G3 H3 g3 R3 => q σ3 v G3 H3 (g1.trans g3) R3
theorem at_end {K : PySem.W.Frag} {mg : Str → Option Value} {F : Fr} {G : Hp} {D : Ends} {Z : Str → List (Str × Rt.D) → En → Prop} {ds : List Rt.D} {n : Nat} {σ : L2.St} {H : Hp} (h : At K mg F G D Z g f ds n σ H) (hn : ds.length ≤ n) : D.nx σ H := by
  obtain ⟨G1, env, g1, R, q⟩ := h
  rw [List.drop_eq_nil_of_le hn] at q
  exact q σ G1 H g1 R
theorem wp_mute {α : Type} {b : Bool} {r : Rs α} {P : α → Prop} {Z} (q : (Rs.muteIf b r).wp P Z) : r.wp P (fun c fs e => b = false ∧ Z c fs e) := by
  cases b with
  | true =>
    cases r with
    | ok a => exact q
    | bad => exact q
    | exc c fs e => exact (show False from q).elim
  | false =>
    cases r with
    | ok a => exact q
    | bad => exact q
    | exc c fs e => exact ⟨rfl, q⟩
/-- what is wanted behind a walk that laid a lock -/
theorem FlOk.unl {K : PySem.W.Frag} {mg : Str → Option Value} {lk : Bool} {F F' : Fr} {G : Hp} {D : Ends} {r : Fl × En} (l : LkD X lk F F') (q : FlOk K mg F G D r) : FlOk K mg F' G (Ends.unl X D) r := by
  obtain ⟨fl, e⟩ := r
  cases fl with
  | nx => intro σ' G' H' g' R'; obtain ⟨Hu, u, R2⟩ := unl_of l R'; exact ⟨Hu, u, q σ' G' Hu g' R2⟩
  | bk => intro σ' G' H' g' R'; obtain ⟨Hu, u, R2⟩ := unl_of l R'; exact ⟨Hu, u, q σ' G' Hu g' R2⟩
  | ct => intro σ' G' H' g' R'; obtain ⟨Hu, u, R2⟩ := unl_of l R'; exact ⟨Hu, u, q σ' G' Hu g' R2⟩
  | rt d => intro σ' v G' H' g' R' dv; obtain ⟨Hu, u, R2⟩ := unl_of l R'; exact ⟨Hu, u, q σ' v G' Hu g' R2 dv⟩
  | ro d =>
    intro σ' v G' H' g' R' h0 hg rt
    rcases l with rfl | ⟨_, d, od, rfl, nl, n⟩
    · exact ⟨H', .inl rfl, q σ' v G' H' g' R' h0 hg rt⟩
    · obtain ⟨u, h, R2⟩ := R'.unlock nl
      obtain ⟨o, hgd, _, _⟩ := R'.lkg d od lock_self
      exact ⟨_, .inr ⟨d, od, u, h, n, rfl⟩, q σ' v G' _ g' R2 h0 hg (rt.mono .refl (upd_ne fun z => by rw [z, hgd] at hg; cases hg))⟩
theorem pg_ex {tg : Expr} {is : List Nat} (h : PGt X tg is g) : PG X tg (fun v σ H Q => ∃ F, tG X.K X.mg F is g v σ H Q) := ⟨fun pins s σ H v u Q I r ⟨F, q⟩ => (h F).run pins s σ H v u Q I r q⟩
theorem pss_ex {ss : List Stmt} (h : PBl X W ss f) : PSs X ss (fun D σ H => ∃ F, tS X.K X.mg W F f D σ H) := ⟨fun pins s σ H D I ⟨F, q⟩ => (h F).run pins s σ H D I q⟩
theorem pst_for {tg it : Expr} {is : List Nat} {body : List Stmt} {fi : En → Rs IR} (Y : Hy X W k) (hi : PIv X W tg it fi) (hg : PGt X tg is g) (hb : PBl X W body f) (hs : ∀ x, foldedSetIterable it X.env x = pure x := by intro _; rfl) : PSt X W (.For tg it body [] pos) (fFor fi g f) :=
  fun F => ps_weak (ps_unl (ps_for Y.own Y.calm (hi F) (pg_ex hg) (pss_ex hb) hs)) fun D σ H q => by
  obtain ⟨G, env, R, q⟩ := q
  refine ⟨G, env, R, Rs.wp_mono (Rs.wp_bind.mp q) (fun r q J n Gd Y' F' G1 H1 l g1 R1 w ok => ?_) fun _ _ _ z => z.zx .refl⟩
  have q2 := wp_mute q
  have hZ : ∀ c fs e, (r.2.1 = false ∧ ZS X.K X.mg W F G c fs e) → ZS X.K X.mg W F' G1 c fs e := fun c fs e z => by
    rcases l with rfl | ⟨h, _⟩
    · exact z.2.mono g1
    · rw [z.1] at h; cases h
  refine for_it w (g := fun v σ H Q => ∃ F, tG X.K X.mg F is g v σ H Q) (tb := fun D σ H => ∃ F, tS X.K X.mg W F f D σ H) (At X.K X.mg F' G1 (Ends.unl X D) (fun c fs e => r.2.1 = false ∧ ZS X.K X.mg W F G c fs e) g f r.1) ⟨G1, r.2.2, .refl, R1, Rs.wp_mono q2 (fun r q => (FlOk.unl l q).mono g1) fun _ _ _ z => z⟩
    (fun i σ H _ ⟨G2, env, g2, R2, _⟩ => ok.stays F'.ts G2 σ env H g2 R2) (fun i x σ H H' hi ⟨G2, env, g2, R2, q⟩ y => ?_) fun σ H p => at_end p (Nat.le_of_eq ok.len.symm)
  obtain ⟨G3, d, ed, g3, R3, dv⟩ := ok.item F'.ts i x H H' G2 σ env hi g2 R2 y
  obtain ⟨G4, env4, d4, R4, dv4, e4, ee, k4⟩ := at_turn (W := W) (is := is) hZ (g2.trans g3) R3 q ed dv
  exact ⟨F', G4, env4, d4, R4, dv4, e4, ee, fun σ' o R' => ⟨F', k4 σ' o R'⟩⟩
end
end Rt
set_option Elab.async false
set_option linter.all false
set_option maxRecDepth 100000
set_option maxHeartbeats 4000000
/-! what is walked -/
namespace Rt
open PySem PySem.Spec L2
open PyProof.Rows hiding St
def keyD : Key → D
  | .inl i => .int i
  | .inr s => .str s
theorem keyD_v {K : PySem.W.Frag} {mg : Str → Option Value} {G : Hp} (k : Key) : DV K mg G (kV k) (keyD k) := by
  cases k with
  | inl i => exact .int
  | inr s => exact .str
theorem keysD_v {K : PySem.W.Frag} {mg : Str → Option Value} {G : Hp} : ∀ k : List Key, DVs K mg G (k.map kV) (k.map keyD)
  | [] => .nil
  | x :: l => .cons (keyD_v x) (keysD_v l)
def chars (s : Str) : List D := s.cps.toList.map fun c => .str ⟨#[c]⟩
/-- a dict's lock, laid behind the dict's evaluation -/
theorem pe_lk {X : Cx} {e : Expr} {t : TE} (h : PE X e t) : PE X e (fun σ H Q => t σ H fun x H1 => Q x H1 ∨ ∃ d u, x = .ref d ∧ H1 d = some u ∧ Mut (some u) ∧ ∀ od, (∀ o u, X.H_0 d ≠ some (.frz o u)) → Q x (upd H1 d (.frz od u))) :=
  ⟨fun pins s σ H Q I q => thn (h.run pins s σ H _ I q) fun v s' z => by
    obtain ⟨x, H1, I1, r, z⟩ := z
    rcases z with z | ⟨d, u, rfl, hd, mu, z⟩
    · exact ⟨x, H1, I1, r, z⟩
    · obtain ⟨od, I2⟩ := I1.lock hd mu
      exact ⟨_, _, I2, r, z od (I1.nofrz hd mu)⟩⟩
def iOr (t u : TI) : TI := fun σ H R => t σ H R ∨ u σ H R
theorem pi_or {X : Cx} {tg it : Expr} {t u : TI} (h : PI X tg it t) (h' : PI X tg it u) : PI X tg it (iOr t u) := ⟨fun pins s σ H R I q => q.elim (h.run pins s σ H R I) (h'.run pins s σ H R I)⟩
theorem pi_weak {X : Cx} {tg it : Expr} {t t' : TI} (h : PI X tg it t) (w : ∀ σ H R, t' σ H R → t σ H R) : PI X tg it t' := ⟨fun pins s σ H R I q => h.run pins s σ H R I (w σ H R q)⟩
/-- what a value gives when it is walked; does that lay a lock -/
def dIter : D → Option (List D × Bool)
  | .lst l => some (l, false)
  | .tup l => some (l, false)
  | .tup0 => some ([], false)
  | .str s => some (chars s, false)
  | .dct l => some (l.map fun p => keyD p.1, true)
  | _ => none
def fIter (f : En → Rs (Hd × En)) : En → Rs IR := fun e => f e >>= fun r => r.1.esc r.2 >>= fun q => Rs.of (dIter q.1) >>= fun i => .ok (i.1, i.2, q.2)
theorem keys_get {α β : Type} {l : List (α × β)} {i : Nat} {k : α} {v : β} (h : l[i]? = some (k, v)) : (l.map (·.1))[i]? = some k := by rw [List.getElem?_map, h]; rfl
section
variable {X : Cx} {W : Wsh} {k : Nat} {a b c e : Expr} {fa fb fc fe : En → Rs (Hd × En)} {pos : Pos}
/-- the lock of a dict that is to be walked, where none lies yet -/
theorem lock_walk {ks : List (Key × V)} {dk : List (Key × D)} {F : Fr} {G G2 H1 : Hp} {σ : L2.St} {e2 : En} {p : Addr} {R : It → Hp → Prop} (R2 : Rep X.K X.mg F G2 σ e2 H1) (g2 : GLe G G2) (hg : Rd G2 p (.dK ks)) (hk : ks.map (·.1) = dk.map (·.1))
    (q : ∀ J n Gd Y F' G' H', LkD X true F F' → GLe G G' → Rep X.K X.mg F' G' σ e2 H' → Walk J n Gd Y → ItOk X.K X.mg F' G' (dk.map fun p => keyD p.1) n Gd Y → R J H') :
    (∃ d o, V.ref p = .ref d ∧ ((∃ kvs, H1 d = some (.frz o (.dK kvs)) ∧ R (Itk d o kvs) H1) ∨ ∃ kvs, H1 d = some (.frz o (.dT kvs)) ∧ R (Itkt d o kvs) H1)) ∨
    ∃ d u, V.ref p = .ref d ∧ H1 d = some u ∧ Mut (some u) ∧ ∀ od, (∀ o u, X.H_0 d ≠ some (.frz o u)) → ∃ d' o, V.ref p = .ref d' ∧
      ((∃ kvs, (upd H1 d (.frz od u)) d' = some (.frz o (.dK kvs)) ∧ R (Itk d' o kvs) (upd H1 d (.frz od u))) ∨ ∃ kvs, (upd H1 d (.frz od u)) d' = some (.frz o (.dT kvs)) ∧ R (Itkt d' o kvs) (upd H1 d (.frz od u))) := by
  have item : ∀ (F' : Fr) (G' : Hp) (ts : List (Addr × D)) (i : Nat) (x : V) (H H' : Hp) (G3 : Hp) (σ' : L2.St) (env : En), i < ks.length → GLe G' G3 → Rep X.K X.mg (F'.wts ts) G3 σ' env H → (H' = H ∧ ∃ k v, ks[i]? = some (k, v) ∧ x = kV k) →
      ∃ G4 d, (dk.map fun p => keyD p.1)[i]? = some d ∧ GLe G3 G4 ∧ Rep X.K X.mg (F'.wts ts) G4 σ' env H' ∧ DV X.K X.mg G4 x d := by
    intro F' G' ts i x H H' G3 σ' env hi g3 R3 y
    obtain ⟨rfl, k, v, hv, rfl⟩ := y
    have h1 := keys_get hv
    rw [hk] at h1
    refine ⟨G3, keyD k, ?_, .refl, R3, keyD_v k⟩
    rw [List.getElem?_map] at h1 ⊢
    cases z : dk[i]? with
    | none => rw [z] at h1; cases h1
    | some w => rw [z] at h1; cases h1; rfl
  have hl : ks.length = (dk.map fun p => keyD p.1).length := by
    have := congrArg List.length hk
    simpa using this
  -- it stands locked by b in this state and in all later ones
  have locked : ∀ b, H1 p = some (.frz b (.dK ks)) → (∀ ts G' σ' env H', GLe G2 G' → Rep X.K X.mg (F.wts ts) G' σ' env H' → H' p = some (.frz b (.dK ks))) → R (Itk p b ks) H1 := fun b hb st =>
    q _ _ _ _ F G2 H1 (.inl rfl) g2 R2 walk_keys ⟨hl, fun ts G' σ' env H' g' R' => st ts G' σ' env H' g' R', item F G2⟩
  rcases hg with hg | ⟨b, hg⟩
  · rcases R2.gh _ _ hg with hh | ⟨_, b, hb, hc⟩
    · right
      refine ⟨p, _, rfl, hh, trivial, fun od n => ⟨p, od, rfl, .inl ⟨ks, upd_same, ?_⟩⟩⟩
      have nl := R2.nolk hh rfl
      refine q _ _ _ _ (F.lock p od) G2 _ (.inr ⟨rfl, p, od, rfl, nl, n⟩) g2 (R2.lock hg hh rfl) walk_keys ⟨hl, fun ts G' σ' env H' g' R' => ?_, item _ G2⟩
      obtain ⟨o, h1, _, h3⟩ := R'.lkg p od lock_self
      rw [g' _ _ hg] at h1; cases h1
      exact h3
    · left
      refine ⟨p, b, rfl, .inl ⟨ks, hb, locked b hb fun ts G' σ' env H' g' R' => ?_⟩⟩
      rcases hc with hc | hc
      · obtain ⟨o, h1, _, h3⟩ := R'.lkg p b hc
        rw [g' _ _ hg] at h1; cases h1
        exact h3
      · have nw : p ∉ F.ws := fun w => by
          obtain ⟨o, h1, h2⟩ := R'.wsd p w
          have h1 : F.H0 p = some o := h1
          rw [hc] at h1; cases h1; cases h2
        have nl : F.lk p = none := by
          cases y : F.lk p with
          | none => rfl
          | some b' =>
            obtain ⟨o, h1, _, h3⟩ := R2.lkg p b' y
            have h4 := (R2.base p _ hc nw).2 b' y
            rw [h3] at h4; cases h4
            rw [hg] at h1; cases h1
        exact (R'.base p _ hc nw).1 nl
  · left
    exact ⟨p, b, rfl, .inl ⟨ks, gh_of R2 hg rfl, locked b (gh_of R2 hg rfl) fun ts G' σ' env H' g' R' => gh_of R' (g' _ _ hg) rfl⟩⟩
theorem piv_any {tg : Expr} (h : PB X W a fa) : PIv X W tg a (fIter fa) := fun F => pi_weak (pi_or (pi_list (h F)) (pi_or (pi_tup (h F)) (pi_or (pi_str (h F)) (pi_keys (pe_lk (h F)))))) fun σ H R q => by
  obtain ⟨G, env, Rp, q⟩ := q
  have q := Rs.wp_bind.mp q
  have fromB : ∀ (P : V → Hp → Prop), (∀ r, fa env = .ok r → ∀ v G1 H1, GLe G G1 → Rep X.K X.mg F G1 σ r.2 H1 → HdOk X.K X.mg G1 σ v r.1 → P v H1) → tB X.K X.mg W F fa σ H P := fun P hp => by
    refine ⟨G, env, Rp, ?_⟩
    cases ef : fa env with
    | bad => rw [ef] at q; exact q.elim
    | exc c fs en => rw [ef] at q; exact q
    | ok r => exact hp r ef
  cases ef : fa env with
  | bad => rw [ef] at q; exact q.elim
  | exc c fs en => exact .inl (fromB _ fun r er => by rw [ef] at er; cases er)
  | ok r =>
    rw [ef] at q
    have q : ((r.1.esc r.2 >>= fun q => Rs.of (dIter q.1) >>= fun i => .ok (i.1, i.2, q.2)) : Rs IR).wp _ _ := q
    cases es : r.1.esc r.2 with
    | bad => rw [es] at q; exact q.elim
    | exc c fs en => rw [es] at q; exact (fun G => by
        have q : (Rs.exc c fs en : Rs IR).wp _ _ := q
        refine .inl (fromB _ fun r' er v G1 H1 g1 R1 o1 => ?_)
        rw [ef] at er; cases er
        have := wp_esc (P := fun _ => False) (Z := fun _ _ _ => True) R1 o1 (by rw [es]; exact True.intro)
        obtain ⟨_, _, z, _⟩ := this
        exact z.elim) G
    | ok r2 =>
      rw [es, Rs.ok_bind] at q
      obtain ⟨i, ei, q⟩ := wp_of (Rs.wp_bind.mp q)
      have esc : ∀ {v : V} {G1 H1 : Hp}, GLe G G1 → Rep X.K X.mg F G1 σ r.2 H1 → HdOk X.K X.mg G1 σ v r.1 → ∃ G2, GLe G G2 ∧ Rep X.K X.mg F G2 σ r2.2 H1 ∧ DV X.K X.mg G2 v r2.1 := fun g1 R1 o1 => by
        obtain ⟨G2, g2, R2, dv⟩ := o1.esc R1 es
        exact ⟨G2, g1.trans g2, R2, dv⟩
      obtain ⟨d, e2⟩ := r2
      cases d with
      | lst l =>
        cases ei
        refine .inl (fromB _ fun r' er v G1 H1 g1 R1 o1 => ?_)
        rw [ef] at er; cases er
        obtain ⟨G2, g2, R2, dv⟩ := esc g1 R1 o1
        cases dv with
        | lst hl dl =>
          refine ⟨_, rfl, ⟨_, .of (gh_of R2 hl rfl)⟩, q _ _ _ _ F G2 H1 (.inl rfl) g2 R2 walk_list ⟨dl.length, fun ts G' σ' env H' g' R' => .of (gh_of R' (g' _ _ hl) rfl), fun ts i x H H' G' σ' env hi g' R' y => ?_⟩⟩
          obtain ⟨rfl, hx⟩ := y
          obtain ⟨d, hd, dx⟩ := dl.getV hx
          exact ⟨G', d, hd, .refl, R', dx.mono g'⟩
      | tup l =>
        cases ei
        refine .inr (.inl (fromB _ fun r' er v G1 H1 g1 R1 o1 => ?_))
        rw [ef] at er; cases er
        obtain ⟨G2, g2, R2, dv⟩ := esc g1 R1 o1
        cases dv with
        | tup hl dl =>
          refine ⟨_, rfl, ⟨_, .of (gh_of R2 hl rfl)⟩, q _ _ _ _ F G2 H1 (.inl rfl) g2 R2 walk_tup ⟨dl.length, fun ts G' σ' env H' g' R' => .of (gh_of R' (g' _ _ hl) rfl), fun ts i x H H' G' σ' env hi g' R' y => ?_⟩⟩
          obtain ⟨rfl, hx⟩ := y
          obtain ⟨d, hd, dx⟩ := dl.getV hx
          exact ⟨G', d, hd, .refl, R', dx.mono g'⟩
      | tup0 =>
        cases ei
        refine .inr (.inl (fromB _ fun r' er v G1 H1 g1 R1 o1 => ?_))
        rw [ef] at er; cases er
        obtain ⟨G2, g2, R2, dv⟩ := esc g1 R1 o1
        cases dv with
        | tup0 h0 => exact ⟨_, rfl, ⟨[], .inr h0⟩, q _ _ _ _ F G2 H1 (.inl rfl) g2 R2 (walk_tup (xs := [])) ⟨rfl, fun ts G' σ' env H' g' R' => .inr h0, fun ts i x H H' G' σ' env hi g' R' y => absurd hi (Nat.not_lt_zero _)⟩⟩
      | str z =>
        cases ei
        refine .inr (.inr (.inl (fromB _ fun r' er v G1 H1 g1 R1 o1 => ?_)))
        rw [ef] at er; cases er
        obtain ⟨G2, g2, R2, dv⟩ := esc g1 R1 o1
        cases dv with
        | str =>
          refine ⟨z, rfl, q _ _ _ _ F G2 H1 (.inl rfl) g2 R2 walk_str ⟨by unfold chars; simp, fun _ _ _ _ _ _ _ => trivial, fun ts i x H H' G' σ' env hi g' R' y => ?_⟩⟩
          obtain ⟨rfl, c, hc, rfl⟩ := y
          refine ⟨G', .str ⟨#[c]⟩, ?_, .refl, R', .str⟩
          unfold chars
          rw [List.getElem?_map, Array.getElem?_toList, hc]; rfl
      | dct l =>
        cases ei
        refine .inr (.inr (.inr (fromB _ fun r' er v G1 H1 g1 R1 o1 => ?_)))
        rw [ef] at er; cases er
        obtain ⟨G2, g2, R2, dv⟩ := esc g1 R1 o1
        cases dv with
        | dct hl hk dl => exact lock_walk R2 g2 hl hk q
      | _ => cases ei
end
end Rt
set_option Elab.async false
set_option linter.all false
set_option maxRecDepth 100000
set_option maxHeartbeats 4000000
/-! list comprehensions -/
namespace Rt
open PySem PySem.Spec L2
open PyProof.Rows hiding St
theorem wipe_get (σ : L2.St) (i : Nat) : ∀ vs : List Nat, (wipe σ vs)[i]? = if i ∈ vs then σ[i]?.map (fun _ => none) else σ[i]?
  | [] => by rw [if_neg (by simp)]; rfl
  | v :: vs => by
    unfold wipe
    rw [List.getElem?_set, wipe_length, wipe_get σ i vs]
    by_cases h : v = i
    · subst h
      rw [if_pos rfl, if_pos (List.mem_cons_self ..)]
      by_cases hl : v < σ.length
      · rw [if_pos hl, List.getElem?_eq_getElem hl]; rfl
      · rw [if_neg hl, List.getElem?_eq_none (Nat.le_of_not_lt hl)]; rfl
    · rw [if_neg h]
      by_cases hm : i ∈ vs
      · rw [if_pos hm, if_pos (List.mem_cons_of_mem _ hm)]
      · rw [if_neg hm, if_neg fun z => (List.mem_cons.mp z).elim (fun z => h z.symm) hm]
def wipeE (e : En) : List Nat → En
  | [] => e
  | v :: vs => (wipeE e vs).set v .no
theorem wipeE_len (e : En) : ∀ vs : List Nat, (wipeE e vs).length = e.length
  | [] => rfl
  | v :: vs => by unfold wipeE; rw [List.length_set, wipeE_len e vs]
theorem wipeE_get (e : En) (i : Nat) {s : Sl} : ∀ vs : List Nat, (wipeE e vs)[i]? = some s → s = .no ∨ (i ∉ vs ∧ e[i]? = some s)
  | [], h => .inr ⟨by simp, h⟩
  | v :: vs, h => by
    unfold wipeE at h
    rw [List.getElem?_set] at h
    by_cases z : v = i
    · rw [if_pos z] at h
      split at h
      · cases h; exact .inl rfl
      · cases h
    · rw [if_neg z] at h
      exact (wipeE_get e i vs h).imp id fun ⟨h1, h2⟩ => ⟨fun m => (List.mem_cons.mp m).elim (fun y => z y.symm) h1, h2⟩
/-- the slots vs as they were in e1 -/
def back (e1 e2 : En) : List Nat → En
  | [] => e2
  | v :: vs => (back e1 e2 vs).set v ((e1[v]?).getD .no)
theorem back_len (e1 e2 : En) : ∀ vs : List Nat, (back e1 e2 vs).length = e2.length
  | [] => rfl
  | v :: vs => by unfold back; rw [List.length_set, back_len e1 e2 vs]
theorem back_get (e1 e2 : En) (i : Nat) {s : Sl} : ∀ vs : List Nat, (back e1 e2 vs)[i]? = some s → (i ∈ vs ∧ s = (e1[i]?).getD .no) ∨ (i ∉ vs ∧ e2[i]? = some s)
  | [], h => .inr ⟨by simp, h⟩
  | v :: vs, h => by
    unfold back at h
    rw [List.getElem?_set] at h
    by_cases z : v = i
    · rw [if_pos z] at h
      split at h
      · cases h; subst z; exact .inl ⟨List.mem_cons_self .., rfl⟩
      · cases h
    · rw [if_neg z] at h
      rcases back_get e1 e2 i vs h with ⟨h1, h2⟩ | ⟨h1, h2⟩
      · exact .inl ⟨List.mem_cons_of_mem _ h1, h2⟩
      · exact .inr ⟨fun m => (List.mem_cons.mp m).elim (fun y => z y.symm) h1, h2⟩
def plainS (e : En) (vs : List Nat) : Bool := vs.all fun v => match e[v]? with
  | some (.own _) => false
  | some (.io _ _) => false
  | _ => true
section
variable {K : PySem.W.Frag} {mg : Str → Option Value} {F : Fr} {G G' : Hp} {σ τ : L2.St} {e e' : En} {H H' : Hp}
theorem Rep.view (R : Rep K mg F G σ e H) (hl : e'.length = τ.length) (h : ∀ (i : Nat) (s : Sl), e'[i]? = some s → s = .no ∨ (∃ d x, s = .val d ∧ τ[i]? = some (some x) ∧ DV K mg G x d) ∨ (e[i]? = some s ∧ τ[i]? = σ[i]?)) : Rep K mg F G τ e' H := by
  have rt : ∀ i a, rootAt τ e' i a → rootAt σ e i a := fun i a ⟨s, h1, h2, h3⟩ => by
    rcases h i s h1 with rfl | ⟨d, x, rfl, _⟩ | ⟨q1, q2⟩
    · cases h2
    · cases h2
    · exact ⟨s, q1, h2, by rw [← q2]; exact h3⟩
  exact { R with
    len := hl
    sl := fun i s q => by
      rcases h i s q with rfl | ⟨d, x, rfl, q1, q2⟩ | ⟨q1, q2⟩
      · trivial
      · exact ⟨x, q1, q2⟩
      · rw [q2]; exact R.sl i s q1
    ap := fun i j a h1 h2 => R.ap i j a (rt i a h1) (rt j a h2)
    apT := fun i a h1 => R.apT i a (rt i a h1) }
/-- a block's slots at a turn's start -/
theorem Rep.wiped {vs : List Nat} (R : Rep K mg F G σ e H) (w : wipe σ vs = wipe τ vs) : Rep K mg F G (wipe τ vs) (wipeE e vs) H := by
  refine R.view (by rw [wipeE_len, ← w, wipe_length]; exact R.len) fun i s q => ?_
  rcases wipeE_get e i vs q with h | ⟨h1, h2⟩
  · exact .inl h
  · exact .inr (.inr ⟨h2, by rw [← w, wipe_get, if_neg h1]⟩)
theorem Rep.backed {vs : List Nat} {e1 : En} (R : Rep K mg F G' (wipe σ vs) e H) (R1 : Rep K mg F G σ e1 H') (g : GLe G G') (p : plainS e1 vs = true) : Rep K mg F G' σ (back e1 e vs) H := by
  refine R.view (by rw [back_len, R.len, wipe_length]) fun i s q => ?_
  rcases back_get e1 e i vs q with ⟨h1, h2⟩ | ⟨h1, h2⟩
  · have p := List.all_eq_true.mp p i h1
    cases z : e1[i]? with
    | none => rw [z] at h2; exact .inl h2
    | some u =>
      rw [z] at h2 p
      have h2 : s = u := h2
      subst h2
      cases s with
      | no => exact .inl rfl
      | val d => obtain ⟨x, q1, q2⟩ := R1.sl i _ z; exact .inr (.inl ⟨d, x, rfl, q1, q2.mono g⟩)
      | own d => cases p
      | io n d => cases p
  · exact .inr (.inr ⟨h2, by rw [wipe_get, if_neg h1]⟩)
def Fr.temp (F : Fr) (p : Addr) (d : D) : Fr := { F with ts := (p, d) :: F.ts }
/-- a new object that is being made -/
theorem Rep.temp (R : Rep K mg F G σ e H) {p : Addr} {o : HO} {d : D} (h : H p = none) (r : Root K mg G (upd H p o) p d) : Rep K mg (F.temp p d) G σ e (upd H p o) := by
  have R' := R.alloc (o := o) h
  have fr := fresh_new R h
  exact { R' with
    apT := fun i a q z => (List.mem_cons.mp z).elim (fun y => fr.1 i ((show a = p from y) ▸ q)) (R.apT i a q)
    ndT := List.nodup_cons.mpr ⟨fr.2, R.ndT⟩
    tsk := fun q hq => (List.mem_cons.mp hq).elim (fun y => by subst y; exact ⟨R.free0 h, R.freeG h, r⟩) (R'.tsk q) }
/-- .. grows -/
theorem Rep.tempSet {p : Addr} {o : HO} {d d' : D} (R : Rep K mg (F.temp p d) G σ e H) (r : Root K mg G (upd H p o) p d') : Rep K mg (F.temp p d') G σ e (upd H p o) := by
  obtain ⟨h0, hg, r0⟩ := R.tsk (p, d) (List.mem_cons_self ..)
  have h0 : F.H0 p = none := h0
  have hg : G p = none := hg
  have ne : ∀ {a : Addr} {o : HO}, F.H0 a = some o → a ≠ p := fun q z => by rw [z, h0] at q; cases q
  have nd := List.nodup_cons.mp R.ndT
  have nl : F.lk p = none := by
    cases z : F.lk p with
    | none => rfl
    | some b => obtain ⟨o, q, _⟩ := R.lkg p b z; rw [hg] at q; cases q
  exact {
    gle := R.gle
    gnew := R.gnew
    gh := fun a u q => by
      have n : a ≠ p := fun z => by rw [z, hg] at q; cases q
      have := R.gh a u q
      unfold Gh at this ⊢; rw [upd_ne n]; exact this
    base := fun a u q w => by rw [upd_ne (ne q)]; exact R.base a u q w
    dom := fun a u q => by rw [upd_ne (ne q)]; exact R.dom a u q
    sys := by
      obtain ⟨φ, q⟩ := R.sys
      exact ⟨φ, by rw [upd_ne fun z => Root.ne (φ := φ) r0 (by show H p = _; rw [← z]; exact q)]; exact q⟩
    wsd := R.wsd
    wsT := fun a h xs q => by
      obtain ⟨u, q0, _⟩ := R.wsd a h
      rw [upd_ne (ne q0)] at q; exact R.wsT a h xs q
    lkg := fun a b q => by
      have n : a ≠ p := fun z => by rw [z] at q; exact absurd q (by rw [show (F.temp p d').lk p = F.lk p from rfl, nl]; exact fun z => nomatch z)
      rw [upd_ne n]; exact R.lkg a b q
    len := R.len
    sl := fun i s q => (R.sl i s q).mono .refl fun a e1 e2 => by
      have ra : rootAt σ e i a := ⟨s, q, e2, e1⟩
      exact ⟨(R.rootSome ra).1, upd_ne fun z => R.apT i a ra (z ▸ List.mem_cons_self ..)⟩
    ap := R.ap
    apT := R.apT
    ndT := R.ndT
    tsk := fun q hq => (List.mem_cons.mp hq).elim (fun y => by subst y; exact ⟨h0, hg, r⟩) fun y => by
      obtain ⟨p0, pg, pr⟩ := R.tsk q (List.mem_cons_of_mem _ y)
      exact ⟨p0, pg, pr.mono .refl (upd_ne fun z => nd.1 (z ▸ List.mem_map_of_mem (f := (·.1)) y))⟩ }
/-- .. is done -/
theorem Rep.tempEnd {p : Addr} {d : D} (R : Rep K mg (F.temp p d) G σ e H) : Rep K mg F G σ e H ∧ F.H0 p = none ∧ G p = none ∧ Root K mg G H p d ∧ Fresh F σ e p := by
  obtain ⟨h0, hg, r0⟩ := R.tsk (p, d) (List.mem_cons_self ..)
  have nd := List.nodup_cons.mp R.ndT
  exact ⟨{ R with
    apT := fun i a q z => R.apT i a q (List.mem_cons_of_mem _ z)
    ndT := nd.2
    tsk := fun q hq => R.tsk q (List.mem_cons_of_mem _ hq) }, h0, hg, r0, fun i z => R.apT i p z (List.mem_cons_self ..), nd.1⟩
end
def W0 : Wsh := fun _ _ _ _ => False
/-- the turns -/
def cLoop (g : D → En → Option En) (ft : En → Rs (Bool × En)) (fe : En → Rs (Hd × En)) (vs : List Nat) : List D → En → List D → Rs (List D × En)
  | [], e, acc => .ok (acc, e)
  | d :: ds, e, acc => Rs.of (g d e) >>= fun e1 => ft e1 >>= fun t => if t.1 = true then
      fe t.2 >>= fun r => r.1.esc r.2 >>= fun q => if acc.length < sizeLine then cLoop g ft fe vs ds (wipeE q.2 vs) (acc ++ [q.1]) else .bad
    else cLoop g ft fe vs ds (wipeE t.2 vs) acc
def fComp (fi : En → Rs IR) (g : D → En → Option En) (ft : En → Rs (Bool × En)) (fe : En → Rs (Hd × En)) (vs : List Nat) : En → Rs (D × En) := fun e => fi e >>= fun r =>
  if plainS r.2.2 vs = true then (cLoop g ft fe vs r.1 (wipeE r.2.2 vs) []).mute >>= fun q => .ok (.lst q.1, back r.2.2 q.2 vs) else .bad
theorem wipe_out_eq {is vs : List Nat} {σ τ : L2.St} (o : Out is (wipe σ vs) τ) (h : ∀ i ∈ is, i ∈ vs) : wipe τ vs = wipe σ vs := by
  apply List.ext_getElem?
  intro i
  rw [wipe_get, wipe_get]
  by_cases z : i ∈ vs
  · rw [if_pos z, if_pos z]
    have hl : τ.length = σ.length := by rw [o.1, wipe_length]
    by_cases y : i < σ.length
    · rw [List.getElem?_eq_getElem y, List.getElem?_eq_getElem (by rw [hl]; exact y)]; rfl
    · rw [List.getElem?_eq_none (Nat.le_of_not_lt y), List.getElem?_eq_none (by rw [hl]; exact Nat.le_of_not_lt y)]
  · rw [if_neg z, if_neg z, o.2 i fun y => z (h i y), wipe_get, if_neg z]
section
variable {X : Cx} {W : Wsh} {k : Nat} {g : D → En → Option En} {ft : En → Rs (Bool × En)} {fe : En → Rs (Hd × En)} {fi : En → Rs IR} {vs is : List Nat}
theorem tLc_of (his : ∀ i ∈ is, i ∈ vs) {F : Fr} {σ : L2.St} {H : Hp} {Q : VK} (q : tO X.K X.mg W F (fComp fi g ft fe vs) σ H Q) :
    tLc (tI X W F fi) (fun v σ H Q => ∃ F, tG X.K X.mg F is g v σ H Q) (fun σ H Q => ∃ F, tT X.K X.mg W0 F ft σ H Q) (fun σ H Q => ∃ F, tB X.K X.mg W0 F fe σ H Q) vs σ H (fun v H' => ∃ Hu, Unl X H' Hu ∧ Q v Hu) := by
  obtain ⟨G, env, R, q⟩ := q
  refine ⟨G, env, R, Rs.wp_mono (Rs.wp_bind.mp q) (fun r q J n Gd Y' F' G1 H1 l g1 R1 w ok => ?_) fun _ _ _ z => z⟩
  split at q
  · rename_i hp
    have q := Rs.wp_bind.mp q
    intro p hpn
    have q2 : (cLoop g ft fe vs r.1 (wipeE r.2.2 vs) []).wp (fun q => ∀ a G' H', GLe G G' → Rep X.K X.mg F G' σ (back r.2.2 q.2 vs) H' → F.H0 a = none → G' a = none → Root X.K X.mg G' H' a (.lst q.1) → Fresh F σ (back r.2.2 q.2 vs) a → Q (.ref a) H') (fun _ _ _ => False) := by
      cases z : cLoop g ft fe vs r.1 (wipeE r.2.2 vs) [] with
      | ok a => rw [z] at q; exact q
      | bad => rw [z] at q; exact q
      | exc c fs en => rw [z] at q; exact q
    let P := fun q : List D × En => ∀ a G' H', GLe G G' → Rep X.K X.mg F G' σ (back r.2.2 q.2 vs) H' → F.H0 a = none → G' a = none → Root X.K X.mg G' H' a (.lst q.1) → Fresh F σ (back r.2.2 q.2 vs) a → Q (.ref a) H'
    let Pv := fun (i : Nat) (H : Hp) => ∃ G' env acc, GLe G1 G' ∧ Rep X.K X.mg (F'.temp p (.lst acc)) G' (wipe σ vs) env H ∧ (cLoop g ft fe vs (r.1.drop i) env acc).wp P (fun _ _ _ => False)
    refine lc_it w (g := fun v σ H Q => ∃ F, tG X.K X.mg F is g v σ H Q) (tt := fun σ H Q => ∃ F, tT X.K X.mg W0 F ft σ H Q) (te := fun σ H Q => ∃ F, tB X.K X.mg W0 F fe σ H Q) (vs := vs) Pv ?_ ?_ ?_ ?_
    · exact ⟨G1, _, [], .refl, (R1.wiped rfl).temp hpn (.lst upd_same .nil), q2⟩
    · rintro i H2 _ ⟨G2, e2, acc, g2, R2, _⟩
      exact ok.stays F'.ts G2 _ e2 H2 g2 R2.tempEnd.1
    · rintro i x H2 H3 hi ⟨G2, e2, acc, g2, R2, q⟩ y
      have step : ∃ G3 d, r.1[i]? = some d ∧ GLe G2 G3 ∧ Rep X.K X.mg (F'.temp p (.lst acc)) G3 (wipe σ vs) e2 H3 ∧ DV X.K X.mg G3 x d := ok.item ((p, .lst acc) :: F'.ts) i x H2 H3 G2 _ e2 hi g2 R2 y
      obtain ⟨G3, d, ed, g3, R3, dv⟩ := step
      have hi' : i < r.1.length := (List.getElem?_eq_some_iff.mp ed).1
      rw [show r.1.drop i = d :: r.1.drop (i + 1) from by rw [List.drop_eq_getElem_cons hi', (List.getElem?_eq_some_iff.mp ed).2]] at q
      unfold cLoop at q
      obtain ⟨e3, ee, q⟩ := wp_of (Rs.wp_bind.mp q)
      refine ⟨_, G3, e2, d, R3, dv, e3, ee, fun σ2 o2 R4 => ⟨wipe_out_eq o2 his, _, G3, e3, R4, Rs.wp_mono (Rs.wp_bind.mp q) (fun t q G5 H5 g5 R5 => ?_) fun _ _ _ z => z.elim⟩⟩
      have wq := wipe_out_eq o2 his
      cases ht : t.1 with
      | false =>
        rw [if_neg (by rw [ht]; exact Bool.false_ne_true)] at q
        refine iteF ?_
        exact ⟨G5, _, acc, (g2.trans g3).trans g5, R5.wiped wq, q⟩
      | true =>
        rw [if_pos ht] at q
        refine iteT ?_
        refine ⟨_, G5, t.2, R5, Rs.wp_mono (Rs.wp_bind.mp q) (fun r2 q v G6 H6 g6 R6 o6 => ?_) fun _ _ _ z => z.elim⟩
        obtain ⟨r3, G7, q, g7, R7, dv7⟩ := wp_esc R6 o6 (Rs.wp_bind.mp q)
        split at q
        · rename_i hz
          obtain ⟨_, _, rt⟩ := R7.tsk (p, .lst acc) (List.mem_cons_self ..)
          cases rt with
          | lst ha dl =>
            refine ⟨_, ha, by rw [dl.length]; exact hz, G7, _, acc ++ [r3.1], ((g2.trans g3).trans g5).trans (g6.trans g7), ?_, q⟩
            exact (R7.wiped wq).tempSet (.lst upd_same (dl.append (.cons dv7 .nil)))
        · exact q.elim
    · rintro H2 ⟨G2, e2, acc, g2, R2, q⟩
      rw [List.drop_eq_nil_of_le (Nat.le_of_eq ok.len.symm)] at q
      have q : P (acc, e2) := q
      obtain ⟨R3, h0, hg, rt, fr⟩ := R2.tempEnd
      have R4 := R3.backed R1 g2 hp
      have fr4 : Fresh F' σ (back r.2.2 e2 vs) p := ⟨fun i ra => by
        obtain ⟨s, z1, z2, z3⟩ := ra
        rcases back_get _ _ i vs z1 with ⟨y1, y2⟩ | ⟨y1, y2⟩
        · have hp' := List.all_eq_true.mp hp i y1
          cases y3 : r.2.2[i]? with
          | none => rw [y3] at y2; cases y2; cases z2
          | some u =>
            rw [y3] at y2 hp'
            have y2 : s = u := y2
            subst y2
            cases s with
            | no => cases z2
            | val d => cases z2
            | own d => cases hp'
            | io n d => cases hp'
        · exact fr.1 i ⟨s, y2, z2, by rw [wipe_get, if_neg y1]; exact z3⟩, fr.2⟩
      obtain ⟨h0', _⟩ := l.h0
      rcases l with rfl | ⟨_, d, od, rfl, nl, nz⟩
      · exact ⟨H2, .inl rfl, q p G2 H2 (g1.trans g2) R4 h0 hg rt fr4⟩
      · obtain ⟨u, hu, R5⟩ := R4.unlock nl
        obtain ⟨o, hgd, _, _⟩ := R4.lkg d od lock_self
        exact ⟨_, .inr ⟨d, od, u, hu, nz, rfl⟩, q p G2 _ (g1.trans g2) R5 h0 hg (rt.mono .refl (upd_ne fun z => by rw [z, hgd] at hg; cases hg)) fr4⟩
  · exact q.elim
end
end Rt
set_option Elab.async false
set_option linter.all false
set_option maxRecDepth 100000
set_option maxHeartbeats 4000000
/-! comprehensions as expressions; defs and their calls -/
namespace Rt
open PySem PySem.Spec L2
open PyProof.Rows hiding St
section
variable {X : Cx} {W : Wsh} {k : Nat} {g : D → En → Option En} {ft : En → Rs (Bool × En)} {fe : En → Rs (Hd × En)} {fi : En → Rs IR} {is : List Nat} {tg it elt : Expr} {ifs : List Expr} {scope : Scope} {own : List (Str × Nat)} {pos spos : Pos}
theorem Hy.blk (Y : Hy X W k) (s : Shared) (H : Hp) (sc : Scope) (cenv : Env) (fp : List Addr) : Hy (X.blk s H sc cenv fp) W0 k where
  calm := Y.calm
  nd := Y.nd
  gd := Y.gd
  rm := Y.rm
  own := PassesOwn.never
  tk := fun σ pins H' s' e s'' I c => by
    obtain ⟨_, _, _, _, _, _, _, _, _, _, _, _, z⟩ := c
    exact z.elim
def PTq (X : Cx) (W : Wsh) (ifs : List Expr) (f : En → Rs (Bool × En)) : Prop := ∀ F, PTs X ifs (tT X.K X.mg W F f)
def fYes : En → Rs (Bool × En) := fun e => .ok (true, e)
theorem ptq_nil : PTq X W [] fYes := fun F => ⟨fun pins s σ H Q I q => by
  obtain ⟨G, env, R, q⟩ := q
  exact pts_nil.run pins s σ H Q I (q G H .refl R)⟩
theorem ptq_one {c : Expr} (h : PTt X W c ft) : PTq X W [c] ft := fun F => pts_one (h F)
theorem pts_ex {ifs : List Expr} {W : Wsh} {f : En → Rs (Bool × En)} (h : PTq X W ifs f) : PTs X ifs (fun σ H Q => ∃ F, tT X.K X.mg W F f σ H Q) := ⟨fun pins s σ H Q I ⟨F, q⟩ => (h F).run pins s σ H Q I q⟩
theorem pe_ex {e : Expr} {W : Wsh} {f : En → Rs (Hd × En)} (h : PB X W e f) : PE X e (fun σ H Q => ∃ F, tB X.K X.mg W F f σ H Q) := ⟨fun pins s σ H Q I ⟨F, q⟩ => (h F).run pins s σ H Q I q⟩
theorem po_comp (Y : Hy X W k) (hi : PIv X W tg it fi) (ok : BlkOk X.N X.env.scope scope own)
    (hg : ∀ (s : Shared) (H : Hp) (C : Addr) (cl : List (Str × Addr)) (fp : List Addr), PGt (X.blk s H scope (compEnvC scope cl C X.env) fp) tg is g)
    (ht : ∀ (s : Shared) (H : Hp) (C : Addr) (cl : List (Str × Addr)) (fp : List Addr), PTq (X.blk s H scope (compEnvC scope cl C X.env) fp) W0 ifs ft)
    (he : ∀ (s : Shared) (H : Hp) (C : Addr) (cl : List (Str × Addr)) (fp : List Addr), PB (X.blk s H scope (compEnvC scope cl C X.env) fp) W0 elt fe)
    (his : ∀ i ∈ is, i ∈ own.map (·.2)) (hs : ∀ x, foldedSetIterable it X.env x = pure x := by intro _; rfl) :
    PO X W (.ListComp elt [⟨tg, it, ifs, 0⟩] scope pos) (fComp fi g ft fe (own.map (·.2))) :=
  fun F => pe_weak (pe_unl (pe_lc Y.calm Y.nd (hi F) ok (fun s H C cl fp => pg_ex (hg s H C cl fp)) (fun s H C cl fp => pts_ex (ht s H C cl fp)) (fun s H C cl fp => pe_ex (he s H C cl fp)) hs)) fun σ H Q q => tLc_of his q
theorem pst_setC {i : Nat} {y : Str} {py : Pos} (Y : Hy X W k) (hy : X.N[i]? = some y) (hyl : X.env.scope.names.lookup y = some .local)
    (hsw : swapsWith (.ListComp elt [⟨tg, it, ifs, 0⟩] scope pos) (some (.Name y py)) spos.line X.env = pure true) (hi : PIv X W tg it fi) (ok : BlkOk X.N X.env.scope scope own)
    (hg : ∀ (s : Shared) (H : Hp) (C : Addr) (cl : List (Str × Addr)) (fp : List Addr), PGt (X.blk s H scope (compEnvC scope cl C X.env) fp) tg is g)
    (ht : ∀ (s : Shared) (H : Hp) (C : Addr) (cl : List (Str × Addr)) (fp : List Addr), PTq (X.blk s H scope (compEnvC scope cl C X.env) fp) W0 ifs ft)
    (he : ∀ (s : Shared) (H : Hp) (C : Addr) (cl : List (Str × Addr)) (fp : List Addr), PB (X.blk s H scope (compEnvC scope cl C X.env) fp) W0 elt fe)
    (his : ∀ i ∈ is, i ∈ own.map (·.2)) (hs : ∀ x, foldedSetIterable it X.env x = pure x := by intro _; rfl) :
    PSt X W (.Assign [.Name y py] (.ListComp elt [⟨tg, it, ifs, 0⟩] scope pos) spos) (fSetO i (fComp fi g ft fe (own.map (·.2)))) :=
  fun F => ps_weak (ps_unl (ps_setLc Y.calm Y.nd hy hyl hsw (hi F) ok (fun s H C cl fp => pg_ex (hg s H C cl fp)) (fun s H C cl fp => pts_ex (ht s H C cl fp)) (fun s H C cl fp => pe_ex (he s H C cl fp)) hs)) fun D σ H q => by
  refine tLc_of (W := W) (g := g) (ft := ft) (fe := fe) (fi := fi) (F := F) (Q := fun v H' => D.nx (σ.set i (some v)) H') his ?_
  obtain ⟨G, env, R, q⟩ := q
  exact ⟨G, env, R, Rs.wp_mono (Rs.wp_bind.mp q) (fun r q a G1 H1 g1 R1 h0 hg rt fr => q _ G1 H1 g1 (R1.setO h0 hg rt fr)) fun _ _ _ z => z.zx .refl⟩
end
end Rt
set_option Elab.async false
set_option linter.all false
set_option maxRecDepth 100000
set_option maxHeartbeats 4000000
/-! defs and their calls -/
namespace Rt
open PySem PySem.Spec L2
open PyProof.Rows hiding St
/-- an argument: a value; an object that is lent -/
inductive Ar where
  | val (d : D) | io (d : D)
/-- a def's answer: is it a new object of the caller's own; the data; what became of the lent objects -/
structure Rz where
  own : Bool
  d : D
  outs : List D
def Sl.put : Sl → D → Sl
  | .io k _, d => .io k d
  | .own _, d => .own d
  | s, _ => s
section
variable (K : PySem.W.Frag) (mg : Str → Option Value)
inductive ArOk (G H : Hp) : List V → List Ar → List Addr → Prop
  | nil : ArOk G H [] [] []
  | val {v d vs as ws} : DV K mg G v d → ArOk G H vs as ws → ArOk G H (v :: vs) (.val d :: as) ws
  | io {a d vs as ws} : Root K mg G H a d → G a = none → a ∉ ws → ArOk G H vs as ws → ArOk G H (.ref a :: vs) (.io d :: as) (a :: ws)
inductive OutOk (G H : Hp) : List Addr → List D → Prop
  | nil : OutOk G H [] []
  | cons {a d ws ds} : Root K mg G H a d → OutOk G H ws ds → OutOk G H (a :: ws) (d :: ds)
/-- the heap behind a call -/
structure Aft (G H : Hp) (ws : List Addr) (outs : List D) (G' H' : Hp) : Prop where
  gle : GLe G G'
  new : ∀ a o, G' a = some o → G a = some o ∨ H a = none ∨ (isTu o = true ∧ H a = some o)
  gh : ∀ a o, G' a = some o → H' a = some o ∨ (isDic o = true ∧ ∃ b, H' a = some (.frz b o) ∧ H a = some (.frz b o))
  keep : ∀ a o, H a = some o → a ∉ ws → H' a = some o
  dom : ∀ a o, H a = some o → ∃ u, H' a = some u
  outs : OutOk K mg G' H' ws outs
/-- a def's promise: what it does with data -/
def outsOf (e : En) : List D := e.filterMap Sl.get
def spD (g : List Ar → Rs Rz) : Sp := fun vs H Q E => ∃ G as ws, (∃ φ, H sysModules = some (.ext φ)) ∧ (∀ a o, G a = some o → H a = some o ∨ (isDic o = true ∧ ∃ b, H a = some (.frz b o))) ∧ ArOk K mg G H vs as ws ∧
  (g as).wp (fun z => ∀ v G' H', Aft K mg G H ws z.outs G' H' → (if z.own = true then ∃ a, v = .ref a ∧ H a = none ∧ G' a = none ∧ Root K mg G' H' a z.d ∧ a ∉ ws else DV K mg G' v z.d) → Q v H')
    (fun c fs eo => ∀ G' H' C xd, Aft K mg G H ws (outsOf eo) G' H' → mg c = some (.ref C) → XFs K mg G' H' xd fs → E (.ref C) xd H')
end
section
variable {K : PySem.W.Frag} {mg : Str → Option Value} {F : Fr} {G G' : Hp} {σ : L2.St} {e e' : En} {H H' : Hp} {ws : List Addr} {outs : List D}
theorem Rep.tupH0 (R : Rep K mg F G σ e H) {a : Addr} {o : HO} (t : isTu o = true) (h : H a = some o) : F.H0 a = none ∨ F.H0 a = some o := by
  cases o with
  | tup xs =>
    cases y : F.H0 a with
    | none => exact .inl rfl
    | some u =>
      right
      have w : a ∉ F.ws := fun w => R.wsT a w xs h
      cases l : F.lk a with
      | some b => have z := (R.base a u y w).2 b l; rw [h] at z; cases z
      | none => have z := (R.base a u y w).1 l; rw [h] at z; cases z; rfl
  | _ => cases t
theorem Aft.gnone (A : Aft K mg G H ws outs G' H') {a : Addr} (hg : G a = none) (h : ∃ o, H a = some o) (nt : ∀ xs, H a ≠ some (.tup xs)) : G' a = none := by
  cases z : G' a with
  | none => rfl
  | some o =>
    obtain ⟨u, hu⟩ := h
    rcases A.new a o z with q | q | ⟨q1, q2⟩
    · rw [hg] at q; cases q
    · rw [hu] at q; cases q
    · cases o with
      | tup xs => exact absurd q2 (nt xs)
      | _ => cases q1
theorem OutOk.get : ∀ {ws : List Addr} {ds : List D} {j : Nat} {a : Addr} {d : D}, OutOk K mg G H ws ds → ws[j]? = some a → ds[j]? = some d → Root K mg G H a d
  | _, _, _, _, _, .nil, h, _ => by simp at h
  | _, _, 0, _, _, .cons r _, h, h2 => by simp at h h2; subst h h2; exact r
  | _, _, j + 1, _, _, .cons _ l, h, h2 => OutOk.get (j := j) l (by simpa using h) (by simpa using h2)
theorem OutOk.mem : ∀ {ws : List Addr} {ds : List D} {a : Addr}, OutOk K mg G H ws ds → a ∈ ws → ∃ d, Root K mg G H a d
  | _, _, _, .nil, h => by cases h
  | _, _, _, .cons r l, h => (List.mem_cons.mp h).elim (fun z => by subst z; exact ⟨_, r⟩) (OutOk.mem l)
/-- the caller's frame behind a call -/
theorem Rep.after (R : Rep K mg F G σ e H) (A : Aft K mg G H ws outs G' H') (hl : e'.length = e.length) (hw : ∀ a ∈ ws, ∃ i, rootAt σ e i a)
    (h : ∀ (i : Nat) (s' : Sl), e'[i]? = some s' → (e[i]? = some s' ∧ ∀ a, rootAt σ e i a → a ∉ ws) ∨ ∃ s a d', e[i]? = some s ∧ rootAt σ e i a ∧ s' = s.put d' ∧ Root K mg G' H' a d') : Rep K mg F G' σ e' H' := by
  have rt : ∀ i a, rootAt σ e' i a → rootAt σ e i a := fun i a ⟨s, h1, h2, h3⟩ => by
    rcases h i s h1 with ⟨q, _⟩ | ⟨u, b, d', q1, q2, q3, _⟩
    · exact ⟨s, q, h2, h3⟩
    · obtain ⟨t, q4, q5, q6⟩ := q2
      rw [q1] at q4; cases q4
      rw [h3] at q6; cases q6
      exact ⟨_, q1, q5, h3⟩
  have nG : ∀ i a, rootAt σ e i a → G' a = none := fun i a r => A.gnone (R.rootSome r).1 (R.rootSome r).2 fun xs z => R.rootNT r z
  have nws : ∀ a o, F.H0 a = some o → a ∉ F.ws → a ∉ ws := fun a o q w z => by
    obtain ⟨i, s, h1, h2, h3⟩ := hw a z
    have sl := R.sl i s h1
    cases s with
    | no => cases h2
    | val d => cases h2
    | own d => obtain ⟨b, eb, h0, _⟩ := sl; rw [h3] at eb; cases eb; rw [q] at h0; cases h0
    | io n d => obtain ⟨b, eb, h0, _⟩ := sl; rw [h3] at eb; cases eb; exact w (List.mem_of_getElem? h0)
  have kws : ∀ a o, G a = some o → a ∉ ws := fun a o q z => by
    obtain ⟨i, r⟩ := hw a z
    rw [(R.rootSome r).1] at q; cases q
  exact {
    gle := R.gle.trans A.gle
    gnew := fun a o q => by
      rcases A.new a o q with z | z | ⟨z1, z2⟩
      · exact R.gnew a o z
      · exact .inr (.inl (R.free0 z))
      · exact .inr ((R.tupH0 z1 z2).imp id fun y => ⟨z1, y⟩)
    gh := fun a o q => by
      rcases A.gh a o q with z | ⟨z1, b, z2, z3⟩
      · exact .inl z
      · rcases A.new a o q with y | y | ⟨y1, y2⟩
        · rcases R.gh a o y with w | ⟨_, b', w1, w2⟩
          · rw [z3] at w; cases w
          · rw [z3] at w1; cases w1; exact .inr ⟨z1, b, z2, w2⟩
        · rw [z3] at y; cases y
        · rw [z3] at y2; cases y2
    base := fun a o q w => ⟨fun l => A.keep a _ ((R.base a o q w).1 l) (nws a o q w), fun b l => A.keep a _ ((R.base a o q w).2 b l) (nws a o q w)⟩
    dom := fun a o q => by
      obtain ⟨u, z⟩ := R.dom a o q
      exact A.dom a u z
    sys := by
      obtain ⟨φ, q⟩ := R.sys
      exact ⟨φ, A.keep _ _ q fun z => by
        obtain ⟨i, r⟩ := hw _ z
        exact R.rootNE r q⟩
    wsd := R.wsd
    wsT := fun a q xs z => by
      obtain ⟨o, h0, _⟩ := R.wsd a q
      obtain ⟨u, hu⟩ := R.dom a o h0
      by_cases y : a ∈ ws
      · obtain ⟨d, r⟩ := A.outs.mem y
        exact r.nt z
      · rw [A.keep a u hu y] at z; cases z
        exact R.wsT a q xs hu
    lkg := fun a b q => by
      obtain ⟨o, h1, h2, h3⟩ := R.lkg a b q
      exact ⟨o, A.gle _ _ h1, h2, A.keep a _ h3 (kws a o h1)⟩
    len := hl.trans R.len
    sl := fun i s' q => by
      rcases h i s' q with ⟨q1, q2⟩ | ⟨s, a, d', q1, q2, q3, q4⟩
      · exact (R.sl i s' q1).mono A.gle fun a z1 z2 => by
          have r : rootAt σ e i a := ⟨s', q1, z2, z1⟩
          obtain ⟨o, ho⟩ := (R.rootSome r).2
          exact ⟨nG i a r, by rw [A.keep a o ho (q2 a r), ho]⟩
      · subst q3
        have sl := R.sl i s q1
        have g0 := nG i a q2
        obtain ⟨t, y1, y2, y3⟩ := q2
        rw [q1] at y1; cases y1
        cases s with
        | no => cases y2
        | val d => cases y2
        | own d => obtain ⟨b, eb, h0, _⟩ := sl; rw [y3] at eb; cases eb; exact ⟨a, y3, h0, g0, q4⟩
        | io n d => obtain ⟨b, eb, h0, _⟩ := sl; rw [y3] at eb; cases eb; exact ⟨a, y3, h0, g0, q4⟩
    ap := fun i j a h1 h2 => R.ap i j a (rt i a h1) (rt j a h2)
    apT := fun i a h1 => R.apT i a (rt i a h1)
    ndT := R.ndT
    tsk := fun p hp => by
      obtain ⟨p0, pg, pr⟩ := R.tsk p hp
      obtain ⟨o, ho⟩ := pr.some
      have n : p.1 ∉ ws := fun z => by
        obtain ⟨i, r⟩ := hw _ z
        exact R.apT i _ r (List.mem_map_of_mem hp)
      exact ⟨p0, A.gnone pg ⟨o, ho⟩ fun xs z => pr.nt z, pr.mono A.gle (by rw [A.keep _ o ho n, ho])⟩ }
/-! the arguments as data -/
def rootD (e : En) (i : Nat) : Option D := match e[i]? with
  | some (.own d) => some d
  | some (.io _ d) => some d
  | _ => none
/-- what is lent goes as the object that it is, where it is one of this def's own or lent to it; else as data -/
def lendH (e : En) : Hd → Bool
  | .slot i => (rootD e i).isSome
  | .dat _ => false
def slotH : Hd → Nat
  | .slot i => i
  | .dat _ => 0
def escM : List Bool → List Hd → En → Rs (List (D ⊕ Nat) × En)
  | m :: ms, h :: hs, e => bif m && lendH e h then escM ms hs e >>= fun r => .ok (.inr (slotH h) :: r.1, r.2) else h.esc e >>= fun q => escM ms hs q.2 >>= fun r => .ok (.inl q.1 :: r.1, r.2)
  | [], [], e => .ok ([], e)
  | _, _, _ => .bad
def readM (e : En) : List (D ⊕ Nat) → Option (List Ar × List Nat)
  | [] => some ([], [])
  | .inl d :: l => (readM e l).map fun r => (.val d :: r.1, r.2)
  | .inr i :: l => (rootD e i).bind fun d => (readM e l).bind fun r => if i ∈ r.2 then none else some (.io d :: r.1, i :: r.2)
def putM : En → List Nat → List D → En
  | e, i :: is, d :: ds => (putM e is ds).set i ((((putM e is ds)[i]?).getD .no).put d)
  | e, _, _ => e
/-- the escaped arguments' values -/
inductive EsOk (K : PySem.W.Frag) (mg : Str → Option Value) (G : Hp) (σ : L2.St) : List V → List (D ⊕ Nat) → Prop
  | nil : EsOk K mg G σ [] []
  | val {v d vs l} : DV K mg G v d → EsOk K mg G σ vs l → EsOk K mg G σ (v :: vs) (.inl d :: l)
  | io {v i vs l} : σ[i]? = some (some v) → EsOk K mg G σ vs l → EsOk K mg G σ (v :: vs) (.inr i :: l)
theorem EsOk.mono (g : GLe G G') : ∀ {vs : List V} {l : List (D ⊕ Nat)}, EsOk K mg G σ vs l → EsOk K mg G' σ vs l
  | _, _, .nil => .nil
  | _, _, .val h l => .val (h.mono g) (EsOk.mono g l)
  | _, _, .io h l => .io h (EsOk.mono g l)
theorem escM_ok : ∀ (ms : List Bool) {vs : List V} {hs : List Hd} {G : Hp} {e : En} {P : List (D ⊕ Nat) × En → Prop} {Z}, Rep K mg F G σ e H → HdsOk K mg G σ vs hs → (escM ms hs e).wp P Z →
    ∃ r G', P r ∧ GLe G G' ∧ Rep K mg F G' σ r.2 H ∧ EsOk K mg G' σ vs r.1
  | [], _, _, G, e, P, Z, R, .nil, q => ⟨_, G, q, .refl, R, .nil⟩
  | [], _, _, _, _, _, _, _, .cons _ _, q => q.elim
  | _ :: _, _, _, _, _, _, _, _, .nil, q => q.elim
  | m :: ms, _, _, G, e, P, Z, R, .cons (h := h) (hs := hs) o l, q => by
    have q : (bif m && lendH e h then escM ms hs e >>= fun r => .ok (.inr (slotH h) :: r.1, r.2) else h.esc e >>= fun q => escM ms hs q.2 >>= fun r => .ok (.inl q.1 :: r.1, r.2) : Rs (List (D ⊕ Nat) × En)).wp P Z := q
    cases c : m && lendH e h with
    | true =>
      rw [c, cond_true] at q
      cases h with
      | dat d =>
        rw [Bool.and_eq_true] at c
        cases c.2
      | slot i =>
        obtain ⟨r, G', q, g, R', es⟩ := escM_ok ms R l (Rs.wp_bind.mp q)
        exact ⟨_, G', q, g, R', .io o es⟩
    | false =>
      rw [c, cond_false] at q
      obtain ⟨r, G1, q, g1, R1, dv⟩ := wp_esc R o (Rs.wp_bind.mp q)
      obtain ⟨r2, G', q, g, R', es⟩ := escM_ok ms R1 (l.mono g1) (Rs.wp_bind.mp q)
      exact ⟨_, G', q, g1.trans g, R', .val (dv.mono g) es⟩
theorem rootD_ok (R : Rep K mg F G σ e H) {i : Nat} {d : D} {v : V} (h : rootD e i = some d) (hv : σ[i]? = some (some v)) : ∃ a, v = .ref a ∧ rootAt σ e i a ∧ Root K mg G H a d ∧ G a = none := by
  unfold rootD at h
  cases q : e[i]? with
  | none => rw [q] at h; cases h
  | some s =>
    rw [q] at h
    have sl := R.sl i s q
    cases s with
    | no => cases h
    | val d => cases h
    | own d' => cases h; obtain ⟨a, ea, _, hg, r⟩ := sl; rw [hv] at ea; cases ea; exact ⟨a, rfl, ⟨_, q, rfl, hv⟩, r, hg⟩
    | io n d' => cases h; obtain ⟨a, ea, _, hg, r⟩ := sl; rw [hv] at ea; cases ea; exact ⟨a, rfl, ⟨_, q, rfl, hv⟩, r, hg⟩
theorem readM_ok (R : Rep K mg F G σ e H) : ∀ {vs : List V} {l : List (D ⊕ Nat)} {r : List Ar × List Nat}, EsOk K mg G σ vs l → readM e l = some r →
    ∃ ws, ArOk K mg G H vs r.1 ws ∧ Paired (fun i a => rootAt σ e i a) r.2 ws ∧ r.2.Nodup
  | _, _, _, .nil, h => by cases h; exact ⟨[], .nil, .nil, List.nodup_nil⟩
  | _, _, _, .val (l := l) dv es, h => by
    unfold readM at h
    cases q : readM e l with
    | none => rw [q] at h; cases h
    | some r =>
      rw [q] at h; cases h
      obtain ⟨ws, a, p, nd⟩ := readM_ok R es q
      exact ⟨ws, .val dv a, p, nd⟩
  | _, _, _, .io (i := i) (l := l) hv es, h => by
    unfold readM at h
    cases q : rootD e i with
    | none => rw [q] at h; cases h
    | some d =>
      rw [q] at h
      cases q2 : readM e l with
      | none => rw [q2] at h; cases h
      | some r =>
        rw [q2] at h
        have h : (if i ∈ r.2 then none else some (.io d :: r.1, i :: r.2)) = some _ := h
        split at h
        · cases h
        · rename_i hi
          cases h
          obtain ⟨ws, a, p, nd⟩ := readM_ok R es q2
          obtain ⟨b, rfl, rb, rt, hg⟩ := rootD_ok R q hv
          have nb : b ∉ ws := fun z => by
            have : ∀ {is : List Nat} {ws : List Addr}, Paired (fun i a => rootAt σ e i a) is ws → b ∈ ws → ∃ j ∈ is, rootAt σ e j b := by
              intro is ws p
              induction p with
              | nil => intro z; cases z
              | cons h t ih =>
                intro z
                rcases List.mem_cons.mp z with rfl | z
                · exact ⟨_, List.mem_cons_self .., h⟩
                · obtain ⟨j, j1, j2⟩ := ih z; exact ⟨j, List.mem_cons_of_mem _ j1, j2⟩
            obtain ⟨j, j1, j2⟩ := this p z
            exact hi (by rw [R.ap i j b rb j2]; exact j1)
          exact ⟨b :: ws, .io rt hg nb a, .cons rb p, List.nodup_cons.mpr ⟨hi, nd⟩⟩
theorem putM_len : ∀ (e : En) (is : List Nat) (ds : List D), (putM e is ds).length = e.length
  | e, [], ds => by cases ds <;> rfl
  | e, i :: is, [] => rfl
  | e, i :: is, d :: ds => by unfold putM; rw [List.length_set, putM_len e is ds]
theorem putM_out (e : En) (i : Nat) : ∀ (is : List Nat) (ds : List D), i ∉ is → (putM e is ds)[i]? = e[i]?
  | [], ds, _ => by cases ds <;> rfl
  | j :: is, [], _ => rfl
  | j :: is, d :: ds, h => by
    unfold putM
    rw [List.getElem?_set_ne fun z => h (by rw [z]; exact List.mem_cons_self ..)]
    exact putM_out e i is ds fun z => h (List.mem_cons_of_mem _ z)
theorem putM_ok (R : Rep K mg F G σ e H) (A : Aft K mg G H ws outs G' H') {is : List Nat} (p : Paired (fun i a => rootAt σ e i a) is ws) (nd : is.Nodup) : Rep K mg F G' σ (putM e is outs) H' := by
  have all : ∀ {is : List Nat} {ws' : List Addr} {ds : List D}, Paired (fun i a => rootAt σ e i a) is ws' → is.Nodup → OutOk K mg G' H' ws' ds → ∀ (i : Nat) (s' : Sl), (putM e is ds)[i]? = some s' →
      (i ∉ is ∧ e[i]? = some s') ∨ ∃ s a d', e[i]? = some s ∧ rootAt σ e i a ∧ s' = s.put d' ∧ Root K mg G' H' a d' := by
    intro is ws' ds p
    induction p generalizing ds with
    | nil => intro _ o i s' h; cases o; exact .inl ⟨by simp, h⟩
    | cons hr t ih =>
      rename_i j b is ws'
      intro nd o i s' h
      cases o with
      | cons ro lo =>
        have nd := List.nodup_cons.mp nd
        unfold putM at h
        rw [List.getElem?_set] at h
        by_cases z : j = i
        · subst z
          rw [if_pos rfl] at h
          split at h
          · cases h
            right
            obtain ⟨s, h1, h2, h3⟩ := hr
            exact ⟨s, b, _, h1, ⟨s, h1, h2, h3⟩, by rw [putM_out e j _ _ nd.1, h1]; rfl, ro⟩
          · cases h
        · rw [if_neg z] at h
          rcases ih nd.2 lo i s' h with ⟨q1, q2⟩ | q
          · exact .inl ⟨fun y => (List.mem_cons.mp y).elim (fun w => z w.symm) q1, q2⟩
          · exact .inr q
  have hw : ∀ {is : List Nat} {ws : List Addr}, Paired (fun i a => rootAt σ e i a) is ws → ∀ a ∈ ws, ∃ i ∈ is, rootAt σ e i a := by
    intro is ws p
    induction p with
    | nil => intro a z; cases z
    | cons h t ih =>
      intro a z
      rcases List.mem_cons.mp z with rfl | z
      · exact ⟨_, List.mem_cons_self .., h⟩
      · obtain ⟨j, j1, j2⟩ := ih a z; exact ⟨j, List.mem_cons_of_mem _ j1, j2⟩
  refine R.after A (putM_len _ _ _) (fun a z => (hw p a z).imp fun _ q => q.2) fun i s' h => ?_
  rcases all p nd A.outs i s' h with ⟨q1, q2⟩ | q
  · refine .inl ⟨q2, fun a r z => ?_⟩
    obtain ⟨j, j1, j2⟩ := hw p a z
    exact q1 (by rw [R.ap i j a r j2]; exact j1)
  · exact .inr q
end
end Rt
set_option Elab.async false
set_option linter.all false
set_option maxRecDepth 100000
set_option maxHeartbeats 4000000
/-! a def of the text; a call by its name -/
namespace Rt
open PySem PySem.Spec L2
open PyProof.Rows hiding St
def bindE : Nat → List Ar → En
  | _, [] => []
  | k, .val d :: as => .val d :: bindE k as
  | k, .io d :: as => .io k d :: bindE (k + 1) as
def ioCount : List Ar → Nat
  | [] => 0
  | .val _ :: as => ioCount as
  | .io _ :: as => ioCount as + 1
def outAt (k : Nat) : En → Option D
  | [] => none
  | .io j d :: e => if j = k then some d else outAt k e
  | _ :: e => outAt k e
def outsAt (e : En) (k : Nat) : Nat → Option (List D)
  | 0 => some []
  | n + 1 => (outAt k e).bind fun d => (outsAt e (k + 1) n).bind fun ds => some (d :: ds)
/-- a def upon data: nn names, np parameters -/
def runDef (nn np : Nat) (f : En → Rs (Fl × En)) (as : List Ar) : Rs Rz :=
  if as.length = np then
    match f (bindE 0 as ++ List.replicate (nn - as.length) .no) with
    | .bad => .bad
    | .exc c fs e => match outsAt e 0 (ioCount as) with
      | some outs => .exc c fs (outs.map .val)
      | none => .bad
    | .ok (fl, e) => match outsAt e 0 (ioCount as) with
      | none => .bad
      | some outs => match fl with
        | .nx => .ok ⟨false, .non, outs⟩
        | .rt d => .ok ⟨false, d, outs⟩
        | .ro d => .ok ⟨true, d, outs⟩
        | _ => .bad
  else .bad
section
variable {K : PySem.W.Frag} {mg : Str → Option Value} {F : Fr} {G G' : Hp} {σ : L2.St} {e e' : En} {H H' : Hp} {ws : List Addr}
theorem ArOk.len : ∀ {vs : List V} {as : List Ar} {ws : List Addr}, ArOk K mg G H vs as ws → vs.length = as.length ∧ ws.length = ioCount as ∧ (bindE 0 as).length = as.length := by
  intro vs as ws h
  have bl : ∀ (as : List Ar) k, (bindE k as).length = as.length := by
    intro as
    induction as with
    | nil => intro k; rfl
    | cons a as ih => intro k; cases a <;> simp [bindE, ih]
  refine ⟨?_, ?_, bl as 0⟩
  · induction h with
    | nil => rfl
    | val _ _ ih => exact congrArg (· + 1) ih
    | io _ _ _ _ ih => exact congrArg (· + 1) ih
  · induction h with
    | nil => rfl
    | val _ _ ih => exact ih
    | io _ _ _ _ ih => exact congrArg (· + 1) ih
theorem ArOk.at : ∀ {vs : List V} {as : List Ar} {ws : List Addr} (k i : Nat) (s : Sl), ArOk K mg G H vs as ws → (bindE k as)[i]? = some s →
    (∃ d v, s = .val d ∧ vs[i]? = some v ∧ DV K mg G v d) ∨ ∃ j d a, s = .io (k + j) d ∧ vs[i]? = some (.ref a) ∧ ws[j]? = some a ∧ Root K mg G H a d ∧ G a = none
  | _, _, _, k, i, s, .nil, h => by cases i <;> cases h
  | _, _, _, k, 0, s, .val dv l, h => by cases h; exact .inl ⟨_, _, rfl, rfl, dv⟩
  | _, _, _, k, i + 1, s, .val dv l, h => by
    rcases ArOk.at k i s l h with ⟨d, v, h1, h2, h3⟩ | ⟨j, d, a, h1, h2, h3, h4, h5⟩
    · exact .inl ⟨d, v, h1, h2, h3⟩
    · exact .inr ⟨j, d, a, h1, h2, h3, h4, h5⟩
  | _, _, _, k, 0, s, .io r hg n l, h => by cases h; exact .inr ⟨0, _, _, rfl, rfl, rfl, r, hg⟩
  | _, _, _, k, i + 1, s, .io r hg n l, h => by
    rcases ArOk.at (k + 1) i s l h with ⟨d, v, h1, h2, h3⟩ | ⟨j, d, a, h1, h2, h3, h4, h5⟩
    · exact .inl ⟨d, v, h1, h2, h3⟩
    · exact .inr ⟨j + 1, d, a, by rw [h1, Nat.add_assoc, Nat.add_comm 1 j], h2, h3, h4, h5⟩
theorem ArOk.nd : ∀ {vs : List V} {as : List Ar} {ws : List Addr}, ArOk K mg G H vs as ws → ws.Nodup ∧ ∀ a ∈ ws, ∃ d, Root K mg G H a d
  | _, _, _, .nil => ⟨List.nodup_nil, fun a z => by cases z⟩
  | _, _, _, .val _ l => ArOk.nd l
  | _, _, _, .io r _ n l => ⟨List.nodup_cons.mpr ⟨n, (ArOk.nd l).1⟩, fun a z => (List.mem_cons.mp z).elim (fun y => by subst y; exact ⟨_, r⟩) ((ArOk.nd l).2 a)⟩
theorem bindE_lt : ∀ (as : List Ar) (k i j : Nat) (d : D), (bindE k as)[i]? = some (.io j d) → k ≤ j
  | [], k, i, j, d, h => by cases i <;> cases h
  | .val _ :: as, k, 0, j, d, h => by cases h
  | .val _ :: as, k, i + 1, j, d, h => bindE_lt as k i j d h
  | .io _ :: as, k, 0, j, d, h => by cases h; exact Nat.le_refl _
  | .io _ :: as, k, i + 1, j, d, h => Nat.le_of_succ_le (bindE_lt as (k + 1) i j d h)
theorem bindE_inj : ∀ (as : List Ar) (k i i' j : Nat) (d d' : D), (bindE k as)[i]? = some (.io j d) → (bindE k as)[i']? = some (.io j d') → i = i'
  | [], k, i, i', j, d, d', h, _ => by cases i <;> cases h
  | .val _ :: as, k, 0, _, j, d, d', h, _ => by cases h
  | .val _ :: as, k, i + 1, 0, j, d, d', _, h => by cases h
  | .val _ :: as, k, i + 1, i' + 1, j, d, d', h, h' => congrArg (· + 1) (bindE_inj as k i i' j d d' h h')
  | .io _ :: as, k, 0, 0, j, d, d', _, _ => rfl
  | .io _ :: as, k, 0, i' + 1, j, d, d', h, h' => by
    cases h
    exact absurd (bindE_lt as (k + 1) i' k d' h') (Nat.not_succ_le_self _)
  | .io _ :: as, k, i + 1, 0, j, d, d', h, h' => by
    cases h'
    exact absurd (bindE_lt as (k + 1) i k d h) (Nat.not_succ_le_self _)
  | .io _ :: as, k, i + 1, i' + 1, j, d, d', h, h' => congrArg (· + 1) (bindE_inj as (k + 1) i i' j d d' h h')
/-- a def's entry -/
theorem entry {vs : List V} {as : List Ar} {N : List Str} (sy : ∃ φ, H sysModules = some (.ext φ)) (gh : ∀ a o, G a = some o → H a = some o ∨ (isDic o = true ∧ ∃ b, H a = some (.frz b o))) (ao : ArOk K mg G H vs as ws) :
    Rep K mg { H0 := H, G0 := G, ws := ws } G (L2.start N vs) (bindE 0 as ++ List.replicate (N.length - as.length) .no) H := by
  obtain ⟨l1, l2, l3⟩ := ao.len
  have get : ∀ (i : Nat) (s : Sl), (bindE 0 as ++ List.replicate (N.length - as.length) .no)[i]? = some s → s = .no ∨ (bindE 0 as)[i]? = some s := fun i s h => by
    by_cases z : i < (bindE 0 as).length
    · rw [List.getElem?_append_left z] at h; exact .inr h
    · rw [List.getElem?_append_right (Nat.le_of_not_lt z), List.getElem?_replicate] at h
      split at h <;> cases h
      exact .inl rfl
  have sg : ∀ i v, vs[i]? = some v → (L2.start N vs)[i]? = some (some v) := fun i v h => by
    unfold L2.start
    rw [List.getElem?_append_left (by rw [List.length_map]; exact (List.getElem?_eq_some_iff.mp h).1), List.getElem?_map, h]; rfl
  have ra : ∀ i a, rootAt (L2.start N vs) (bindE 0 as ++ List.replicate (N.length - as.length) .no) i a → ∃ j d, (bindE 0 as)[i]? = some (.io j d) ∧ ws[j]? = some a := fun i a ⟨s, h1, h2, h3⟩ => by
    rcases get i s h1 with rfl | q
    · cases h2
    · rcases ao.at 0 i s q with ⟨d, v, rfl, _⟩ | ⟨j, d, b, rfl, q2, q3, _⟩
      · cases h2
      · rw [sg i _ q2] at h3; cases h3
        rw [Nat.zero_add] at q
        exact ⟨j, d, q, q3⟩
  exact {
    gle := .refl
    gnew := fun a o h => .inl h
    gh := fun a o h => (gh a o h).imp id fun ⟨h1, b, h2⟩ => ⟨h1, b, h2, .inr h2⟩
    base := fun a o h _ => ⟨fun _ => h, fun b z => by cases z⟩
    dom := fun a o h => ⟨o, h⟩
    sys := sy
    wsd := fun a h => by
      obtain ⟨d, r⟩ := ao.nd.2 a h
      cases r with
      | lst q _ => exact ⟨_, q, rfl⟩
      | dct q _ _ => exact ⟨_, q, rfl⟩
      | dcT q _ _ => exact ⟨_, q, rfl⟩
      | obj _ q _ _ => exact ⟨_, q, rfl⟩
    wsT := fun a h xs z => by
      obtain ⟨d, r⟩ := ao.nd.2 a h
      exact r.nt z
    lkg := fun a b h => by cases h
    len := by
      unfold L2.start
      rw [List.length_append, List.length_append, List.length_map, List.length_replicate, List.length_replicate, l3, l1]
    sl := fun i s h => by
      rcases get i s h with rfl | q
      · trivial
      · rcases ao.at 0 i s q with ⟨d, v, rfl, q2, q3⟩ | ⟨j, d, b, rfl, q2, q3, q4, q5⟩
        · exact ⟨v, sg i v q2, q3⟩
        · rw [Nat.zero_add]; exact ⟨b, sg i _ q2, q3, q5, q4⟩
    ap := fun i j a h1 h2 => by
      obtain ⟨n1, d1, p1, q1⟩ := ra i a h1
      obtain ⟨n2, d2, p2, q2⟩ := ra j a h2
      have hn : n1 = n2 := (List.getElem?_inj (List.getElem?_eq_some_iff.mp q1).1 ao.nd.1).mp (q1.trans q2.symm)
      subst hn
      exact bindE_inj as 0 i j n1 d1 d2 p1 p2
    apT := fun i a _ z => by cases z
    ndT := List.nodup_nil
    tsk := fun p z => by cases z }
theorem outAt_ok : ∀ {e : En} {k : Nat} {d : D}, outAt k e = some d → ∃ i : Nat, e[i]? = some (Sl.io k d)
  | [], _, _, h => by cases h
  | .no :: e, k, d, h => by obtain ⟨i, q⟩ := outAt_ok (e := e) h; exact ⟨i + 1, q⟩
  | .val _ :: e, k, d, h => by obtain ⟨i, q⟩ := outAt_ok (e := e) h; exact ⟨i + 1, q⟩
  | .own _ :: e, k, d, h => by obtain ⟨i, q⟩ := outAt_ok (e := e) h; exact ⟨i + 1, q⟩
  | .io j u :: e, k, d, h => by
    have h : (if j = k then some u else outAt k e) = some d := h
    split at h
    · rename_i z; cases h; subst z; exact ⟨0, rfl⟩
    · obtain ⟨i, q⟩ := outAt_ok (e := e) h; exact ⟨i + 1, q⟩
/-- a def's exit -/
theorem exit {outs : List D} (R : Rep K mg { H0 := H, G0 := G, ws := ws } G' σ e H') (h : outsAt e 0 ws.length = some outs) : Aft K mg G H ws outs G' H' := by
  have out : ∀ (n k : Nat) (ds : List D) (ws' : List Addr), (∀ j, ws'[j]? = ws[k + j]?) → ws'.length = n → outsAt e k n = some ds → OutOk K mg G' H' ws' ds := by
    intro n
    induction n with
    | zero => intro k ds ws' _ hl h; cases h; cases ws' with | nil => exact .nil | cons _ _ => cases hl
    | succ n ih =>
      intro k ds ws' hw hl h
      cases ws' with
      | nil => cases hl
      | cons a ws' =>
        unfold outsAt at h
        cases q : outAt k e with
        | none => rw [q] at h; cases h
        | some d =>
          rw [q] at h
          cases q2 : outsAt e (k + 1) n with
          | none => rw [q2] at h; cases h
          | some ds' =>
            rw [q2] at h; cases h
            obtain ⟨i, hi⟩ := outAt_ok q
            obtain ⟨b, _, hb, _, r⟩ := R.sl i _ hi
            have h0 := hw 0
            have hb : ws[k]? = some b := hb
            rw [Nat.add_zero, hb] at h0
            cases h0
            refine .cons r (ih (k + 1) ds' ws' (fun j => ?_) (Nat.succ.inj hl) q2)
            have := hw (j + 1)
            rw [show k + 1 + j = k + (j + 1) by omega]
            exact this
  exact {
    gle := R.gle
    new := R.gnew
    gh := fun a o q => (R.gh a o q).imp id fun ⟨h1, b, h2, h3⟩ => ⟨h1, b, h2, h3.elim (fun z => by cases z) id⟩
    keep := fun a o q w => (R.base a o q w).1 rfl
    dom := R.dom
    outs := out ws.length 0 outs ws (fun j => by rw [Nat.zero_add]) rfl h }
end
theorem filterMap_vals : ∀ outs : List D, outsOf (outs.map .val) = outs
  | [] => rfl
  | d :: l => congrArg (d :: ·) (filterMap_vals l)
section
variable {P : Program} {w : World} {K : PySem.W.Frag} {mg : Str → Option Value} {base : Heap}
/-- THE RULE for a def -/
theorem fnD {x qual : Str} {st : Stmt} {f : Addr} {fd : FuncData} {N ps : List Str} {k : Nat} {fb : En → Rs (Fl × En)} (Fn : Fun K x qual st f fd) (S : FnScope N ps (defScope st))
    (hb : ∀ (cd : Value) (A : Around) (out : List Env) (s : Shared) (H : Hp) (E : XK), Hy (bodyCx P w K mg base N qual (defScope st) f cd A out s H E) (fun _ => E) k → PBl (bodyCx P w K mg base N qual (defScope st) f cd A out s H E) (fun _ => E) (defBody st) fb) :
    FnG P w K mg base (k + 1) f fd ps (spD K mg (runDef N.length ps.length fb)) := by
  refine fnG_of Fn S (fun vs H Q E h => ?_) fun cd A out s H vs Q E hg hr h => ?_
  · obtain ⟨G, as, ws, sy, gh, ao, q⟩ := h
    rw [ao.len.1]
    unfold runDef at q
    split at q
    · assumption
    · exact q.elim
  · obtain ⟨G, as, ws, sy, gh, ao, q⟩ := h
    have Y : Hy (bodyCx P w K mg base N qual (defScope st) f cd A out s H E) (fun _ => E) k := {
      calm := rfl
      nd := S.nd
      gd := hg
      rm := hr
      own := passes_of rfl
      tk := passAt (takes_of rfl rfl rfl rfl) }
    refine ⟨_, hb cd A out s H E Y { H0 := H, G0 := G, ws := ws }, G, _, entry sy gh ao, ?_⟩
    unfold runDef at q
    split at q
    · cases z : fb (bindE 0 as ++ List.replicate (N.length - as.length) .no) with
      | bad => rw [z] at q; exact q.elim
      | exc c fs e =>
        rw [z] at q
        simp only at q
        cases z2 : outsAt e 0 (ioCount as) with
        | none => rw [z2] at q; exact q.elim
        | some outs =>
          rw [z2] at q
          intro σ' G' H' C xd g' R' hC xf
          have q := q G' H' C xd
          rw [filterMap_vals] at q
          exact q (exit R' (by rw [ao.len.2.1]; exact z2)) hC xf
      | ok r =>
        obtain ⟨fl, e⟩ := r
        rw [z] at q
        simp only at q
        cases z2 : outsAt e 0 (ioCount as) with
        | none => rw [z2] at q; exact q.elim
        | some outs =>
          rw [z2] at q
          have z3 : outsAt e 0 ws.length = some outs := by rw [ao.len.2.1]; exact z2
          cases fl with
          | nx => exact fun σ' G' H' g' R' => q .non G' H' (exit R' z3) .non
          | rt d => exact fun σ' v G' H' g' R' dv => q v G' H' (exit R' z3) dv
          | ro d => exact fun σ' a G' H' g' R' h0 hg' rt => q _ G' H' (exit R' z3) ⟨a, rfl, h0, hg', rt, fun z => by
              obtain ⟨u, hu, _⟩ := R'.wsd a z
              have h0 : H a = none := h0
              have hu : H a = some u := hu
              rw [h0] at hu; cases hu⟩
          | bk => exact q.elim
          | ct => exact q.elim
    · exact q.elim
end
section
variable {X : Cx} {W : Wsh} {k j : Nat} {f : Addr} {fd : FuncData} {ps : List Str} {x : Str} {p pos : Pos} {e : Expr} {es : List Expr} {fA : En → Rs (List Hd × En)} {g : List Ar → Rs Rz} {ms : List Bool}
def afterC (e : En) (is : List Nat) : Rs Rz → Rs (Rz × En)
  | .ok z => .ok (z, putM e is z.outs)
  | .exc c fs eo => .exc c fs (putM e is (outsOf eo))
  | .bad => .bad
def fUs (ms : List Bool) (g : List Ar → Rs Rz) (fA : En → Rs (List Hd × En)) : En → Rs (Rz × En) := fun e => fA e >>= fun r => escM ms r.1 r.2 >>= fun q => Rs.of (readM q.2 q.1) >>= fun a => afterC q.2 a.2 (g a.1)
def fUser (ms : List Bool) (g : List Ar → Rs Rz) (fA : En → Rs (List Hd × En)) : En → Rs (Hd × En) := fun e => fUs ms g fA e >>= fun r => .ok (.dat r.1.d, r.2)
def fUserO (ms : List Bool) (g : List Ar → Rs Rz) (fA : En → Rs (List Hd × En)) : En → Rs (D × En) := fun e => fUs ms g fA e >>= fun r => if r.1.own = true then .ok (r.1.d, r.2) else .bad
/-- a call's reading, whatever is wanted of the answer -/
theorem call_of {F : Fr} {σ : L2.St} {G : Hp} {env : En} {H : Hp} {P : Rz × En → Prop} {Q : VK} (R : Rep X.K X.mg F G σ env H) (q : (fUs ms g fA env).wp P (ZX X.K X.mg W F G σ))
    (k : ∀ r v G' H', P r → GLe G G' → Rep X.K X.mg F G' σ r.2 H' → (if r.1.own = true then ∃ a, v = .ref a ∧ F.H0 a = none ∧ G' a = none ∧ Root X.K X.mg G' H' a r.1.d ∧ Fresh F σ r.2 a else DV X.K X.mg G' v r.1.d) → Q v H') :
    tCl (spD X.K X.mg g) [] W (tA X.K X.mg W F fA) σ H Q := by
  refine ⟨G, env, R, Rs.wp_mono (Rs.wp_bind.mp q) (fun r q vs G1 H1 g1 R1 o1 => ?_) fun _ _ _ z => z⟩
  obtain ⟨r2, G2, q, g2, R2, es⟩ := escM_ok ms R1 o1 (Rs.wp_bind.mp q)
  obtain ⟨a, ea, q⟩ := wp_of (Rs.wp_bind.mp q)
  obtain ⟨ws, ao, pr, nd⟩ := readM_ok R2 es ea
  have lws : a.2.length = ws.length := Paired.length pr
  refine ⟨G2, a.1, ws, R2.sys, fun b o z => (R2.gh b o z).imp id fun ⟨h1, c, h2, _⟩ => ⟨h1, c, h2⟩, by rw [List.append_nil]; exact ao, ?_⟩
  have gg := g1.trans g2
  have nr : ∀ b ∈ ws, ∃ i, rootAt σ r2.2 i b := by
    intro b hb
    have : ∀ {is : List Nat} {ws : List Addr}, Paired (fun i a => rootAt σ r2.2 i a) is ws → b ∈ ws → ∃ i, rootAt σ r2.2 i b := by
      intro is ws p
      induction p with
      | nil => intro z; cases z
      | cons h t ih => intro z; exact (List.mem_cons.mp z).elim (fun y => ⟨_, by rw [y]; exact h⟩) ih
    exact this pr hb
  cases z : g a.1 with
  | bad => rw [z] at q; exact q.elim
  | exc c fs eo =>
    rw [z] at q
    intro G' H' C xd af hC xf
    exact q G' H' C xd (gg.trans af.gle) (putM_ok R2 af pr nd) hC xf
  | ok zz =>
    rw [z] at q
    intro v G' H' af res
    refine k _ v G' H' q (gg.trans af.gle) (putM_ok R2 af pr nd) ?_
    have R3 := putM_ok R2 af pr nd
    by_cases ho : zz.own = true
    · rw [if_pos ho] at res
      rw [if_pos ho]
      obtain ⟨b, rfl, hb, hg, rt, nw⟩ := res
      refine ⟨b, rfl, R2.free0 hb, hg, rt, fun i ra => ?_, fun m => ?_⟩
      · have : ∀ i, ¬ rootAt σ r2.2 i b := fun i r => by
          obtain ⟨o, ho⟩ := (R2.rootSome r).2
          rw [hb] at ho; cases ho
        obtain ⟨s, h1, h2, h3⟩ := ra
        by_cases hi : i ∈ a.2
        · obtain ⟨w', hw', rw'⟩ : ∃ w', w' ∈ ws ∧ rootAt σ r2.2 i w' := by
            have : ∀ {is : List Nat} {ws : List Addr}, Paired (fun i a => rootAt σ r2.2 i a) is ws → i ∈ is → ∃ w', w' ∈ ws ∧ rootAt σ r2.2 i w' := by
              intro is ws p
              induction p with
              | nil => intro z; cases z
              | cons h t ih =>
                intro z
                rcases List.mem_cons.mp z with y | y
                · subst y; exact ⟨_, List.mem_cons_self .., h⟩
                · obtain ⟨w', y1, y2⟩ := ih y; exact ⟨w', List.mem_cons_of_mem _ y1, y2⟩
            exact this pr hi
          obtain ⟨_, _, _, h3'⟩ := rw'
          rw [h3] at h3'; cases h3'
          exact nw hw'
        · rw [putM_out _ _ _ _ hi] at h1
          exact this i ⟨s, h1, h2, h3⟩
      · obtain ⟨p, hp, hpb⟩ := List.mem_map.mp m
        obtain ⟨_, _, rt'⟩ := R2.tsk p hp
        obtain ⟨o, ho⟩ := rt'.some
        have hpb : p.1 = b := hpb
        rw [hpb, hb] at ho; cases ho
    · rw [if_neg ho] at res
      rw [if_neg ho]
      exact res
/-- a call by a global name -/
theorem pb_user (Fn : FnG X.prog X.w X.K X.mg X.base j f fd ps (spD X.K X.mg g)) (hj : j ≤ k) (Y : Hy X W k) (hg : Gl X x) (hm : X.mg x = some (.ref f)) (hk : PySem.W.keepIn X.K (.ref f) = true) (hb : Binds X.K fd ps []) (ha : PAs X W (e :: es) fA)
    (ms : List Bool) (hdb : (x == ("__debug__" : Str)) = false := by decide) (he : starEach (e :: es) X.env = (false, eval e X.env) :: starEach es X.env := by rfl) (hpl : (backTo pos (starEach es X.env)).any (·.1) = false := by rfl) :
    PB X W (.Call (.Name x p) (e :: es) [] pos) (fUser ms g fA) := fun F => pe_weak (peG_call (Fn.lift hj) Y.gd Y.rm hg hm hk hb .nil Y.tk (ha F) hdb he hpl) fun σ H Q q => by
  obtain ⟨G, env, R, q⟩ := q
  refine call_of (ms := ms) R (Rs.wp_bind.mp q) fun r v G' H' q g' R' res => ?_
  split at res
  · obtain ⟨a, rfl, h0, hg, rt, fr⟩ := res
    obtain ⟨G2, g2, R2, dv⟩ := R'.hold h0 hg rt fr
    exact q _ G2 H' (g'.trans g2) R2 dv
  · exact q v G' H' g' R' res
theorem po_user (Fn : FnG X.prog X.w X.K X.mg X.base j f fd ps (spD X.K X.mg g)) (hj : j ≤ k) (Y : Hy X W k) (hg : Gl X x) (hm : X.mg x = some (.ref f)) (hk : PySem.W.keepIn X.K (.ref f) = true) (hb : Binds X.K fd ps []) (ha : PAs X W (e :: es) fA)
    (ms : List Bool) (hdb : (x == ("__debug__" : Str)) = false := by decide) (he : starEach (e :: es) X.env = (false, eval e X.env) :: starEach es X.env := by rfl) (hpl : (backTo pos (starEach es X.env)).any (·.1) = false := by rfl) :
    PO X W (.Call (.Name x p) (e :: es) [] pos) (fUserO ms g fA) := fun F => pe_weak (peG_call (Fn.lift hj) Y.gd Y.rm hg hm hk hb .nil Y.tk (ha F) hdb he hpl) fun σ H Q q => by
  obtain ⟨G, env, R, q⟩ := q
  refine call_of (ms := ms) R (Rs.wp_bind.mp q) fun r v G' H' q g' R' res => ?_
  split at q
  · rename_i ho
    rw [if_pos ho] at res
    obtain ⟨a, rfl, h0, hg, rt, fr⟩ := res
    exact q a G' H' g' R' h0 hg rt fr
  · exact q.elim
end
end Rt
set_option Elab.async false
set_option linter.all false
set_option maxRecDepth 100000
set_option maxHeartbeats 4000000
/-! repr -/
namespace Rt
open PySem PySem.Spec L2
open PyProof.Rows hiding St
mutual
def D.shw : D → Bool
  | .non => true
  | .bl _ => true
  | .int _ => true
  | .str _ => true
  | .lst l => D.shwA l
  | .tup l => D.shwA l
  | .dct l => D.shwK l
  | .dcT l => D.shwT l
  | .obj _ _ => false
  | .exc _ _ => false
  | .scr _ => false
  | .tup0 => false
def D.shwA : List D → Bool
  | [] => true
  | d :: l => d.shw && D.shwA l
def D.shwK : List (Key × D) → Bool
  | [] => true
  | (_, d) :: l => d.shw && D.shwK l
def D.shwT : List (List Key × D) → Bool
  | [] => true
  | (_, d) :: l => d.shw && D.shwT l
end
theorem shwK_eq : ∀ l : List (Key × D), D.shwK l = D.shwA (l.map (·.2))
  | [] => rfl
  | (_, d) :: l => by rw [D.shwK, shwK_eq l]; rfl
theorem pyk_eq : ∀ l : List (Key × D), D.pyk l = (l.map (·.1)).zipWith (fun k d => (keyP k, d)) (D.pys (l.map (·.2)))
  | [] => rfl
  | (k, d) :: l => by rw [D.pyk, pyk_eq l]; rfl
theorem shw_no {d : D} (h : d.shw = false) (q : d.shw = true) : False := by rw [h] at q; cases q
section
variable {X : Cx} {pins : List (Addr × Obj)} {σ : L2.St} {H G : Hp} {s : Shared} {mg : Str → Option Value}
theorem readsAll_app {h : Heap} : ∀ {vs us : List Value} {ds es : List PyData} {as bs : List Addr}, ReadsAll h vs ds as → ReadsAll h us es bs → ReadsAll h (vs ++ us) (ds ++ es) (as ++ bs)
  | _, _, _, _, _, _, .nil, q => q
  | _, _, _, _, _, _, .cons h t, q => by
    rw [List.append_assoc]
    exact .cons h (readsAll_app t q)
theorem key_reads {h : Heap} {k : Key} {v : Value} (q : keyIs k v = true) : Reads h v (keyP k) [] := by
  rcases keyIs_shape q with ⟨i, t, rfl, rfl⟩ | ⟨x, t, rfl, rfl⟩
  · exact .int i t
  · exact .str x t
/-- the entries of a dict, as they are read -/
theorem ent_reads {h : Heap} {P : Program} {w : World} {es : List DictEntry} {kvs : List (Key × Value)} (p : PySem.Pairs (mixKind P w) es kvs) : ReadsAll h (es.map (·.key)) (kvs.map fun p => keyP p.1) [] ∧ es.map (·.val) = kvs.map (·.2) := by
  induction p with
  | nil => exact ⟨.nil, rfl⟩
  | cons h1 h2 t ih =>
    refine ⟨.cons (as := []) (key_reads (by first | exact h1 | exact h2)) ih.1, ?_⟩
    rw [List.map_cons, List.map_cons, ih.2]
    first
      | rw [h1]
      | rw [h2]
      | rfl
theorem not_sys {K : PySem.W.Frag} {H : Hp} (sy : ∃ φ, H sysModules = some (.ext φ)) {a : Addr} {o : HO} (h : H a = some o) (n : ∀ φ, o ≠ .ext φ) : a ≠ sysModules := fun z => by
  obtain ⟨φ, q⟩ := sy
  rw [← z, h] at q; cases q
  exact n φ rfl
theorem kv_vals {ks : List (Key × V)} {vs : List (Key × Value)} (r : KV ks vs) : Vals (ks.map (·.2)) (vs.map (·.2)) ∧ ks.map (·.1) = vs.map (·.1) := by
  induction r with
  | nil => exact ⟨.nil, rfl⟩
  | cons h t ih => exact ⟨.cons h.2 ih.1, by rw [List.map_cons, List.map_cons, ih.2, h.1]⟩
theorem pyk_fst : ∀ l : List (Key × D), (D.pyk l).map (·.1) = l.map fun p => keyP p.1
  | [] => rfl
  | (k, d) :: l => by rw [D.pyk, List.map_cons, pyk_fst l]; rfl
theorem pyk_snd : ∀ l : List (Key × D), (D.pyk l).map (·.2) = D.pys (l.map (·.2))
  | [] => rfl
  | (k, d) :: l => by rw [D.pyk, List.map_cons, pyk_snd l]; rfl
theorem shwT_eq : ∀ l : List (List Key × D), D.shwT l = D.shwA (l.map (·.2))
  | [] => rfl
  | (_, d) :: l => by rw [D.shwT, shwT_eq l]; rfl
theorem pyt_fst : ∀ l : List (List Key × D), (D.pyt l).map (·.1) = l.map fun p => .tuple (p.1.map keyP)
  | [] => rfl
  | (k, d) :: l => by rw [D.pyt, List.map_cons, pyt_fst l]; rfl
theorem pyt_snd : ∀ l : List (List Key × D), (D.pyt l).map (·.2) = D.pys (l.map (·.2))
  | [] => rfl
  | (k, d) :: l => by rw [D.pyt, List.map_cons, pyt_snd l]; rfl
theorem keys_reads {h : Heap} : ∀ {k : List Key} {us : List Value}, Vals (k.map kV) us → ReadsAll h us (k.map keyP) []
  | [], _, r => by cases r; exact .nil
  | x :: k, _, r => by
    cases r with
    | cons r1 r2 =>
      refine .cons (as := []) ?_ (keys_reads r2)
      cases x with
      | inl i => obtain ⟨t, rfl⟩ := r1; exact .int i t
      | inr z => obtain ⟨t, rfl⟩ := r1; exact .str z t
theorem entT_reads (I : Inv X pins σ H s) {ks : List (List Key × V)} {xs : List (List Key × Addr × Value)}
    (p : Paired (fun (p : List Key × V) (q : List Key × Addr × Value) => p.1 = q.1 ∧ H q.2.1 = some (.tup (p.1.map kV)) ∧ RelV p.2 q.2.2) ks xs) :
    ReadsAll s.heap (xs.map ((fun e : DictEntry => e.key) ∘ entryOfKey (tupleKind (mixKind X.prog X.w)))) (ks.map fun p => .tuple (p.1.map keyP)) [] ∧ Vals (ks.map (·.2)) (xs.map ((fun e : DictEntry => e.val) ∘ entryOfKey (tupleKind (mixKind X.prog X.w)))) ∧ True := by
  induction p with
  | nil => exact ⟨.nil, .nil, trivial⟩
  | cons h t ih =>
    obtain ⟨h1, h2, h3⟩ := h
    obtain ⟨its, rv, ⟨o, ho, hc, n, hd⟩, _⟩ := I.tuple (.of h2)
    exact ⟨.cons (as := []) (.tuple ho hc hd (keys_reads rv)) ih.1, .cons h3 ih.2.1, trivial⟩
mutual
theorem dv_reads (I : Inv X pins σ H s) (gh : ∀ a o, G a = some o → Rd H a o) (gx : ∀ a o, G a = some o → isDic o = false → H a = some o) (sy : ∃ φ, H sysModules = some (.ext φ)) :
    ∀ (v : V) (d : D) (u : Value), DV X.K mg G v d → RelV v u → d.shw = true → ∃ as, Reads s.heap u d.py as ∧ sysModules ∉ as
  | _, _, _, .non, r, _ => by cases r; exact ⟨_, .none, by simp⟩
  | _, _, _, .bl, r, _ => by cases r; exact ⟨_, .bool _, by simp⟩
  | _, _, _, .int, r, _ => by obtain ⟨t, rfl⟩ := r; exact ⟨_, .int _ t, by simp⟩
  | _, _, _, .str, r, _ => by obtain ⟨t, rfl⟩ := r; exact ⟨_, .str _ t, by simp⟩
  | _, _, _, .lst h l, r, q => by
    cases r
    have hh := gx _ _ h rfl
    obtain ⟨its, rv, ⟨o, n, ho, hc, _, hd⟩, _⟩ := I.list (.of hh)
    obtain ⟨as, hr, ns⟩ := dvs_reads I gh gx sy _ _ _ l rv q
    exact ⟨_, .list ho hc hd hr, fun z => (List.mem_cons.mp z).elim (fun y => not_sys (K := X.K) sy hh (fun _ => by intro z; cases z) y.symm) ns⟩
  | _, _, _, .tup h l, r, q => by
    cases r
    obtain ⟨its, rv, ⟨o, ho, hc, n, hd⟩, _⟩ := I.tuple (.of (gx _ _ h rfl))
    obtain ⟨as, hr, ns⟩ := dvs_reads I gh gx sy _ _ _ l rv q
    exact ⟨_, .tuple ho hc hd hr, ns⟩
  | _, _, _, .dct (ks := ks) (dk := dk) h e l, r, q => by
    cases r
    have hr := h.elim (gh _ _) fun ⟨b, z⟩ => .inr ⟨b, gx _ _ z rfl⟩
    obtain ⟨_, hs, vs, kv, o, es, ep, h1, h2, h3, _, h5, _⟩ := dk_rd I.hok hr
    obtain ⟨k1, k2⟩ := ent_reads (h := s.heap) h5
    obtain ⟨v1, v2⟩ := kv_vals kv
    rw [D.shw, shwK_eq] at q
    obtain ⟨as, r2, ns⟩ := dvs_reads I gh gx sy _ _ _ l v1 q
    refine ⟨_, .dict h1 h2.1 h3 (as := []) (bs := as) ?_ ?_, ?_⟩
    · rw [pyk_fst]
      have : (vs.map fun p => keyP p.1) = dk.map fun p => keyP p.1 := by
        have := congrArg (List.map keyP) (v2.symm.trans e)
        rw [List.map_map, List.map_map] at this
        exact this
      rw [← this]; exact k1
    · rw [pyk_snd, k2]; exact r2
    · intro z
      rcases List.mem_append.mp z with z | z
      · have := List.mem_singleton.mp z
        rw [← this] at hs
        simp at hs
      · exact ns z
  | _, _, _, .dcT (ks := ks) (dk := dk) h e l, r, q => by
    cases r
    have hr := h.elim (gh _ _) fun ⟨b, z⟩ => .inr ⟨b, gx _ _ z rfl⟩
    obtain ⟨_, hs, xs, pr, o, es, ep, h1, h2, h3, h4, _⟩ := dt_rd I.hok hr
    obtain ⟨k1, v1, v2⟩ := entT_reads I pr
    rw [D.shw, shwT_eq] at q
    obtain ⟨as, r2, ns⟩ := dvs_reads I gh gx sy _ _ _ l v1 q
    refine ⟨_, .dict h1 h2.1 h3 (as := []) (bs := as) ?_ ?_, ?_⟩
    · rw [pyt_fst, h4, List.map_map]
      have : (ks.map fun p => PyData.tuple (p.1.map keyP)) = dk.map fun p => PyData.tuple (p.1.map keyP) := by
        have := congrArg (List.map fun k : List Key => PyData.tuple (k.map keyP)) e
        rw [List.map_map, List.map_map] at this
        exact this
      rw [← this]; exact k1
    · rw [pyt_snd, h4, List.map_map]; exact r2
    · intro z
      rcases List.mem_append.mp z with z | z
      · have := List.mem_singleton.mp z
        rw [← this] at hs
        simp at hs
      · exact ns z
  | _, _, _, .scr _, _, q => (shw_no rfl q).elim
  | _, _, _, .tup0 _, _, q => (shw_no rfl q).elim
  | _, _, _, .obj _ _ _ _, _, q => (shw_no rfl q).elim
theorem dvs_reads (I : Inv X pins σ H s) (gh : ∀ a o, G a = some o → Rd H a o) (gx : ∀ a o, G a = some o → isDic o = false → H a = some o) (sy : ∃ φ, H sysModules = some (.ext φ)) :
    ∀ (vs : List V) (ds : List D) (us : List Value), DVs X.K mg G vs ds → Vals vs us → D.shwA ds = true → ∃ as, ReadsAll s.heap us (D.pys ds) as ∧ sysModules ∉ as
  | _, _, _, .nil, r, _ => by cases r; exact ⟨_, .nil, by simp⟩
  | _, _, _, .cons h l, r, q => by
    cases r with
    | cons r1 r2 =>
      obtain ⟨q1, q2⟩ := Bool.and_eq_true_iff.mp q
      obtain ⟨as, a1, a2⟩ := dv_reads I gh gx sy _ _ _ h r1 q1
      obtain ⟨bs, b1, b2⟩ := dvs_reads I gh gx sy _ _ _ l r2 q2
      exact ⟨_, .cons a1 b1, fun z => (List.mem_append.mp z).elim a2 b2⟩
end
theorem cur_reads {F : Fr} {env : En} {τ : L2.St} (I : Inv X pins σ H s) (R : Rep X.K mg F G τ env H) {v : V} {d : D} {u : Value} (c : Cur X.K mg G H v d) (r : RelV v u) (q : d.shw = true) : ∃ as, Reads s.heap u d.py as ∧ sysModules ∉ as := by
  have gh : ∀ a o, G a = some o → Rd H a o := fun a o h => (R.gh a o h).rd
  have gx : ∀ a o, G a = some o → isDic o = false → H a = some o := fun a o h n => gh_of R h n
  rcases c with c | ⟨a, rfl, c, hg⟩
  · exact dv_reads I gh gx R.sys _ _ _ c r q
  · cases r
    have root : ∀ o, H a = some o → (∀ φ, o ≠ .ext φ) → a ≠ sysModules := fun o h n => not_sys (K := X.K) R.sys h n
    -- the same as of what stands still, over the heap with a itself known
    obtain ⟨o, ho⟩ := c.some
    refine dv_reads (G := upd G a o) I (fun b u h => ?_) (fun b u h n => ?_) R.sys _ _ _ (c.dv hg ho) rfl q
    · by_cases z : b = a
      · subst z; rw [upd_same] at h; cases h; exact .inl ho
      · rw [upd_ne z] at h; exact gh b u h
    · by_cases z : b = a
      · subst z; rw [upd_same] at h; cases h; exact ho
      · rw [upd_ne z] at h; exact gx b u h n
/-- repr -/
def rRep (X : Cx) : List V → Hp → VK → Prop := fun vs H Q => ∃ (mg : Str → Option Value) (F : Fr) (G : Hp) (σ : L2.St) (env : En) (v : V) (d : D), vs = [v] ∧ Rep X.K mg F G σ env H ∧ Cur X.K mg G H v d ∧ d.shw = true ∧ d.py.showable = true ∧ d.py.shown.length ≤ sizeLine ∧ d.py.depth ≤ 60 ∧ Q (.str d.py.shown) H
theorem call_rep (hg : X.A.guards = some []) (hu : X.A.units + 64 < cLine) : CallR X (.builtin "repr") (rRep X) := by
  intro pins s σ H xs us Q I r h
  obtain ⟨mg, F, G, σ', env, v, d, rfl, R, c, q, sh, sz, dp, k⟩ := h
  obtain ⟨u, rfl, ru⟩ := vals1 r
  obtain ⟨as, rd, ns⟩ := cur_reads I R c ru q
  generalize d.py = p at rd sh sz dp k
  cases rd with
  | none => exact PySem.P.repr_of_none ⟨.str _, H, I.tok _, ⟨_, rfl⟩, k⟩
  | bool b => exact PySem.P.repr_of_bool ⟨.str _, H, I.tok _, ⟨_, rfl⟩, k⟩
  | int i t => exact PySem.P.repr_of_int (by simpa [PyData.showable] using sh) ⟨.str _, H, I.tok _, ⟨_, rfl⟩, k⟩
  | str x t => exact PySem.P.repr_of_str ⟨.str _, H, I.tok _, ⟨_, rfl⟩, k⟩ (by simpa only [PyData.shown] using sz)
  | list h1 h2 h3 h4 => exact repr_of_reads' (.list h1 h2 h3 h4) sh (fun _ => ns) hg (by omega) (fun _ _ e => e) (fun h' u tk hk => ⟨.str _, H, I.kept (t' := tk) hk, ⟨_, rfl⟩, k⟩) sz
  | tuple h1 h2 h3 h4 => exact repr_of_reads' (.tuple h1 h2 h3 h4) sh (fun _ => ns) hg (by omega) (fun _ _ e => e) (fun h' u tk hk => ⟨.str _, H, I.kept (t' := tk) hk, ⟨_, rfl⟩, k⟩) sz
  | dict h1 h2 h3 h4 h5 => exact repr_of_reads' (.dict h1 h2 h3 h4 h5) sh (fun _ => ns) hg (by omega) (fun _ _ e => e) (fun h' u tk hk => ⟨.str _, H, I.kept (t' := tk) hk, ⟨_, rfl⟩, k⟩) sz
def dRepr : List D → Option D
  | [d] => if (d.shw && d.py.showable && decide (d.py.shown.length ≤ sizeLine) && decide (d.py.depth ≤ 60)) = true then some (.str d.py.shown) else none
  | _ => none
theorem cd_repr : CallD X (rRep X) dRepr := by
  intro F G σ env H vs ds d Q R c e k
  unfold dRepr at e
  split at e
  · split at e
    · rename_i hz
      cases e
      obtain ⟨v, rfl, cu⟩ := curs1 c
      simp only [Bool.and_eq_true, decide_eq_true_eq] at hz
      exact ⟨X.mg, F, G, σ, env, v, _, rfl, R, cu, hz.1.1.1, hz.1.1.2, hz.1.2, hz.2, k _ G H .refl R .str⟩
    · cases e
  · cases e
end
end Rt
set_option Elab.async false
set_option linter.all false
set_option maxRecDepth 100000
set_option maxHeartbeats 4000000
/-! more built-ins, methods, stores -/
namespace Rt
open PySem PySem.Spec L2
open PyProof.Rows hiding St
section
variable {X : Cx} {W : Wsh} {k : Nat} {a b c e o : Expr} {es : List Expr} {fa fb fc fe fo : En → Rs (Hd × En)} {fA : En → Rs (List Hd × En)} {pos : Pos} {x : Str} {p : Pos}
/-! isinstance(x, T), T a built-in type -/
def D.tyn : D → Option String
  | .non => some "NoneType"
  | .bl _ => some "bool"
  | .int _ => some "int"
  | .str _ => some "str"
  | .lst _ => some "list"
  | .tup _ => some "tuple"
  | .dct _ => some "dict"
  | .tup0 => some "tuple"
  | _ => none
theorem tyx_of {K : PySem.W.Frag} {mg : Str → Option Value} {F : Fr} {G : Hp} {σ : L2.St} {env : En} {H : Hp} {v : V} {d : D} {t : String} (R : Rep K mg F G σ env H) (c : Cur K mg G H v d) (n : d.tyn = some t) : TyX K H v (.type t) := by
  cases d with
  | non => cases n; cases cur_non c; exact .base .non
  | bl b => cases n; cases cur_bl c; exact .base (.bl b)
  | int i => cases n; cases cur_int c; exact .base (.int i)
  | str s => cases n; cases cur_str c; exact .base (.str s)
  | lst l => cases n; obtain ⟨a, xs, rfl, h, _⟩ := cur_lst R c; exact .base (.lst h)
  | tup l => cases n; obtain ⟨a, xs, rfl, h, _⟩ := cur_tup R c; exact .base (.tup h)
  | tup0 =>
    cases n
    rcases c with c | ⟨_, _, c, _⟩
    · cases c with | tup0 h => obtain ⟨o, its, k, e, cl, _⟩ := h; exact .kTuple e cl
    · cases c
  | dct l =>
    cases n
    obtain ⟨a, ks, rfl, h, _⟩ := cur_dct R c
    rcases h with h | ⟨b, h⟩
    · exact .base (.dK h)
    · exact .fDict h
  | _ => cases n
/-- the second argument, a built-in type, is no data: it is told by its name -/
def fIsi (T : String) (f : En → Rs (Hd × En)) : En → Rs (Hd × En) := fun e => f e >>= fun r => Rs.of (r.1.get r.2) >>= fun d => Rs.of (d.tyn.bind fun t => kitB t T) >>= fun b => .ok (.dat (.bl b), r.2)
theorem pb_isi {T : Str} {t : String} {pt : Pos} (ha : PB X W a fa) (hg : Gl X "isinstance") (hm : X.mg "isinstance" = none) (hgT : Gl X T) (hmT : X.mg T = none) (hv : bootBuiltins T = some (.type t)) (hv2 : bootBuiltins "isinstance" = some (.builtin "isinstance"))
    (he : starEach [a, .Name T pt] X.env = (false, eval a X.env) :: starEach [.Name T pt] X.env := by rfl) (hpl : (backTo pos (starEach [.Name T pt] X.env)).any (·.1) = false := by rfl) (hs2 : starEach [.Name T pt] X.env = (false, eval (.Name T pt) X.env) :: starEach [] X.env := by rfl)
    (hn : T ≠ "__name__" := by decide) (hdb : (T == ("__debug__" : Str)) = false := by decide) : PB X W (.Call (.Name "isinstance" p) [a, .Name T pt] [] pos) (fIsi t fa) :=
  fun F => pe_weak (pe_callB call_isi hg hm hv2 (pa_cons (ha F) (pa_cons (pe_bltn (v := .ty t) hgT hmT hv rfl hn hdb) pa_nil hs2) he) (by decide) (by decide) he hpl) fun σ H Q q => by
  obtain ⟨G, env, R, q⟩ := q
  refine ⟨G, env, R, Rs.wp_mono (Rs.wp_bind.mp q) (fun r q v G1 H1 g1 R1 o1 => ?_) fun _ _ _ z => z⟩
  obtain ⟨d, ed, q⟩ := wp_of (Rs.wp_bind.mp q)
  obtain ⟨b, eb, q⟩ := wp_of (Rs.wp_bind.mp q)
  cases n : d.tyn with
  | none => rw [n] at eb; cases eb
  | some u =>
    rw [n] at eb
    exact ⟨v, .ty t, .type u, .type t, b, rfl, .ty t, tyx_of R1 (o1.cur R1 ed) n, kit_ty eb, q _ G1 H1 g1 R1 .bl⟩
/-! all, any, sum -/
def blsOf : List D → Option (List Bool)
  | [] => some []
  | .bl b :: l => (blsOf l).map (b :: ·)
  | _ :: _ => none
theorem bls_v {K : PySem.W.Frag} {mg : Str → Option Value} {G : Hp} : ∀ {vs : List V} {ds : List D} {bs : List Bool}, DVs K mg G vs ds → blsOf ds = some bs → vs = bs.map V.bl
  | _, _, _, .nil, h => by cases h; rfl
  | _, _, _, .cons (d := d) (ds := ds) dv l, h => by
    cases d with
    | bl b =>
      cases dv
      have h : (blsOf ds).map (b :: ·) = some _ := h
      cases q : blsOf ds with
      | none => rw [q] at h; cases h
      | some bs => rw [q] at h; cases h; rw [bls_v l q]; rfl
    | _ => cases h
def dAll : List D → Option D
  | [.lst l] => (blsOf l).map fun bs => .bl (bs.all id)
  | _ => none
def dAny : List D → Option D
  | [.lst l] => (blsOf l).map fun bs => .bl (bs.any id)
  | _ => none
theorem cd_all : CallD X (rAll X.K) dAll := by
  intro F G σ env H vs ds d Q R cs e k
  unfold dAll at e
  split at e
  · rename_i l
    obtain ⟨v, rfl, cu⟩ := curs1 cs
    obtain ⟨p, xs, rfl, hp, dl⟩ := cur_lst R cu
    cases q : blsOf l with
    | none => rw [q] at e; cases e
    | some bs => rw [q] at e; cases e; exact ⟨p, bs, rfl, .of (by rw [hp, bls_v dl q]), k _ G H .refl R .bl⟩
  · cases e
theorem cd_any : CallD X (rAny X.K) dAny := by
  intro F G σ env H vs ds d Q R cs e k
  unfold dAny at e
  split at e
  · rename_i l
    obtain ⟨v, rfl, cu⟩ := curs1 cs
    obtain ⟨p, xs, rfl, hp, dl⟩ := cur_lst R cu
    cases q : blsOf l with
    | none => rw [q] at e; cases e
    | some bs => rw [q] at e; cases e; exact ⟨p, bs, rfl, .of (by rw [hp, bls_v dl q]), k _ G H .refl R .bl⟩
  · cases e
/-! methods of texts -/
def fM1 (op : Str → D → Option D) (fo fa : En → Rs (Hd × En)) : En → Rs (Hd × En) := fun e => fo e >>= fun r => match r.1.get r.2 with
  | some (.str s) => fa r.2 >>= fun q => Rs.of (q.1.get q.2) >>= fun d => Rs.of (op s d) >>= fun z => .ok (.dat z, q.2)
  | _ => .bad
def MtD1 (X : Cx) (r : V → List V → Hp → VK → Prop) (op : Str → D → Option D) : Prop := ∀ (F : Fr) (G : Hp) (σ : L2.St) (env : En) (H : Hp) (s : Str) (y : V) (q d : D) (Q : VK), Rep X.K X.mg F G σ env H → Cur X.K X.mg G H y q → op s q = some d →
  (∀ v G' H', GLe G G' → Rep X.K X.mg F G' σ env H' → DV X.K X.mg G' v d → Q v H') → r (.str s) [y] H Q
theorem pb_m1 {call : Expr} {r : V → List V → Hp → VK → Prop} {op : Str → D → Option D} (h : ∀ {to te : TE}, PE X o to → PE X a te → PE X call (tM1 r to te)) (hd : MtD1 X r op) (ho : PB X W o fo) (ha : PB X W a fa) : PB X W call (fM1 op fo fa) :=
  fun F => pe_weak (h (ho F) (ha F)) fun σ H Q q => by
  obtain ⟨G, env, R, q⟩ := q
  refine ⟨G, env, R, Rs.wp_mono (Rs.wp_bind.mp q) (fun r q v G1 H1 g1 R1 o1 => ?_) fun _ _ _ z => z⟩
  split at q
  · rename_i s hs
    cases cur_str (o1.cur R1 hs)
    refine ⟨⟨s, rfl⟩, G1, r.2, R1, Rs.wp_mono (Rs.wp_bind.mp q) (fun r2 q v G2 H2 g2 R2 o2 => ?_) fun _ _ _ z => z.mono g1⟩
    obtain ⟨d, ed, q⟩ := wp_of (Rs.wp_bind.mp q)
    obtain ⟨z, ez, q⟩ := wp_of (Rs.wp_bind.mp q)
    exact hd F G2 σ r2.2 H2 s v d z Q R2 (o2.cur R2 ed) ez fun v G' H' g' R' dv => q v G' H' ((g1.trans g2).trans g') R' dv
  · exact q.elim
def strsOf : List D → Option (List Str)
  | [] => some []
  | .str s :: l => (strsOf l).map (s :: ·)
  | _ :: _ => none
theorem strs_v {K : PySem.W.Frag} {mg : Str → Option Value} {G : Hp} : ∀ {vs : List V} {ds : List D} {bs : List Str}, DVs K mg G vs ds → strsOf ds = some bs → vs = bs.map V.str
  | _, _, _, .nil, h => by cases h; rfl
  | _, _, _, .cons (d := d) (ds := ds) dv l, h => by
    cases d with
    | str b =>
      cases dv
      have h : (strsOf ds).map (b :: ·) = some _ := h
      cases q : strsOf ds with
      | none => rw [q] at h; cases h
      | some bs => rw [q] at h; cases h; rw [strs_v l q]; rfl
    | _ => cases h
def dJoin (s : Str) : D → Option D
  | .lst l => (strsOf l).bind fun ys => if (ys.map (·.length)).sum + ys.length * s.length ≤ 16777216 then some (.str (Txt.join s ys)) else none
  | .tup l => (strsOf l).bind fun ys => if (ys.map (·.length)).sum + ys.length * s.length ≤ 16777216 then some (.str (Txt.join s ys)) else none
  | _ => none
theorem md_join : MtD1 X (fun x xs H Q => ∃ a p ys, x = .str a ∧ xs = [.ref p] ∧ (SqL X.K H p (ys.map V.str) ∨ SqT X.K H p (ys.map V.str)) ∧ (ys.map (·.length)).sum + ys.length * a.length ≤ 16777216 ∧ Q (.str (Txt.join a ys)) H) dJoin := by
  intro F G σ env H s y q d Q R cy e k
  unfold dJoin at e
  split at e
  · rename_i l
    obtain ⟨p, xs, rfl, hp, dl⟩ := cur_lst R cy
    cases z : strsOf l with
    | none => rw [z] at e; cases e
    | some ys =>
      rw [z] at e
      have e : (if (ys.map (·.length)).sum + ys.length * s.length ≤ 16777216 then some (D.str (Txt.join s ys)) else none) = some d := e
      split at e
      · cases e; exact ⟨s, p, ys, rfl, rfl, .inl (.of (by rw [hp, strs_v dl z])), by assumption, k _ G H .refl R .str⟩
      · cases e
  · rename_i l
    obtain ⟨p, xs, rfl, hp, dl⟩ := cur_tup R cy
    cases z : strsOf l with
    | none => rw [z] at e; cases e
    | some ys =>
      rw [z] at e
      have e : (if (ys.map (·.length)).sum + ys.length * s.length ≤ 16777216 then some (D.str (Txt.join s ys)) else none) = some d := e
      split at e
      · cases e; exact ⟨s, p, ys, rfl, rfl, .inr (.of (by rw [hp, strs_v dl z])), by assumption, k _ G H .refl R .str⟩
      · cases e
  · cases e
/-- s.m() -/
def fM0 (op : Str → Option D) (fo : En → Rs (Hd × En)) : En → Rs (Hd × En) := fun e => fo e >>= fun r => match r.1.get r.2 with
  | some (.str s) => Rs.of (op s) >>= fun z => .ok (.dat z, r.2)
  | _ => .bad
def dUpper (s : Str) : Option D := if s.length ≤ 5592405 then some (.str (Txt.upper s)) else none
theorem pb_upper {call : Expr} (h : ∀ {to : TE}, PE X o to → PE X call (tM0 (fun x xs H Q => ∃ a, x = .str a ∧ xs = [] ∧ a.length ≤ 5592405 ∧ Q (.str (Txt.upper a)) H) to)) (ho : PB X W o fo) : PB X W call (fM0 dUpper fo) :=
  fun F => pe_weak (h (ho F)) fun σ H Q q => by
  obtain ⟨G, env, R, q⟩ := q
  refine ⟨G, env, R, Rs.wp_mono (Rs.wp_bind.mp q) (fun r q v G1 H1 g1 R1 o1 => ?_) fun _ _ _ z => z⟩
  split at q
  · rename_i s hs
    cases cur_str (o1.cur R1 hs)
    obtain ⟨z, ez, q⟩ := wp_of (Rs.wp_bind.mp q)
    unfold dUpper at ez
    split at ez
    · cases ez; exact ⟨⟨s, rfl⟩, s, rfl, rfl, by assumption, q _ G1 H1 g1 R1 .str⟩
    · cases ez
  · exact q.elim
/-! ranges -/
def fRng1 (fA : En → Rs (List Hd × En)) : En → Rs IR := fun e => fA e >>= fun r => match gets r.2 r.1 with
  | some [.int j] => if -(2 ^ 62) ≤ j ∧ j < 2 ^ 62 then .ok ((List.range j.toNat).map fun (i : Nat) => .int i, false, r.2) else .bad
  | _ => .bad
def fRng2 (fA : En → Rs (List Hd × En)) : En → Rs IR := fun e => fA e >>= fun r => match gets r.2 r.1 with
  | some [.int i, .int j] => if (-(2 ^ 62) ≤ i ∧ i < 2 ^ 62) ∧ -(2 ^ 62) ≤ j ∧ j < 2 ^ 62 then .ok ((List.range (j - i).toNat).map fun (n : Nat) => .int (i + n), false, r.2) else .bad
  | _ => .bad
theorem rng_it {K : PySem.W.Frag} {mg : Str → Option Value} {F : Fr} {G : Hp} {lo : Int} {n : Nat} : ItOk K mg F G ((List.range n).map fun (i : Nat) => .int (lo + i)) n (fun _ => True) (YFn fun i => V.int (lo + i)) :=
  ⟨by simp, fun _ _ _ _ _ _ _ => trivial, fun ts i x H H' G' σ env hi g R y => by
    obtain ⟨rfl, rfl⟩ := y
    exact ⟨G', .int (lo + i), by rw [List.getElem?_map, List.getElem?_range hi]; rfl, .refl, R, .int⟩⟩
theorem piv_rng1 {tg : Expr} {pr : Pos} (hg : Gl X "range") (hm : X.mg "range" = none) (ha : PAs X W [a] fA) (hs : starEach [a] X.env = [(false, eval a X.env)] := by rfl) : PIv X W tg (.Call (.Name "range" pr) [a] [] pos) (fRng1 fA) :=
  fun F => pi_weak (pi_range1 hg hm (ha F) hs) fun σ H R q => by
  obtain ⟨G, env, Rp, q⟩ := q
  refine ⟨G, env, Rp, Rs.wp_mono (Rs.wp_bind.mp q) (fun r q vs G1 H1 g1 R1 o1 => ?_) fun _ _ _ z => z⟩
  split at q
  · rename_i j hj
    split at q
    · rename_i hz
      obtain ⟨v, rfl, cu⟩ := curs1 (o1.curs R1 hj)
      cases cur_int cu
      refine ⟨j, rfl, hz.1, hz.2, q _ _ _ _ F G1 H1 (.inl rfl) g1 R1 walk_range ?_⟩
      have := rng_it (K := X.K) (mg := X.mg) (F := F) (G := G1) (lo := 0) (n := j.toNat)
      simp only [Int.zero_add] at this ⊢
      exact this
    · exact q.elim
  · exact q.elim
theorem piv_rng2 {tg : Expr} {pr : Pos} (hg : Gl X "range") (hm : X.mg "range" = none) (ha : PAs X W [a, b] fA) (hs : starEach [a, b] X.env = [(false, eval a X.env), (false, eval b X.env)] := by rfl) (hs2 : starEach [b] X.env = [(false, eval b X.env)] := by rfl) : PIv X W tg (.Call (.Name "range" pr) [a, b] [] pos) (fRng2 fA) :=
  fun F => pi_weak (pi_range2 hg hm (ha F) hs hs2) fun σ H R q => by
  obtain ⟨G, env, Rp, q⟩ := q
  refine ⟨G, env, Rp, Rs.wp_mono (Rs.wp_bind.mp q) (fun r q vs G1 H1 g1 R1 o1 => ?_) fun _ _ _ z => z⟩
  split at q
  · rename_i i j hj
    split at q
    · rename_i hz
      obtain ⟨v, w, rfl, cu, cw⟩ := curs2 (o1.curs R1 hj)
      cases cur_int cu; cases cur_int cw
      exact ⟨i, j, rfl, ⟨hz.1.1, hz.1.2, hz.2.1, hz.2.2⟩, q _ _ _ _ F G1 H1 (.inl rfl) g1 R1 walk_range rng_it⟩
    · exact q.elim
  · exact q.elim
/-! stores -/
def Sl.root? : Sl → Option D
  | .own d => some d
  | .io _ d => some d
  | _ => none
theorem root_slot {K : PySem.W.Frag} {mg : Str → Option Value} {F : Fr} {G : Hp} {σ : L2.St} {env : En} {H : Hp} (R : Rep K mg F G σ env H) {i : Nat} {d : D} (h : rootD env i = some d) : ∃ a s, env[i]? = some s ∧ σ[i]? = some (some (.ref a)) ∧ Root K mg G H a d ∧ (s = .own d ∨ ∃ k, s = .io k d) := by
  unfold rootD at h
  cases q : env[i]? with
  | none => rw [q] at h; cases h
  | some s =>
    rw [q] at h
    have sl := R.sl i s q
    cases s with
    | no => cases h
    | val d => cases h
    | own d' => cases h; obtain ⟨a, ea, _, _, r⟩ := sl; exact ⟨a, _, rfl, ea, r, .inl rfl⟩
    | io n d' => cases h; obtain ⟨a, ea, _, _, r⟩ := sl; exact ⟨a, _, rfl, ea, r, .inr ⟨n, rfl⟩⟩
def setRoot (e : En) (i : Nat) (d : D) : En := e.set i (((e[i]?).getD .no).put d)
theorem write_slot {K : PySem.W.Frag} {mg : Str → Option Value} {F : Fr} {G : Hp} {σ : L2.St} {env : En} {H : Hp} (R : Rep K mg F G σ env H) {i : Nat} {d d' : D} {a : Addr} {s : Sl} {ob : HO} (e : env[i]? = some s) (ha : σ[i]? = some (some (.ref a))) (hs : s = .own d ∨ ∃ k, s = .io k d) (r : Root K mg G (upd H a ob) a d') :
    Rep K mg F G σ (setRoot env i d') (upd H a ob) := by
  unfold setRoot
  rw [e]
  refine R.write (d := d) e ?_ ha r
  rcases hs with rfl | ⟨k, rfl⟩
  · exact .inl ⟨rfl, rfl⟩
  · exact .inr ⟨k, rfl, rfl⟩
/-- x.append(e) -/
def fApp (i : Nat) (f : En → Rs (Hd × En)) : En → Rs (Hd × En) := fun e => match rootD e i with
  | some (.lst _) => f e >>= fun r => r.1.esc r.2 >>= fun q => match rootD q.2 i with
    | some (.lst l) => if l.length < sizeLine then .ok (.dat .non, setRoot q.2 i (.lst (l ++ [q.1]))) else .bad
    | _ => .bad
  | _ => .bad
theorem pb_append {call : Expr} {i : Nat} (h : ∀ {t : TA}, PA X [a] t → PE X call (tBM X.K "list" rAppend (tVar i) t)) (ha : PB X W a fa) (hs : starEach [a] X.env = (false, eval a X.env) :: starEach [] X.env := by rfl) : PB X W call (fApp i fa) :=
  fun F => pe_weak (h (pa_cons (ha F) pa_nil hs)) fun σ H Q q => by
  obtain ⟨G, env, R, q⟩ := q
  unfold fApp at q
  split at q
  · rename_i l0 h0
    obtain ⟨p0, s0, _, z0, rt0, _⟩ := root_slot R h0
    refine ⟨_, z0, .inl ⟨rfl, ?_⟩, G, env, R, Rs.wp_mono (Rs.wp_bind.mp q) (fun r q v G1 H1 g1 R1 o1 => ?_) fun _ _ _ z => z⟩
    · cases rt0 with | lst y _ => exact ⟨_, .of y⟩
    obtain ⟨r2, G2, q, g2, R2, dv⟩ := wp_esc R1 o1 (Rs.wp_bind.mp q)
    split at q
    · rename_i l hl
      split at q
      · obtain ⟨p, s, es, z, rt, hs⟩ := root_slot R2 hl
        rw [z0] at z; cases z
        cases rt with
        | lst y dl => exact ⟨p0, _, v, rfl, rfl, y, by rw [dl.length]; assumption, q _ G2 _ (g1.trans g2) (write_slot R2 es z0 hs (.lst upd_same (dl.append (.cons dv .nil)))) .non⟩
      · exact q.elim
    · exact q.elim
  · exact q.elim
/-- x[j] = e, x a list -/
def fStL (i : Nat) (fj fv : En → Rs (Hd × En)) : En → Rs (Fl × En) := fun e => fv e >>= fun r => r.1.esc r.2 >>= fun v => fVar i v.2 >>= fun _ => fj v.2 >>= fun s => match s.1.get s.2, rootD s.2 i with
  | some (.int n), some (.lst l) => match ixN l.length n with
    | some m => .ok (.nx, setRoot s.2 i (.lst (l.set m v.1)))
    | none => .bad
  | _, _ => .bad
theorem pst_lset {st : Stmt} {i : Nat} (h : ∀ {tv tj : TE}, PE X e tv → PE X a tj → PS X st (tAsg tv (gSub (tVar i) tj rSetL))) (hj : PB X W a fa) (hv : PB X W e fe) : PSt X W st (fStL i fa fe) :=
  fun F => ps_weak (h (hv F) (hj F)) fun D σ H q => by
  obtain ⟨G, env, R, q⟩ := q
  refine ⟨G, env, R, Rs.wp_mono (Rs.wp_bind.mp q) (fun r q v G1 H1 g1 R1 o1 => ?_) fun _ _ _ z => z.zx .refl⟩
  obtain ⟨r2, G2, q, g2, R2, dv⟩ := wp_esc R1 o1 (Rs.wp_bind.mp q)
  have q := Rs.wp_bind.mp q
  unfold fVar at q
  cases hs : r2.2[i]? with
  | none => rw [hs] at q; exact q.elim
  | some s =>
    rw [hs] at q
    have sl := R2.sl i s hs
    have go : ∀ {y : V}, σ[i]? = some (some y) → ((fa r2.2).wp (fun s => (match s.1.get s.2, rootD s.2 i with
        | some (.int n), some (.lst l) => match ixN l.length n with
          | some m => (.ok (.nx, setRoot s.2 i (.lst (l.set m r2.1))) : Rs (Fl × En))
          | none => .bad
        | _, _ => .bad).wp (FlOk X.K X.mg F G D) (ZS X.K X.mg W F G)) (ZS X.K X.mg W F G)) → gSub (tVar i) (tB X.K X.mg W F fa) rSetL v σ H1 D.nx := by
      intro y hy q
      refine ⟨y, hy, G2, r2.2, R2, Rs.wp_mono q (fun s q w G3 H3 g3 R3 o3 => ?_) fun _ _ _ z => z.zx (g1.trans g2)⟩
      split at q
      · rename_i n l hn hl
        split at q
        · rename_i m hm
          obtain ⟨p, s', es, z, rt, hs'⟩ := root_slot R3 hl
          rw [hy] at z; cases z
          cases cur_int (o3.cur R3 hn)
          cases rt with
          | lst y2 dl => exact ⟨p, _, n, m, rfl, rfl, y2, by rw [dl.length]; exact hm, q σ G3 _ ((g1.trans g2).trans g3) (write_slot R3 es hy hs' (.lst upd_same (dl.set (dv.mono g3) m)))⟩
        · exact q.elim
      · exact q.elim
    cases s with
    | no => exact q.elim
    | val d => obtain ⟨y, hy, _⟩ := sl; exact go hy (Rs.wp_bind.mp q)
    | own d => obtain ⟨y, hy, _⟩ := sl; exact go hy (Rs.wp_bind.mp q)
    | io n d => obtain ⟨y, hy, _⟩ := sl; exact go hy (Rs.wp_bind.mp q)
end
end Rt
set_option Elab.async false
set_option linter.all false
set_option maxRecDepth 100000
set_option maxHeartbeats 4000000
/-! the end of a law: its def run from the heap behind the top -/
namespace Rt
open PySem PySem.Spec L2
open PyProof.Rows hiding St
/-- the law's run upon data gives True -/
def Good (g : List Ar → Rs Rz) (ns : List Int) : Prop := ∃ z, g [.val (.scr ns)] = .ok z ∧ z.d = .bl true ∧ z.own = false
theorem lawG {P : Program} {w : World} {K : PySem.W.Frag} {mg mb : Str → Option Value} {k : Nat} {fa a : Addr} {fd : FuncData} {x : Str} {g : List Ar → Rs Rz} {s1 : Shared} {vs : List Value} {ns : List Int}
    (KX : K.In s1.heap) (hns : s1.heap.Ns mainGlobals mg) (hb : s1.heap.Ns builtinsNs mb) (hbb : ∀ x : Str, x ≠ "__name__" → mb x = bootBuiltins x) (hlim : s1.heap.NoLimit) (hg : s1.gens = #[]) (hsy : ∃ o, s1.heap.get? sysModules = some o ∧ ∀ us, o.data ≠ .seq us 0) (hK1 : K.lookup sysModules = none)
    (ha : s1.heap.get? a = some { cls := .type "list", data := .seq vs.toArray }) (hi : IntsAre vs ns) (hl : ns.length ≤ sizeLine) (hr : Room k callerA)
    (Fn : ∀ base : Heap, K.In base → base.Ns mainGlobals mg → FnG P w K mg base k fa fd [x] (spD K mg g)) (hbind : ∀ (s : Shared) (u : Value), BindsTo s fd ⟨[u], []⟩ [(x, u)]) (good : Good g ns) :
    codeAny (model P w) callerA (.call (.ref fa) ⟨[.ref a], []⟩) (fun r s' => r = .ok (.ret (.bool true)) ∧ OldK s1.heap s'.heap ∧ s'.os = s1.os ∧ AllBare s'.gens) s1 := by
  obtain ⟨os, hos, hnl⟩ := hsy
  obtain ⟨z, hz, hzd, hzo⟩ := good
  have as1 : a ≠ sysModules := fun e => by rw [e, hos] at ha; cases ha; exact hnl _ rfl
  let φ : Heap → Prop := fun h => h.get? sysModules = some os
  let so : Obj := { cls := .type "list", data := .seq vs.toArray }
  -- what is tracked: the table of modules, and the script where it is no object of the module
  have main : ∀ (H : Hp), (∀ b o, H b = some o → (b = sysModules ∧ o = .ext φ) ∨ (b = a ∧ o = .frz so (.lst (ns.map V.int)))) → H sysModules = some (.ext φ) → SqL K H a (ns.map V.int) → (∀ o, H a = some o → K.lookup a = none) →
      codeAny (model P w) callerA (.call (.ref fa) ⟨[.ref a], []⟩) (fun r s' => r = .ok (.ret (.bool true)) ∧ OldK s1.heap s'.heap ∧ s'.os = s1.os ∧ AllBare s'.gens) s1 := by
    intro H hH h1 hS hKa
    have hok : HOk P w H s1.heap := fun b o e => by
      rcases hH b o e with ⟨rfl, rfl⟩ | ⟨rfl, rfl⟩
      · exact ⟨hos, ⟨os, hos⟩, fun h h' q1 q2 => q2 _ q1⟩
      · exact ⟨ha, by rw [List.length_map]; exact hl, vs, _, vals_ints hi, ha⟩
    have nsOf : ∀ {b : Addr} {m : Str → Option Value}, b ≠ sysModules → s1.heap.Ns b m → (hidT s1.heap H).Ns b m := fun {b m} nb ⟨o, es, ep, e, d, r⟩ => by
      refine ⟨o, es, ep, hidT_get e ?_, d, r⟩
      cases q : H b with
      | none => rfl
      | some u =>
        rcases hH b u q with ⟨y, _⟩ | ⟨y, _⟩
        · exact absurd y nb
        · subst y; rw [ha] at e; cases e; cases d
    have hKb : K.In (hidT s1.heap H) := fun b o e => hidT_get (KX b o e) (by
      cases q : H b with
      | none => rfl
      | some u =>
        rcases hH b u q with ⟨y, _⟩ | ⟨y, _⟩
        · subst y; rw [hK1] at e; cases e
        · subst y; rw [hKa u q] at e; cases e)
    obtain ⟨mc, l1, l2⟩ := hlim
    have hM : Mod K mg (hidT s1.heap H) := ⟨hKb, nsOf (by decide) hns, ⟨mb, nsOf (by decide) hb, hbb⟩, mc, nsOf (by decide) l1, l2⟩
    have e0 : Env0 P w K mg (hidT s1.heap H) callerA [] s1 H := ⟨rfl, hM, fun b o e => of_hidT e, Nat.le_of_eq (hidT_size _ _), trivial, fun b hb => (nomatch hb), hok, .of_eq hg⟩
    have pre : spD K mg g [.ref a] H (fun v H' => v = .bl true ∧ H' sysModules = some (.ext φ) ∧ ∀ o u, H a = some (.frz o u) → H' a = some (.frz o u)) (fun _ _ _ => False) := by
      refine ⟨fun b => if b = a then H a else none, [.val (.scr ns)], [], ⟨φ, h1⟩, fun b o q => ?_, .val (.scr ?_) .nil, ?_⟩
      · by_cases y : b = a
        · have q := (if_pos y).symm.trans q
          subst y; exact .inl q
        · cases (if_neg y).symm.trans q
      · refine hS.imp (fun h => ?_) id
        rcases h with h | ⟨b, h⟩
        · exact .inl ((if_pos rfl).trans h)
        · exact .inr ⟨b, (if_pos rfl).trans h⟩
      · rw [hz]
        intro v G' H' af res
        rw [if_neg (by rw [hzo]; exact Bool.false_ne_true), hzd] at res
        cases res
        exact ⟨rfl, af.keep _ _ h1 (by simp), fun o u q => af.keep _ _ q (by simp)⟩
    refine codeAny_mono ((Fn _ hKb (nsOf (by decide) hns)).go callerA [] s1 H ⟨[.ref a], []⟩ [.ref a] [.ref a] _ _ rfl hr e0 (hbind s1 (.ref a)) (.cons rfl .nil) pre) ?_
    intro r s' h
    match r, h with
    | .error e, h =>
      obtain ⟨_, _, _, _, _, _, _, _, _, _, _, _, q⟩ := h
      exact q.elim
    | .ok (.ret u), h =>
      obtain ⟨v, H', e1, e2, un, hok', rv, ⟨q1, q2, q3⟩⟩ := h
      subst q1
      cases rv
      refine ⟨rfl, OldK.of_keep fun b o e => ?_, e1, e2⟩
      cases q : H b with
      | none => exact un.keep b o e q (fun y => nomatch y) (by simp)
      | some u =>
        rcases hH b u q with ⟨rfl, rfl⟩ | ⟨rfl, rfl⟩
        · rw [hos] at e; cases e
          exact (hok' _ _ q2).1
        · rw [ha] at e; cases e
          exact (hok' _ _ (q3 _ _ q)).1
  cases hk : K.lookup a with
  | some o =>
    have e := KX a o hk
    rw [ha] at e; cases e
    refine main (fun b => if b = sysModules then some (.ext φ) else none) (fun b o q => ?_) (if_pos rfl) (.inr ⟨_, vs.toArray, _, hk, rfl, rfl, rfl, by rw [List.size_toArray, hi.length]; exact hl, by simpa using vals_ints hi⟩) (fun o q => ?_)
    · by_cases y : b = sysModules
      · cases (if_pos y).symm.trans q; exact .inl ⟨y, rfl⟩
      · cases (if_neg y).symm.trans q
    · cases (if_neg as1).symm.trans q
  | none =>
    refine main (fun b => if b = sysModules then some (.ext φ) else if b = a then some (.frz so (.lst (ns.map V.int))) else none) (fun b o q => ?_) (if_pos rfl) (.inl (.inr ⟨so, (if_neg as1).trans (if_pos rfl)⟩)) (fun o q => hk)
    by_cases y : b = sysModules
    · cases (if_pos y).symm.trans q; exact .inl ⟨y, rfl⟩
    · have q := (if_neg y).symm.trans q
      by_cases y2 : b = a
      · cases (if_pos y2).symm.trans q; exact .inr ⟨y2, rfl⟩
      · cases (if_neg y2).symm.trans q
/-- a law row's walk -/
theorem walkG {l : PySem.W.OpenLaw} {n k : Nat} {q : Program} {loose : List Str} {XP : (Str → Option Value) → Heap → Prop} {YP : World → Heap → Prop} {d : DefRec} {K : Params → PySem.W.Frag} {x : Str} {g : List Ar → Rs Rz}
    (hn : l.most = some n) (hq : PyProof.Rows.importsNone q = true) (hn2 : n ≤ sizeLine) (hdf : d.params.defaults = []) (hr : Room k callerA) (hY : ∀ (w : World) (h : Heap), YP w h → (K w.params).In h) (hK1 : ∀ w : World, (K w.params).lookup sysModules = none)
    (Fn : ∀ (w : World) (mg : Str → Option Value) (fa : Addr) (h : Heap), (K w.params).In h → h.Ns mainGlobals mg → mg d.name = some (.ref fa) →
      ∃ fd : FuncData, (∀ (s : Shared) (u : Value), BindsTo s fd ⟨[u], []⟩ [(x, u)]) ∧ ∀ base : Heap, (K w.params).In base → base.Ns mainGlobals mg → FnG l.prog w (K w.params) mg base k fa fd [x] (spD (K w.params) mg g))
    (good : ∀ ns : List Int, ns.length ≤ n → (∀ z ∈ ns, Builtin.Int.intBits z ≤ 1048576) → Good g ns) :
    PySem.W.WalkO q loose XP YP l.row.toRowW d [] (fun f vs => PySem.call f vs) := by
  refine Att.attach_callB hn hdf fun w s0 s1 mg mb fa o pm cd doc a vs ns G Y ho hd hcd hmg hobj hints hlen hbits hg => ?_
  have KX := hY w _ Y
  obtain ⟨fd, hb, hF⟩ := Fn w mg fa _ KX G.T.g hmg
  obtain ⟨mm, ⟨os, es, ep, e1, e2, _⟩, _⟩ := (G.T.seer hq).mods
  exact lawG KX G.T.g G.T.b G.T.builtins G.T.nolimit hg ⟨os, e1, fun us z => by rw [e2] at z; cases z⟩ (hK1 w) hobj hints (Nat.le_trans hlen hn2) hr hF hb (good ns hlen hbits)
end Rt
set_option Elab.async false
set_option linter.all false
set_option maxRecDepth 100000
set_option maxHeartbeats 4000000
/-! displays of dicts, stores into dicts, pairs at once -/
namespace Rt
open PySem PySem.Spec L2
open PyProof.Rows hiding St
section
variable {X : Cx} {W : Wsh} {k : Nat} {a b c e : Expr} {fa fb fc fe : En → Rs (Hd × En)} {pos : Pos}
theorem pbv {x : Str} (i : Nat) (hN : X.N[i]? = some x := by rfl) (hv : Vis X.env.scope x := by first | exact Or.inl rfl | exact Or.inr (Or.inl rfl) | exact Or.inr (Or.inr rfl))
    (hd : (x == ("__debug__" : Str)) = false := by decide) (hcd : (x == ("__classdict__" : Str)) = false := by decide) : PB X W (.Name x pos) (fVar i) := pb_var hN hv hd hcd
/-! ### {k: v, ..} -/
def fPairs : List ((En → Rs (Hd × En)) × (En → Rs (Hd × En))) → En → Rs (List (Key × D) × En)
  | [], e => .ok ([], e)
  | (fk, fv) :: r, e => fk e >>= fun k => k.1.esc k.2 >>= fun kd => fv kd.2 >>= fun v => v.1.esc v.2 >>= fun vd => fPairs r vd.2 >>= fun q => match keyOf kd.1 with
    | some key => .ok ((key, vd.1) :: q.1, q.2)
    | none => .bad
def putD {κ : Type} [DecidableEq κ] (l : List (κ × D)) (k : κ) (d : D) : List (κ × D) :=
  if l.any (fun p => decide (p.1 = k)) = true then l.map (fun p => if p.1 = k then (p.1, d) else p) else l ++ [(k, d)]
def mergeD (l more : List (Key × D)) : List (Key × D) := more.foldl (fun acc kv => putD acc kv.1 kv.2) l
def fDisp (fs : List ((En → Rs (Hd × En)) × (En → Rs (Hd × En)))) : En → Rs (D × En) := fun e => (fPairs fs e).mute >>= fun q => if q.1.length ≤ 15 then .ok (.dct (mergeD [] q.1), q.2) else .bad
def PDs (X : Cx) (W : Wsh) (ks : List (Option Expr)) (vs : List Expr) (fs : List ((En → Rs (Hd × En)) × (En → Rs (Hd × En)))) : Prop :=
  ∃ trs : List (TE × TE), (∀ pos : Pos, PPs X pos ks vs trs) ∧ ∀ (F : Fr) (G : Hp) (env : En) (σ : L2.St) (H : Hp) (Q : List (V × V) → Hp → Prop), Rep X.K X.mg F G σ env H →
    (fPairs fs env).wp (fun r => ∀ (G' H' : Hp) (ps : List (Key × V)), GLe G G' → Rep X.K X.mg F G' σ r.2 H' → ps.map (·.1) = r.1.map (·.1) → DVs X.K X.mg G' (ps.map (·.2)) (r.1.map (·.2)) → Q (ps.map fun kv => (kV kv.1, kv.2)) H') (fun _ _ _ => False) → tPairs trs σ H Q
theorem pds_nil : PDs X W [] [] [] := ⟨[], fun pos => pps_nil, fun F G env σ H Q R q => q G H [] .refl R rfl .nil⟩
theorem pds_cons {ks : List (Option Expr)} {vs : List Expr} {fs} (ha : PB X W a fa) (hb : PB X W b fb) (hr : PDs X W ks vs fs) : PDs X W (some a :: ks) (b :: vs) ((fa, fb) :: fs) := by
  obtain ⟨trs, h1, h2⟩ := hr
  refine ⟨_, fun pos => pps_cons (pe_ex ha) (pe_ex hb) (h1 pos), fun F G env σ H Q R q => ?_⟩
  unfold fPairs at q
  refine ⟨F, G, env, R, Rs.wp_mono (Rs.wp_bind.mp q) (fun r q v G1 H1 g1 R1 o1 => ?_) fun _ _ _ z => z.elim⟩
  obtain ⟨r2, G2, q, g2, R2, d2⟩ := wp_esc R1 o1 (Rs.wp_bind.mp q)
  refine ⟨F, G2, _, R2, Rs.wp_mono (Rs.wp_bind.mp q) (fun r3 q v3 G3 H3 g3 R3 o3 => ?_) fun _ _ _ z => z.elim⟩
  obtain ⟨r4, G4, q, g4, R4, d4⟩ := wp_esc R3 o3 (Rs.wp_bind.mp q)
  refine h2 F G4 _ σ H3 _ R4 (Rs.wp_mono (Rs.wp_bind.mp q) (fun r5 q G5 H5 ps g5 R5 e5 d5 => ?_) fun _ _ _ z => z.elim)
  split at q
  · rename_i key hk
    have hv : v = kV key := by
      unfold keyOf at hk
      generalize r2.1 = z at hk d2
      split at hk
      · cases hk; cases d2; rfl
      · cases hk; cases d2; rfl
      · cases hk
    subst hv
    exact q G5 H5 ((key, v3) :: ps) ((((g1.trans g2).trans g3).trans g4).trans g5) R5 (by simp [e5]) (.cons (d4.mono g5) d5)
  · exact q.elim
section
variable {K : PySem.W.Frag} {mg : Str → Option Value} {G : Hp}
theorem put_any {κ : Type} [DecidableEq κ] (k : κ) : ∀ {ps : List (κ × V)} {dk : List (κ × D)}, ps.map (·.1) = dk.map (·.1) → (ps.any fun kv => decide (kv.1 = k)) = dk.any fun p => decide (p.1 = k) := by
  intro ps dk e
  have h1 : (ps.any fun kv => decide (kv.1 = k)) = (ps.map (·.1)).any fun x => decide (x = k) := by rw [List.any_map]; rfl
  have h2 : (dk.any fun kv => decide (kv.1 = k)) = (dk.map (·.1)).any fun x => decide (x = k) := by rw [List.any_map]; rfl
  rw [h1, h2, e]
theorem put_map {κ : Type} [DecidableEq κ] (k : κ) {v : V} {d : D} (dv : DV K mg G v d) : ∀ {ps : List (κ × V)} {dk : List (κ × D)}, ps.map (·.1) = dk.map (·.1) → DVs K mg G (ps.map (·.2)) (dk.map (·.2)) →
    (ps.map fun p => if p.1 = k then (p.1, v) else p).map (·.1) = (dk.map fun p => if p.1 = k then (p.1, d) else p).map (·.1) ∧
    DVs K mg G ((ps.map fun p => if p.1 = k then (p.1, v) else p).map (·.2)) ((dk.map fun p => if p.1 = k then (p.1, d) else p).map (·.2))
  | [], [], _, _ => ⟨rfl, .nil⟩
  | [], _ :: _, e, _ => by cases e
  | _ :: _, [], e, _ => by cases e
  | (a, x) :: ps, (b, y) :: dk, e, l => by
    have e1 : a = b := (List.cons.inj e).1
    subst e1
    cases l with
    | cons h t =>
      obtain ⟨i1, i2⟩ := put_map k dv (List.cons.inj e).2 t
      by_cases z : a = k
      · subst z
        simp only [List.map_cons, if_true]
        exact ⟨by rw [i1], .cons dv i2⟩
      · simp only [List.map_cons, if_neg z]
        exact ⟨by rw [i1], .cons h i2⟩
theorem put_ok {κ : Type} [DecidableEq κ] {k : κ} {v : V} {d : D} {ps : List (κ × V)} {dk : List (κ × D)} (e : ps.map (·.1) = dk.map (·.1)) (l : DVs K mg G (ps.map (·.2)) (dk.map (·.2))) (dv : DV K mg G v d) :
    (putK ps k v).map (·.1) = (putD dk k d).map (·.1) ∧ DVs K mg G ((putK ps k v).map (·.2)) ((putD dk k d).map (·.2)) := by
  unfold putK putD
  rw [put_any k e]
  split
  · exact put_map k dv e l
  · rw [List.map_append, List.map_append, List.map_append, List.map_append, e]
    exact ⟨rfl, l.append (.cons dv .nil)⟩
theorem merge_ok : ∀ {ms : List (Key × V)} {md : List (Key × D)} {ps : List (Key × V)} {dk : List (Key × D)}, ps.map (·.1) = dk.map (·.1) → DVs K mg G (ps.map (·.2)) (dk.map (·.2)) → ms.map (·.1) = md.map (·.1) → DVs K mg G (ms.map (·.2)) (md.map (·.2)) →
    (L2.mergeK ps ms).map (·.1) = (mergeD dk md).map (·.1) ∧ DVs K mg G ((L2.mergeK ps ms).map (·.2)) ((mergeD dk md).map (·.2))
  | [], [], _, _, e, l, _, _ => ⟨e, l⟩
  | [], _ :: _, _, _, _, _, e, _ => by cases e
  | _ :: _, [], _, _, _, _, e, _ => by cases e
  | (a, x) :: ms, (b, y) :: md, ps, dk, e, l, em, lm => by
    have e1 : a = b := (List.cons.inj em).1
    subst e1
    cases lm with
    | cons h t =>
      obtain ⟨i1, i2⟩ := put_ok (k := a) e l h
      exact merge_ok (ms := ms) (md := md) i1 i2 (List.cons.inj em).2 t
end
theorem wp_mute0 {α : Type} {r : Rs α} {P : α → Prop} {Z} (q : r.mute.wp P Z) : r.wp P (fun _ _ _ => False) := by
  cases r with
  | ok a => exact q
  | exc c f e => exact q.elim
  | bad => exact q
theorem po_disp {ks : List (Option Expr)} {vs : List Expr} {fs} (h : PDs X W ks vs fs) (hall : ks.all (·.isSome) = true) (hl : ks.length = vs.length) (h0 : ks ≠ []) (h15 : ks.length ≤ 15) : PO X W (.Dict ks vs pos) (fDisp fs) := by
  obtain ⟨trs, h1, h2⟩ := h
  refine fun F => pe_weak (pe_disp (h1 pos) hall hl h0 h15) fun σ H Q q => ?_
  obtain ⟨G, env, R, q⟩ := q
  unfold fDisp at q
  have q := wp_mute0 (Rs.wp_bind.mp q)
  intro p hp
  refine h2 (F.temp p (.dct [])) G env σ _ _ (R.temp hp (.dct (ks := []) (dk := []) upd_same rfl .nil)) (Rs.wp_mono q (fun r q G1 H1 ps g1 R1 ek dl => ?_) fun _ _ _ z => z)
  split at q
  · rename_i hz
    have hz' : ps.length ≤ 15 := by
      have := congrArg List.length ek
      rw [List.length_map, List.length_map] at this
      omega
    obtain ⟨_, _, rt⟩ := R1.tsk (p, .dct []) (List.mem_cons_self ..)
    cases rt with
    | @dct kvs _ y y1 y2 =>
      have : kvs = [] := by cases kvs with | nil => rfl | cons => cases y1
      subst this
      refine ⟨y, ps, rfl, hz', ?_⟩
      obtain ⟨m1, m2⟩ := merge_ok (ps := []) (dk := []) rfl .nil ek dl
      obtain ⟨R2, e0, eg, rt, fr⟩ := (R1.tempSet (.dct upd_same m1 m2)).tempEnd
      exact q p G1 _ g1 R2 e0 eg rt fr
  · exact q.elim
def fNewO (d : D) : En → Rs (D × En) := fun e => .ok (d, e)
theorem po_dnewK : PO X W (.Dict [] [] pos) (fNewO (.dct [])) := fun F => pe_weak pe_dnewK fun σ H Q ⟨G, env, R, q⟩ p hp => own_new R hp (.dct (ks := []) (dk := []) upd_same rfl .nil) q
theorem po_dnewT : PO X W (.Dict [] [] pos) (fNewO (.dcT [])) := fun F => pe_weak pe_dnewT fun σ H Q ⟨G, env, R, q⟩ p hp => own_new R hp (.dcT (ks := []) (dk := []) upd_same rfl .nil) q
end
section
variable {X : Cx} {W : Wsh} {k : Nat} {g : D → En → Option En} {ft : En → Rs (Bool × En)} {fe : En → Rs (Hd × En)} {fi : En → Rs IR} {is : List Nat} {tg it elt : Expr} {ifs : List Expr} {scope : Scope} {own : List (Str × Nat)} {pos spos : Pos}
theorem po_cmp (Y : Hy X W k) (hi : PIv X W tg it fi) (ok : BlkOk X.N X.env.scope scope own)
    (hg : ∀ (s : Shared) (H : Hp) (C : Addr) (cl : List (Str × Addr)) (fp : List Addr), Hy (X.blk s H scope (compEnvC scope cl C X.env) fp) W0 k → PGt (X.blk s H scope (compEnvC scope cl C X.env) fp) tg is g)
    (ht : ∀ (s : Shared) (H : Hp) (C : Addr) (cl : List (Str × Addr)) (fp : List Addr), Hy (X.blk s H scope (compEnvC scope cl C X.env) fp) W0 k → PTq (X.blk s H scope (compEnvC scope cl C X.env) fp) W0 ifs ft)
    (he : ∀ (s : Shared) (H : Hp) (C : Addr) (cl : List (Str × Addr)) (fp : List Addr), Hy (X.blk s H scope (compEnvC scope cl C X.env) fp) W0 k → PB (X.blk s H scope (compEnvC scope cl C X.env) fp) W0 elt fe)
    (his : ∀ i ∈ is, i ∈ own.map (·.2)) (hs : ∀ x, foldedSetIterable it X.env x = pure x := by intro _; rfl) :
    PO X W (.ListComp elt [⟨tg, it, ifs, 0⟩] scope pos) (fComp fi g ft fe (own.map (·.2))) :=
  po_comp Y hi ok (fun s H C cl fp => hg s H C cl fp (Y.blk s H _ _ fp)) (fun s H C cl fp => ht s H C cl fp (Y.blk s H _ _ fp)) (fun s H C cl fp => he s H C cl fp (Y.blk s H _ _ fp)) his hs
theorem pst_setCm {i : Nat} {y : Str} {py : Pos} (Y : Hy X W k) (hy : X.N[i]? = some y) (hyl : X.env.scope.names.lookup y = some .local)
    (hsw : swapsWith (.ListComp elt [⟨tg, it, ifs, 0⟩] scope pos) (some (.Name y py)) spos.line X.env = pure true) (hi : PIv X W tg it fi) (ok : BlkOk X.N X.env.scope scope own)
    (hg : ∀ (s : Shared) (H : Hp) (C : Addr) (cl : List (Str × Addr)) (fp : List Addr), Hy (X.blk s H scope (compEnvC scope cl C X.env) fp) W0 k → PGt (X.blk s H scope (compEnvC scope cl C X.env) fp) tg is g)
    (ht : ∀ (s : Shared) (H : Hp) (C : Addr) (cl : List (Str × Addr)) (fp : List Addr), Hy (X.blk s H scope (compEnvC scope cl C X.env) fp) W0 k → PTq (X.blk s H scope (compEnvC scope cl C X.env) fp) W0 ifs ft)
    (he : ∀ (s : Shared) (H : Hp) (C : Addr) (cl : List (Str × Addr)) (fp : List Addr), Hy (X.blk s H scope (compEnvC scope cl C X.env) fp) W0 k → PB (X.blk s H scope (compEnvC scope cl C X.env) fp) W0 elt fe)
    (his : ∀ i ∈ is, i ∈ own.map (·.2)) (hs : ∀ x, foldedSetIterable it X.env x = pure x := by intro _; rfl) :
    PSt X W (.Assign [.Name y py] (.ListComp elt [⟨tg, it, ifs, 0⟩] scope pos) spos) (fSetO i (fComp fi g ft fe (own.map (·.2)))) :=
  pst_setC Y hy hyl hsw hi ok (fun s H C cl fp => hg s H C cl fp (Y.blk s H _ _ fp)) (fun s H C cl fp => ht s H C cl fp (Y.blk s H _ _ fp)) (fun s H C cl fp => he s H C cl fp (Y.blk s H _ _ fp)) his hs
end
end Rt
set_option Elab.async false
set_option linter.all false
set_option maxRecDepth 100000
set_option maxHeartbeats 4000000
/-! runs upon data, step by step -/
namespace Rt
open PySem PySem.Spec L2
open PyProof.Rows hiding St
section
variable {e e1 e2 e3 : En} {h h1 h2 h3 : Hd} {fa fb fc f fo : En → Rs (Hd × En)} {op op' : D → D → Option D} {x y z d : D} {g : En → Rs (List Hd × En)} {hs : List Hd} {ds : List D} {i : Nat} {b : Bool} {ms : List Bool}
theorem of_some {α : Type} (a : α) : Rs.of (some a) = .ok a := rfl
theorem ev_op (a : fa e = .ok (h1, e1)) (b : fb e1 = .ok (h2, e2)) (p : h1.get e2 = some x) (q : h2.get e2 = some y) (o : op x y = some d) : fOp op fa fb e = .ok (.dat d, e2) := by
  simp only [fOp, a, b, p, q, o, Rs.ok_bind, of_some]
theorem ev_ch {b b' : Bool} (a : fa e = .ok (h1, e1)) (b0 : fb e1 = .ok (h2, e2)) (p : h1.get e2 = some x) (q : h2.get e2 = some y) (o : op x y = some (.bl b)) (c : fc e2 = .ok (h3, e2)) (r : h3.get e2 = some z) (o' : op' y z = some (.bl b')) : fChain op op' fa fb fc e = .ok (.dat (.bl (b && b')), e2) := by
  cases b <;> simp only [fChain, a, b0, p, q, o, c, r, o', Rs.ok_bind, of_some, Bool.true_and, Bool.false_and]
theorem ev_chB {b b' B : Bool} (a : fa e = .ok (h1, e1)) (b0 : fb e1 = .ok (h2, e2)) (p : h1.get e2 = some x) (q : h2.get e2 = some y) (o : op x y = some (.bl b)) (c : fc e2 = .ok (h3, e2)) (r : h3.get e2 = some z) (o' : op' y z = some (.bl b')) (hB : (b && b') = B) : fChain op op' fa fb fc e = .ok (.dat (.bl B), e2) :=
  hB ▸ ev_ch a b0 p q o c r o'
theorem ev_chT (a : fa e = .ok (h1, e1)) (b : fb e1 = .ok (h2, e2)) (p : h1.get e2 = some x) (q : h2.get e2 = some y) (o : op x y = some (.bl true)) (c : fc e2 = .ok (h3, e3)) (q' : h2.get e3 = some y) (r : h3.get e3 = some z) (o' : op' y z = some d) : fChain op op' fa fb fc e = .ok (.dat d, e3) := by
  simp only [fChain, a, b, p, q, o, c, q', r, o', Rs.ok_bind, of_some]
theorem ev_chF (a : fa e = .ok (h1, e1)) (b : fb e1 = .ok (h2, e2)) (p : h1.get e2 = some x) (q : h2.get e2 = some y) (o : op x y = some (.bl false)) : fChain op op' fa fb fc e = .ok (.dat (.bl false), e2) := by
  simp only [fChain, a, b, p, q, o, Rs.ok_bind, of_some]
theorem ev_tst (a : f e = .ok (.dat (.bl b), e1)) : fTst f e = .ok (b, e1) := by simp only [fTst, a, Rs.ok_bind]
theorem ev_tru (a : f e = .ok (h, e1)) (p : h.get e1 = some d) (q : dTru d = some b) : fTru f e = .ok (b, e1) := by simp only [fTru, a, p, q, Rs.ok_bind, of_some]
theorem ev_notT {t : En → Rs (Bool × En)} (a : t e = .ok (b, e1)) : fNotT t e = .ok (!b, e1) := by simp only [fNotT, a, Rs.ok_bind]
theorem ev_aT {t u : En → Rs (Bool × En)} {r} (a : t e = .ok (true, e1)) (c : u e1 = r) : fAnd t u e = r := by simp only [fAnd, a, Rs.ok_bind, if_true, c]
theorem ev_aF {t u : En → Rs (Bool × En)} (a : t e = .ok (false, e1)) : fAnd t u e = .ok (false, e1) := by simp only [fAnd, a, Rs.ok_bind, Bool.false_eq_true, if_false]
theorem ev_and {t u : En → Rs (Bool × En)} {b c : Bool} (p : t e = .ok (b, e1)) (q : u e1 = .ok (c, e1)) : fAnd t u e = .ok (b && c, e1) := by
  cases b
  · exact ev_aF p
  · exact ev_aT p q
theorem ev_or {t u : En → Rs (Bool × En)} {b c : Bool} (p : t e = .ok (b, e1)) (q : u e1 = .ok (c, e1)) : fOr t u e = .ok (b || c, e1) := by
  cases b
  · simp only [fOr, p, Rs.ok_bind, Bool.false_eq_true, if_false, q, Bool.false_or]
  · simp only [fOr, p, Rs.ok_bind, if_true, Bool.true_or]
theorem ev_oT {t u : En → Rs (Bool × En)} (a : t e = .ok (true, e1)) : fOr t u e = .ok (true, e1) := by simp only [fOr, a, Rs.ok_bind, if_true]
theorem ev_oF {t u : En → Rs (Bool × En)} {r} (a : t e = .ok (false, e1)) (c : u e1 = r) : fOr t u e = r := by simp only [fOr, a, Rs.ok_bind, Bool.false_eq_true, if_false, c]
theorem ev_aVT {r} (a : fa e = .ok (.dat (.bl true), e1)) (c : fb e1 = r) : fAndV fa fb e = r := by simp only [fAndV, a, Rs.ok_bind, c]
theorem ev_aVF (a : fa e = .ok (.dat (.bl false), e1)) : fAndV fa fb e = .ok (.dat (.bl false), e1) := by simp only [fAndV, a, Rs.ok_bind]
theorem ev_neg {n : Int} (a : f e = .ok (h, e1)) (p : h.get e1 = some (.int n)) : fNeg f e = .ok (.dat (.int (-n)), e1) := by simp only [fNeg, a, p, Rs.ok_bind, of_some]
theorem ev_cons (a : f e = .ok (h, e1)) (c : g e1 = .ok (hs, e2)) : fCons f g e = .ok (h :: hs, e2) := by simp only [fCons, a, c, Rs.ok_bind]
theorem ev_call {op : List D → Option D} (a : g e = .ok (hs, e1)) (p : gets e1 hs = some ds) (q : op ds = some d) : fCall op g e = .ok (.dat d, e1) := by simp only [fCall, a, p, q, Rs.ok_bind, of_some]
theorem ev_callO {op : List D → Option D} (a : g e = .ok (hs, e1)) (p : gets e1 hs = some ds) (q : op ds = some d) : fCallO op g e = .ok (d, e1) := by simp only [fCallO, a, p, q, Rs.ok_bind, of_some]
theorem ev_keep {f : En → Rs (D × En)} (a : f e = .ok (d, e1)) : fKeep f e = .ok (.dat d, e1) := by simp only [fKeep, a, Rs.ok_bind]
theorem ev_lst (a : g e = .ok (hs, e1)) (p : escs e1 hs = .ok (ds, e2)) (q : ds.length ≤ sizeLine) : fLst g e = .ok (.lst ds, e2) := by simp only [fLst, fItems, a, p, q, Rs.ok_bind, if_true]
theorem ev_tup (a : g e = .ok (hs, e1)) (p : escs e1 hs = .ok (ds, e2)) (q : ds.length ≤ sizeLine) : fTup g e = .ok (.dat (.tup ds), e2) := by simp only [fTup, fItems, a, p, q, Rs.ok_bind, if_true]
theorem ev_user {u : List Ar → Rs Rz} {q : List (D ⊕ Nat)} {as : List Ar} {is : List Nat} {z : Rz} (a : g e = .ok (hs, e1)) (c : escM ms hs e1 = .ok (q, e2)) (r : readM e2 q = some (as, is)) (k : u as = .ok z) (w : putM e2 is z.outs = e3) : fUser ms u g e = .ok (.dat z.d, e3) := by
  simp only [fUser, fUs, a, c, r, k, afterC, Rs.ok_bind, of_some, w]
theorem ev_userO {u : List Ar → Rs Rz} {q : List (D ⊕ Nat)} {as : List Ar} {is : List Nat} {z : Rz} (a : g e = .ok (hs, e1)) (c : escM ms hs e1 = .ok (q, e2)) (r : readM e2 q = some (as, is)) (k : u as = .ok z) (o : z.own = true) (w : putM e2 is z.outs = e3) : fUserO ms u g e = .ok (z.d, e3) := by
  simp only [fUserO, fUs, a, c, r, k, o, afterC, Rs.ok_bind, of_some, if_true, w]
theorem ev_pt {n : Int} (a : f e = .ok (h, e1)) (p : h.get e1 = some (.int n)) : fPt (some f) e = .ok (some n, e1) := by simp only [fPt, a, p, Rs.ok_bind, of_some]
theorem ev_sl {lo hi : Option (En → Rs (Hd × En))} {l u : Option Int} (a : f e = .ok (h, e1)) (p : fPt lo e1 = .ok (l, e2)) (q : fPt hi e2 = .ok (u, e3)) (r : h.get e3 = some x) (s : dSl x l u = some d) : fSl f lo hi e = .ok (.dat d, e3) := by
  simp only [fSl, a, p, q, r, s, Rs.ok_bind, of_some]
theorem ev_isi {T : String} (a : f e = .ok (h, e1)) (p : h.get e1 = some d) (q : (d.tyn.bind fun t => kitB t T) = some b) : fIsi T f e = .ok (.dat (.bl b), e1) := by simp only [fIsi, a, p, q, Rs.ok_bind, of_some]
theorem ev_m1 {op : Str → D → Option D} {s : Str} (a : fo e = .ok (h, e1)) (p : h.get e1 = some (.str s)) (c : fa e1 = .ok (h2, e2)) (q : h2.get e2 = some x) (r : op s x = some d) : fM1 op fo fa e = .ok (.dat d, e2) := by
  simp only [fM1, a, p, c, q, r, Rs.ok_bind, of_some]
theorem ev_m0 {op : Str → Option D} {s : Str} (a : fo e = .ok (h, e1)) (p : h.get e1 = some (.str s)) (r : op s = some d) : fM0 op fo e = .ok (.dat d, e1) := by simp only [fM0, a, p, r, Rs.ok_bind, of_some]
theorem ev_iter {l : List D} {k : Bool} (a : f e = .ok (h, e1)) (p : h.esc e1 = .ok (d, e2)) (q : dIter d = some (l, k)) : fIter f e = .ok (l, k, e2) := by simp only [fIter, a, p, q, Rs.ok_bind, of_some]
theorem ev_rng1 {j : Int} (a : g e = .ok (hs, e1)) (p : gets e1 hs = some [.int j]) (q : -(2 ^ 62) ≤ j ∧ j < 2 ^ 62) : fRng1 g e = .ok ((List.range j.toNat).map fun (i : Nat) => .int i, false, e1) := by
  simp only [fRng1, a, p, Rs.ok_bind, if_pos q]
theorem ev_comp {fi : En → Rs IR} {gt : D → En → Option En} {ft : En → Rs (Bool × En)} {fe : En → Rs (Hd × En)} {vs : List Nat} {l r : List D} {k : Bool} (a : fi e = .ok (l, k, e1)) (p : plainS e1 vs = true) (q : cLoop gt ft fe vs l (wipeE e1 vs) [] = .ok (r, e2)) : fComp fi gt ft fe vs e = .ok (.lst r, back e1 e2 vs) := by
  simp only [fComp, a, p, q, Rs.ok_bind, if_true, Rs.mute]
theorem es_nil : escs e [] = .ok ([], e) := rfl
theorem es_dat (k : escs e hs = .ok (ds, e1)) : escs e (.dat d :: hs) = .ok (d :: ds, e1) := by
  show ((Rs.ok (d, e) : Rs (D × En)) >>= fun r => escs r.2 hs >>= fun q => .ok (r.1 :: q.1, q.2)) = _
  simp only [Rs.ok_bind, k]
theorem es_slot (p : Hd.esc e (.slot i) = .ok (d, e1)) (k : escs e1 hs = .ok (ds, e2)) : escs e (.slot i :: hs) = .ok (d :: ds, e2) := by
  show (Hd.esc e (.slot i) >>= fun r => escs r.2 hs >>= fun q => .ok (r.1 :: q.1, q.2)) = _
  simp only [p, Rs.ok_bind, k]
theorem ev_disp {fs : List ((En → Rs (Hd × En)) × (En → Rs (Hd × En)))} {ps : List (Key × D)} (a : fPairs fs e = .ok (ps, e1)) (p : ps.length ≤ 15) : fDisp fs e = .ok (.dct (mergeD [] ps), e1) := by
  simp only [fDisp, a, Rs.mute, Rs.ok_bind, if_pos p]
theorem ev_pnil : fPairs [] e = .ok ([], e) := rfl
theorem ev_pcons {fs : List ((En → Rs (Hd × En)) × (En → Rs (Hd × En)))} {ps : List (Key × D)} {e4 e5 : En} {key : Key} (a : fa e = .ok (h1, e1)) (p : h1.esc e1 = .ok (x, e2)) (b : fb e2 = .ok (h2, e3)) (q : h2.esc e3 = .ok (y, e4)) (r : keyOf x = some key) (k : fPairs fs e4 = .ok (ps, e5)) : fPairs ((fa, fb) :: fs) e = .ok ((key, y) :: ps, e5) := by
  unfold fPairs
  simp only [a, p, b, q, r, k, Rs.ok_bind]
theorem he_dat : Hd.esc e (.dat d) = .ok (d, e) := rfl
theorem em_nil : escM [] [] e = .ok ([], e) := rfl
theorem em_no {q : List (D ⊕ Nat)} {m : Bool} (b : (m && lendH e h) = false) (p : h.esc e = .ok (d, e1)) (k : escM ms hs e1 = .ok (q, e2)) : escM (m :: ms) (h :: hs) e = .ok (.inl d :: q, e2) := by
  unfold escM
  simp only [b, cond_false, p, Rs.ok_bind, k]
theorem em_val {q : List (D ⊕ Nat)} (p : h.esc e = .ok (d, e1)) (k : escM ms hs e1 = .ok (q, e2)) : escM (false :: ms) (h :: hs) e = .ok (.inl d :: q, e2) := em_no rfl p k
theorem em_io {q : List (D ⊕ Nat)} (b : (rootD e i).isSome = true) (k : escM ms hs e = .ok (q, e1)) : escM (true :: ms) (.slot i :: hs) e = .ok (.inr i :: q, e1) := by
  have b : (true && lendH e (.slot i)) = true := b
  unfold escM
  simp only [b, cond_true, k, Rs.ok_bind]
  rfl
/-! statements -/
variable {P : Fl × En → Prop} {Z : Str → List (Str × D) → En → Prop} {s t : En → Rs (Fl × En)} {c : En → Rs (Bool × En)}
/-- a run's outcome, closed -/
structure Wq (r : Rs (Fl × En)) (P : Fl × En → Prop) (Z : Str → List (Str × D) → En → Prop) : Prop where
  run : r.wp P Z
theorem w_seq (k : Wq (s e) (fun r => match r.1 with | .nx => Wq (t r.2) P Z | _ => P r) Z) : Wq (fSeq s t e) P Z := by
  refine ⟨?_⟩
  unfold fSeq
  refine Rs.wp_bind.mpr (Rs.wp_mono k.run (fun r k => ?_) fun _ _ _ z => z)
  obtain ⟨fl, e1⟩ := r
  cases fl
  · exact Wq.run k
  all_goals exact k
theorem w_nx (k : P (.nx, e)) : Wq (fNx e) P Z := ⟨k⟩
theorem w_asg (a : f e = .ok (h, e1)) (p : h.esc e1 = .ok (d, e2)) (k : P (.nx, e2.set i (.val d))) : Wq (fAsg f (gSet i) e) P Z := by
  refine ⟨?_⟩
  simp only [fAsg, a, p, gSet, Rs.ok_bind, of_some]; exact k
theorem w_setO {f : En → Rs (D × En)} (a : f e = .ok (d, e1)) (k : P (.nx, e1.set i (.own d))) : Wq (fSetO i f e) P Z := by
  refine ⟨?_⟩
  simp only [fSetO, a, Rs.ok_bind]; exact k
theorem w_if (a : c e = .ok (b, e1)) (k : b = true → Wq (s e1) P Z) (l : b = false → Wq (t e1) P Z) : Wq (fIfS c s t e) P Z := by
  refine ⟨?_⟩
  simp only [fIfS, a, Rs.ok_bind]
  cases b with
  | true => rw [if_pos rfl]; exact (k rfl).run
  | false => rw [if_neg Bool.false_ne_true]; exact (l rfl).run
theorem w_drop (a : f e = .ok (h, e1)) (k : P (.nx, e1)) : Wq (fDrop f e) P Z := by
  refine ⟨?_⟩
  simp only [fDrop, a, Rs.ok_bind]; exact k
theorem w_retV (a : f e = .ok (h, e1)) (p : h.esc e1 = .ok (d, e1)) (k : P (.rt d, e1)) : Wq (fRet f e) P Z := by
  refine ⟨?_⟩
  simp only [fRet, a, Rs.ok_bind]
  cases h with
  | dat d' => cases p; exact k
  | slot i =>
    unfold Hd.esc at p
    simp only at p ⊢
    split at p
    · rename_i q; cases p; first | exact k | (rw [q]; exact k)
    · rename_i q
      have p1 := Rs.ok.inj p
      have p2 := congrArg (fun z => (z.2 : En)[i]?) p1
      simp only [List.getElem?_set_self (List.getElem?_eq_some_iff.mp q).1] at p2
      rw [q] at p2; cases p2
    · cases p
theorem w_retS (a : f e = .ok (.slot i, e1)) (p : e1[i]? = some (.own d)) (k : P (.ro d, e1.set i .no)) : Wq (fRet f e) P Z := by
  refine ⟨?_⟩
  simp only [fRet, a, Rs.ok_bind, p]; exact k
theorem w_retO {f : En → Rs (D × En)} (a : f e = .ok (d, e1)) (k : P (.ro d, e1)) : Wq (fRetO f e) P Z := by
  refine ⟨?_⟩
  simp only [fRetO, a, Rs.ok_bind]; exact k
theorem w_stL {fj : En → Rs (Hd × En)} {n : Int} {l : List D} {m : Nat} (a : f e = .ok (h, e1)) (p : h.esc e1 = .ok (d, e2)) (v : fVar i e2 = .ok (h3, e2)) (c : fj e2 = .ok (h2, e3)) (q : h2.get e3 = some (.int n)) (r : rootD e3 i = some (.lst l)) (o : ixN l.length n = some m) (k : P (.nx, setRoot e3 i (.lst (l.set m d)))) : Wq (fStL i fj f e) P Z := by
  refine ⟨?_⟩
  simp only [fStL, a, p, v, c, q, r, o, Rs.ok_bind]; exact k
/-- what holds behind a statement -/
theorem w_cut (I : En → Prop) (h : Wq (s e) (fun r => r.1 = .nx ∧ I r.2) Z) (k : ∀ e', I e' → Wq (t e') P Z) : Wq (fSeq s t e) P Z := by
  refine w_seq ⟨Rs.wp_mono h.run (fun r q => ?_) fun _ _ _ z => z⟩
  obtain ⟨fl, e'⟩ := r
  obtain ⟨rfl, q⟩ := q
  exact k e' q
/-- a loop without an early end -/
theorem w_for {fi : En → Rs IR} {gt : D → En → Option En} {l : List D} {k : Bool} (I : List D → En → Prop) (a : fi e = .ok (l, k, e1)) (z : I l e1)
    (st : ∀ d ds e, I (d :: ds) e → ∃ e', gt d e = some e' ∧ Wq (s e') (fun r => (r.1 = .nx ∨ r.1 = .ct) ∧ I ds r.2) (fun _ _ _ => False)) (fin : ∀ e, I [] e → P (.nx, e)) : Wq (fFor fi gt s e) P Z := by
  refine ⟨?_⟩
  have lp : ∀ (l : List D) (e : En), I l e → ∃ e', fLoop gt s l e = .ok (.nx, e') ∧ I [] e' := by
    intro l
    induction l with
    | nil => intro e q; exact ⟨e, rfl, q⟩
    | cons d ds ih =>
      intro e q
      obtain ⟨e', g1, ⟨w⟩⟩ := st d ds e q
      unfold fLoop
      rw [g1]
      simp only [of_some, Rs.ok_bind]
      cases r : s e' with
      | bad => rw [r] at w; exact w.elim
      | exc c f e => rw [r] at w; exact w.elim
      | ok r1 =>
        rw [r] at w
        obtain ⟨fl, e2⟩ := r1
        obtain ⟨w1, w2⟩ := w
        simp only [Rs.ok_bind]
        rcases w1 with w1 | w1
        · simp only at w1; subst w1; exact ih e2 w2
        · simp only at w1; subst w1; exact ih e2 w2
  obtain ⟨e', q1, q2⟩ := lp l e1 z
  simp only [fFor, a, q1, Rs.ok_bind, Rs.muteIf]
  cases k
  · rw [if_neg Bool.false_ne_true]; exact fin e' q2
  · rw [if_pos rfl]; exact fin e' q2
/-- a comprehension's turns -/
theorem w_comp {gt : D → En → Option En} {ft : En → Rs (Bool × En)} {fe : En → Rs (Hd × En)} {vs : List Nat} (I : List D → En → List D → Prop)
    (st : ∀ d ds e acc, I (d :: ds) e acc → acc.length < sizeLine ∧ ∃ e' e1 h e2 x e3, gt d e = some e' ∧ ft e' = .ok (true, e1) ∧ fe e1 = .ok (h, e2) ∧ h.esc e2 = .ok (x, e3) ∧ I ds (wipeE e3 vs) (acc ++ [x])) :
    ∀ (l : List D) (e : En) (acc : List D), I l e acc → ∃ r e', cLoop gt ft fe vs l e acc = .ok (r, e') ∧ I [] e' r
  | [], e, acc, q => ⟨acc, e, rfl, q⟩
  | d :: ds, e, acc, q => by
    obtain ⟨hz, e', e1, h, e2, x, e3, g1, g2, g3, g4, q2⟩ := st d ds e acc q
    obtain ⟨r, e4, q3, q4⟩ := w_comp I st ds _ _ q2
    refine ⟨r, e4, ?_, q4⟩
    unfold cLoop
    simp only [g1, g2, g3, g4, of_some, Rs.ok_bind, if_true, if_pos hz, q3]
/-- a def's run -/
theorem run_def {nn np : Nat} {as : List Ar} {R : Rz → Prop} (hl : as.length = np)
    (h : Wq (s (bindE 0 as ++ List.replicate (nn - as.length) .no)) (fun r => ∃ outs, outsAt r.2 0 (ioCount as) = some outs ∧ ∃ z, (match r.1 with | .nx => some (⟨false, .non, outs⟩ : Rz) | .rt d => some ⟨false, d, outs⟩ | .ro d => some ⟨true, d, outs⟩ | _ => none) = some z ∧ R z) (fun _ _ _ => False)) :
    ∃ z, runDef nn np s as = .ok z ∧ R z := by
  have h := h.run
  unfold runDef
  rw [if_pos hl]
  cases q : s (bindE 0 as ++ List.replicate (nn - as.length) .no) with
  | bad => rw [q] at h; exact h.elim
  | exc c f e => rw [q] at h; exact h.elim
  | ok r =>
    rw [q] at h
    obtain ⟨fl, e⟩ := r
    obtain ⟨outs, h1, z, h2, h3⟩ := h
    simp only at h1 h2 ⊢
    rw [h1]
    cases fl with
    | nx => cases h2; exact ⟨_, rfl, h3⟩
    | rt d => cases h2; exact ⟨_, rfl, h3⟩
    | ro d => cases h2; exact ⟨_, rfl, h3⟩
    | bk => cases h2
    | ct => cases h2
end
end Rt
set_option Elab.async false
set_option linter.all false
set_option maxRecDepth 100000
set_option maxHeartbeats 4000000
/-! stores into dicts; .get -/
namespace Rt
open PySem PySem.Spec L2
open PyProof.Rows hiding St
theorem hu1 {X : Cx} {W : Wsh} {k : Nat} (Y : Hy X W k) : X.A.units + 1 < cLine := Nat.lt_of_le_of_lt (Nat.add_le_add_left (by decide) _) Y.un
def dPutD : D → D → D → Option D
  | .dct l, .int i, v => if l.length < sizeLine then some (.dct (putD l (.inl i) v)) else none
  | .dct l, .str s, v => if l.length < sizeLine then some (.dct (putD l (.inr s) v)) else none
  | .dcT l, .tup ks, v => (keysOf ks).bind fun k => if l.length < sizeLine then some (.dcT (putD l k v)) else none
  | _, _, _ => none
theorem maps_len {κ α β : Type} {l : List (κ × α)} {m : List (κ × β)} (e : l.map (·.1) = m.map (·.1)) : l.length = m.length := by
  have := congrArg List.length e
  rwa [List.length_map, List.length_map] at this
theorem dPut_ok {K : PySem.W.Frag} {mg : Str → Option Value} {F : Fr} {G : Hp} {σ : L2.St} {env : En} {H : Hp} (R : Rep K mg F G σ env H) {a : Addr} {y v : V} {d p q d' : D} (rt : Root K mg G H a d) (cy : Cur K mg G H y p) (dv : DV K mg G v q) (e : dPutD d p q = some d') :
    ∃ ob, DPut H a y v (upd H a ob) ∧ Root K mg G (upd H a ob) a d' := by
  unfold dPutD at e
  split at e
  · split at e
    · rename_i hz
      cases e
      cases cur_int cy
      cases rt with
      | @dct ks dk h e1 l =>
        obtain ⟨m1, m2⟩ := put_ok (k := Sum.inl _) e1 l dv
        exact ⟨_, .inl ⟨_, .inl _, h, rfl, by rw [maps_len e1]; exact hz, rfl⟩, .dct upd_same m1 m2⟩
    · cases e
  · split at e
    · rename_i hz
      cases e
      cases cur_str cy
      cases rt with
      | @dct ks dk h e1 l =>
        obtain ⟨m1, m2⟩ := put_ok (k := Sum.inr _) e1 l dv
        exact ⟨_, .inl ⟨_, .inr _, h, rfl, by rw [maps_len e1]; exact hz, rfl⟩, .dct upd_same m1 m2⟩
    · cases e
  · rename_i l ds
    cases z : keysOf ds with
    | none => rw [z] at e; cases e
    | some kk =>
      rw [z] at e
      have e : (if l.length < sizeLine then some (D.dcT (putD l kk q)) else none) = some d' := e
      split at e
      · rename_i hz
        cases e
        obtain ⟨b, xs, rfl, hb, hd⟩ := cur_tup R cy
        cases rt with
        | @dcT ks dk h e1 l =>
          obtain ⟨m1, m2⟩ := put_ok (k := kk) e1 l dv
          exact ⟨_, .inr ⟨_, kk, b, h, rfl, by rw [hb, keysOf_v hd z], by rw [maps_len e1]; exact hz, rfl⟩, .dcT upd_same m1 m2⟩
      · cases e
  · cases e
/-- d[k] = v -/
def fStD (i : Nat) (fj fv : En → Rs (Hd × En)) : En → Rs (Fl × En) := fun e => fv e >>= fun r => r.1.esc r.2 >>= fun v => fVar i v.2 >>= fun _ => fj v.2 >>= fun s => Rs.of (s.1.get s.2) >>= fun p => Rs.of (rootD s.2 i) >>= fun d => Rs.of (dPutD d p v.1) >>= fun d' => .ok (.nx, setRoot s.2 i d')
section
variable {X : Cx} {W : Wsh} {k : Nat} {a b c e : Expr} {fa fb fc fe : En → Rs (Hd × En)} {pos : Pos}
theorem pst_dput {st : Stmt} {i : Nat} (h : ∀ {tv tj : TE}, PE X e tv → PE X a tj → PS X st (sDPut (tVar i) tj tv)) (hj : PB X W a fa) (hv : PB X W e fe) : PSt X W st (fStD i fa fe) :=
  fun F => ps_weak (h (hv F) (hj F)) fun D σ H q => by
  obtain ⟨G, env, R, q⟩ := q
  refine ⟨G, env, R, Rs.wp_mono (Rs.wp_bind.mp q) (fun r q v G1 H1 g1 R1 o1 => ?_) fun _ _ _ z => z.zx .refl⟩
  obtain ⟨r2, G2, q, g2, R2, dv⟩ := wp_esc R1 o1 (Rs.wp_bind.mp q)
  have q := Rs.wp_bind.mp q
  unfold fVar at q
  cases hs : r2.2[i]? with
  | none => rw [hs] at q; exact q.elim
  | some s =>
    rw [hs] at q
    have sl := R2.sl i s hs
    have go : ∀ {y : V}, σ[i]? = some (some y) → ((fa r2.2).wp (fun s => (Rs.of (s.1.get s.2) >>= fun p => Rs.of (rootD s.2 i) >>= fun d => Rs.of (dPutD d p r2.1) >>= fun d' => (.ok (.nx, setRoot s.2 i d') : Rs (Fl × En))).wp (FlOk X.K X.mg F G D) (ZS X.K X.mg W F G)) (ZS X.K X.mg W F G)) →
        ∃ v', σ[i]? = some (some v') ∧ tB X.K X.mg W F fa σ H1 fun y H3 => ∃ a H4, v' = .ref a ∧ DPut H3 a y v H4 ∧ D.nx σ H4 := by
      intro y hy q
      refine ⟨y, hy, G2, r2.2, R2, Rs.wp_mono q (fun s q w G3 H3 g3 R3 o3 => ?_) fun _ _ _ z => z.zx (g1.trans g2)⟩
      obtain ⟨p, hp, q⟩ := wp_of (Rs.wp_bind.mp q)
      obtain ⟨d, hd, q⟩ := wp_of (Rs.wp_bind.mp q)
      obtain ⟨d', hd', q⟩ := wp_of (Rs.wp_bind.mp q)
      obtain ⟨x, s', es, z, rt, hs'⟩ := root_slot R3 hd
      rw [hy] at z; cases z
      obtain ⟨ob, pt, rt'⟩ := dPut_ok R3 rt (o3.cur R3 hp) (dv.mono g3) hd'
      exact ⟨x, _, rfl, pt, q σ G3 _ ((g1.trans g2).trans g3) (write_slot R3 es hy hs' rt')⟩
    cases s with
    | no => exact q.elim
    | val d => obtain ⟨y, hy, _⟩ := sl; exact go hy (Rs.wp_bind.mp q)
    | own d => obtain ⟨y, hy, _⟩ := sl; exact go hy (Rs.wp_bind.mp q)
    | io n d => obtain ⟨y, hy, _⟩ := sl; exact go hy (Rs.wp_bind.mp q)
/-- d.get(k, x) -/
def fGet (fd fk fx : En → Rs (Hd × En)) : En → Rs (Hd × En) := fun e => fd e >>= fun r => Rs.of (r.1.get r.2) >>= fun d0 => match d0 with
  | .dct _ | .dcT _ => fk r.2 >>= fun s => fx s.2 >>= fun t => Rs.of (r.1.get t.2) >>= fun d => Rs.of (s.1.get t.2) >>= fun p => Rs.of (dLook d p) >>= fun o => match o with
    | some v => .ok (.dat v, t.2)
    | none => .ok (t.1, t.2)
  | _ => .bad
end
end Rt
set_option Elab.async false
set_option linter.all false
set_option maxRecDepth 100000
set_option maxHeartbeats 4000000
/-! .get, a, b = x, y -/
namespace Rt
open PySem PySem.Spec L2
open PyProof.Rows hiding St
theorem dic_is {K : PySem.W.Frag} {mg : Str → Option Value} {F : Fr} {G : Hp} {σ : L2.St} {env : En} {H : Hp} (R : Rep K mg F G σ env H) {x : V} {d : D} (c : Cur K mg G H x d) (h : (∃ l, d = .dct l) ∨ ∃ l, d = .dcT l) : ∃ a, x = .ref a ∧ IsD H a := by
  rcases h with ⟨l, rfl⟩ | ⟨l, rfl⟩
  · obtain ⟨a, ks, rfl, hr, _, _⟩ := cur_dct R c
    exact ⟨a, rfl, .inl ⟨ks, hr⟩⟩
  · obtain ⟨a, ks, rfl, hr, _, _⟩ := cur_dcT R c
    exact ⟨a, rfl, .inr ⟨ks, hr⟩⟩
section
variable {X : Cx} {W : Wsh} {k : Nat} {a b c e call : Expr} {fa fb fc fe : En → Rs (Hd × En)} {pos : Pos}
theorem pb_get (h : ∀ {td ty tx : TE}, PE X a td → PE X b ty → PE X c tx → PE X call (tDGet2 td ty tx)) (ha : PB X W a fa) (hb : PB X W b fb) (hc : PB X W c fc) : PB X W call (fGet fa fb fc) :=
  fun F => pe_weak (h (ha F) (hb F) (hc F)) fun σ H Q q => by
  obtain ⟨G, env, R, q⟩ := q
  refine ⟨G, env, R, Rs.wp_mono (Rs.wp_bind.mp q) (fun r q x G1 H1 g1 R1 o1 => ?_) fun _ _ _ z => z⟩
  obtain ⟨d0, hd0, q⟩ := wp_of (Rs.wp_bind.mp q)
  have go : ∀ (_ : (∃ l, d0 = .dct l) ∨ ∃ l, d0 = .dcT l), (fb r.2 >>= fun s => fc s.2 >>= fun t => Rs.of (r.1.get t.2) >>= fun d => Rs.of (s.1.get t.2) >>= fun p => Rs.of (dLook d p) >>= fun o => (match o with
      | some v => .ok (.dat v, t.2)
      | none => .ok (t.1, t.2) : Rs (Hd × En))).wp (fun r => ∀ v G' H', GLe G G' → Rep X.K X.mg F G' σ r.2 H' → HdOk X.K X.mg G' σ v r.1 → Q v H') (ZX X.K X.mg W F G σ) →
      ∃ a, x = .ref a ∧ IsD H1 a ∧ tB X.K X.mg W F fb σ H1 fun y H2 => tB X.K X.mg W F fc σ H2 fun z H3 => ∃ o, DGet H3 a y o ∧ Q (o.getD z) H3 := by
    intro hd q
    obtain ⟨p, rfl, isd⟩ := dic_is R1 (o1.cur R1 hd0) hd
    refine ⟨p, rfl, isd, G1, r.2, R1, Rs.wp_mono (Rs.wp_bind.mp q) (fun s q y G2 H2 g2 R2 o2 => ?_) fun _ _ _ z => z.mono g1⟩
    refine ⟨G2, s.2, R2, Rs.wp_mono (Rs.wp_bind.mp q) (fun t q z G3 H3 g3 R3 o3 => ?_) fun _ _ _ z => z.mono (g1.trans g2)⟩
    obtain ⟨d, hd', q⟩ := wp_of (Rs.wp_bind.mp q)
    obtain ⟨ky, hk, q⟩ := wp_of (Rs.wp_bind.mp q)
    obtain ⟨o, ho, q⟩ := wp_of (Rs.wp_bind.mp q)
    obtain ⟨a', rr, e1, dg, h1, h2⟩ := dLook_ok R3 ((o1.mono (g2.trans g3)).cur R3 hd') ((o2.mono g3).cur R3 hk) ho
    cases e1
    refine ⟨rr, dg, ?_⟩
    cases o with
    | none =>
      rw [h2 rfl]
      exact q z G3 H3 ((g1.trans g2).trans g3) R3 o3
    | some v =>
      obtain ⟨w, e2, dv⟩ := h1 v rfl
      rw [e2]
      exact q w G3 H3 ((g1.trans g2).trans g3) R3 dv
  cases d0 with
  | dct l => exact go (.inl ⟨l, rfl⟩) q
  | dcT l => exact go (.inr ⟨l, rfl⟩) q
  | _ => exact q.elim
/-- x, y = a, b: from the values of both -/
def fPar (i j : Nat) (g : En → Rs (List Hd × En)) : En → Rs (Fl × En) := fun e => fItems g e >>= fun r => match r.1 with
  | [x, y] => .ok (.nx, (r.2.set i (.val x)).set j (.val y))
  | _ => .bad
theorem pst_par {i j : Nat} {x y : Str} {px py pt : Pos} {kt k2 pt2} {g : En → Rs (List Hd × En)} (Y : Hy X W k) (hi : X.N[i]? = some x) (hj : X.N[j]? = some y) (hij : i ≠ j)
    (hx : X.env.scope.names.lookup x = some .local) (hy : X.env.scope.names.lookup y = some .local) (ha : PAs X W [a, b] g)
    (hw : swappedStores [.Tuple [.Name x px, .Name y py] kt pt] (.Tuple [a, b] k2 pt2) X.env = pure (some [x, y]))
    (hs : swapsWithSole [.Tuple [.Name x px, .Name y py] kt pt] (.Tuple [a, b] k2 pt2) pos.line X.env = pure false := by rfl) :
    PSt X W (.Assign [.Tuple [.Name x px, .Name y py] kt pt] (.Tuple [a, b] k2 pt2) pos) (fPar i j g) :=
  fun F => ps_weak (ps_par Y.calm Y.nd hi hj hij hx hy (ha F) hw hs) fun D σ H q => by
  obtain ⟨G, env, R, q⟩ := q
  have q := Rs.wp_bind.mp q
  have q : (fItems g env).wp (fun r => (match r.1 with
    | [x, y] => (.ok (.nx, (r.2.set i (.val x)).set j (.val y)) : Rs (Fl × En))
    | _ => .bad).wp (FlOk X.K X.mg F G D) (ZS X.K X.mg W F G)) (ZX X.K X.mg W F G σ) := Rs.wp_mono q (fun _ z => z) fun _ _ _ z => z.zx .refl
  refine items_of R q fun r vs G1 H1 q g1 R1 dv => ?_
  split at q
  · rename_i u v e
    rw [e] at dv
    cases dv with
    | cons d1 t =>
      cases t with
      | cons d2 t =>
        cases t
        exact ⟨_, _, rfl, q _ G1 H1 g1 ((R1.setV d1).setV d2)⟩
  · exact q.elim
end
end Rt
set_option Elab.async false
set_option linter.all false
set_option maxRecDepth 100000
set_option maxHeartbeats 4000000
/-! max, min of two; tuple(x), dict(d), list(d) -/
namespace Rt
open PySem PySem.Spec L2
open PyProof.Rows hiding St
section
variable {X : Cx}
def dMax2 : List D → Option D
  | [.int i, .int j] => some (.int (if j > i then j else i))
  | _ => none
def dMin2 : List D → Option D
  | [.int i, .int j] => some (.int (if j < i then j else i))
  | _ => none
theorem cd_max2 : CallD X (fun xs H Q => ∃ i j, xs = [.int i, .int j] ∧ Q (.int (if j > i then j else i)) H) dMax2 := by
  intro F G σ env H vs ds d Q R c e k
  unfold dMax2 at e
  split at e
  · cases e
    obtain ⟨v, w, rfl, c1, c2⟩ := curs2 c
    cases cur_int c1; cases cur_int c2
    exact ⟨_, _, rfl, k _ G H .refl R .int⟩
  · cases e
theorem cd_min2 : CallD X (fun xs H Q => ∃ i j, xs = [.int i, .int j] ∧ Q (.int (if j < i then j else i)) H) dMin2 := by
  intro F G σ env H vs ds d Q R c e k
  unfold dMin2 at e
  split at e
  · cases e
    obtain ⟨v, w, rfl, c1, c2⟩ := curs2 c
    cases cur_int c1; cases cur_int c2
    exact ⟨_, _, rfl, k _ G H .refl R .int⟩
  · cases e
/-- tuple(l) of a list that stands: a new tuple, which is data at once -/
def dTuple : List D → Option D
  | [.lst l] => some (.tup l)
  | _ => none
theorem cd_tuple : CallD X (fun xs H Q => ∃ p ys, xs = [.ref p] ∧ ((SqL X.K H p ys ∧ ∀ l, H l = none → Q (.ref l) (upd H l (.tup ys))) ∨ (SqT X.K H p ys ∧ Q (.ref p) H))) dTuple := by
  intro F G σ env H vs ds d Q R c e k
  unfold dTuple at e
  split at e
  · cases e
    obtain ⟨v, rfl, cu⟩ := curs1 c
    obtain ⟨a, xs, rfl, ha, l⟩ := cur_lst R cu
    refine ⟨a, xs, rfl, .inl ⟨.of ha, fun q hq => ?_⟩⟩
    obtain ⟨G', g, R', dv⟩ := newT R l hq
    exact k _ G' _ g R' dv
  · cases e
/-- dict(d): a copy, the caller's own -/
def dDict : List D → Option D
  | [.dct l] => some (.dct l)
  | _ => none
theorem co_dict : CallO X (fun xs H Q => ∃ (a : Addr) (kvs : List (Key × V)), xs = [.ref a] ∧ Rd H a (.dK kvs) ∧ ∀ p, H p = none → Q (.ref p) (upd H p (.dK kvs))) dDict := by
  intro F G σ env H vs ds d Q R c e k
  unfold dDict at e
  split at e
  · cases e
    obtain ⟨v, rfl, cu⟩ := curs1 c
    obtain ⟨a, ks, rfl, hr, e1, l⟩ := cur_dct R cu
    exact ⟨a, ks, rfl, hr, fun q hq => own_new R hq (.dct upd_same e1 l) k⟩
  · cases e
/-- list(d): the keys -/
def dKeys : List D → Option D
  | [.dct l] => some (.lst (l.map fun p => keyD p.1))
  | _ => none
theorem keys_dv {K : PySem.W.Frag} {mg : Str → Option Value} {G : Hp} : ∀ {ks : List (Key × V)} {dk : List (Key × D)}, ks.map (·.1) = dk.map (·.1) → DVs K mg G (ks.map fun kv => kV kv.1) (dk.map fun p => keyD p.1) := by
  intro ks dk e
  have h1 : (ks.map fun kv => kV kv.1) = (ks.map (·.1)).map kV := by rw [List.map_map]; rfl
  have h2 : (dk.map fun p => keyD p.1) = (dk.map (·.1)).map keyD := by rw [List.map_map]; rfl
  rw [h1, h2, e]
  exact keysD_v _
theorem co_keys : CallO X (fun xs H Q => ∃ (a : Addr) (kvs : List (Key × V)), xs = [.ref a] ∧ Rd H a (.dK kvs) ∧ ∀ p, H p = none → Q (.ref p) (upd H p (.lst (kvs.map fun kv => kV kv.1)))) dKeys := by
  intro F G σ env H vs ds d Q R c e k
  unfold dKeys at e
  split at e
  · cases e
    obtain ⟨v, rfl, cu⟩ := curs1 c
    obtain ⟨a, ks, rfl, hr, e1, l⟩ := cur_dct R cu
    exact ⟨a, ks, rfl, hr, fun q hq => own_new R hq (.lst upd_same (keys_dv e1)) k⟩
  · cases e
end
end Rt
set_option Elab.async false
set_option linter.all false
set_option maxRecDepth 100000
set_option maxHeartbeats 4000000
/-! sorted of texts and of a dict's names -/
namespace Rt
open PySem PySem.Spec L2
open PyProof.Rows hiding St
theorem perm_sorted_eq {α : Type} {r : α → α → Prop} (anti : ∀ a b, r a b → r b a → a = b) : ∀ {l m : List α}, l.Perm m → l.Pairwise r → m.Pairwise r → l = m
  | [], m, p, _, _ => p.nil_eq
  | a :: l, [], p, _, _ => absurd p.length_eq (by simp)
  | a :: l, b :: m, p, h, k => by
    have e : a = b := by
      have ha := p.mem_iff.mp (List.mem_cons_self (a := a) (l := l))
      have hb := p.mem_iff.mpr (List.mem_cons_self (a := b) (l := m))
      rcases List.mem_cons.mp ha with e | ha
      · exact e
      · rcases List.mem_cons.mp hb with e | hb
        · exact e.symm
        · exact anti a b ((List.pairwise_cons.mp h).1 b hb) ((List.pairwise_cons.mp k).1 a ha)
    subst e
    rw [perm_sorted_eq anti (List.Perm.cons_inv p) (List.pairwise_cons.mp h).2 (List.pairwise_cons.mp k).2]
/-- a stands before b or is b -/
def leS (a b : Str) : Bool := !ltCps b.cps.toList a.cps.toList
theorem leS_iff (a b : Str) : leS a b = true ↔ a.cps.toList ≤ b.cps.toList := by
  unfold leS
  rw [PyProof.Rows.ltCps_eq, Bool.not_eq_true', decide_eq_false_iff_not]
  exact Iff.rfl
theorem leS_trans (a b c : Str) (h : leS a b = true) (k : leS b c = true) : leS a c = true := by
  rw [leS_iff] at h k ⊢
  exact List.le_trans h k
theorem leS_total (a b : Str) : (leS a b || leS b a) = true := by
  rw [Bool.or_eq_true, leS_iff, leS_iff]
  exact List.le_total _ _
theorem leS_anti (a b : Str) (h : leS a b = true) (k : leS b a = true) : a = b := by
  rw [leS_iff] at h k
  have e := List.le_antisymm h k
  cases a; cases b
  simp only at e
  rw [Array.toList_inj] at e
  rw [e]
def sortStr (xs : List Str) : List Str := xs.mergeSort leS
theorem sortStr_perm (xs : List Str) : (sortStr xs).Perm xs := List.mergeSort_perm xs leS
theorem sortStr_pw (xs : List Str) : (sortStr xs).Pairwise fun a b => leS a b = true := List.pairwise_mergeSort leS_trans leS_total xs
theorem rising_pw : ∀ (l : List Str) (p : Str), risingS p l = true → (∀ y ∈ l, leS p y = true) ∧ l.Pairwise fun a b => leS a b = true
  | [], _, _ => ⟨fun _ m => absurd m List.not_mem_nil, .nil⟩
  | x :: l, p, h => by
    unfold risingS at h
    rw [Bool.and_eq_true] at h
    obtain ⟨h1, h2⟩ := rising_pw l x h.2
    have hx : leS p x = true := h.1
    refine ⟨fun y m => ?_, List.pairwise_cons.mpr ⟨h1, h2⟩⟩
    rcases List.mem_cons.mp m with rfl | m
    · exact hx
    · exact leS_trans _ _ _ hx (h1 y m)
theorem sortedS_eq {ys xs : List Str} (p : ys.Perm xs) (h : sortedS ys = true) : ys = sortStr xs := by
  refine perm_sorted_eq (r := fun a b => leS a b = true) leS_anti (p.trans (sortStr_perm xs).symm) ?_ (sortStr_pw xs)
  cases ys with
  | nil => exact .nil
  | cons y ys =>
    obtain ⟨h1, h2⟩ := rising_pw ys y h
    exact List.pairwise_cons.mpr ⟨h1, h2⟩
theorem strs_dv {K : PySem.W.Frag} {mg : Str → Option Value} {G : Hp} : ∀ xs : List Str, DVs K mg G (xs.map V.str) (xs.map D.str)
  | [] => .nil
  | x :: l => .cons .str (strs_dv l)
/-- the names of a dict, where all are texts -/
def strKeys : List (Key × D) → Option (List Str)
  | [] => some []
  | (.inr s, _) :: l => (strKeys l).map (s :: ·)
  | (.inl _, _) :: _ => none
theorem strKeys_eq : ∀ {l : List (Key × D)} {xs : List Str}, strKeys l = some xs → l.map (·.1) = xs.map Sum.inr
  | [], xs, h => by cases h; rfl
  | (.inl i, d) :: l, xs, h => by cases h
  | (.inr s, d) :: l, xs, h => by
    unfold strKeys at h
    cases q : strKeys l with
    | none => rw [q] at h; cases h
    | some ys =>
      rw [q] at h; cases h
      rw [List.map_cons, List.map_cons, strKeys_eq q]
section
variable {X : Cx}
def dSortedS : List D → Option D
  | [.lst l] => (strsOf l).bind fun xs => if xs.length < 64 then some (.lst ((sortStr xs).map .str)) else none
  | _ => none
theorem co_sortedS : CallO X (rSortedS X.K) dSortedS := by
  intro F G σ env H vs ds d Q R c e k
  unfold dSortedS at e
  split at e
  · rename_i l
    cases z : strsOf l with
    | none => rw [z] at e; cases e
    | some xs =>
      rw [z] at e
      have e : (if xs.length < 64 then some (D.lst ((sortStr xs).map .str)) else none) = some d := e
      split at e
      · rename_i h64
        cases e
        obtain ⟨v, rfl, cu⟩ := curs1 c
        obtain ⟨a, us, rfl, ha, l⟩ := cur_lst R cu
        have hu := strs_v l z
        refine ⟨a, xs, rfl, .inl (.inl (by rw [← hu]; exact ha)), h64, fun ys p hp hs hn => ?_⟩
        rw [sortedS_eq hp hs]
        exact own_new R hn (.lst upd_same (strs_dv _)) k
      · cases e
  · cases e
def dSortedD : List D → Option D
  | [.dct l] => (strKeys l).bind fun xs => if xs.length < 64 then some (.lst ((sortStr xs).map .str)) else none
  | _ => none
theorem co_sortedD : CallO X (fun xs H Q => ∃ (a : Addr) (kvs : List (Key × V)) (ks : List Str), xs = [.ref a] ∧ Rd H a (.dK kvs) ∧ kvs.map (·.1) = ks.map Sum.inr ∧ ks.length < 64 ∧
    ∀ ys p, ys.Perm ks → sortedS ys = true → H p = none → Q (.ref p) (upd H p (.lst (ys.map V.str)))) dSortedD := by
  intro F G σ env H vs ds d Q R c e k
  unfold dSortedD at e
  split at e
  · rename_i l
    cases z : strKeys l with
    | none => rw [z] at e; cases e
    | some xs =>
      rw [z] at e
      have e : (if xs.length < 64 then some (D.lst ((sortStr xs).map .str)) else none) = some d := e
      split at e
      · rename_i h64
        cases e
        obtain ⟨v, rfl, cu⟩ := curs1 c
        obtain ⟨a, ks, rfl, hr, e1, l⟩ := cur_dct R cu
        refine ⟨a, ks, xs, rfl, hr, by rw [e1]; exact strKeys_eq z, h64, fun ys p hp hs hn => ?_⟩
        rw [sortedS_eq hp hs]
        exact own_new R hn (.lst upd_same (strs_dv _)) k
      · cases e
  · cases e
end
end Rt
set_option Elab.async false
set_option linter.all false
set_option maxRecDepth 100000
set_option maxHeartbeats 4000000
/-! the pairs of a dict whose keys are tuples -/
namespace Rt
open PySem PySem.Spec L2
open PyProof.Rows hiding St
section
variable {X : Cx} {pins : List (Addr × Obj)} {σ : L2.St} {H : Hp} {s : Shared} {p : Addr} {ob : Obj}
/-- what stands at a locked dict of tuple keys -/
theorem frz_pairs {ks : List (List Key × V)} (I : Inv X pins σ H s) (h : H p = some (.frz ob (.dT ks))) :
    (p == sysModules) = false ∧ s.heap.get? p = some ob ∧ ob.ExactDict ∧ ∃ (rows : Array DictEntry) (n : Nat), ob.data = .dict rows n ∧ rows.size = ks.length ∧
      ∀ (j : Nat) (k : List Key) (v : V), ks[j]? = some (k, v) → ∃ (r : DictEntry) (q : Addr), rows[j]? = some r ∧ r.key = .ref q ∧ H q = some (.tup (k.map kV)) ∧ RelV v r.val := by
  obtain ⟨e0, _, ns, xs, pr, o2, rows, n, q1, q2, q3, q4, _⟩ := I.hok p _ h
  rw [e0] at q1
  cases q1
  refine ⟨ns, e0, q2, rows, n, q3, ?_, fun j k v e => ?_⟩
  · have a1 := size_of_entries q4
    have a2 : ks.length = xs.length := Paired.length pr
    omega
  · obtain ⟨b, hb, e1, e2, e3⟩ := paired_get pr e
    have en := entry_at q4 j
    rw [hb] at en
    exact ⟨_, b.2.1, en, rfl, e2, e3⟩
end
/-- the pairs, each a new tuple of the key's own tuple and the value -/
def ItP (p : Addr) (ob : Obj) (ks : List (List Key × V)) : It :=
  ⟨fun j H => H p = some (.frz ob (.dT ks)) ∧ j < ks.length, fun j H x H' => ∃ (t q : Addr) (k : List Key) (v : V), ks[j]? = some (k, v) ∧ x = .ref t ∧ H t = none ∧ H q = some (.tup (k.map kV)) ∧ H' = upd H t (.tup [.ref q, v]), fun j H => H p = some (.frz ob (.dT ks)) ∧ ks.length ≤ j⟩
section
variable {P : Program} {w : World} {K : PySem.W.Frag} {p : Addr} {ob : Obj} {rows : Array DictEntry} {n : Nat}
theorem turn_pairs {ks : List (List Key × V)} {xs : List Expr} {kk : Nat} {tp : Pos} (it : Addr) (hdata : ob.data = .dict rows n) :
    Turn P w K (.Tuple xs kk tp) (ItP p ob ks) [it] it (fun j h => ∃ u1 u2, IsItemIter h it p j ks.length n u1 u2) where
  mem := List.mem_singleton.mpr rfl
  obj := fun j h ⟨u1, u2, e⟩ b hb => by
    cases List.mem_singleton.mp hb
    exact ⟨_, e, fun v z => nomatch z⟩
  keep := fun j h h' ⟨u1, u2, e⟩ k => ⟨u1, u2, k it (List.mem_singleton.mpr rfl) _ e⟩
  item := by
    intro X hP hw hK hc j pins s σ H E I hf ⟨u1, u2, he⟩ ⟨hl, hj⟩
    subst hP hw hK
    obtain ⟨_, e0, xd, rows', n', q3, q4, q5⟩ := frz_pairs I hl
    rw [hdata] at q3
    cases q3
    have hr : s.heap.DictRaw p rows n := ⟨ob, e0, xd, hdata⟩
    obtain ⟨⟨k, v⟩, ek⟩ : ∃ z, ks[j]? = some z := ⟨ks[j], List.getElem?_eq_getElem hj⟩
    obtain ⟨r, q, er, e1, e2, e3⟩ := q5 j k v ek
    have hj' : j < rows.size := by omega
    have erj : rows[j] = r := by
      rw [Array.getElem?_eq_getElem hj'] at er
      exact Option.some.inj er
    rw [← q4] at he
    have low : it < s.heap.objs.size := Heap.lt_size he
    refine wpAny_pyNext_items_item_raw he hr hj' fun h1 out made sz old => ?_
    rw [erj] at out made
    refine ⟨_, rfl, wpAny_letOwnedTupleGo_items (s := { s with heap := h1 }) out fun h2 back same => ?_⟩
    have made2 := (same.2 _ (Nat.ne_of_gt low)).trans made
    have fresh := I.hok.fresh (Nat.le_refl s.heap.objs.size)
    have obok : ObjOk X.prog X.w (upd H s.heap.objs.size (.tup [.ref q, v])) h2 s.heap.objs.size (.tup [.ref q, v]) :=
      ⟨(by decide : (2 : Nat) ≤ sizeLine), [r.key, r.val], .cons e1 (.cons e3 .nil), ⟨_, made2, rfl, _, rfl⟩⟩
    refine ⟨.ref s.heap.objs.size, _, I.turnedNew (t' := s.toks) (ch := [it]) (fun b o hb e => ?_) hf (Nat.le_refl _) obok, rfl, ⟨_, q, k, v, ek, rfl, fresh, e2, rfl⟩, ⟨r.key, r.val, ?_⟩, fun b hb => ?_⟩
    · have hb : b ≠ it := fun z => hb (List.mem_singleton.mpr z)
      exact (same.2 b hb).trans (old b o hb e)
    · rw [← q4]; exact back
    · cases List.mem_singleton.mp hb
      rw [upd_ne (Nat.ne_of_lt low)]
      exact (hf it (List.mem_singleton.mpr rfl)).1
  done := by
    intro X hP hw hK hc j pins s σ H E I hf ⟨u1, u2, he⟩ ⟨hl, hj⟩
    subst hP hw hK
    obtain ⟨f0, f1, f2, f3, f4, f5⟩ := hf it (List.mem_singleton.mpr rfl)
    obtain ⟨_, e0, xd, rows', n', q3, q4, _⟩ := frz_pairs I hl
    rw [hdata] at q3
    cases q3
    rw [← q4] at he
    exact wpAny_pyNext_items_end_raw (I.ok.hd hc) he ⟨ob, e0, xd, hdata⟩ (by omega) fun h' eb => ⟨rfl, I.turned (t' := s.toks) (fun b o hb e => eb b o hb e) f0 f1 f3 f4 f5⟩
  self := fun A j s Q E ⟨u1, u2, e⟩ h => PySem.W.kcp_self e h
end
section
variable {X : Cx} {e : Expr} {td : TE} {apos cpos : Pos}
/-- d.items(), d a locked dict of tuple keys -/
def iPairs (td : TE) : TI := fun σ H R => td σ H fun x H1 => ∃ p ob ks, x = .ref p ∧ H1 p = some (.frz ob (.dT ks)) ∧ R (ItP p ob ks) H1
theorem pi_pairs {xs : List Expr} {kk : Nat} {tp : Pos} (he : PE X e td) (hbase : attributeBase e "items" X.env (eval e X.env) = eval e X.env := by rfl) (hline : (apos.endLine == cpos.line) = true := by rfl) :
    PI X (.Tuple xs kk tp) (.Call (.Attribute e "items" apos) [] [] cpos) (iPairs td) := ⟨fun pins s σ H R I h => by
  refine wpAny_Call_method (T := "dict") (id := "dict.items") hbase rfl hline PySem.F.plainAttrs_dict PySem.F.slot_dict_items PySem.F.type_dict_items (thn (he.run pins s σ H _ I h) fun u s1 z => ?_)
  obtain ⟨x, H1, I1, rx, p, ob, ks, rfl, hl, q⟩ := z
  obtain rfl : u = Value.ref p := rx
  obtain ⟨ns, e0, xd, rows, n, q3, q4, _⟩ := frz_pairs I1 hl
  have hr : s1.heap.DictRaw p rows n := ⟨ob, e0, xd, q3⟩
  refine ⟨hr.typeIs, fun b z => ?_, ?_⟩
  · cases z
    exact ⟨ob, e0, xd.2.1⟩
  let s2 : Shared := { s1 with heap := s1.heap.push { cls := .type "dict_items", data := .fields #[.ref p] } }
  have I2 : Inv X pins σ H1 s2 := I1.kept (t' := s1.toks) fun b o z => Heap.get?_push_of_some _ z
  have fin : wpAny (model X.prog X.w) X.A (pyIter (.ref s1.heap.objs.size)) (PIE X pins σ (.Tuple xs kk tp) R) X.xe s2 := by
    refine wpAny_pyIter_items_raw (d := p) ⟨_, Heap.get?_push_size _ rfl, rfl, rfl⟩ (hr.at fun o z => Heap.get?_push_of_some _ z) (pi_one (tk := s1.toks) I2 _ (turn_pairs _ q3) ⟨.none, .none, ?_⟩ q)
    rw [← q4]
    exact Heap.get?_push_size _ rfl
  show wpAny _ _ (callWith cpos (.builtin "dict.items") [.ref p] [] []) _ X.xe s1
  exact method_meetsIn PySem.F.slot_dict_items PySem.F.entry_dict_items rfl (PySem.evalArgs_none ⟨rfl, hr.typeIs, PySem.F.args_dict_items_1 _, _, meets_dict_items_raw p ns, ⟨rows, n, hr⟩, fin⟩)⟩
end
end Rt
set_option Elab.async false
set_option linter.all false
set_option maxRecDepth 100000
set_option maxHeartbeats 4000000
/-! for (k, v) in d.items(), d with any keys -/
namespace Rt
open PySem PySem.Spec L2
open PyProof.Rows hiding St
section
variable {X : Cx} {W : Wsh} {k : Nat} {a b c e : Expr} {fa fb fc fe : En → Rs (Hd × En)} {pos : Pos}
/-- the lock of a dict that is to be walked, where none lies yet: the walk mk b, with what it yields -/
theorem lock_any {u : HO} {F : Fr} {G2 H1 : Hp} {σ : L2.St} {e2 : En} {p : Addr} {C : Obj → Hp → Prop} (hu : isDic u = true) (hm : Mut (some u)) (R2 : Rep X.K X.mg F G2 σ e2 H1) (hg : Rd G2 p u)
    (q : ∀ b F' H', LkD X true F F' → Rep X.K X.mg F' G2 σ e2 H' → H' p = some (.frz b u) → (∀ ts G' σ' env H'', GLe G2 G' → Rep X.K X.mg (F'.wts ts) G' σ' env H'' → H'' p = some (.frz b u)) → C b H') :
    (∃ b, H1 p = some (.frz b u) ∧ C b H1) ∨ (H1 p = some u ∧ ∀ od, (∀ o u, X.H_0 p ≠ some (.frz o u)) → C od (upd H1 p (.frz od u))) := by
  rcases hg with hg | ⟨b, hg⟩
  · rcases R2.gh _ _ hg with hh | ⟨_, b, hb, hc⟩
    · right
      refine ⟨hh, fun od n => ?_⟩
      have nl := R2.nolk hh hu
      refine q od (F.lock p od) _ (.inr ⟨rfl, p, od, rfl, nl, n⟩) (R2.lock hg hh hu) upd_same fun ts G' σ' env H' g' R' => ?_
      obtain ⟨o, h1, _, h3⟩ := R'.lkg p od lock_self
      rw [g' _ _ hg] at h1; cases h1
      exact h3
    · left
      refine ⟨b, hb, q b F H1 (.inl rfl) R2 hb fun ts G' σ' env H' g' R' => ?_⟩
      rcases hc with hc | hc
      · obtain ⟨o, h1, _, h3⟩ := R'.lkg p b hc
        rw [g' _ _ hg] at h1; cases h1
        exact h3
      · have nw : p ∉ F.ws := fun w => by
          obtain ⟨o, h1, h2⟩ := R'.wsd p w
          have h1 : F.H0 p = some o := h1
          rw [hc] at h1; cases h1; cases h2
        have nl : F.lk p = none := by
          cases y : F.lk p with
          | none => rfl
          | some b' =>
            obtain ⟨o, h1, _, h3⟩ := R2.lkg p b' y
            have h4 := (R2.base p _ hc nw).2 b' y
            rw [h3] at h4; cases h4
            rw [hg] at h1; cases h1
        exact (R'.base p _ hc nw).1 nl
  · left
    exact ⟨b, gh_of R2 hg rfl, q b F H1 (.inl rfl) R2 (gh_of R2 hg rfl) fun ts G' σ' env H' g' R' => gh_of R' (g' _ _ hg) rfl⟩
def pairK (p : Key × D) : D := .tup [keyD p.1, p.2]
def pairT (p : List Key × D) : D := .tup [.tup (p.1.map keyD), p.2]
def dItems : D → Option (List D)
  | .dct l => some (l.map pairK)
  | .dcT l => some (l.map pairT)
  | _ => none
theorem dvs_at {K : PySem.W.Frag} {mg : Str → Option Value} {G : Hp} {κ : Type} : ∀ {ks : List (κ × V)} {dk : List (κ × D)} {i : Nat} {k : κ} {v : V}, ks.map (·.1) = dk.map (·.1) → DVs K mg G (ks.map (·.2)) (dk.map (·.2)) → ks[i]? = some (k, v) → ∃ d, dk[i]? = some (k, d) ∧ DV K mg G v d
  | [], _, i, k, v, _, _, h => by simp at h
  | _ :: _, [], _, _, _, e, _, _ => by cases e
  | (a, x) :: ks, (b, y) :: dk, 0, k, v, e, l, h => by
    have e1 : a = b := (List.cons.inj e).1
    cases h; subst e1
    cases l with
    | cons h t => exact ⟨y, rfl, h⟩
  | (a, x) :: ks, (b, y) :: dk, i + 1, k, v, e, l, h => by
    cases l with
    | cons h0 t => exact dvs_at (i := i) (List.cons.inj e).2 t h
def fItms (f : En → Rs (Hd × En)) : En → Rs IR := fun e => f e >>= fun r => r.1.esc r.2 >>= fun q => Rs.of (dItems q.1) >>= fun i => .ok (i, true, q.2)
theorem piv_items {xs : List Expr} {kk : Nat} {tp apos cpos : Pos} (h : PB X W a fa) (hbase : attributeBase a "items" X.env (eval a X.env) = eval a X.env := by rfl) (hline : (apos.endLine == cpos.line) = true := by rfl) :
    PIv X W (.Tuple xs kk tp) (.Call (.Attribute a "items" apos) [] [] cpos) (fItms fa) := fun F => pi_weak (pi_or (pi_items (pe_lk (h F)) hbase hline) (pi_pairs (pe_lk (h F)) hbase hline)) fun σ H R q => by
  obtain ⟨G, env, Rp, q⟩ := q
  have q := Rs.wp_bind.mp q
  have fromB : ∀ (P : V → Hp → Prop), (∀ r, fa env = .ok r → ∀ v G1 H1, GLe G G1 → Rep X.K X.mg F G1 σ r.2 H1 → HdOk X.K X.mg G1 σ v r.1 → P v H1) → tB X.K X.mg W F fa σ H P := fun P hp => by
    refine ⟨G, env, Rp, ?_⟩
    cases ef : fa env with
    | bad => rw [ef] at q; exact q.elim
    | exc c fs en => rw [ef] at q; exact q
    | ok r => exact hp r ef
  cases ef : fa env with
  | bad => rw [ef] at q; exact q.elim
  | exc c fs en => exact .inl (fromB _ fun r er => by rw [ef] at er; cases er)
  | ok r =>
    rw [ef] at q
    have q : ((r.1.esc r.2 >>= fun q => Rs.of (dItems q.1) >>= fun i => .ok (i, true, q.2)) : Rs IR).wp _ _ := q
    cases es : r.1.esc r.2 with
    | bad => rw [es] at q; exact q.elim
    | exc c fs en =>
      refine .inl (fromB _ fun r' er v G1 H1 g1 R1 o1 => ?_)
      rw [ef] at er; cases er
      obtain ⟨_, _, z, _⟩ := wp_esc (P := fun _ => False) (Z := fun _ _ _ => True) R1 o1 (by rw [es]; exact True.intro)
      exact z.elim
    | ok r2 =>
      rw [es, Rs.ok_bind] at q
      obtain ⟨i, ei, q⟩ := wp_of (Rs.wp_bind.mp q)
      have esc : ∀ {v : V} {G1 H1 : Hp}, GLe G G1 → Rep X.K X.mg F G1 σ r.2 H1 → HdOk X.K X.mg G1 σ v r.1 → ∃ G2, GLe G G2 ∧ Rep X.K X.mg F G2 σ r2.2 H1 ∧ DV X.K X.mg G2 v r2.1 := fun g1 R1 o1 => by
        obtain ⟨G2, g2, R2, dv⟩ := o1.esc R1 es
        exact ⟨G2, g1.trans g2, R2, dv⟩
      obtain ⟨d, e2⟩ := r2
      cases d with
      | dct l =>
        cases ei
        refine .inl (fromB _ fun r' er v G1 H1 g1 R1 o1 => ?_)
        rw [ef] at er; cases er
        obtain ⟨G2, g2, R2, dv⟩ := esc g1 R1 o1
        cases dv with
        | @dct p ks _ hg hk dl =>
          have hl : ks.length = (l.map pairK).length := by rw [List.length_map]; exact maps_len hk
          have main := lock_any (u := .dK ks) (C := fun b H' => R (Iti p b ks) H') rfl trivial R2 hg fun b F' H' lk R3 hp st =>
            q _ _ _ _ F' G2 H' lk g2 R3 walk_items ⟨hl, fun ts G' σ' env H'' g' R' => st ts G' σ' env H'' g' R', fun ts i x H0 H4 G' σ' env hi g' R' y => by
              obtain ⟨T, k0, v0, rfl, hn, rfl, e1, e2⟩ := y
              have e1 : (ks[i]?.map fun kv => kV kv.1) = some k0 := e1
              have e2 : (ks[i]?.map Prod.snd) = some v0 := e2
              cases z : ks[i]? with
              | none => rw [z] at e1; cases e1
              | some kv =>
                obtain ⟨kk, vv⟩ := kv
                rw [z] at e1 e2
                cases e1; cases e2
                obtain ⟨dd, hd, dvv⟩ := dvs_at hk dl z
                obtain ⟨G4, g4, R4, dt⟩ := newT R' (.cons (keyD_v kk) (.cons (dvv.mono g') .nil)) hn
                exact ⟨G4, pairK (kk, dd), by rw [List.getElem?_map, hd]; rfl, g4, R4, dt⟩⟩
          rcases main with ⟨b, hb, hr⟩ | ⟨hb, hr⟩
          · exact .inl ⟨p, b, ks, rfl, hb, hr⟩
          · exact .inr ⟨p, _, rfl, hb, trivial, fun od n => ⟨p, od, ks, rfl, upd_same, hr od n⟩⟩
      | dcT l =>
        cases ei
        refine .inr (fromB _ fun r' er v G1 H1 g1 R1 o1 => ?_)
        rw [ef] at er; cases er
        obtain ⟨G2, g2, R2, dv⟩ := esc g1 R1 o1
        cases dv with
        | @dcT p ks _ hg hk dl =>
          have hl : ks.length = (l.map pairT).length := by rw [List.length_map]; exact maps_len hk
          have wk : ∀ b, Walk (ItP p b ks) ks.length (fun H => H p = some (.frz b (.dT ks))) (fun j H x H' => ∃ (t q : Addr) (k : List Key) (v : V), ks[j]? = some (k, v) ∧ x = .ref t ∧ H t = none ∧ H q = some (.tup (k.map kV)) ∧ H' = upd H t (.tup [.ref q, v])) := fun b =>
            ⟨fun _ _ hi z => ⟨z, hi⟩, fun _ z => ⟨z, Nat.le_refl _⟩, fun _ _ _ _ _ _ y => y⟩
          have main := lock_any (u := .dT ks) (C := fun b H' => R (ItP p b ks) H') rfl trivial R2 hg fun b F' H' lk R3 hp st =>
            q _ _ _ _ F' G2 H' lk g2 R3 (wk b) ⟨hl, fun ts G' σ' env H'' g' R' => st ts G' σ' env H'' g' R', fun ts i x H0 H4 G' σ' env hi g' R' y => by
              obtain ⟨t, q0, k0, v0, e1, rfl, hn, hq, rfl⟩ := y
              obtain ⟨dd, hd, dvv⟩ := dvs_at hk dl e1
              obtain ⟨G3, g3, hq3, R3'⟩ := R'.know hq
              have dq : DV X.K X.mg G3 (.ref q0) (.tup (k0.map keyD)) := .tup hq3 (keysD_v k0)
              obtain ⟨G4, g4, R4, dt⟩ := newT R3' (.cons dq (.cons (dvv.mono (g'.trans g3)) .nil)) hn
              exact ⟨G4, pairT (k0, dd), by rw [List.getElem?_map, hd]; rfl, g3.trans g4, R4, dt⟩⟩
          rcases main with ⟨b, hb, hr⟩ | ⟨hb, hr⟩
          · exact .inl ⟨p, b, ks, rfl, hb, hr⟩
          · exact .inr ⟨p, _, rfl, hb, trivial, fun od n => ⟨p, od, ks, rfl, upd_same, hr od n⟩⟩
      | _ => cases ei
/-- what is never run -/
def fNever : En → Rs (Hd × En) := fun _ => .bad
theorem pb_never : PB X W e fNever := fun F => ⟨fun pins s σ H Q I q => by
  obtain ⟨G, env, R, q⟩ := q
  exact q.elim⟩
end
end Rt
set_option Elab.async false
set_option linter.all false
set_option maxRecDepth 100000
set_option maxHeartbeats 4000000
/-! an instance is made -/
namespace Rt
open PySem PySem.Spec L2
open PyProof.Rows hiding St
section
variable {X : Cx} {k : Nat} {f C : Addr} {fd : FuncData} {ps : List Str} {sp : Sp} {E : St → XK} {x m : Str} {p pos apos : Pos} {e o : Expr} {es : List Expr} {ta : TE} {t : TA} {dvs : List V} {ds : List Value}
theorem mkG {pins : List (Addr × Obj)} {σ : St} {H : Hp} {s : Shared} {Q : VK} {us : List Value} {vs : List V} (M : Mk X.K C f) (F : FnG X.prog X.w X.K X.mg X.base k f fd ps sp) (hg : X.A.guards = some []) (hr : Room (k + 1) X.A) (hb : Binds X.K fd ps ds) (hd : Vals dvs ds)
    (hx : PassesAt (L2.CX X.prog X.w) X σ (E σ)) (I : Inv X pins σ H s) (r : Vals vs us)
    (h : ∀ a dx, H a = none → H dx = none → dx ≠ a → sp (.ref a :: (vs ++ dvs)) (upd (upd H dx (.own a)) a (.ins C dx [])) (fun v H2 => v = .non ∧ Q (.ref a) H2) (E σ)) :
    wpAny (model X.prog X.w) X.A (call (.ref C) us) (EP X pins σ Q) X.xe s := by
  let n := s.heap.objs.size
  have q1 := h (n + 1) n (I.hok.fresh (Nat.le_succ _)) (I.hok.fresh (Nat.le_refl _)) (Nat.ne_of_lt (Nat.lt_succ_self _))
  have J := Inv.made (C := C) I
  have rr : Vals (V.ref (n + 1) :: (vs ++ dvs)) (Value.ref (n + 1) :: (us ++ ds)) := .cons rfl (r.append hd)
  have hl : ((Value.ref (n + 1) :: us) ++ ds).length = ps.length := rr.length.symm.trans (F.ar _ _ _ _ q1)
  refine wpAny_call (make_map (f := f) I.kIn M.makes M.init (beq_iff_eq.mp M.fn) (codeAny_mono
    (F.go _ X.stack _ _ ⟨Value.ref (n + 1) :: us, []⟩ (Value.ref (n + 1) :: (us ++ ds)) _ _ (E σ) hg (hr.make C us []) (J.env0.make C us []) (hb _ (Value.ref (n + 1) :: us) J.kIn hl) rr q1) fun r s' z => ?_))
  match r, z with
  | .error e, z => exact hx pins _ _ e s' J z
  | .ok (.ret u), z =>
    obtain ⟨v, H', I3, rv, ev, q3⟩ := J.after z
    subst ev
    exact ⟨rv, V.ref (n + 1), H', I3, rfl, q3⟩
def tMkG (C : Addr) (sp : Sp) (dvs : List V) (E : St → XK) (t : TA) : TE := fun σ H Q => t σ H fun vs H1 => ∀ a dx, H1 a = none → H1 dx = none → dx ≠ a →
  sp (.ref a :: (vs ++ dvs)) (upd (upd H1 dx (.own a)) a (.ins C dx [])) (fun v H2 => v = .non ∧ Q (.ref a) H2) (E σ)
theorem peG_make (M : Mk X.K C f) (F : FnG X.prog X.w X.K X.mg X.base k f fd ps sp) (hg0 : X.A.guards = some []) (hr : Room (k + 1) X.A) (hg : Gl X x) (hm : X.mg x = some (.ref C)) (hb : Binds X.K fd ps ds) (hd : Vals dvs ds)
    (hx : ∀ σ, PassesAt (L2.CX X.prog X.w) X σ (E σ)) (ha : PA X (e :: es) t) (hdb : (x == ("__debug__" : Str)) = false := by decide)
    (he : starEach (e :: es) X.env = (false, eval e X.env) :: starEach es X.env := by rfl) (hpl : (backTo pos (starEach es X.env)).any (·.1) = false := by rfl) :
    PE X (.Call (.Name x p) (e :: es) [] pos) (tMkG C sp dvs E t) := ⟨fun pins s σ H Q I h =>
  wpAny_Call_Name_kw (ld_glob I hg hm (PySem.W.callWith_K (h₀ := X.base) I.ok.mod.kin M.kp
    (thn (ha.run pos pins s σ H _ I h) fun us s1 q => by
      obtain ⟨vs, H1, I1, r, q⟩ := q
      exact ⟨I1.kIn, mkG M F hg0 hr hb hd (hx σ) I1 r q⟩) he hpl) hdb)⟩
end
end Rt
set_option Elab.async false
set_option linter.all false
set_option maxRecDepth 100000
set_option maxHeartbeats 4000000
/-! an instance is made: upon data -/
namespace Rt
open PySem PySem.Spec L2
open PyProof.Rows hiding St
/-- a class's __init__ upon data, as the making of an instance -/
def mkD (c : Str) (g : List Ar → Rs Rz) : List Ar → Rs Rz := fun as => match g (.io (.obj c []) :: as) with
  | .ok ⟨false, .non, d :: outs⟩ => .ok ⟨true, d, outs⟩
  | .exc x fs (.val _ :: eo) => .exc x fs eo
  | _ => .bad
section
variable {K : PySem.W.Frag} {mg : Str → Option Value} {G H H' : Hp}
theorem ArOk.same (h : ∀ b o, H b = some o → H' b = some o) : ∀ {vs : List V} {as : List Ar} {ws : List Addr}, ArOk K mg G H vs as ws → ArOk K mg G H' vs as ws ∧ ∀ b ∈ ws, ∃ o, H b = some o
  | _, _, _, .nil => ⟨.nil, fun b m => nomatch m⟩
  | _, _, _, .val d r => by
    obtain ⟨r1, r2⟩ := ArOk.same h r
    exact ⟨.val d r1, r2⟩
  | _, _, _, .io (a := a) rt ga na r => by
    obtain ⟨r1, r2⟩ := ArOk.same h r
    obtain ⟨o, ho⟩ := rt.some
    refine ⟨.io (rt.mono .refl ((h _ _ ho).trans ho.symm)) ga na r1, fun b m => ?_⟩
    rcases List.mem_cons.mp m with rfl | m
    · exact ⟨o, ho⟩
    · exact r2 b m
theorem mk_aft {a dx C : Addr} {ws : List Addr} {d : D} {outs : List D} {G' H2 : Hp} (ha : H a = none) (hx : H dx = none) (gh : ∀ b o, G b = some o → ∃ u, H b = some u)
    (A : Aft K mg G (upd (upd H dx (.own a)) a (.ins C dx [])) (a :: ws) (d :: outs) G' H2) : Aft K mg G H ws outs G' H2 ∧ Root K mg G' H2 a d ∧ G' a = none := by
  let H1 := upd (upd H dx (.own a)) a (.ins C dx [])
  have other : ∀ b, b ≠ a → b ≠ dx → H1 b = H b := fun b n1 n2 => (upd_ne n1).trans (upd_ne n2)
  have at_a : H1 a = some (.ins C dx []) := upd_same
  have ga : G a = none := by
    cases z : G a with
    | none => rfl
    | some o => obtain ⟨u, e⟩ := gh a o z; rw [ha] at e; cases e
  have gx : G dx = none := by
    cases z : G dx with
    | none => rfl
    | some o => obtain ⟨u, e⟩ := gh dx o z; rw [hx] at e; cases e
  have g'a : G' a = none := by
    cases z : G' a with
    | none => rfl
    | some o =>
      rcases A.new a o z with q | q | ⟨q1, q2⟩
      · rw [ga] at q; cases q
      · rw [show upd (upd H dx (.own a)) a (.ins C dx []) a = some (.ins C dx []) from at_a] at q; cases q
      · rw [show upd (upd H dx (.own a)) a (.ins C dx []) a = some (.ins C dx []) from at_a] at q2; cases q2; cases q1
  have ro : Root K mg G' H2 a d ∧ OutOk K mg G' H2 ws outs := by
    cases A.outs with | cons r o => exact ⟨r, o⟩
  refine ⟨⟨A.gle, fun b o z => ?_, fun b o z => ?_, fun b o e m => ?_, fun b o e => ?_, ro.2⟩, ro.1, g'a⟩
  · by_cases n1 : b = a
    · subst n1; rw [g'a] at z; cases z
    · by_cases n2 : b = dx
      · subst n2; exact .inr (.inl hx)
      · have := A.new b o z
        rw [show upd (upd H dx (.own a)) a (.ins C dx []) b = H b from other b n1 n2] at this
        exact this
  · by_cases n1 : b = a
    · subst n1; rw [g'a] at z; cases z
    · rcases A.gh b o z with q | ⟨q1, c, q2, q3⟩
      · exact .inl q
      · by_cases n2 : b = dx
        · subst n2
          rw [show upd (upd H b (.own a)) a (.ins C b []) b = some (.own a) from (upd_ne n1).trans upd_same] at q3
          cases q3
        · rw [show upd (upd H dx (.own a)) a (.ins C dx []) b = H b from other b n1 n2] at q3
          exact .inr ⟨q1, c, q2, q3⟩
  · have n1 : b ≠ a := fun y => by rw [y, ha] at e; cases e
    have n2 : b ≠ dx := fun y => by rw [y, hx] at e; cases e
    exact A.keep b o ((other b n1 n2).trans e) fun z => (List.mem_cons.mp z).elim n1 m
  · have n1 : b ≠ a := fun y => by rw [y, ha] at e; cases e
    have n2 : b ≠ dx := fun y => by rw [y, hx] at e; cases e
    exact A.dom b o ((other b n1 n2).trans e)
theorem mk_sp {c : Str} {C a dx : Addr} {g : List Ar → Rs Rz} {vs : List V} {Q : VK} {E : XK} (hC : mg c = some (.ref C)) (h : spD K mg (mkD c g) vs H Q E) (ha : H a = none) (hx : H dx = none) (hd : dx ≠ a) :
    spD K mg g (.ref a :: vs) (upd (upd H dx (.own a)) a (.ins C dx [])) (fun v H2 => v = .non ∧ Q (.ref a) H2) E := by
  obtain ⟨G, as, ws, ⟨φ, sy⟩, gh, ao, q⟩ := h
  have ne : ∀ b o, H b = some o → b ≠ a ∧ b ≠ dx := fun b o e => ⟨(fun y => by rw [y, ha] at e; cases e), (fun y => by rw [y, hx] at e; cases e)⟩
  have old : ∀ b o, H b = some o → upd (upd H dx (.own a)) a (.ins C dx []) b = some o := fun b o e => ((upd_ne (ne b o e).1).trans (upd_ne (ne b o e).2)).trans e
  have gs : ∀ b o, G b = some o → ∃ u, H b = some u := fun b o z => (gh b o z).elim (fun y => ⟨_, y⟩) fun ⟨_, c, y⟩ => ⟨_, y⟩
  have ga : G a = none := by
    cases z : G a with
    | none => rfl
    | some o => obtain ⟨u, e⟩ := gs a o z; rw [ha] at e; cases e
  obtain ⟨ao', hw⟩ := ArOk.same old ao
  have na : a ∉ ws := fun m => by
    obtain ⟨o, e⟩ := hw a m
    rw [ha] at e; cases e
  refine ⟨G, .io (.obj c []) :: as, a :: ws, ⟨φ, old _ _ sy⟩, fun b o z => ?_, .io (.obj (fs := []) (df := []) hC upd_same rfl .nil) ga na ao', ?_⟩
  · rcases gh b o z with y | ⟨y1, c, y⟩
    · exact .inl (old _ _ y)
    · exact .inr ⟨y1, c, old _ _ y⟩
  · unfold mkD at q
    split at q
    · rename_i d outs e
      rw [e]
      intro v G' H2 A res
      rw [if_neg Bool.false_ne_true] at res
      cases res
      obtain ⟨A2, rt, g'a⟩ := mk_aft ha hx gs A
      exact ⟨rfl, q (.ref a) G' H2 A2 (by rw [if_pos rfl]; exact ⟨a, rfl, ha, g'a, rt, na⟩)⟩
    · rename_i x fs d eo e
      rw [e]
      intro G' H2 C' xd A hc xf
      have A' : Aft K mg G (upd (upd H dx (.own a)) a (.ins C dx [])) (a :: ws) (d :: outsOf eo) G' H2 := A
      exact q G' H2 C' xd (mk_aft ha hx gs A').1 hc xf
    · exact q.elim
end
end Rt
set_option Elab.async false
set_option linter.all false
set_option maxRecDepth 100000
set_option maxHeartbeats 4000000
/-! C(..): the rule; fields of an instance -/
namespace Rt
open PySem PySem.Spec L2
open PyProof.Rows hiding St
section
variable {X : Cx} {W : Wsh} {k j : Nat} {f C : Addr} {fd : FuncData} {ps : List Str} {g : List Ar → Rs Rz} {x : Str} {p pos : Pos} {e : Expr} {es : List Expr} {fA : En → Rs (List Hd × En)}
theorem po_make (M : Mk X.K C f) (Fn : FnG X.prog X.w X.K X.mg X.base j f fd ps (spD X.K X.mg g)) (hj : j + 1 ≤ k) (Y : Hy X W k) (hg : Gl X x) (hm : X.mg x = some (.ref C)) (hb : Binds X.K fd ps []) (ha : PAs X W (e :: es) fA)
    (ms : List Bool) (hdb : (x == ("__debug__" : Str)) = false := by decide) (he : starEach (e :: es) X.env = (false, eval e X.env) :: starEach es X.env := by rfl) (hpl : (backTo pos (starEach es X.env)).any (·.1) = false := by rfl) :
    PO X W (.Call (.Name x p) (e :: es) [] pos) (fUserO ms (mkD x g) fA) := fun F => pe_weak (peG_make M Fn Y.gd (Y.rm.mono hj) hg hm hb .nil Y.tk (ha F) hdb he hpl) fun σ H Q q => by
  obtain ⟨G, env, R, q⟩ := q
  have main : tCl (spD X.K X.mg (mkD x g)) [] W (tA X.K X.mg W F fA) σ H Q := by
    refine call_of (ms := ms) R (Rs.wp_bind.mp q) fun r v G' H' q g' R' res => ?_
    split at q
    · rename_i ho
      rw [if_pos ho] at res
      obtain ⟨a, rfl, h0, hg, rt, fr⟩ := res
      exact q a G' H' g' R' h0 hg rt fr
    · exact q.elim
  obtain ⟨G0, env0, R0, z⟩ := main
  exact ⟨G0, env0, R0, Rs.wp_mono z (fun r z vs G1 H1 g1 R1 o1 a dx ea ex ne => mk_sp hm (z vs G1 H1 g1 R1 o1) ea ex ne) fun _ _ _ z => z⟩
end
end Rt
set_option Elab.async false
set_option linter.all false
set_option maxRecDepth 100000
set_option maxHeartbeats 4000000
/-! fields of an instance -/
namespace Rt
open PySem PySem.Spec L2
open PyProof.Rows hiding St
section
variable {K : PySem.W.Frag} {mg : Str → Option Value} {F : Fr} {G : Hp} {σ : L2.St} {env : En} {H : Hp}
theorem lookup_dv {f : Str} {d : D} : ∀ {fs : List (Str × V)} {df : List (Str × D)}, fs.map (·.1) = df.map (·.1) → DVs K mg G (fs.map (·.2)) (df.map (·.2)) → df.lookup f = some d → ∃ v, fs.lookup f = some v ∧ DV K mg G v d
  | [], [], _, _, h => by cases h
  | [], _ :: _, e, _, _ => by cases e
  | _ :: _, [], e, _, _ => by cases e
  | (a, x) :: fs, (b, y) :: df, e, l, h => by
    have e1 : a = b := (List.cons.inj e).1
    subst e1
    cases l with
    | cons h0 t =>
      rw [List.lookup_cons] at h ⊢
      cases z : f == a with
      | true =>
        rw [z] at h
        cases h
        exact ⟨x, rfl, h0⟩
      | false =>
        rw [z] at h
        exact lookup_dv (List.cons.inj e).2 t h
end
/-- e.f, e an instance of c -/
def fFld (c f : Str) (fa : En → Rs (Hd × En)) : En → Rs (Hd × En) := fun e => fa e >>= fun r => Rs.of (r.1.get r.2) >>= fun d => match d with
  | .obj c' fs => if c' = c then Rs.of (fs.lookup f) >>= fun v => .ok (.dat v, r.2) else .bad
  | _ => .bad
section
variable {X : Cx} {W : Wsh} {k : Nat} {a e : Expr} {fa fe : En → Rs (Hd × En)} {pos : Pos} {c f : Str} {C : Addr}
theorem pb_fld (hC : X.mg c = some (.ref C)) (hK : Cls X.K C) (hn : NoAttr X.K C f) (h : PB X W a fa) (hb : attributeBase a f X.env (eval a X.env) = eval a X.env := by rfl) : PB X W (.Attribute a f pos) (fFld c f fa) := fun F => pe_weak (pe_fld (h F) hb) fun σ H Q q => by
  obtain ⟨G, env, R, q⟩ := q
  refine ⟨G, env, R, Rs.wp_mono (Rs.wp_bind.mp q) (fun r q x G1 H1 g1 R1 o1 => ?_) fun _ _ _ z => z⟩
  obtain ⟨d, hd, q⟩ := wp_of (Rs.wp_bind.mp q)
  cases d with
  | obj c' df =>
    have q2 : (if c' = c then Rs.of (df.lookup f) >>= fun v => (.ok (.dat v, r.2) : Rs (Hd × En)) else .bad).wp _ _ := q
    clear q
    by_cases ec : c' = c
    · rw [if_pos ec] at q2
      subst ec
      obtain ⟨v, hv, q⟩ := wp_of (Rs.wp_bind.mp q2)
      obtain ⟨p, C', dx, fs, rfl, hc', hh, e1, l⟩ := cur_obj R1 (o1.cur R1 hd)
      rw [hC] at hc'
      cases hc'
      obtain ⟨w, hw, dv⟩ := lookup_dv e1 l hv
      exact ⟨p, C, dx, fs, w, rfl, hh, hK, hn, hw, q w G1 H1 g1 R1 dv⟩
    · rw [if_neg ec] at q2
      exact q2.elim
  | _ => exact q.elim
def putFD (f : Str) (v : D) : List (Str × D) → List (Str × D)
  | [] => [(f, v)]
  | (g, x) :: r => if g = f then (g, v) :: r else (g, x) :: putFD f v r
theorem putF_dv {K : PySem.W.Frag} {mg : Str → Option Value} {G : Hp} {f : Str} {v : V} {d : D} (dv : DV K mg G v d) : ∀ {fs : List (Str × V)} {df : List (Str × D)}, fs.map (·.1) = df.map (·.1) → DVs K mg G (fs.map (·.2)) (df.map (·.2)) →
    (putF f v fs).map (·.1) = (putFD f d df).map (·.1) ∧ DVs K mg G ((putF f v fs).map (·.2)) ((putFD f d df).map (·.2))
  | [], [], _, _ => ⟨rfl, .cons dv .nil⟩
  | [], _ :: _, e, _ => by cases e
  | _ :: _, [], e, _ => by cases e
  | (a, x) :: fs, (b, y) :: df, e, l => by
    have e1 : a = b := (List.cons.inj e).1
    subst e1
    cases l with
    | cons h t =>
      obtain ⟨i1, i2⟩ := putF_dv dv (f := f) (List.cons.inj e).2 t
      unfold putF putFD
      by_cases z : a = f
      · rw [if_pos z, if_pos z]
        exact ⟨by rw [List.map_cons, List.map_cons, (List.cons.inj e).2], .cons dv t⟩
      · rw [if_neg z, if_neg z]
        exact ⟨by rw [List.map_cons, List.map_cons, i1], .cons h i2⟩
/-- x.f = e, x an instance of c that the def owns or that is lent to it -/
def fStF (c f : Str) (i : Nat) (fv : En → Rs (Hd × En)) : En → Rs (Fl × En) := fun e => fv e >>= fun r => r.1.esc r.2 >>= fun v => match rootD v.2 i with
  | some (.obj c' df) => if c' = c ∧ df.length < 1000 then .ok (.nx, setRoot v.2 i (.obj c' (putFD f v.1 df))) else .bad
  | _ => .bad
theorem pst_fld {st : Stmt} {i : Nat} (hC : X.mg c = some (.ref C)) (hK : Cls X.K C) (hn : NoAttr X.K C f) (h : ∀ {tv : TE}, PE X e tv → PS X st (sFld X.K (tVar i) tv f)) (hv : PB X W e fe) : PSt X W st (fStF c f i fe) :=
  fun F => ps_weak (h (hv F)) fun D σ H q => by
  obtain ⟨G, env, R, q⟩ := q
  refine ⟨G, env, R, Rs.wp_mono (Rs.wp_bind.mp q) (fun r q v G1 H1 g1 R1 o1 => ?_) fun _ _ _ z => z.zx .refl⟩
  obtain ⟨r2, G2, q, g2, R2, dv⟩ := wp_esc R1 o1 (Rs.wp_bind.mp q)
  cases hr : rootD r2.2 i with
  | none => rw [hr] at q; exact q.elim
  | some d =>
    rw [hr] at q
    obtain ⟨p, s, es, z, rt, hs⟩ := root_slot R2 hr
    cases d with
    | obj c' df =>
      have q2 : (if c' = c ∧ df.length < 1000 then (.ok (.nx, setRoot r2.2 i (.obj c' (putFD f r2.1 df))) : Rs (Fl × En)) else .bad).wp _ _ := q
      clear q
      by_cases ec : c' = c ∧ df.length < 1000
      · rw [if_pos ec] at q2
        obtain ⟨rfl, hz⟩ := ec
        cases rt with
        | @obj C' dx fs _ _ hc' hh e1 l =>
          rw [hC] at hc'
          cases hc'
          obtain ⟨m1, m2⟩ := putF_dv (f := f) dv e1 l
          exact ⟨_, z, p, C, dx, fs, rfl, hh, hK, hn, by rw [maps_len e1]; exact hz, q2 σ G2 _ (g1.trans g2) (write_slot R2 es z hs (.obj hC upd_same m1 m2))⟩
      · rw [if_neg ec] at q2
        exact q2.elim
    | _ => exact q.elim
end
end Rt
set_option Elab.async false
set_option linter.all false
set_option maxRecDepth 100000
set_option maxHeartbeats 4000000
/-! methods of an instance -/
namespace Rt
open PySem PySem.Spec L2
open PyProof.Rows hiding St
section
variable {X : Cx} {k : Nat} {f C : Addr} {fd : FuncData} {ps : List Str} {sp : Sp} {E : St → XK} {x m : Str} {p pos apos : Pos} {e o : Expr} {es : List Expr} {ta : TE} {t : TA}
def tMthG (C : Addr) (m : Str) (sp : Sp) (E : St → XK) (ta : TE) (t : TA) : TE := fun σ H Q => ta σ H fun x H1 => ∃ a dx fs, x = .ref a ∧ H1 a = some (.ins C dx fs) ∧ fs.lookup m = none ∧ t σ H1 fun vs H2 => sp (.ref a :: (vs ++ [])) H2 Q (E σ)
theorem peG_meth {pl : Sem Bool} (ho : PE X o ta) (c : Cls X.K C) (hm : Meth X.K C m f) (F : FnG X.prog X.w X.K X.mg X.base k f fd ps sp) (hg0 : X.A.guards = some []) (hr : Room k X.A) (hb : Binds X.K fd ps []) (hx : ∀ σ, PassesAt (L2.CX X.prog X.w) X σ (E σ)) (ha : PA X (e :: es) t)
    (hst : starEach (e :: es) X.env = (false, eval e X.env) :: starEach es X.env := by rfl) (hpl : (backTo pos (starEach es X.env)).any (·.1) = false := by rfl)
    (ht : eval (.Call (.Attribute o m apos) (e :: es) [] pos) X.env = (do
      let v ← eval o X.env
      standAt apos.atName
      let (g, pre) ← holding [v] (getMethod v m pl)
      callWith pos g pre (backTo pos (starEach (e :: es) X.env)) (backToKw pos (keywordEach [] X.env))) := by rfl) :
    PE X (.Call (.Attribute o m apos) (e :: es) [] pos) (tMthG C m sp E ta t) := ⟨fun pins s σ H Q I h =>
  PySem.W.methodCall_KW (pl := pl) (thn (ho.run pins s σ H _ I h) fun u s1 z => by
    obtain ⟨x, H1, I1, rx, a, dx, fs, rfl, ea, l, q⟩ := z
    obtain rfl : u = Value.ref a := rx
    refine getmeth_ok I1 ea c hm l (PySem.W.callWith_K (first := [.ref a]) (h₀ := X.base) I.ok.mod.kin hm.kp (thn (ha.run pos pins s1 σ H1 _ I1 q) fun us s2 z => ?_) hst hpl)
    obtain ⟨vs, H2, I2, r, q2⟩ := z
    exact ⟨I2.kIn, runG (us := .ref a :: us) (vs := .ref a :: vs) F hg0 hr hb .nil (hx σ) I2 (.cons rfl r) q2⟩) ht⟩
theorem peG_meth0 {pl : Sem Bool} (ho : PE X o ta) (c : Cls X.K C) (hm : Meth X.K C m f) (F : FnG X.prog X.w X.K X.mg X.base k f fd ps sp) (hg0 : X.A.guards = some []) (hr : Room k X.A) (hb : Binds X.K fd ps []) (hx : ∀ σ, PassesAt (L2.CX X.prog X.w) X σ (E σ))
    (ht : eval (.Call (.Attribute o m apos) [] [] pos) X.env = (do
      let v ← eval o X.env
      standAt apos.atName
      let (g, pre) ← holding [v] (getMethod v m pl)
      callWith pos g pre (backTo pos (starEach [] X.env)) (backToKw pos (keywordEach [] X.env))) := by rfl) :
    PE X (.Call (.Attribute o m apos) [] [] pos) (tMthG C m sp E ta tNil) := ⟨fun pins s σ H Q I h =>
  PySem.W.methodCall_KW (pl := pl) (thn (ho.run pins s σ H _ I h) fun u s1 z => by
    obtain ⟨x, H1, I1, rx, a, dx, fs, rfl, ea, l, q⟩ := z
    obtain rfl : u = Value.ref a := rx
    exact getmeth_ok I1 ea c hm l (PySem.W.callWith_K0 (first := [.ref a]) I1.kIn hm.kp (runG (us := [.ref a]) (vs := [.ref a]) F hg0 hr hb .nil (hx σ) I1 (.cons rfl .nil) q))) ht⟩
end
/-- the receiver, an instance of c that has no m of its own, and the arguments -/
def fRecv (c m : Str) (fo : En → Rs (Hd × En)) (fA : En → Rs (List Hd × En)) : En → Rs (List Hd × En) := fun e => fo e >>= fun r => Rs.of (r.1.get r.2) >>= fun d => match d with
  | .obj c' df => if c' = c ∧ df.lookup m = none then fA r.2 >>= fun q => .ok (r.1 :: q.1, q.2) else .bad
  | _ => .bad
theorem lookup_none {f : Str} : ∀ {fs : List (Str × V)} {df : List (Str × D)}, fs.map (·.1) = df.map (·.1) → df.lookup f = none → fs.lookup f = none
  | [], [], _, _ => rfl
  | [], _ :: _, e, _ => by cases e
  | _ :: _, [], e, _ => by cases e
  | (a, x) :: fs, (b, y) :: df, e, h => by
    have e1 : a = b := (List.cons.inj e).1
    subst e1
    rw [List.lookup_cons] at h ⊢
    cases z : f == a with
    | true => rw [z] at h; cases h
    | false =>
      rw [z] at h
      exact lookup_none (List.cons.inj e).2 h
section
variable {X : Cx} {W : Wsh} {k j : Nat} {f C : Addr} {fd : FuncData} {ps : List Str} {g : List Ar → Rs Rz} {c m : Str} {p pos apos : Pos} {e o : Expr} {es : List Expr} {fo : En → Rs (Hd × En)} {fA : En → Rs (List Hd × En)}
theorem recv_of {F : Fr} {σ : L2.St} {H : Hp} {Q : VK} (hC : X.mg c = some (.ref C)) (h : tCl (spD X.K X.mg g) [] W (tA X.K X.mg W F (fRecv c m fo fA)) σ H Q) : tMthG C m (spD X.K X.mg g) W (tB X.K X.mg W F fo) (tA X.K X.mg W F fA) σ H Q := by
  obtain ⟨G, env, R, q⟩ := h
  refine ⟨G, env, R, Rs.wp_mono (Rs.wp_bind.mp q) (fun r q x G1 H1 g1 R1 o1 => ?_) fun _ _ _ z => z⟩
  obtain ⟨d, hd, q⟩ := wp_of (Rs.wp_bind.mp q)
  cases d with
  | obj c' df =>
    have q2 : (if c' = c ∧ df.lookup m = none then fA r.2 >>= fun q => (.ok (r.1 :: q.1, q.2) : Rs (List Hd × En)) else .bad).wp _ _ := q
    clear q
    by_cases ec : c' = c ∧ df.lookup m = none
    · rw [if_pos ec] at q2
      obtain ⟨rfl, hl⟩ := ec
      obtain ⟨a, C', dx, fs, rfl, hc', hh, e1, l⟩ := cur_obj R1 (o1.cur R1 hd)
      rw [hC] at hc'
      cases hc'
      refine ⟨a, dx, fs, rfl, hh, lookup_none e1 hl, G1, r.2, R1, Rs.wp_mono (Rs.wp_bind.mp q2) (fun s q vs G2 H2 g2 R2 o2 => ?_) fun _ _ _ z => z.mono g1⟩
      exact q (V.ref a :: vs) G2 H2 (g1.trans g2) R2 (.cons (o1.mono g2) o2)
    · rw [if_neg ec] at q2
      exact q2.elim
  | _ => exact q.elim
theorem pb_meth {pl : Sem Bool} (hC : X.mg c = some (.ref C)) (hK : Cls X.K C) (hm : Meth X.K C m f) (Fn : FnG X.prog X.w X.K X.mg X.base j f fd ps (spD X.K X.mg g)) (hj : j ≤ k) (Y : Hy X W k) (hb : Binds X.K fd ps []) (ho : PB X W o fo) (ha : PAs X W (e :: es) fA) (ms : List Bool)
    (hst : starEach (e :: es) X.env = (false, eval e X.env) :: starEach es X.env := by rfl) (hpl : (backTo pos (starEach es X.env)).any (·.1) = false := by rfl)
    (ht : eval (.Call (.Attribute o m apos) (e :: es) [] pos) X.env = (do
      let v ← eval o X.env
      standAt apos.atName
      let (g, pre) ← holding [v] (getMethod v m pl)
      callWith pos g pre (backTo pos (starEach (e :: es) X.env)) (backToKw pos (keywordEach [] X.env))) := by rfl) :
    PB X W (.Call (.Attribute o m apos) (e :: es) [] pos) (fUser ms g (fRecv c m fo fA)) := fun F => pe_weak (peG_meth (pl := pl) (ho F) hK hm (Fn.lift hj) Y.gd Y.rm hb Y.tk (ha F) hst hpl ht) fun σ H Q q => by
  obtain ⟨G, env, R, q⟩ := q
  refine recv_of hC (call_of (ms := ms) R (Rs.wp_bind.mp q) fun r v G' H' q g' R' res => ?_)
  split at res
  · obtain ⟨a, rfl, h0, hg, rt, fr⟩ := res
    obtain ⟨G2, g2, R2, dv⟩ := R'.hold h0 hg rt fr
    exact q _ G2 H' (g'.trans g2) R2 dv
  · exact q v G' H' g' R' res
theorem pb_meth0 {pl : Sem Bool} (hC : X.mg c = some (.ref C)) (hK : Cls X.K C) (hm : Meth X.K C m f) (Fn : FnG X.prog X.w X.K X.mg X.base j f fd ps (spD X.K X.mg g)) (hj : j ≤ k) (Y : Hy X W k) (hb : Binds X.K fd ps []) (ho : PB X W o fo) (ms : List Bool)
    (ht : eval (.Call (.Attribute o m apos) [] [] pos) X.env = (do
      let v ← eval o X.env
      standAt apos.atName
      let (g, pre) ← holding [v] (getMethod v m pl)
      callWith pos g pre (backTo pos (starEach [] X.env)) (backToKw pos (keywordEach [] X.env))) := by rfl) :
    PB X W (.Call (.Attribute o m apos) [] [] pos) (fUser ms g (fRecv c m fo fNil)) := fun F => pe_weak (peG_meth0 (pl := pl) (ho F) hK hm (Fn.lift hj) Y.gd Y.rm hb Y.tk ht) fun σ H Q q => by
  obtain ⟨G, env, R, q⟩ := q
  have main := recv_of (m := m) (fo := fo) (fA := fNil) (F := F) hC (call_of (ms := ms) R (Rs.wp_bind.mp q) fun r v G' H' q g' R' res => (by
    split at res
    · obtain ⟨a, rfl, h0, hg, rt, fr⟩ := res
      obtain ⟨G2, g2, R2, dv⟩ := R'.hold h0 hg rt fr
      exact q _ G2 H' (g'.trans g2) R2 dv
    · exact q v G' H' g' R' res : Q v H'))
  obtain ⟨G0, e0, R0, z⟩ := main
  refine ⟨G0, e0, R0, Rs.wp_mono z (fun r z x G1 H1 g1 R1 o1 => ?_) fun _ _ _ z => z⟩
  obtain ⟨a, dx, fs, rfl, hh, hl, G2, e2, R2, w⟩ := z x G1 H1 g1 R1 o1
  exact ⟨a, dx, fs, rfl, hh, hl, w [] G2 H1 .refl R2 .nil⟩
end
end Rt
set_option Elab.async false
set_option linter.all false
set_option maxRecDepth 100000
set_option maxHeartbeats 4000000
/-! isinstance with a pair of built-in types, with an own class -/
namespace Rt
open PySem PySem.Spec L2
open PyProof.Rows hiding St
def fIsi2 (S T : String) (f : En → Rs (Hd × En)) : En → Rs (Hd × En) := fun e => f e >>= fun r => Rs.of (r.1.get r.2) >>= fun d => Rs.of (d.tyn.bind fun t => kitB t S) >>= fun b => Rs.of (d.tyn.bind fun t => kitB t T) >>= fun c => .ok (.dat (.bl (b || c)), r.2)
section
variable {X : Cx} {W : Wsh} {k : Nat} {a : Expr} {fa : En → Rs (Hd × En)} {p pos : Pos}
theorem pb_isi2 {S T : Str} {s t : String} {ps pt pp : Pos} {kk} (ha : PB X W a fa) (hg : Gl X "isinstance") (hm : X.mg "isinstance" = none) (hgS : Gl X S) (hmS : X.mg S = none) (hgT : Gl X T) (hmT : X.mg T = none) (hvS : bootBuiltins S = some (.type s)) (hv : bootBuiltins T = some (.type t)) (hv2 : bootBuiltins "isinstance" = some (.builtin "isinstance"))
    (he : starEach [a, .Tuple [.Name S ps, .Name T pt] kk pp] X.env = (false, eval a X.env) :: starEach [.Tuple [.Name S ps, .Name T pt] kk pp] X.env := by rfl) (hpl : (backTo pos (starEach [.Tuple [.Name S ps, .Name T pt] kk pp] X.env)).any (·.1) = false := by rfl)
    (hs2 : starEach [.Tuple [.Name S ps, .Name T pt] kk pp] X.env = (false, eval (.Tuple [.Name S ps, .Name T pt] kk pp) X.env) :: starEach [] X.env := by rfl)
    (hi1 : starEach [.Name S ps, .Name T pt] X.env = (false, eval (.Name S ps) X.env) :: starEach [.Name T pt] X.env := by rfl) (hi2 : starEach [.Name T pt] X.env = (false, eval (.Name T pt) X.env) :: starEach [] X.env := by rfl)
    (hnS : S ≠ "__name__" := by decide) (hdS : (S == ("__debug__" : Str)) = false := by decide) (hn : T ≠ "__name__" := by decide) (hdb : (T == ("__debug__" : Str)) = false := by decide) :
    PB X W (.Call (.Name "isinstance" p) [a, .Tuple [.Name S ps, .Name T pt] kk pp] [] pos) (fIsi2 s t fa) :=
  fun F => pe_weak (pe_callB call_isiT hg hm hv2 (pa_cons (ha F) (pa_cons (pe_tup (pa_cons (pe_bltn (v := .ty s) hgS hmS hvS rfl hnS hdS) (pa_cons (pe_bltn (v := .ty t) hgT hmT hv rfl hn hdb) pa_nil hi2) hi1)) pa_nil hs2) he) (by decide) (by decide) he hpl) fun σ H Q q => by
  obtain ⟨G, env, R, q⟩ := q
  refine ⟨G, env, R, Rs.wp_mono (Rs.wp_bind.mp q) (fun r q v G1 H1 g1 R1 o1 => ?_) fun _ _ _ z => z⟩
  obtain ⟨d, ed, q⟩ := wp_of (Rs.wp_bind.mp q)
  obtain ⟨b, eb, q⟩ := wp_of (Rs.wp_bind.mp q)
  obtain ⟨c, ec, q⟩ := wp_of (Rs.wp_bind.mp q)
  refine ⟨(by decide : (2 : Nat) ≤ sizeLine), fun tp htp => ?_⟩
  have R2 := R1.alloc (o := .tup [V.ty s, V.ty t]) htp
  cases n : d.tyn with
  | none => rw [n] at eb; cases eb
  | some u =>
    rw [n] at eb ec
    have ka : PySem.W.kitAny X.K (.type u) [.type s, .type t] = some (b || c) := kitAny_cons (kit_ty eb) (fun hb => by
      rw [hb, Bool.false_or]
      exact kitAny_cons (kit_ty ec) (fun hc => by rw [hc]; exact kitAny_nil) fun hc => by rw [hc]) (fun hb => by rw [hb]; rfl)
    exact ⟨v, tp, [V.ty s, V.ty t], .type u, [.type s, .type t], b || c, rfl, upd_same, .cons (.ty s) (.cons (.ty t) .nil), tyx_of R2 (o1.cur R2 ed) n, ka, q _ G1 _ g1 R2 .bl⟩
end
end Rt
set_option Elab.async false
set_option linter.all false
set_option maxRecDepth 100000
set_option maxHeartbeats 4000000
/-! an own exception made with one keyword: the library's road for positions, walked with a keyword -/
namespace Rt
open PySem PySem.Spec PySem.HandSPX PyProof.Rows
open Builtin
section
variable {M : Model} {A : Around} {X : Value → Shared → Prop} {hp : Heap} {gs : Array GenState} {dr : Drawn} {tk : Nat} {os : OsState}
variable {nm qn : Str} {C N : Addr} {bs tl veB : List Value} {hd : Bool} {sn : List Str} {sub : List Value} {ab : Bool} {col : Option Bool} {dd : Option Addr} {k0 k1 k2 k3 k5 : Option Value} {B nI iI : String}
abbrev KC (nm qn : Str) (C N : Addr) (bs tl : List Value) (hd : Bool) (sn : List Str) (sub : List Value) (ab : Bool) (col : Option Bool) (dd : Option Addr) (k0 k1 k2 k3 k5 : Option Value) (nI : String) := excClassObj nm qn C N bs tl hd sn sub ab col dd k0 k1 k2 k3 k5 nI
theorem kwe_check (F : ExcBaseFacts B nI iI veB) (tt : ∀ T : String, tl.contains (.type T) = veB.contains (.type T)) {n : Str} {v : Value} {Q : Unit → Shared → Prop}
    (lC : hp.get? C = some (KC nm qn C N bs tl hd sn sub ab col dd k0 k1 k2 k3 k5 nI)) (q : Q () ⟨hp, gs, dr, tk, os⟩) : wpAny M A (checkBuiltinCall nI ⟨[.ref C], [(n, v)]⟩) Q X ⟨hp, gs, dr, tk, os⟩ := by
  have inB : ((Value.ref C) :: tl).contains (.type B) = true := by rw [List.contains_cons, tt, F.hasB, Bool.or_true]
  have st := F.noStar
  simp only [checkBuiltinCall, F.newSplit, F.newKind, F.newRow]
  repeat (first | refine wpAny_loadPart_at lC ?_ | (refine wpAny_isSubtype_exc lC ?_; rw [inB]) | refine wpAny_staticBase_exc lC ?_ | refine wpAny_madeBy_exc lC ?_ | simp only [Bool.false_eq_true, bne_self_eq_false, if_false] | wp_step)
  exact q
end
section
variable {P : Program} {w : World} {A : Around} {X : Value → Shared → Prop} {R : Result → Shared → Prop} {hp : Heap} {gs : Array GenState} {dr : Drawn} {tk : Nat} {os : OsState}
variable {nm qn : Str} {C N : Addr} {bs tl veB : List Value} {hd : Bool} {sn : List Str} {sub : List Value} {ab : Bool} {col : Option Bool} {dd : Option Addr} {k0 k1 k2 k3 k5 : Option Value} {B nI iI : String}
abbrev kwHeap (hp : Heap) (C : Addr) : Heap := (hp.push (PySem.W.kdv_tup [])).push (excO C hp.objs.size)
theorem kwe_new (F : ExcBaseFacts B nI iI veB) (tt : ∀ T : String, tl.contains (.type T) = veB.contains (.type T)) {kn : Str} {kv : Value}
    (lC : hp.get? C = some (KC nm qn C N bs tl hd sn sub ab col dd k0 k1 k2 k3 k5 nI))
    (q : R (.ok (.ret (.ref (hp.objs.size + 1)))) ⟨kwHeap hp C, gs, dr, tk, os⟩) : codeAny (model P w) A (.builtin nI ⟨[.ref C], [(kn, kv)]⟩) R ⟨hp, gs, dr, tk, os⟩ := by
  have en := F.ends
  have in1 : ((Value.ref C) :: tl).contains (.type B) = true := by rw [List.contains_cons, tt, F.hasB, Bool.or_true]
  have in2 : ((Value.ref C) :: tl).contains (.type "AttributeError") = false := by rw [List.contains_cons, tt, F.noAttr]; rfl
  have in3 : ((Value.ref C) :: tl).contains (.type "NameError") = false := by rw [List.contains_cons, tt, F.noName]; rfl
  refine codeAny_builtinAt F.entry ?_
  unfold Builtin.«BaseException.__new__»
  refine PySem.wpAt_bind ?_
  show PySem.wpAt _ _ _ (stack >>= _) _ _ _
  refine PySem.wpAt_bind (PySem.wpAt_stack fun _ _ => PySem.wpAt_of_wpAny ?_)
  wp_walk
  refine PySem.wpAt_of_wpAny ?_
  rw [F.owner]
  repeat (first | with_reducible refine wpAny_madeHere_exc F.canon lC ?_ | with_reducible refine wpAny_loadPart_at lC ?_ | (with_reducible refine wpAny_isSubtype_exc lC ?_; first | rw [in1] | rw [in2] | rw [in3]) | wp_step)
  show R _ _
  rw [Heap.size_push]
  exact q
theorem kwe_chk {kn : Str} {kv : Value} {Q : Unit → Shared → Prop}
    (lC : hp.get? C = some (KC nm qn C N bs tl hd sn sub ab col dd k0 k1 k2 k3 k5 nI)) (q : Q () ⟨hp, gs, dr, tk, os⟩) : wpAny (model P w) A (checkBuiltinCall "type.__call__" ⟨[.ref C], [(kn, kv)]⟩) Q X ⟨hp, gs, dr, tk, os⟩ := by
  have a3 := tc_sub
  have tyC : (⟨hp, gs, dr, tk, os⟩ : Shared).TypeIs (.ref C) "type" := ⟨_, lC, rfl⟩
  simp only [checkBuiltinCall, tc_split, tc_kind]
  repeat (any_goals (first | assumption | with_reducible refine wpAny_onRaise ?_ | with_reducible refine wpAny_loadPart_at lC ?_ | with_reducible refine wpAny_map ?_ | wp_step))
theorem kwe_type (F : ExcBaseFacts B nI iI veB) (tt : ∀ T : String, tl.contains (.type T) = veB.contains (.type T)) {fI : Addr} {kn : Str} {kv : Value} {Q : Fin → Shared → Prop}
    (lC : hp.get? C = some (KC nm qn C N bs tl hd sn sub ab col dd k0 k1 k2 k3 k5 nI))
    (li : W.Looks (model P w) hp (typeLookup (.ref C) "__init__") (some (.ref fI))) (lb : ∀ me, W.Looks (model P w) hp (bindSpecial (.ref fI) me) (.ref fI, [me]))
    (q : codeAny (model P w) A (.call (.ref fI) ⟨[.ref (hp.objs.size + 1)], [(kn, kv)]⟩)
      (fun r z => match r with | .ok (.ret v) => v = .none ∧ Q (.done (.ret (.ref (hp.objs.size + 1)))) z | .ok _ => False | .error e => X e z) ⟨kwHeap hp C, gs, dr, tk, os⟩) :
    wpAny (model P w) A (Builtin.«type.__call__» ⟨[.ref C], [(kn, kv)]⟩) Q X ⟨hp, gs, dr, tk, os⟩ := by
  repeat (first | with_reducible refine wpAny_loadPart_at lC ?_ | with_reducible refine wpAny_madeBy_exc lC ?_ | wp_step)
  refine codeAny_call_builtin_code (Code.quiet_builtin _ F.quiet) (kwe_check F tt lC ?_)
  refine kwe_new F tt lC ?_
  show wpAny _ _ _ _ _ _
  have kk : ∀ b o, hp.get? b = some o → (kwHeap hp C).get? b = some o := fun b o e => Heap.get?_push_of_some _ (Heap.get?_push_of_some _ e)
  have lC2 := kk _ _ lC
  have lx : (kwHeap hp C).get? (hp.objs.size + 1) = some (excO C hp.objs.size) := by heap_get
  have inC : ((Value.ref C) :: tl).contains (.ref C) = true := by simp
  have li2 := li.keeps kk
  have lb2 := (lb (.ref (hp.objs.size + 1))).keeps kk
  unfold isInstance
  repeat (first | with_reducible refine wpAny_loadPart_at lx ?_ | (with_reducible refine wpAny_isSubtype_exc lC2 ?_; rw [inC]) | wp_step)
  show wpAny _ _ (typeLookup (.ref C) _) _ _ _
  refine li2.at ?_
  refine wpAny_holding (wpAny_bind (lb2.at ?_))
  refine wpAny_bind (wpAny_call (codeAny_mono q fun r z y => ?_))
  rcases r with e | (v | _ | _ | _) <;> first | exact y | exact y.elim | skip
  obtain ⟨rfl, y⟩ := y
  exact wpAny_pure (wpAny_pure y)
theorem kwe_call (F : ExcBaseFacts B nI iI veB) (tt : ∀ T : String, tl.contains (.type T) = veB.contains (.type T)) {fI : Addr} {kn : Str} {kv : Value}
    (lC : hp.get? C = some (KC nm qn C N bs tl hd sn sub ab col dd k0 k1 k2 k3 k5 nI))
    (li : W.Looks (model P w) hp (typeLookup (.ref C) "__init__") (some (.ref fI))) (lb : ∀ me, W.Looks (model P w) hp (bindSpecial (.ref fI) me) (.ref fI, [me]))
    (q : codeAny (model P w) (A.under (.builtin "type.__call__" ⟨[.ref C], [(kn, kv)]⟩)) (.call (.ref fI) ⟨[.ref (hp.objs.size + 1)], [(kn, kv)]⟩) (W.InitBack (hp.objs.size + 1) R) ⟨kwHeap hp C, gs, dr, tk, os⟩) :
    codeAny (model P w) A (.call (.ref C) ⟨[], [(kn, kv)]⟩) R ⟨hp, gs, dr, tk, os⟩ := by
  have a1 := tc_lookup
  have a2 := tc_bind (.ref C)
  have a3 : (⟨hp, gs, dr, tk, os⟩ : Shared).TypeIs (.ref C) "type" := ⟨_, lC, rfl⟩
  refine codeAny_of_tree ?_
  show wpAny _ _ (callAny (.ref C) _) _ _ _
  repeat (any_goals (first | assumption | with_reducible refine wpAny_loadPart_at lC ?_ | wp_step))
  refine ⟨rfl, ?_⟩
  refine codeAny_call_builtin_at (Code.quiet_builtin _ (by decide +kernel)) entry_typeCall ?_
  refine kwe_chk lC (kwe_type F tt lC li lb ?_)
  refine codeAny_mono q fun r z y => ?_
  rcases r with e | (v | _ | _ | _) <;> exact y
end
end Rt
set_option Elab.async false
set_option linter.all false
set_option maxRecDepth 100000
set_option maxHeartbeats 4000000
/-! own exceptions as values: what is made, by position and by name; the __init__ of such a class -/
namespace Rt
open PySem PySem.Spec L2
open PyProof.Rows hiding St
/-- what the text says of the base class of the program's errors -/
structure BaseX (K : PySem.W.Frag) (R : Addr) : Prop where
  ga : PySem.W.specialIn K (.ref R) "__getattribute__" = some (some (.builtin "type.__getattribute__"))
  rd : PySem.W.readsIn K R (.type "type") = true
  at_ : PySem.W.findCls K (.ref R) (.type "type") "__init__" = some (.val (.builtin "ValueError.__init__"))
section
variable {X : Cx} {e : Expr} {es : List Expr} {ta : TA} {x : Str} {R : Addr} {p1 p2 pos : Pos}
/-- R.__init__(self, ..), R the base class -/
theorem pe_binit {pl : Sem Bool} (B : BaseX X.K R) (hg : Gl X x) (hm : X.mg x = some (.ref R)) (ha : PA X (e :: es) ta) (hdb : (x == ("__debug__" : Str)) = false := by decide)
    (hc : eval (.Call (.Attribute (.Name x p1) "__init__" p2) (e :: es) [] pos) X.env = (do
      let o ← eval (.Name x p1) X.env
      standAt p2.atName
      let (f, us) ← holding [o] (getMethod o "__init__" pl)
      callWith pos f us (backTo pos (starEach (e :: es) X.env)) (backToKw pos (keywordEach [] X.env))) := by rfl)
    (hs : starEach (e :: es) X.env = (false, eval e X.env) :: starEach es X.env := by rfl) (hp : (backTo pos (starEach es X.env)).any (·.1) = false := by rfl) :
    PE X (.Call (.Attribute (.Name x p1) "__init__" p2) (e :: es) [] pos) (tVeI X.K ta) := ⟨fun pins s σ H Q I h => by
  refine PySem.W.methodCall_KW (ld_glob I hg hm ?_ hdb) hc
  refine PySem.W.method_cls I.kIn B.ga ?_
  refine PySem.W.cls_value I.kIn B.rd B.at_ (by decide +kernel) ?_
  refine PyProof.Rows.callWith_method1 (thn (ha.run pos pins _ σ H _ (I.tok _) h) fun us s1 ⟨vs, H1, I1, r1, a, C, ws, ev, hl, T, ea, q⟩ => ?_) hs hp
  subst ev
  cases r1 with
  | @cons _ u0 _ ur ra rw' =>
    obtain rfl : u0 = Value.ref a := ra
    have hz : ur.length ≤ sizeLine := by
      have := Paired.length rw'
      rw [sizeLine_eq]
      omega
    exact oinit_ok T I1 ea hz fun s' J => ⟨.non, H1, J, rfl, q⟩⟩
end
/-- what may be shown in the message: an int, a tuple of texts -/
def Tells (K : PySem.W.Frag) (tp : Bool) (H : Hp) (y : V) : Prop := match tp with
  | false => ∃ i : Int, y = .int i ∧ i.natAbs < 10 ^ 9
  | true => ∃ (b : Addr) (l : List Str), y = .ref b ∧ SqT K H b (l.map V.str) ∧ (∀ z ∈ l, ∀ c ∈ z.cps.toList, c < 16 ^ 8) ∧ fmtCost l + 1007 ≤ sizeLine
def tTell (K : PySem.W.Frag) : Bool → TE → TE
  | false => tFmt
  | true => tFmtT K
/-- __init__(self, f) of a class over the base: self.f = f -/
def spI (K : PySem.W.Frag) (C : Addr) (f : Str) (tp : Bool) : Sp := fun vs H Q _ => ∃ a y, vs = [.ref a, y] ∧ H a = some (exo a C none) ∧ Tells K tp H y ∧ ∀ dx, H dx = none → dx ≠ a → Q .non (upd (upd H dx (exd dx [(f, y)])) a (exo a C (some dx)))
section
variable {P : Program} {w : World} {K : PySem.W.Frag} {mg : Str → Option Value} {base : Heap}
theorem initG {C R : Addr} {f msg bx qual : Str} {tp : Bool} {st : Stmt} {fa : Addr} {fd : FuncData} {n4 : Nat} {p1 p2 p3 p4 p5 p6 p7 p8 p9 p10 p11 p12 p13 : Pos} (Fn : Fun K "__init__" qual st fa fd) (S : FnScope ["self", f] ["self", f] (defScope st))
    (T : OexC K C) (nf : PySem.W.findIn K (.ref C) f = some none) (B : BaseX K R) (mR : mg bx = some (.ref R)) (lR : (defScope st).names.lookup bx = some .globalImplicit) (hm : msg.length ≤ 500)
    (d1 : (bx == ("__debug__" : Str)) = false) (d2 : (f == ("__debug__" : Str)) = false) (d3 : (f == ("__classdict__" : Str)) = false)
    (hc : ∀ env : Env, ∃ pl : Sem Bool, eval (.Call (.Attribute (.Name bx p1) "__init__" p2) [.Name "self" p3, .JoinedStr [.Constant (.str msg) n4 p4, .FormattedValue (.Name f p5) (-1) none p6] p7] [] p8) env = (do
      let o ← eval (.Name bx p1) env
      standAt p2.atName
      let (g, us) ← holding [o] (getMethod o "__init__" pl)
      callWith p8 g us (backTo p8 (starEach [.Name "self" p3, .JoinedStr [.Constant (.str msg) n4 p4, .FormattedValue (.Name f p5) (-1) none p6] p7] env)) (backToKw p8 (keywordEach [] env))))
    (hs1 : ∀ env : Env, swapsWith (.Call (.Attribute (.Name bx p1) "__init__" p2) [.Name "self" p3, .JoinedStr [.Constant (.str msg) n4 p4, .FormattedValue (.Name f p5) (-1) none p6] p7] [] p8) none p9.line env = pure false) (hs2 : ∀ env : Env, swapsWith (.Name f p12) (some (.Attribute (.Name "self" p10) f p11)) p13.line env = pure false)
    (hb : defBody st = [.Expr (.Call (.Attribute (.Name bx p1) "__init__" p2) [.Name "self" p3, .JoinedStr [.Constant (.str msg) n4 p4, .FormattedValue (.Name f p5) (-1) none p6] p7] [] p8) p9, .Assign [.Attribute (.Name "self" p10) f p11] (.Name f p12) p13]) :
    FnG P w K mg base 1 fa fd ["self", f] (spI K C f tp) := by
  refine fnG_of Fn S (fun vs H Q E ⟨a, y, e, _⟩ => by rw [e]; rfl) fun cd A out s H vs Q E hg hr h => ?_
  obtain ⟨a, y, rfl, ha, ht, q⟩ := h
  rw [hb]
  let X := bodyCx P w K mg base ["self", f] qual (defScope st) fa cd A out s H E
  have v0 : ∀ p, PE X (.Name "self" p) (tVar 0) := fun p => pe_var (X := X) rfl ((S.par "self" (by simp)).elim .inl fun z => .inr (.inl z)) (by decide) (by decide)
  have v1 : ∀ p, PE X (.Name f p) (tVar 1) := fun p => pe_var (X := X) rfl ((S.par f (by simp)).elim .inl fun z => .inr (.inl z)) d2 d3
  have gR : Gl X bx := lR
  have fm : PE X (.FormattedValue (.Name f p5) (-1) none p6) (tTell K tp (tVar 1)) := by
    cases tp with
    | false => exact pe_fmt (v1 _)
    | true => exact pe_fmtT hr (v1 _)
  have j : PE X (.JoinedStr [.Constant (.str msg) n4 p4, .FormattedValue (.Name f p5) (-1) none p6] p7) _ := pe_joined (.cons pe_str (.cons fm .nil))
  obtain ⟨pl, hc1⟩ := hc X.env
  refine ⟨_, pss_cons (ps_expr (pe_binit (pl := pl) B gR mR (pa_cons (v0 _) (pa_cons j pa_nil)) d1 hc1) (hs1 _)) (pss_one (ps_ost (v0 _) (v1 _) (hs2 _))), ?_⟩
  have e0 : (start ["self", f] [V.ref a, y])[0]? = some (some (.ref a)) := rfl
  have e1 : (start ["self", f] [V.ref a, y])[1]? = some (some y) := rfl
  have le : ∀ m : Str, (Str.empty ++ msg ++ m).length = msg.length + m.length := fun m => by
    rw [strLen_append, strLen_append]
    show 0 + _ + _ = _
    omega
  have l0 : (Str.empty ++ msg).length ≤ sizeLine := by
    have := le Str.empty
    rw [strLen_append] at this
    rw [strLen_append, sizeLine_eq]
    show 0 + _ ≤ _
    omega
  have fin : ∀ m : Str, ∃ (a' C' : Addr) (ws : List V), [V.ref a, V.str m] = .ref a' :: ws ∧ ws.length ≤ 1000 ∧ OexC K C' ∧ H a' = some (exo a' C' none) ∧ (tOst K f (tVar 0) (tVar 1)) { nx := fun _ H' => Q .non H', rt := Q } (start ["self", f] [V.ref a, y]) H :=
    fun m => ⟨a, C, [.str m], rfl, Nat.succ_le_succ (Nat.zero_le _), T, ha, y, e1, V.ref a, e0, a, C, rfl, T, nf, .inl ⟨ha, q⟩⟩
  refine ⟨V.ref a, e0, msg, rfl, l0, ?_⟩
  cases tp with
  | false =>
    obtain ⟨i, rfl, hi⟩ := ht
    have lg : i.natAbs.log2 < 1920 := by
      rcases Nat.eq_zero_or_pos i.natAbs with z | z
      · rw [z]; decide
      · exact Nat.lt_of_lt_of_le ((Nat.log2_lt (k := 30) (by omega)).mpr (Nat.lt_of_lt_of_le hi (by decide))) (by decide)
    refine ⟨.int i, e1, .inr ⟨i, rfl, lg, toString i, rfl, ?_, fin _⟩⟩
    have e := int_text_length_le10 (k := 9) (by decide) hi
    have e2 := PySem.ofString_length (toString i)
    rw [le, sizeLine_eq]
    show _ + (Str.ofString (toString i)).length ≤ _
    omega
  | true =>
    obtain ⟨b, l, rfl, h1, h2, h3⟩ := ht
    refine ⟨.ref b, e1, b, l, rfl, h1, h2, by omega, fun m hm => ⟨m, rfl, ?_, fin _⟩⟩
    rw [le]
    omega
end
end Rt
set_option Elab.async false
set_option linter.all false
set_option maxRecDepth 100000
set_option maxHeartbeats 4000000
/-! own exceptions as values: the calls -/
namespace Rt
open PySem PySem.Spec L2
open PyProof.Rows hiding St
/-- what the text says of a class with its own __init__ -/
structure MkX (K : PySem.W.Frag) (C fI : Addr) : Prop where
  T : OexC K C
  iC : PySem.W.findIn K (.ref C) "__init__" = some (some (.ref fI))
  tI : PySem.W.typeIn K (.ref fI) = some (.type "function")
section
variable {X : Cx} {pins : List (Addr × Obj)} {σ : St} {H : Hp} {s : Shared} {Q : VK} {C fI : Addr} {k : Nat} {fd : FuncData} {ps : List Str} {sp : Sp} {y : V} {u : Value} {f : Str} {W : St → XK}
theorem run_oexP (M : MkX X.K C fI) (F : FnG X.prog X.w X.K X.mg X.base k fI fd ps sp) (hg : X.A.guards = some []) (hr : Room (k + 1) X.A) (hb : Binds X.K fd ps []) (hx : PassesAt (L2.CX X.prog X.w) X σ (W σ)) (I : Inv X pins σ H s) (r : RelV y u)
    (h : ∀ a, H a = none → sp [.ref a, y] (upd H a (exo a C none)) (fun v H2 => v = .non ∧ Q (.ref a) H2) (W σ)) : wpAny (model X.prog X.w) X.A (call (.ref C) [u]) (EP X pins σ Q) X.xe s := by
  obtain ⟨nm, q, N, bs, bm, sn, sub, ab, col, dd, k0, k1, k2, k3, k5, lC, hv⟩ := M.T.cls
  obtain ⟨hp, g, dr, tk, os⟩ := s
  have fr : H (hp.objs.size + 1) = none := I.hok.fresh (Nat.le_succ _)
  have q1 := h (hp.objs.size + 1) fr
  have kk : ∀ b o, hp.get? b = some o → ((hp.push (PySem.W.kdv_tup [u])).push (PySem.HandSPX.excO C hp.objs.size)).get? b = some o := fun b o e => Heap.get?_push_of_some _ (Heap.get?_push_of_some _ e)
  have lx : ((hp.push (PySem.W.kdv_tup [u])).push (PySem.HandSPX.excO C hp.objs.size)).get? (hp.objs.size + 1) = some (PySem.HandSPX.excO C hp.objs.size) := by heap_get
  have J : Inv X pins σ (upd H (hp.objs.size + 1) (exo (hp.objs.size + 1) C none)) ⟨(hp.push (PySem.W.kdv_tup [u])).push (PySem.HandSPX.excO C hp.objs.size), g, dr, tk, os⟩ :=
    I.laid (t' := tk) (a := hp.objs.size + 1) (o := exo (hp.objs.size + 1) C none) (h' := (hp.push (PySem.W.kdv_tup [u])).push (PySem.HandSPX.excO C hp.objs.size)) kk (Nat.le_succ _) (exo_ok lx)
  have rr : Vals [V.ref (hp.objs.size + 1), y] [Value.ref (hp.objs.size + 1), u] := .cons rfl (.cons r .nil)
  have hl : [Value.ref (hp.objs.size + 1), u].length = ps.length := by rw [← F.ar _ _ _ _ q1]; rfl
  refine wpAny_call (PySem.HandSPX.call_own PySem.F.excBase_ValueError (fun Y => PySem.HandSPX.refsVE_contains Y bm hv) (I.kIn _ _ lC) (PySem.W.looks_findIn I.kIn M.iC) (fun self => PySem.W.bind_fn I.kIn self M.tI) (by show 1 ≤ sizeLine; rw [sizeLine_eq]; omega) (codeAny_mono
    (F.go _ X.stack _ _ ⟨[Value.ref (hp.objs.size + 1), u], []⟩ [Value.ref (hp.objs.size + 1), u] _ _ (W σ) hg (hr.make C [u] []) (J.env0.make C [u] []) (by simpa using hb _ [Value.ref (hp.objs.size + 1), u] J.kIn (by simpa using hl)) rr q1) fun r s' z => ?_))
  match r, z with
  | .error e, z => exact hx pins _ _ e s' J z
  | .ok (.ret v), z =>
    obtain ⟨v, H', I3, rv, ev, q3⟩ := J.after z
    subst ev
    exact ⟨rv, V.ref (hp.objs.size + 1), H', I3, rfl, q3⟩
theorem run_oexK (M : MkX X.K C fI) (F : FnG X.prog X.w X.K X.mg X.base k fI fd ps sp) (hg : X.A.guards = some []) (hr : Room (k + 1) X.A) (hb : ∀ (s : Shared) (a b : Value), BindsTo s fd ⟨[a], [(f, b)]⟩ (ps.zip [a, b])) (hx : PassesAt (L2.CX X.prog X.w) X σ (W σ)) (I : Inv X pins σ H s) (r : RelV y u)
    (h : ∀ a, H a = none → sp [.ref a, y] (upd H a (exo a C none)) (fun v H2 => v = .non ∧ Q (.ref a) H2) (W σ)) : wpAny (model X.prog X.w) X.A (call (.ref C) [] [(f, u)]) (EP X pins σ Q) X.xe s := by
  obtain ⟨nm, q, N, bs, bm, sn, sub, ab, col, dd, k0, k1, k2, k3, k5, lC, hv⟩ := M.T.cls
  obtain ⟨hp, g, dr, tk, os⟩ := s
  have fr : H (hp.objs.size + 1) = none := I.hok.fresh (Nat.le_succ _)
  have q1 := h (hp.objs.size + 1) fr
  have kk : ∀ b o, hp.get? b = some o → (kwHeap hp C).get? b = some o := fun b o e => Heap.get?_push_of_some _ (Heap.get?_push_of_some _ e)
  have lx : (kwHeap hp C).get? (hp.objs.size + 1) = some (PySem.HandSPX.excO C hp.objs.size) := by heap_get
  have J : Inv X pins σ (upd H (hp.objs.size + 1) (exo (hp.objs.size + 1) C none)) ⟨kwHeap hp C, g, dr, tk, os⟩ :=
    I.laid (t' := tk) (a := hp.objs.size + 1) (o := exo (hp.objs.size + 1) C none) (h' := kwHeap hp C) kk (Nat.le_succ _) (exo_ok lx)
  have rr : Vals [V.ref (hp.objs.size + 1), y] [Value.ref (hp.objs.size + 1), u] := .cons rfl (.cons r .nil)
  refine wpAny_call (kwe_call PySem.F.excBase_ValueError (fun Y => PySem.HandSPX.refsVE_contains Y bm hv) (I.kIn _ _ lC) (PySem.W.looks_findIn I.kIn M.iC) (fun self => PySem.W.bind_fn I.kIn self M.tI) (codeAny_mono
    (F.go _ X.stack _ _ ⟨[Value.ref (hp.objs.size + 1)], [(f, u)]⟩ [Value.ref (hp.objs.size + 1), u] _ _ (W σ) hg (hr.make C [] [(f, u)]) (J.env0.make C [] [(f, u)]) (hb _ _ _) rr q1) fun r s' z => ?_))
  match r, z with
  | .error e, z => exact hx pins _ _ e s' J z
  | .ok (.ret v), z =>
    obtain ⟨v, H', I3, rv, ev, q3⟩ := J.after z
    subst ev
    exact ⟨rv, V.ref (hp.objs.size + 1), H', I3, rfl, q3⟩
end
/-- C(e), C(f = e) -/
def tXM (C : Addr) (sp : Sp) (E : St → XK) (ta : TA) : TE := fun σ H Q => ta σ H fun vs H1 => ∃ y, vs = [y] ∧ ∀ a, H1 a = none → sp [.ref a, y] (upd H1 a (exo a C none)) (fun v H2 => v = .non ∧ Q (.ref a) H2) (E σ)
section
variable {X : Cx} {C fI : Addr} {k : Nat} {fd : FuncData} {ps : List Str} {sp : Sp} {E : St → XK} {x f : Str} {p pos : Pos} {kp : Pos} {e : Expr} {te : TE}
theorem pe_xm (M : MkX X.K C fI) (kC : PySem.W.keepIn X.K (.ref C) = true) (F : FnG X.prog X.w X.K X.mg X.base k fI fd ps sp) (hg0 : X.A.guards = some []) (hr : Room (k + 1) X.A) (hb : Binds X.K fd ps []) (hx : ∀ σ, PassesAt (L2.CX X.prog X.w) X σ (E σ)) (hg : Gl X x) (hm : X.mg x = some (.ref C)) (he : PE X e te)
    (hdb : (x == ("__debug__" : Str)) = false := by decide) (hs : starEach [e] X.env = (false, eval e X.env) :: starEach [] X.env := by rfl) (hp : (backTo pos (starEach [] X.env)).any (·.1) = false := by rfl) :
    PE X (.Call (.Name x p) [e] [] pos) (tXM C sp E (tCons te tNil)) := ⟨fun pins s σ H Q I h =>
  wpAny_Call_Name_kw (ld_glob I hg hm (PySem.W.callWith_K (h₀ := X.base) I.ok.mod.kin kC
    (thn ((pa_cons he pa_nil hs).run pos pins s σ H _ I h) fun us s1 q => by
      obtain ⟨vs, H1, I1, r, y, ev, q⟩ := q
      subst ev
      cases r with
      | cons r1 r2 =>
        cases r2
        exact ⟨I1.kIn, run_oexP M F hg0 hr hb (hx σ) I1 r1 q⟩) hs hp) hdb)⟩
theorem pe_xmk (M : MkX X.K C fI) (kC : PySem.W.keepIn X.K (.ref C) = true) (F : FnG X.prog X.w X.K X.mg X.base k fI fd ps sp) (hg0 : X.A.guards = some []) (hr : Room (k + 1) X.A) (hb : ∀ (s : Shared) (a b : Value), BindsTo s fd ⟨[a], [(f, b)]⟩ (ps.zip [a, b])) (hx : ∀ σ, PassesAt (L2.CX X.prog X.w) X σ (E σ)) (hg : Gl X x) (hm : X.mg x = some (.ref C)) (he : PE X e te)
    (hall : (backToKw pos (keywordEach [⟨some f, e, kp⟩] X.env)).all (·.1.isSome) = true := by rfl) (hks : (backToKw pos (keywordEach [⟨some f, e, kp⟩] X.env)).filterMap (·.1) = [f] := by rfl) (hdb : (x == ("__debug__" : Str)) = false := by decide)
    (hpl : ((backTo pos (starEach [] X.env)).any (·.1) || (backToKw pos (keywordEach [⟨some f, e, kp⟩] X.env)).any (·.1.isNone)) = false := by rfl) :
    PE X (.Call (.Name x p) [] [⟨some f, e, kp⟩] pos) (tXM C sp E (tCons te tNil)) := ⟨fun pins s σ H Q I h =>
  wpAny_Call_Name_kw (ld_glob I hg hm (PySem.W.callWith_KW0 (h₀ := X.base) I.ok.mod.kin kC hall
    (thn ((pk_cons he pk_nil).run pos pins s σ H _ I h) fun us s1 q => by
      obtain ⟨vs, H1, I1, r, y, ev, q⟩ := q
      subst ev
      cases r with
      | cons r1 r2 =>
        cases r2
        rw [hks]
        exact ⟨I1.kIn, run_oexK M F hg0 hr hb (hx σ) I1 r1 q⟩) hpl) hdb)⟩
end
end Rt
set_option Elab.async false
set_option linter.all false
set_option maxRecDepth 100000
set_option maxHeartbeats 4000000
/-! own exceptions as data -/
namespace Rt
open PySem PySem.Spec L2
open PyProof.Rows hiding St
def fmtT (zs : List Str) : Bool := zs.all (fun z => z.cps.toList.all fun c => decide (c < 16 ^ 8)) && decide (fmtCost zs + 1007 ≤ sizeLine)
/-- what may stand in the message -/
def fmtB (tp : Bool) : D → Bool
  | .int i => !tp && decide (i.natAbs < 10 ^ 9)
  | .tup l => tp && (strsOf l).any fmtT
  | _ => false
theorem fmtB_ok {K : PySem.W.Frag} {mg : Str → Option Value} {F : Fr} {G : Hp} {σ : L2.St} {env : En} {H : Hp} {tp : Bool} {v : V} {d : D} (R : Rep K mg F G σ env H) (dv : DV K mg G v d) (h : fmtB tp d = true) : Tells K tp H v := by
  cases d with
  | int i =>
    cases tp with
    | true => cases h
    | false => exact ⟨i, cur_int (H := H) (.inl dv), of_decide_eq_true (by simpa [fmtB] using h)⟩
  | tup l =>
    cases tp with
    | false => cases h
    | true =>
      obtain ⟨a, xs, rfl, ha, l2⟩ := cur_tup R (.inl dv)
      have h : (strsOf l).any fmtT = true := h
      cases z : strsOf l with
      | none => rw [z] at h; cases h
      | some zs =>
        rw [z] at h
        have h : fmtT zs = true := h
        unfold fmtT at h
        simp only [Bool.true_and, Bool.and_eq_true, List.all_eq_true, decide_eq_true_eq] at h
        refine ⟨a, zs, rfl, ?_, h.1, h.2⟩
        rw [← strs_v l2 z]
        exact .inl (.inl ha)
  | _ => cases h
/-- C(e), C(f = e): c an own class with an __init__ that keeps f -/
def fExI (c f : Str) (tp : Bool) (fa : En → Rs (Hd × En)) : En → Rs (Hd × En) := fun e => fa e >>= fun r => r.1.esc r.2 >>= fun v => if fmtB tp v.1 = true then .ok (.dat (.exc c [(f, v.1)]), v.2) else .bad
theorem upd_twice {H : Hp} {a b : Addr} {o o1 u : HO} (h : b ≠ a) : upd (upd (upd H a o1) b u) a o = upd (upd H b u) a o := by
  funext z
  by_cases e : z = a
  · subst e; rw [upd_same, upd_same]
  · rw [upd_ne e, upd_ne e]
    by_cases e2 : z = b
    · subst e2; rw [upd_same, upd_same]
    · rw [upd_ne e2, upd_ne e2, upd_ne e]
section
variable {X : Cx} {W : Wsh} {k : Nat} {a : Expr} {fa : En → Rs (Hd × En)} {pos p kp : Pos} {c f x : Str} {C fI : Addr} {tp : Bool} {fd : FuncData} {ps : List Str} {e : Expr} {es : List Expr}
theorem exi_run (mC : X.mg c = some (.ref C)) {F : Fr} {σ : L2.St} {H : Hp} {Q : VK} (q : tB X.K X.mg W F (fExI c f tp fa) σ H Q) : tXM C (spI X.K C f tp) W (tCons (tB X.K X.mg W F fa) tNil) σ H Q := by
  obtain ⟨G, env, R, q⟩ := q
  refine ⟨G, env, R, Rs.wp_mono (Rs.wp_bind.mp q) (fun r q v G1 H1 g1 R1 o1 => ?_) fun _ _ _ z => z⟩
  obtain ⟨r2, G2, q, g2, R2, dv⟩ := wp_esc R1 o1 (Rs.wp_bind.mp q)
  by_cases hb : fmtB tp r2.1 = true
  · have q : ((if fmtB tp r2.1 = true then .ok (.dat (.exc c [(f, r2.1)]), r2.2) else .bad) : Rs (Hd × En)).wp _ _ := q
    rw [if_pos hb] at q
    refine ⟨v, rfl, fun b hn => ⟨b, v, rfl, upd_same, ?_, fun dx hd ne => ⟨rfl, ?_⟩⟩⟩
    · exact fmtB_ok (R2.alloc hn) dv hb
    · have hd1 : H1 dx = none := by rw [upd_ne ne] at hd; exact hd
      rw [upd_twice ne]
      obtain ⟨g3, R3⟩ := R2.new (o := exd dx [(f, v)]) hd1
      have hb1 : (upd H1 dx (exd dx [(f, v)])) b = none := by rw [upd_ne (Ne.symm ne)]; exact hn
      obtain ⟨g4, R4⟩ := R3.new (o := exo b C (some dx)) hb1
      refine q (.ref b) _ _ (g1.trans (g2.trans (g3.trans g4))) R4 (.exc (fs := [(f, v)]) (dx := dx) mC upd_same ?_ rfl (.cons (dv.mono (g3.trans g4)) .nil))
      rw [upd_ne ne, upd_same]
  · have q : ((if fmtB tp r2.1 = true then .ok (.dat (.exc c [(f, r2.1)]), r2.2) else .bad) : Rs (Hd × En)).wp _ _ := q
    rw [if_neg hb] at q
    exact q.elim
theorem pb_exi {j : Nat} (mC : X.mg x = some (.ref C)) (M : MkX X.K C fI) (kC : PySem.W.keepIn X.K (.ref C) = true) (Fn : FnG X.prog X.w X.K X.mg X.base j fI fd ps (spI X.K C f tp)) (hj : j + 1 ≤ k) (Y : Hy X W k) (hb : Binds X.K fd ps []) (hg : Gl X x) (ha : PB X W a fa)
    (hdb : (x == ("__debug__" : Str)) = false := by decide) (hs : starEach [a] X.env = (false, eval a X.env) :: starEach [] X.env := by rfl) (hp : (backTo pos (starEach [] X.env)).any (·.1) = false := by rfl) :
    PB X W (.Call (.Name x p) [a] [] pos) (fExI x f tp fa) := fun F => pe_weak (pe_xm M kC Fn Y.gd (Y.rm.mono hj) hb Y.tk hg mC (ha F) hdb hs hp) fun σ H Q q => exi_run mC q
theorem pb_exk {j : Nat} (mC : X.mg x = some (.ref C)) (M : MkX X.K C fI) (kC : PySem.W.keepIn X.K (.ref C) = true) (Fn : FnG X.prog X.w X.K X.mg X.base j fI fd ps (spI X.K C f tp)) (hj : j + 1 ≤ k) (Y : Hy X W k) (hb : ∀ (s : Shared) (a b : Value), BindsTo s fd ⟨[a], [(f, b)]⟩ (ps.zip [a, b])) (hg : Gl X x) (ha : PB X W a fa)
    (hall : (backToKw pos (keywordEach [⟨some f, a, kp⟩] X.env)).all (·.1.isSome) = true := by rfl) (hks : (backToKw pos (keywordEach [⟨some f, a, kp⟩] X.env)).filterMap (·.1) = [f] := by rfl) (hdb : (x == ("__debug__" : Str)) = false := by decide)
    (hpl : ((backTo pos (starEach [] X.env)).any (·.1) || (backToKw pos (keywordEach [⟨some f, a, kp⟩] X.env)).any (·.1.isNone)) = false := by rfl) :
    PB X W (.Call (.Name x p) [] [⟨some f, a, kp⟩] pos) (fExI x f tp fa) := fun F => pe_weak (pe_xmk M kC Fn Y.gd (Y.rm.mono hj) hb Y.tk hg mC (ha F) hall hks hdb hpl) fun σ H Q q => exi_run mC q
/-- C(e): c without an own __init__ -/
def fEx0 (c : Str) (fa : En → Rs (Hd × En)) : En → Rs (Hd × En) := fun e => fa e >>= fun r => .ok (.dat (.exc c []), r.2)
theorem pb_ex0 {veB : List Value} {B nI iI : String} (Fb : ExcBaseFacts B nI iI veB) (mC : X.mg x = some (.ref C)) (h : PySem.W.excIn X.K C veB nI = true) (kC : PySem.W.keepIn X.K (.ref C) = true) (hg : Gl X x) (ha : PB X W a fa)
    (hs : starEach [a] X.env = (false, eval a X.env) :: starEach [] X.env := by rfl) (hdb : (x == ("__debug__" : Str)) = false := by decide) :
    PB X W (.Call (.Name x p) [a] [] pos) (fEx0 x fa) := fun F => pe_weak (pe_exc1 Fb h mC kC hg (ha F) hs hdb) fun σ H Q q => by
  obtain ⟨G, env, R, q⟩ := q
  refine ⟨G, env, R, Rs.wp_mono (Rs.wp_bind.mp q) (fun r q v G1 H1 g1 R1 o1 b hn => ?_) fun _ _ _ z => z⟩
  have q : ((.ok (.dat (.exc x []), r.2)) : Rs (Hd × En)).wp _ _ := q
  obtain ⟨g3, R3⟩ := R1.new (o := ExO (.ref C) b) hn
  exact q (.ref b) _ _ (g1.trans g3) R3 (.ex0 mC upd_same)
end
end Rt
set_option Elab.async false
set_option linter.all false
set_option maxRecDepth 100000
set_option maxHeartbeats 4000000
/-! own exceptions as data: isinstance, fields -/
namespace Rt
open PySem PySem.Spec L2
open PyProof.Rows hiding St
/-- what the class must say so that isinstance asks its instances rightly, and fields are read -/
structure AskX (K : PySem.W.Frag) (C : Addr) : Prop where
  cl : (PySem.W.clsIn K C).isSome = true
  ga : PySem.W.findIn K (.ref C) "__getattribute__" = some (some (.builtin "BaseException.__getattribute__"))
  gg : PySem.W.findIn K (.ref C) "__getattr__" = some none
  sub : PySem.W.subIn K (.ref C) (.type "BaseException") = some true
  dict : PySem.W.hasDictIn K C = true
  cc : PySem.W.findIn K (.ref C) "__class__" = some (some (.builtin "object.__class__"))
  gs : PySem.W.specialIn K (.builtin "object.__class__") "__get__" = some (some (.builtin "getset_descriptor.__get__"))
  tk : PySem.W.takesIn K (.builtin "object.__class__") = some true
  ob : PySem.W.mroIn K C (.type "object") = some true
/-- isinstance(e, T), e an own exception: T own class or built-in, told by its value -/
def rIsX (K : PySem.W.Frag) : List V → Hp → VK → Prop := fun xs H Q => ∃ (a C : Addr) (c : V) (u : Value) (b : Bool), xs = [.ref a, c] ∧ RelV c u ∧ (∀ w, RelV c w → w = u) ∧ AskX K C ∧ ((∃ dx fs, H a = some (exo a C (some dx)) ∧ H dx = some (exd dx fs)) ∨ H a = some (ExO (.ref C) a)) ∧ PySem.W.kitOne K (.ref C) u = some b ∧ Q (.bl b) H
theorem call_isX {X : Cx} : CallR X (.builtin "isinstance") (rIsX X.K) := by
  intro pins s σ H xs us Q I r h
  obtain ⟨a, C, c, cv, b, rfl, _, hu, T, hk, e, q⟩ := h
  cases r with
  | cons rx rr =>
    cases rr with
    | cons rt rr =>
      cases rr
      cases rx
      have ec := hu _ rt
      subst ec
      rcases hk with ⟨dx, fs, h1, h2⟩ | h1
      · obtain ⟨t1, g1⟩ := exo_at I.hok h1
        obtain ⟨mA, hn, _⟩ := exd_at I.hok h2
        obtain ⟨od, ho, hl⟩ := lookIn_ns hn
        exact PySem.W.kia_one (PySem.W.kitx_exc (od := some od) T.cl T.ga T.gg T.sub T.cc T.gs T.tk T.ob) I.kIn ⟨g1, rfl, rfl, ho⟩ e (fun z => nomatch z) fun tk => ⟨.bl b, H, I.kept (t' := tk) fun _ _ z => z, rfl, q⟩
      · obtain ⟨⟨oe, vs, g1, hz, hd, _⟩, _, _⟩ := I.hok a _ h1
        exact PySem.W.kia_one (PySem.W.kitx_exc (od := none) (ox := oe) T.cl T.ga T.gg T.sub T.cc T.gs T.tk T.ob) I.kIn ⟨g1, hz.1, by unfold PySem.W.notCls; rw [hd] <;> rfl, by rw [hz.2]; trivial⟩ e (fun z => nomatch z) fun tk => ⟨.bl b, H, I.kept (t' := tk) fun _ _ z => z, rfl, q⟩
/-- isinstance(e, T), T one of the names that `sub` knows -/
def fIsX (sub : Str → Option Bool) (fa : En → Rs (Hd × En)) : En → Rs (Hd × En) := fun e => fa e >>= fun r => Rs.of (r.1.get r.2) >>= fun d => match d with
  | .exc c _ => Rs.of (sub c) >>= fun b => .ok (.dat (.bl b), r.2)
  | _ => .bad
theorem cur_exc {K : PySem.W.Frag} {mg : Str → Option Value} {F : Fr} {G : Hp} {σ : L2.St} {env : En} {H : Hp} {v : V} {c : Str} {df : List (Str × D)} (R : Rep K mg F G σ env H) (h : Cur K mg G H v (.exc c df)) : ∃ a C, v = .ref a ∧ mg c = some (.ref C) ∧
    ((∃ dx fs, H a = some (exo a C (some dx)) ∧ H dx = some (exd dx fs) ∧ fs.map (·.1) = df.map (·.1) ∧ DVs K mg G (fs.map (·.2)) (df.map (·.2))) ∨ H a = some (ExO (.ref C) a) ∧ df = []) := by
  rcases h with h | ⟨a, rfl, h, _⟩
  · cases h with
    | exc m h1 h2 e l => exact ⟨_, _, rfl, m, .inl ⟨_, _, gh_of R h1 rfl, gh_of R h2 rfl, e, l⟩⟩
    | ex0 m h1 => exact ⟨_, _, rfl, m, .inr ⟨gh_of R h1 rfl, rfl⟩⟩
  · cases h
section
variable {X : Cx} {W : Wsh} {k : Nat} {a : Expr} {fa : En → Rs (Hd × En)} {pos p pt : Pos} {f T : Str}
theorem isx_run {sub : Str → Option Bool} {cv : V} {u : Value} (hs : ∀ c C b, X.mg c = some (.ref C) → sub c = some b → AskX X.K C ∧ PySem.W.kitOne X.K (.ref C) u = some b) (r1 : RelV cv u) (r2 : ∀ w, RelV cv w → w = u) {F : Fr} {σ : L2.St} {H : Hp} {Q : VK}
    (q : tB X.K X.mg W F (fIsX sub fa) σ H Q) : tCB (rIsX X.K) (tCons (tB X.K X.mg W F fa) (tCons (tC cv) tNil)) σ H Q := by
  obtain ⟨G, env, R, q⟩ := q
  refine ⟨G, env, R, Rs.wp_mono (Rs.wp_bind.mp q) (fun r q v G1 H1 g1 R1 o1 => ?_) fun _ _ _ z => z⟩
  obtain ⟨d, ed, q⟩ := wp_of (Rs.wp_bind.mp q)
  cases d with
  | exc c df =>
    have q : ((Rs.of (sub c) >>= fun b => .ok (.dat (.bl b), r.2)) : Rs (Hd × En)).wp _ _ := q
    obtain ⟨b, eb, q⟩ := wp_of (Rs.wp_bind.mp q)
    obtain ⟨x, C, rfl, mC, h⟩ := cur_exc R1 (o1.cur R1 ed)
    obtain ⟨T1, T2⟩ := hs c C b mC eb
    exact ⟨x, C, cv, u, b, rfl, r1, r2, T1, h.imp (fun ⟨dx, fs, h1, h2, _⟩ => ⟨dx, fs, h1, h2⟩) (·.1), T2, q _ G1 H1 g1 R1 .bl⟩
  | _ => exact q.elim
theorem pb_isx {sub : Str → Option Bool} {D : Addr} (hs : ∀ c C b, X.mg c = some (.ref C) → sub c = some b → AskX X.K C ∧ PySem.W.kitOne X.K (.ref C) (.ref D) = some b) (hg : Gl X "isinstance") (hm : X.mg "isinstance" = none) (hv : bootBuiltins "isinstance" = some (.builtin "isinstance")) (hgT : Gl X T) (hmT : X.mg T = some (.ref D)) (ha : PB X W a fa)
    (he : starEach [a, .Name T pt] X.env = (false, eval a X.env) :: starEach [.Name T pt] X.env := by rfl) (hpl : (backTo pos (starEach [.Name T pt] X.env)).any (·.1) = false := by rfl) (hs2 : starEach [.Name T pt] X.env = (false, eval (.Name T pt) X.env) :: starEach [] X.env := by rfl) (hdb : (T == ("__debug__" : Str)) = false := by decide) :
    PB X W (.Call (.Name "isinstance" p) [a, .Name T pt] [] pos) (fIsX sub fa) :=
  fun F => pe_weak (pe_callB call_isX hg hm hv (pa_cons (ha F) (pa_cons (pe_glob (v := .ref D) hgT hmT rfl hdb) pa_nil hs2) he) (by decide) (by decide) he hpl) fun σ H Q q => isx_run (cv := .ref D) hs rfl (fun w z => z) q
theorem pb_isxB {sub : Str → Option Bool} {t : String} (hs : ∀ c C b, X.mg c = some (.ref C) → sub c = some b → AskX X.K C ∧ PySem.W.kitOne X.K (.ref C) (.type t) = some b) (hg : Gl X "isinstance") (hm : X.mg "isinstance" = none) (hv : bootBuiltins "isinstance" = some (.builtin "isinstance")) (hgT : Gl X T) (hmT : X.mg T = none) (hvT : bootBuiltins T = some (.type t)) (ha : PB X W a fa)
    (he : starEach [a, .Name T pt] X.env = (false, eval a X.env) :: starEach [.Name T pt] X.env := by rfl) (hpl : (backTo pos (starEach [.Name T pt] X.env)).any (·.1) = false := by rfl) (hs2 : starEach [.Name T pt] X.env = (false, eval (.Name T pt) X.env) :: starEach [] X.env := by rfl) (hn : T ≠ "__name__" := by decide) (hdb : (T == ("__debug__" : Str)) = false := by decide) :
    PB X W (.Call (.Name "isinstance" p) [a, .Name T pt] [] pos) (fIsX sub fa) :=
  fun F => pe_weak (pe_callB call_isX hg hm hv (pa_cons (ha F) (pa_cons (pe_bltn (v := .ty t) hgT hmT hvT rfl hn hdb) pa_nil hs2) he) (by decide) (by decide) he hpl) fun σ H Q q => isx_run (cv := .ty t) hs rfl (fun w z => z) q
/-- e.f, e an own exception that has f -/
def fXfl (has : Str → Bool) (f : Str) (fa : En → Rs (Hd × En)) : En → Rs (Hd × En) := fun e => fa e >>= fun r => Rs.of (r.1.get r.2) >>= fun d => match d with
  | .exc c fs => if has c = true then Rs.of (fs.lookup f) >>= fun v => .ok (.dat v, r.2) else .bad
  | _ => .bad
def tXfl (K : PySem.W.Frag) (f : Str) (te : TE) : TE := fun σ H Q => te σ H fun x H1 => ∃ (a C dx : Addr) (fs : List (Str × V)) (v : V), x = .ref a ∧ AskX K C ∧ PySem.W.findIn K (.ref C) f = some none ∧ H1 a = some (exo a C (some dx)) ∧ H1 dx = some (exd dx fs) ∧ fs.lookup f = some v ∧ Q v H1
theorem pe_xfl {te : TE} (he : PE X a te) (hb : attributeBase a f X.env (eval a X.env) = eval a X.env := by rfl) : PE X (.Attribute a f pos) (tXfl X.K f te) := by
  refine ⟨fun pins s σ H Q I h => attr_of hb (thn (he.run pins s σ H _ I h) fun u s1 hh => ?_)⟩
  obtain ⟨x, H1, I1, rx, a1, C, dx, fs, v, ex, T, no, h1, h2, l, q⟩ := hh
  subst ex
  obtain rfl : u = Value.ref a1 := rx
  obtain ⟨t1, g1⟩ := exo_at I1.hok h1
  obtain ⟨mA, hn, hr⟩ := exd_at I1.hok h2
  obtain ⟨od, ho, hl⟩ := lookIn_ns hn
  obtain ⟨u, hu, ru⟩ := RelO.some_of (v := v) (o := mA f) (by rw [← l]; exact hr f)
  exact HandSPX.exc_get I1.kIn (⟨g1, rfl, rfl, ho⟩ : PySem.W.InstAt s1.heap a1 _ C (some od)) T.ga T.gg T.sub (PySem.W.findObj_own T.dict no rfl (by rw [hl, hu])) (handed_of ru) ⟨v, H1, I1.tok _, ru, q⟩
theorem pb_xfl {has : Str → Bool} (hs : ∀ c C, X.mg c = some (.ref C) → has c = true → AskX X.K C ∧ PySem.W.findIn X.K (.ref C) f = some none) (ha : PB X W a fa) (hb : attributeBase a f X.env (eval a X.env) = eval a X.env := by rfl) : PB X W (.Attribute a f pos) (fXfl has f fa) := fun F => pe_weak (pe_xfl (ha F) hb) fun σ H Q q => by
  obtain ⟨G, env, R, q⟩ := q
  refine ⟨G, env, R, Rs.wp_mono (Rs.wp_bind.mp q) (fun r q v G1 H1 g1 R1 o1 => ?_) fun _ _ _ z => z⟩
  obtain ⟨d, ed, q⟩ := wp_of (Rs.wp_bind.mp q)
  cases d with
  | exc c df =>
    have q : ((if has c = true then Rs.of (df.lookup f) >>= fun v => .ok (.dat v, r.2) else .bad) : Rs (Hd × En)).wp _ _ := q
    by_cases hc : has c = true
    · rw [if_pos hc] at q
      obtain ⟨w, hw, q⟩ := wp_of (Rs.wp_bind.mp q)
      obtain ⟨x, C, rfl, mC, h⟩ := cur_exc R1 (o1.cur R1 ed)
      obtain ⟨T1, T2⟩ := hs c C mC hc
      rcases h with ⟨dx, fs, h1, h2, e1, l⟩ | ⟨_, rfl⟩
      · obtain ⟨y, hy, dv⟩ := lookup_dv e1 l hw
        exact ⟨x, C, dx, fs, y, rfl, T1, T2, h1, h2, hy, q y G1 H1 g1 R1 dv⟩
      · cases hw
    · rw [if_neg hc] at q
      exact q.elim
  | _ => exact q.elim
end
end Rt
set_option Elab.async false
set_option linter.all false
set_option maxRecDepth 100000
set_option maxHeartbeats 4000000
/-! own exceptions: the text's answers, from one look at the written part -/
namespace Rt
open PySem PySem.Spec L2
open PyProof.Rows hiding St
theorem oexC_mk {K : PySem.W.Frag} {C N : Addr} {nm q : Str} {bs bm : List Value} {sn : List Str} {sub : List Value} {ab : Bool} {col : Option Bool} {dd : Option Addr} {k0 k1 k2 k3 k5 : Option Value} (h : K.lookup C = some (excClassObj nm q C N bs bm true sn sub ab col dd k0 k1 k2 k3 k5 "ValueError.__new__"))
    (h2 : PySem.HandSPX.refsVE bm = true) (h3 : PySem.W.findIn K (.ref C) "__setattr__" = some (some (.builtin "object.__setattr__"))) (h4 : PySem.W.subIn K (.ref C) (.type "BaseException") = some true) (h5 : PySem.W.typeIn K (.ref C) = some (.type "type")) (h6 : PySem.W.keepIn K (.ref C) = true) : OexC K C :=
  ⟨⟨_, _, _, _, _, _, _, _, _, _, _, _, _, _, _, h, h2⟩, h3, h4, h5, h6⟩
def clsBody : Stmt → List Stmt
  | .ClassDef _ _ _ b _ _ _ _ _ _ _ => b
  | _ => []
section
variable {K : PySem.W.Frag}
def askB (K : PySem.W.Frag) (C : Addr) : Bool :=
  (PySem.W.clsIn K C).isSome && (decide (PySem.W.findIn K (.ref C) "__getattribute__" = some (some (.builtin "BaseException.__getattribute__"))) && (decide (PySem.W.findIn K (.ref C) "__getattr__" = some none) &&
  (decide (PySem.W.subIn K (.ref C) (.type "BaseException") = some true) && (PySem.W.hasDictIn K C && (decide (PySem.W.findIn K (.ref C) "__class__" = some (some (.builtin "object.__class__"))) &&
  (decide (PySem.W.specialIn K (.builtin "object.__class__") "__get__" = some (some (.builtin "getset_descriptor.__get__"))) && (decide (PySem.W.takesIn K (.builtin "object.__class__") = some true) && decide (PySem.W.mroIn K C (.type "object") = some true))))))))
theorem askB_ok {C : Addr} (h : askB K C = true) : AskX K C := by
  unfold askB at h
  simp only [Bool.and_eq_true, decide_eq_true_eq] at h
  obtain ⟨h1, h2, h3, h4, h5, h6, h7, h8, h9⟩ := h
  exact ⟨h1, h2, h3, h4, h5, h6, h7, h8, h9⟩
/-- the classes of the text, each with its place and its field -/
abbrev XL := List (Str × Addr × Option Str)
/-- c is T or one of those below it: as the list `anc` of pairs says -/
def xAll (K : PySem.W.Frag) (anc : Str → Str → Bool) (l : XL) : Bool := l.all fun p => askB K p.2.1 && (decide (PySem.W.kitOne K (.ref p.2.1) (.type "ValueError") = some true) &&
  ((match p.2.2 with
    | some f => decide (PySem.W.findIn K (.ref p.2.1) f = some none)
    | none => true) && l.all fun q => decide (PySem.W.kitOne K (.ref p.2.1) (.ref q.2.1) = some (anc p.1 q.1))))
def nmX (l : XL) (c : Str) : Bool := l.any fun p => p.1 == c
def subX (ns : List Str) (anc : Str → Str → Bool) (T c : Str) : Option Bool := if ns.contains c then (if T == ("ValueError" : Str) then some true else if ns.contains T then some (anc c T) else none) else none
section
variable {mg : Str → Option Value} {anc : Str → Str → Bool} {l : XL}
theorem xl_at (hm : ∀ p ∈ l, mg p.1 = some (.ref p.2.1)) {c : Str} {C : Addr} (h : (l.map (·.1)).contains c = true) (mC : mg c = some (.ref C)) : ∃ f, (c, C, f) ∈ l := by
  rw [List.contains_iff_mem] at h
  obtain ⟨⟨c', C', f⟩, hp, e⟩ := List.mem_map.mp h
  have e : c' = c := e
  subst e
  have := hm _ hp
  rw [mC] at this
  have e2 := Value.ref.inj (Option.some.inj this)
  subst e2
  exact ⟨f, hp⟩
theorem xAll_is (hm : ∀ p ∈ l, mg p.1 = some (.ref p.2.1)) (h : xAll K anc l = true) {T : Str} {D : Addr} (nT : (T == ("ValueError" : Str)) = false) (mT : mg T = some (.ref D)) {c : Str} {C : Addr} {b : Bool} (mC : mg c = some (.ref C)) (e : subX (l.map (·.1)) anc T c = some b) :
    AskX K C ∧ PySem.W.kitOne K (.ref C) (.ref D) = some b := by
  unfold subX at e
  rw [nT] at e
  by_cases h1 : (l.map (·.1)).contains c = true
  · rw [if_pos h1] at e
    by_cases h2 : (l.map (·.1)).contains T = true
    · rw [if_neg (by decide), if_pos h2] at e
      cases e
      obtain ⟨f, p1⟩ := xl_at hm h1 mC
      obtain ⟨g, p2⟩ := xl_at hm h2 mT
      have z := List.all_eq_true.mp h _ p1
      simp only [Bool.and_eq_true] at z
      have z2 := List.all_eq_true.mp z.2.2.2 _ p2
      exact ⟨askB_ok z.1, of_decide_eq_true z2⟩
    · rw [if_neg (by decide), if_neg h2] at e; cases e
  · rw [if_neg h1] at e; cases e
theorem xAll_ve (hm : ∀ p ∈ l, mg p.1 = some (.ref p.2.1)) (h : xAll K anc l = true) {c : Str} {C : Addr} {b : Bool} (mC : mg c = some (.ref C)) (e : subX (l.map (·.1)) anc "ValueError" c = some b) :
    AskX K C ∧ PySem.W.kitOne K (.ref C) (.type "ValueError") = some b := by
  unfold subX at e
  by_cases h1 : (l.map (·.1)).contains c = true
  · rw [if_pos h1, if_pos (by decide)] at e
    cases e
    obtain ⟨f, p1⟩ := xl_at hm h1 mC
    have z := List.all_eq_true.mp h _ p1
    simp only [Bool.and_eq_true] at z
    exact ⟨askB_ok z.1, of_decide_eq_true z.2.1⟩
  · rw [if_neg h1] at e; cases e
def hasX (l : List (Str × Option Str)) (f c : Str) : Bool := l.any fun p => p.1 == c && p.2 == some f
end
theorem xAll_fld {mg : Str → Option Value} {anc : Str → Str → Bool} {l : XL} (hm : ∀ p ∈ l, mg p.1 = some (.ref p.2.1)) (h : xAll K anc l = true) {f c : Str} {C : Addr} (mC : mg c = some (.ref C)) (e : hasX (l.map fun p => (p.1, p.2.2)) f c = true) :
    AskX K C ∧ PySem.W.findIn K (.ref C) f = some none := by
  obtain ⟨⟨c', f'⟩, hp, e⟩ := List.any_eq_true.mp e
  obtain ⟨⟨c2, C2, f2⟩, hq, e2⟩ := List.mem_map.mp hp
  cases e2
  simp only [Bool.and_eq_true, beq_iff_eq] at e
  obtain ⟨e1, e2⟩ := e
  have e1 : c2 = c := e1
  have e2 : f2 = some f := e2
  subst e1 e2
  have := hm _ hq
  rw [mC] at this
  have e3 := Value.ref.inj (Option.some.inj this)
  have e3 : C = C2 := e3
  subst e3
  have z := List.all_eq_true.mp h _ hq
  simp only [Bool.and_eq_true] at z
  exact ⟨askB_ok z.1, of_decide_eq_true z.2.2.1⟩
end
end Rt
set_option Elab.async false
set_option linter.all false
set_option maxRecDepth 100000
set_option maxHeartbeats 4000000
/-! sets of tuples of texts and ints: what is asked of such a tuple -/
namespace Rt
open PySem PySem.Spec L2
open PyProof.Rows hiding St
abbrev TKey := List Key
abbrev hK (P : Program) (w : World) (k : TKey) : Int := tupleKeyHash (mixKind P w) k
abbrev TupAt (P : Program) (w : World) (h : Heap) (k : TKey) (b : Addr) : Prop := IsTupleKey (mixKind P w) h k b
section
variable {P : Program} {w : World} {A : Around} {X : Value → Shared → Prop} {s : Shared}
def plainV : Value → Bool
  | .int _ _ => true
  | .str _ _ => true
  | _ => false
theorem mix_plain {k : TKey} {vs : List Value} (h : ItemsAre (mixKind P w) k vs) : ∀ v ∈ vs, plainV v = true := by
  induction h with
  | nil => exact fun v m => absurd m List.not_mem_nil
  | cons h1 _ ih =>
    intro v m
    rcases List.mem_cons.mp m with rfl | m
    · rcases keyIs_shape h1 with ⟨i, t, _, e⟩ | ⟨x, t, _, e⟩ <;> (rw [e]; rfl)
    · exact ih v m
theorem cls_plain (n : Nat) {v : Value} (h : plainV v = true) : ofAClassStatement n v = pure false := by
  cases v with
  | int i t => cases n <;> rfl
  | str x t => cases n <;> rfl
  | _ => cases h
theorem hash_plain (n : Nat) {v : Value} (h : plainV v = true) : ∃ b, hashByValue n v = pure b := by
  cases v with
  | int i t => exact ⟨true, by cases n <;> rfl⟩
  | str x t => exact ⟨false, by cases n <;> rfl⟩
  | _ => cases h
theorem ask_cls {k : TKey} {b : Addr} {Q : Bool → Shared → Prop} (hk : TupAt P w s.heap k b) (q : Q false s) : wpAny (model P w) A (ofAClassStatement 8 (.ref b)) Q X s := by
  have ty := hk.typeIs
  obtain ⟨o, its, n, lo, _, dd, hi⟩ := hk
  unfold ofAClassStatement
  refine wpAny_bind (wpAny_typeOf ty ?_)
  dsimp only
  simp only [show (("tuple" : String) == "tuple") = true by decide, if_true, Bool.not_true, Bool.false_eq_true, if_false]
  try refine wpAny_bind (wpAny_pure ?_)
  try simp only [Bool.not_true, Bool.false_eq_true, if_false]
  show wpAny _ _ (seqItems? (.ref b) >>= _) _ _ s
  refine wpAny_bind (wpAny_seqItems lo dd ?_)
  dsimp only
  refine wpAny_bind ?_
  show wpAny _ _ (forIn its _ _) _ _ s
  rw [← Array.forIn_toList]
  refine wpAny_forIn_list _ (fun l r z => r.1 = none ∧ z = s ∧ ∀ v ∈ l, plainV v = true) _ ?_ ?_ _ _ ⟨rfl, rfl, mix_plain hi⟩
  · rintro v l r z ⟨_, rfl, pl⟩
    rw [cls_plain _ (pl v List.mem_cons_self)]
    refine wpAny_bind (wpAny_pure ?_)
    simp only [Bool.false_eq_true, if_false]
    exact wpAny_pure ⟨rfl, rfl, fun u m => pl u (List.mem_cons_of_mem _ m)⟩
  · rintro ⟨r1, r2⟩ z ⟨e, rfl, _⟩
    have e : r1 = none := e
    subst e
    exact wpAny_pure q
theorem ask_hash {k : TKey} {b : Addr} {Q : Bool → Shared → Prop} (hk : TupAt P w s.heap k b) (q : ∀ y, Q y s) : wpAny (model P w) A (hashByValue 8 (.ref b)) Q X s := by
  have ty := hk.typeIs
  obtain ⟨o, its, n, lo, _, dd, hi⟩ := hk
  unfold hashByValue
  refine wpAny_bind (wpAny_specialOf ty F.slot_tuple_hash.lookup ?_)
  show wpAny _ _ (seqItems? (.ref b) >>= _) _ _ s
  refine wpAny_bind (wpAny_seqItems lo dd ?_)
  refine wpAny_bind ?_
  show wpAny _ _ (forIn its _ _) _ _ s
  rw [← Array.forIn_toList]
  refine wpAny_forIn_list _ (fun l r z => z = s ∧ ∀ v ∈ l, plainV v = true) _ ?_ ?_ _ _ ⟨rfl, mix_plain hi⟩
  · rintro v l r z ⟨rfl, pl⟩
    obtain ⟨y, ey⟩ := hash_plain 7 (pl v List.mem_cons_self)
    rw [ey]
    refine wpAny_bind (wpAny_pure ?_)
    have pl2 : ∀ u ∈ l, plainV u = true := fun u m => pl u (List.mem_cons_of_mem _ m)
    cases y with
    | true =>
      simp only [Bool.not_true, Bool.false_eq_true, if_false]
      exact wpAny_pure ⟨rfl, pl2⟩
    | false =>
      simp only [Bool.not_false, if_true]
      exact wpAny_pure (wpAny_pure (q _))
  · rintro ⟨r1, r2⟩ z ⟨rfl, _⟩
    cases r1 with
    | some y => exact wpAny_pure (q _)
    | none => exact wpAny_pure (q _)
/-- nothing is shown of a search among such tuples -/
theorem ask_seen {k : TKey} {b : Addr} {Q : Bool → Shared → Prop} (hk : TupAt P w s.heap k b) {ys : List Value} (hy : ∀ y ∈ ys, ∃ k' c, y = Value.ref c ∧ TupAt P w s.heap k' c) (q : Q false s) :
    wpAny (model P w) A (searchCouldBeSeen (.ref b) ys) Q X s := by
  unfold searchCouldBeSeen
  refine wpAny_bind ?_
  refine wpAny_forIn_list _ (fun l r z => r.1 = none ∧ z = s ∧ ∀ y ∈ l, ∃ k' c, y = Value.ref c ∧ TupAt P w s.heap k' c) _ ?_ ?_ _ _ ⟨rfl, rfl, hy⟩
  · rintro v l r z ⟨_, rfl, al⟩
    obtain ⟨k', c, rfl, hc⟩ := al v List.mem_cons_self
    have al2 : ∀ y ∈ l, ∃ k' c, y = Value.ref c ∧ TupAt P w z.heap k' c := fun u m => al u (List.mem_cons_of_mem _ m)
    dsimp only
    by_cases e : (b == c || (carriedByValue (.ref b) && carriedByValue (.ref c))) = true
    · exact wp_if_pos e (wpAny_pure ⟨rfl, rfl, al2⟩)
    · refine wp_if_neg e (wpAny_bind (wpAny_eqIsQuiet_tuple hk ?_))
      simp only [Bool.not_true, Bool.false_eq_true, if_false]
      refine wpAny_bind (wpAny_eqIsQuiet_tuple hc ?_)
      simp only [Bool.not_true, Bool.false_eq_true, if_false]
      refine wpAny_bind (ask_cls hk ?_)
      simp only [Bool.false_eq_true, if_false]
      refine wpAny_bind (ask_cls hc ?_)
      simp only [Bool.false_eq_true, if_false]
      exact wpAny_pure ⟨rfl, rfl, al2⟩
  · rintro ⟨r1, r2⟩ z ⟨e, rfl, _⟩
    have e : r1 = none := e
    subst e
    exact wpAny_pure q
end
end Rt
set_option Elab.async false
set_option linter.all false
set_option maxRecDepth 100000
set_option maxHeartbeats 4000000
/-! sets of tuples of texts and ints: the search -/
namespace Rt
open PySem PySem.Spec L2
open PyProof.Rows hiding St
section
variable {P : Program} {w : World} {A : Around} {X : Value → Shared → Prop} {s : Shared}
abbrev TL := List (Addr × TKey)
def ents (P : Program) (w : World) (L : TL) : List (Int × Value) := L.map fun q => (hK P w q.2, Value.ref q.1)
abbrev hss (P : Program) (w : World) (L : TL) : List Int := L.map fun q => hK P w q.2
/-- at a a set whose tuples are those of L, in the order of its table -/
structure SetAt (P : Program) (w : World) (h : Heap) (a : Addr) (L : TL) (es : Array (Int × Value)) (ep : Nat) (t : SetTable) : Prop where
  at_ : ∃ o, h.get? a = some o ∧ o.ExactSet ∧ o.data = .set es ep t
  en : es.toList = ents P w L
  tb : TabOk t (hss P w L)
  dif : (L.map (·.2)).Nodup
  tps : ∀ q ∈ L, TupAt P w h q.2 q.1
  ld : w.params.followText "set-order" = true ∨ t.led = true
  rm : L.length * 5 < t.mask * 3
  lt : L.length < 64
variable {a : Addr} {L : TL} {es : Array (Int × Value)} {ep : Nat} {t : SetTable}
theorem ents_len : (ents P w L).length = L.length := List.length_map _
theorem SetAt.len (S : SetAt P w s.heap a L es ep t) : es.size = L.length := by
  rw [← Array.length_toList, S.en, ents_len]
theorem SetAt.place (S : SetAt P w s.heap a L es ep t) : t.place.size = L.length := by
  have := S.tb.sz
  rwa [List.length_map] at this
theorem SetAt.fit (S : SetAt P w s.heap a L es ep t) : t.fits es.size = true := by
  have p1 := S.place
  have p2 := S.len
  have p3 := S.rm
  unfold SetTable.fits SetTable.fill
  simp only [S.tb.dm, Bool.and_eq_true, beq_iff_eq, decide_eq_true_eq]
  show t.place.size = es.size ∧ t.place.size + 0 ≤ t.mask
  exact ⟨p1.trans p2.symm, by omega⟩
theorem SetAt.ent (S : SetAt P w s.heap a L es ep t) {i : Nat} {q : Addr × TKey} (h : L[i]? = some q) : es[i]? = some (hK P w q.2, Value.ref q.1) := by
  rw [← Array.getElem?_toList, S.en, ents, List.getElem?_map, h]
  rfl
/-- the c-th probe of the way of h -/
abbrev prb (m : Nat) (h : Int) (c : Nat) : SetTable.Probe := nth m (runAt m (SetTable.bits h % (m + 1)) (SetTable.bits h)) c
theorem prb_dummy (m : Nat) (h : Int) (c : Nat) : (prb m h c).dummy = none := by
  suffices H : ∀ (n : Nat) (p : SetTable.Probe), p.dummy = none → (nth m p n).dummy = none from H c _ rfl
  intro n
  induction n with
  | zero => exact fun p e => e
  | succ n ih => exact fun p e => ih _ (by unfold adv; split <;> exact e)
theorem prb_add (m : Nat) (h : Int) (c d : Nat) : nth m (prb m h c) d = prb m h (c + d) := (nth_add m c _ d).symm
/-- a key's place lies on its way at or behind the c-th probe and before the K-th -/
def Ahead (t : SetTable) (h : Int) (K c i : Nat) : Prop := ∃ d, c ≤ d ∧ d < K ∧ t.place.toList[i]? = some (way t.mask h d)
theorem find_from (S : SetAt P w s.heap a L es ep t) {x : Addr} {k : TKey} (hx : TupAt P w s.heap k x) (hu : A.units < cLine) {K : Nat} (hF : K < 10 * SetTable.turns t.mask)
    (hE : way t.mask (hK P w k) K ∉ t.place.toList) (hB : ∀ c, c < K → way t.mask (hK P w k) c ∈ t.place.toList) {Q : SetFound → Shared → Prop}
    (yes : k ∈ L.map (·.2) → Q (.there none) s) (no : k ∉ L.map (·.2) → Q (.free (way t.mask (hK P w k) K) false) s) :
    ∀ (f c : Nat) (st : Option SetTable.Probe), st.getD (t.probeStart (hK P w k)) = prb t.mask (hK P w k) c → c ≤ K → K - c < f →
      (∀ (i : Nat) q, L[i]? = some q → q.2 = k → Ahead t (hK P w k) K c i) → wpAny (model P w) A (setSearchFrom a (.ref x) (hK P w k) true f st) Q X s
  | 0, _, _, _, _, z, _ => absurd z (Nat.not_lt_zero _)
  | f + 1, c, st, hs, hc, hf, hA => by
    obtain ⟨o, lo, ex, dd⟩ := S.at_
    generalize hh : hK P w k = h at *
    rw [setSearchFrom_succ]
    refine wpAny_bind (wpAny_setState_of lo dd S.fit ?_)
    dsimp only
    refine wp_if_neg (by unfold SetTable.gaveWay; rw [mask_odd S.tb.mok]; decide) ?_
    try refine wpAny_bind (wpAny_pure ?_)
    have hat : ∀ (i : Nat) q, L[i]? = some q → (fun i => (es[i]?.map (·.1)).getD 0) i = hK P w q.2 := fun i q e => by
      show (es[i]?.map (·.1)).getD 0 = _
      rw [S.ent e]; rfl
    have pj : ∀ d, (nth t.mask (prb t.mask h c) d).j = way t.mask h (c + d) := fun d => congrArg SetTable.Probe.j (prb_add _ _ _ _)
    have sp := go_spec t S.tb.ris S.tb.dm (fun i => (es[i]?.map (·.1)).getD 0) h (10 * SetTable.turns t.mask) (K - c) (prb t.mask h c) (prb_dummy _ _ _) (by omega)
      (fun d hd => by rw [pj]; exact hB _ (by omega)) (by rw [pj, Nat.add_sub_cancel' hc]; exact hE)
    rcases sp with ⟨d, i, hd, hi, he, hno, hp⟩ | ⟨hno, hp⟩
    · have hp : t.probe (fun i => (es[i]?.map (·.1)).getD 0) h (st.getD (t.probeStart h)) = some (.candidate (way t.mask h (c + d)) i (prb t.mask h (c + (d + 1)))) := by
        rw [hs, ← pj, ← prb_add]
        exact hp
      rw [hp]
      dsimp only
      rw [pj] at hi
      have il : i < L.length := by
        have z := (List.getElem?_eq_some_iff.mp hi).1
        rw [Array.length_toList, S.place] at z
        exact z
      obtain ⟨q, lq⟩ : ∃ q, L[i]? = some q := ⟨_, List.getElem?_eq_getElem il⟩
      have mq : q ∈ L := List.mem_of_getElem? lq
      have go : wpAny (model P w) A (searchRest a (.ref x) h true f es t (way t.mask h (c + d)) i (prb t.mask h (c + (d + 1)))) Q X s := by
        unfold searchRest
        rw [S.ent lq]
        dsimp only
        refine wpAny_bind (wpAny_holding (wpAny_eqBool_tuple hu (S.tps q mq) hx ?_))
        refine wpAny_bind (wpAny_setState_of lo dd S.fit ?_)
        dsimp only
        by_cases eq : q.2 = k
        · exact wp_if_pos (by simp [eq]) (wpAny_pure (yes (List.mem_map.mpr ⟨q, mq, eq⟩)))
        · refine wp_if_neg (by simp [eq]) ?_
          try refine wpAny_bind (wpAny_pure ?_)
          rw [sameMem]
          dsimp only
          have sl : t.slot (way t.mask h (c + d)) = .live i := slot_live S.tb.ris hi
          simp only [if_true, sl, S.ent lq]
          refine wpAny_bind (wpAny_isSame_ref_self (wpAny_bind (wpAny_pure ?_)))
          simp only [if_true]
          refine wp_if_neg (by simp [eq]) ?_
          subst hh
          refine find_from S hx hu hF hE hB yes no f (c + (d + 1)) _ rfl (by omega) (by omega) fun i0 q0 l0 e0 => ?_
          obtain ⟨d0, b1, b2, b3⟩ := hA i0 q0 l0 e0
          refine ⟨d0, ?_, b2, b3⟩
          rcases Nat.lt_trichotomy d0 (c + d) with z | z | z
          · exact absurd ((hat i0 q0 l0).trans (by rw [e0])) (hno (d0 - c) i0 (by omega) (by rw [pj, show c + (d0 - c) = d0 by omega]; exact b3))
          · rw [z] at b3
            have s0 := slot_live S.tb.ris b3
            rw [sl] at s0
            injection s0 with s0
            rw [← s0, lq] at l0
            exact absurd (by rw [Option.some.inj l0]; exact e0) eq
          · omega
      by_cases tl : t.led = true
      · refine wp_if_neg (by simp [tl]) ?_
        try refine wpAny_bind (wpAny_pure ?_)
        exact go
      · refine wp_if_pos (by simp [tl]) (wpAny_bind (ask_seen hx (fun y my => ?_) ?_))
        · obtain ⟨e, me, rfl⟩ := List.mem_map.mp my
          have me2 : e ∈ es.toList := by
            have z : e ∈ es ∧ e.1 = h := by simpa using me
            simpa using z.1
          rw [S.en] at me2
          obtain ⟨q2, m2, rfl⟩ := List.mem_map.mp me2
          exact ⟨q2.2, q2.1, rfl, S.tps q2 m2⟩
        · refine wp_if_neg (by decide) ?_
          try refine wpAny_bind (wpAny_pure ?_)
          exact go
    · have hp : t.probe (fun i => (es[i]?.map (·.1)).getD 0) h (st.getD (t.probeStart h)) = some (.empty (way t.mask h K) none) := by
        have z := pj (K - c)
        rw [Nat.add_sub_cancel' hc] at z
        rw [hs, ← z]
        exact hp
      rw [hp]
      dsimp only
      refine wpAny_pure (no fun m => ?_)
      obtain ⟨q0, m0, e0⟩ := List.mem_map.mp m
      obtain ⟨i0, l0⟩ := List.mem_iff_getElem?.mp m0
      obtain ⟨d0, b1, b2, b3⟩ := hA i0 q0 l0 e0
      exact hno (d0 - c) i0 (by omega) (by rw [pj, show c + (d0 - c) = d0 by omega]; exact b3) ((hat i0 q0 l0).trans (by rw [e0, hh]))
end
end Rt
set_option Elab.async false
set_option linter.all false
set_option maxRecDepth 100000
set_option maxHeartbeats 4000000
/-! sets of tuples of texts and ints: adding one -/
namespace Rt
open PySem PySem.Spec L2
open PyProof.Rows hiding St
section
variable {P : Program} {w : World} {A : Around} {X : Value → Shared → Prop} {s : Shared} {a : Addr} {L : TL} {es : Array (Int × Value)} {ep : Nat} {t : SetTable}
theorem find_at (S : SetAt P w s.heap a L es ep t) {x : Addr} {k : TKey} (hx : TupAt P w s.heap k x) (hu : A.units < cLine) {Q : SetFound → Shared → Prop} (yes : k ∈ L.map (·.2) → Q (.there none) s)
    (no : ∀ K, k ∉ L.map (·.2) → way t.mask (hK P w k) K ∉ t.place.toList → (∀ c, c < K → way t.mask (hK P w k) c ∈ t.place.toList) → Q (.free (way t.mask (hK P w k) K) false) s) : wpAny (model P w) A (setSearch a (.ref x) (hK P w k) true) Q X s := by
  have r := S.rm
  obtain ⟨K, k1, k2, k3⟩ := S.tb.first (by rw [List.length_map]; omega) (hK P w k)
  have big : K < 100000 := by
    have : SetTable.turns t.mask ≤ 142 := by
      unfold SetTable.turns
      rcases S.tb.mok with e | e | e <;> omega
    omega
  unfold setSearch
  refine find_from S hx hu k1 k2 k3 yes (fun z => no K z k2 k3) 100000 0 none rfl (Nat.zero_le _) (by omega) fun i q lq eq => ?_
  have l1 : (hss P w L)[i]? = some (hK P w k) := by rw [List.getElem?_map, lq, ← eq]; rfl
  have l2 : i < t.place.toList.length := by
    rw [Array.length_toList, S.place]
    exact (List.getElem?_eq_some_iff.mp lq).1
  obtain ⟨d, b1, b2⟩ := S.tb.before k2 l1 (List.getElem?_eq_getElem l2)
  exact ⟨d, Nat.zero_le _, b1, by rw [List.getElem?_eq_getElem l2, b2]⟩
theorem tup_same {h h' : Heap} {k : TKey} {b : Addr} {o : Obj} (x : TupAt P w h k b) (lo : h.get? a = some o) (dd : o.data = .set es ep t) (sb : Heap.SameBut a h h') : TupAt P w h' k b := by
  obtain ⟨u, its, n, lu, c, d, i⟩ := x
  by_cases e : b = a
  · subst e
    rw [lo] at lu
    cases lu
    rw [dd] at d
    cases d
  · exact ⟨u, its, n, (sb.2 b e).trans lu, c, d, i⟩
theorem ents_put (L : TL) (p : Nat) (x : Addr) (k : TKey) : ents P w (L.take p ++ (x, k) :: L.drop p) = (ents P w L).take p ++ (hK P w k, Value.ref x) :: (ents P w L).drop p := by
  simp only [ents, List.map_append, List.map_cons, List.map_take, List.map_drop]
theorem hss_put (L : TL) (p : Nat) (x : Addr) (k : TKey) : hss P w (L.take p ++ (x, k) :: L.drop p) = (hss P w L).take p ++ hK P w k :: (hss P w L).drop p := by
  simp only [hss, List.map_append, List.map_cons, List.map_take, List.map_drop]
theorem put_in {α : Type} (L : List α) (p : Nat) (x : α) : (L.take p ++ x :: L.drop p).Perm (x :: L) := by
  have z : (L.take p ++ x :: L.drop p).Perm (x :: (L.take p ++ L.drop p)) := List.perm_middle
  rwa [List.take_append_drop] at z
theorem fm_all {α : Type} (L : List α) : (List.range L.length).filterMap (fun i => L[i]?) = L := by
  suffices H : ∀ n, n ≤ L.length → (List.range n).filterMap (fun i => L[i]?) = L.take n by rw [H _ (Nat.le_refl _), List.take_length]
  intro n
  induction n with
  | zero => exact fun _ => rfl
  | succ n ih =>
    intro h
    rw [List.range_succ, List.filterMap_append, ih (by omega), List.take_succ, List.filterMap_cons, List.getElem?_eq_getElem (show n < L.length from h)]
    rfl
/-- the entries in another order -/
theorem reord (L : TL) (es : Array (Int × Value)) (od : Array Nat) (he : es.toList = ents P w L) (hp : od.toList.Perm (List.range L.length)) :
    ∃ L2, (od.filterMap (es[·]?)).toList = ents P w L2 ∧ L2.Perm L ∧ hss P w L2 = od.toList.map fun i => (es.map (·.1)).getD i 0 := by
  have at_ : ∀ i (q : Addr × TKey), L[i]? = some q → es[i]? = some (hK P w q.2, Value.ref q.1) := fun i q e => by
    rw [← Array.getElem?_toList, he, ents, List.getElem?_map, e]; rfl
  have gen : ∀ l : List Nat, (∀ i ∈ l, i < L.length) → l.filterMap (fun i => es[i]?) = ents P w (l.filterMap fun i => L[i]?) ∧ hss P w (l.filterMap fun i => L[i]?) = l.map fun i => (es.map (·.1)).getD i 0 := by
    intro l
    induction l with
    | nil => exact fun _ => ⟨rfl, rfl⟩
    | cons i l ih =>
      intro hl
      obtain ⟨e1, e2⟩ := ih fun j m => hl j (List.mem_cons_of_mem _ m)
      obtain ⟨q, lq⟩ : ∃ q, L[i]? = some q := ⟨_, List.getElem?_eq_getElem (hl i List.mem_cons_self)⟩
      have z : (es.map (·.1)).getD i 0 = hK P w q.2 := by
        rw [Array.getD_eq_getD_getElem?, Array.getElem?_map, at_ i q lq]; rfl
      rw [List.filterMap_cons_some (at_ i q lq), List.filterMap_cons_some lq, List.map_cons, e1, z]
      refine ⟨rfl, ?_⟩
      rw [← e2]; rfl
  obtain ⟨e1, e2⟩ := gen od.toList fun i m => List.mem_range.mp (hp.mem_iff.mp m)
  refine ⟨od.toList.filterMap fun i => L[i]?, by rw [Array.toList_filterMap]; exact e1, ?_, e2⟩
  have z := hp.filterMap fun i => L[i]?
  rwa [fm_all] at z
/-- the table is laid anew -/
theorem lay_new {o : Obj} (lo : s.heap.get? a = some o) (ex : o.ExactSet) (dd : o.data = .set es ep t) (he : es.toList = ents P w L) (hs : t.place.size = es.size) (dm : t.dummies = #[]) (hm : es.size ≤ t.mask)
    (df : (L.map (·.2)).Nodup) (tp : ∀ q ∈ L, TupAt P w s.heap q.2 q.1) (ld : w.params.followText "set-order" = true ∨ t.led = true) (lt : L.length < 64) {wn M : Nat}
    (w1 : SetTable.sizeAbove wn - 1 = M) (w2 : MaskOk M) (w3 : SetTable.sizeAbove wn ≤ 128) (w4 : L.length * 5 < M * 3) {Q : Unit → Shared → Prop}
    (q : ∀ h' L' es' ep' t', Heap.SameBut a s.heap h' → SetAt P w h' a L' es' ep' t' → L'.Perm L → Q () { s with heap := h' }) : wpAny (model P w) A (setRelay a wn) Q X s := by
  have sz : es.size = L.length := by rw [← Array.length_toList, he, ents_len]
  have ft : t.fits es.size = true := by
    unfold SetTable.fits SetTable.fill
    simp only [dm, Bool.and_eq_true, beq_iff_eq, decide_eq_true_eq]
    show t.place.size = es.size ∧ t.place.size + 0 ≤ t.mask
    omega
  obtain ⟨t', od, e, hp, T, em, el, _, _⟩ := relaid_ok t (hs := es.map (·.1)) (wanted := wn) w1 w2 (by rw [Array.size_map, sz]; omega)
  rw [Array.size_map, sz] at hp
  obtain ⟨L2, r1, r2, r3⟩ := reord L es od he hp
  rw [← r3] at T
  have s2 : (od.filterMap (es[·]?)).size = es.size := by rw [← Array.length_toList, r1, ents_len, r2.length_eq, sz]
  rw [setRelay_eq]
  refine wpAny_bind (wpAny_setState_of lo dd ft ?_)
  dsimp only
  refine wp_if_neg (by rw [sizeLine_eq]; omega) ?_
  try refine wpAny_bind (wpAny_pure ?_)
  rw [e]
  dsimp only
  refine wpAny_bind (wp_if_neg (by rw [s2]; simp) ?_)
  try refine wpAny_bind (wpAny_pure ?_)
  refine wpAny_pure ?_
  dsimp only
  refine wpAny_storeSet_of lo dd ?_ (by rw [s2, sz, sizeLine_eq]; omega)
  have sb : Heap.SameBut a s.heap (s.heap.update a (Obj.putSet (od.filterMap (es[·]?)) t')) := Heap.SameBut.update ..
  refine q _ L2 _ (ep + 1) t' sb ⟨⟨_, store_at lo dd, ⟨ex.1, ex.2.1, ex.2.2⟩, rfl⟩, r1, T, (r2.map (·.2)).nodup_iff.mpr df, fun z m => tup_same (tp z (r2.mem_iff.mp m)) lo dd sb, by rw [el]; exact ld, ?_, by rw [r2.length_eq]; exact lt⟩ r2
  rw [r2.length_eq, em]
  exact w4
end
end Rt
set_option Elab.async false
set_option linter.all false
set_option maxRecDepth 100000
set_option maxHeartbeats 4000000
/-! sets of tuples of texts and ints: one is added -/
namespace Rt
open PySem PySem.Spec L2
open PyProof.Rows hiding St
section
variable {P : Program} {w : World} {A : Around} {X : Value → Shared → Prop} {s : Shared} {a : Addr} {L : TL} {es : Array (Int × Value)} {ep : Nat} {t : SetTable}
theorem tab_same {t t' : SetTable} {hs : List Int} (T : TabOk t hs) (h1 : t'.place = t.place) (h2 : t'.dummies = t.dummies) (h3 : t'.mask = t.mask) : TabOk t' hs := by
  refine ⟨by rw [h1]; exact T.ris, h2.trans T.dm, by rw [h1]; exact T.sz, by rw [h3]; exact T.mok, by rw [h1, h3]; exact T.bd, ?_⟩
  rw [h1, h3]
  exact T.reach
/-- the new entry has its place in the table t1 -/
theorem put_on (S : SetAt P w s.heap a L es ep t) {x : Addr} {k : TKey} (hx : TupAt P w s.heap k x) (lf : L.length + 1 < 64) (nk : k ∉ L.map (·.2)) {es1 : Array (Int × Value)} {L1 : TL} {t1 : SetTable} (pm : L1.Perm ((x, k) :: L)) (en : es1.toList = ents P w L1) (T : TabOk t1 (hss P w L1))
    (mk : t1.mask = t.mask) (ld : t1.led = t.led) {Q : Bool → Shared → Prop}
    (q : ∀ h' L' es' ep' t', Heap.SameBut a s.heap h' → SetAt P w h' a L' es' ep' t' → L'.Perm ((x, k) :: L) → Q true { s with heap := h' }) :
    wpAny (model P w) A (do
      storeSet a es1 t1
      if !false && t1.tooFull then setRelay a (SetTable.grown (es.size + 1))
      return true) Q X s := by
  obtain ⟨o, lo, ex, dd⟩ := S.at_
  have r := S.rm
  have l1 : L1.length = L.length + 1 := pm.length_eq
  have z1 : es1.size = L.length + 1 := by rw [← Array.length_toList, en, ents_len, l1]
  have df : (L1.map (·.2)).Nodup := (pm.map (·.2)).nodup_iff.mpr (by rw [List.map_cons]; exact List.nodup_cons.mpr ⟨nk, S.dif⟩)
  refine wpAny_bind (wpAny_storeSet_of lo dd ?_ (by rw [z1, sizeLine_eq]; omega))
  have sb : Heap.SameBut a s.heap (s.heap.update a (Obj.putSet es1 t1)) := Heap.SameBut.update ..
  have lo1 := store_at (es' := es1) (t' := t1) lo dd
  generalize s.heap.update a (Obj.putSet es1 t1) = h1 at sb lo1 ⊢
  have tp : ∀ z ∈ L1, TupAt P w h1 z.2 z.1 := fun z m => by
    rcases List.mem_cons.mp (pm.mem_iff.mp m) with rfl | m
    · exact tup_same hx lo dd sb
    · exact tup_same (S.tps z m) lo dd sb
  have ld1 : w.params.followText "set-order" = true ∨ t1.led = true := by rw [ld]; exact S.ld
  have p1 : t1.place.size = L.length + 1 := by
    have := T.sz
    rw [List.length_map] at this
    omega
  have fl : t1.fill = L.length + 1 := by
    show t1.place.size + t1.dummies.size = _
    rw [T.dm, p1]
    rfl
  by_cases tf : t1.tooFull = true
  · have full : t1.mask * 3 ≤ (L.length + 1) * 5 := by
      have z := tf
      unfold SetTable.tooFull at z
      rw [decide_eq_true_eq, fl] at z
      exact z
    have two : (t.mask = 7 ∧ L.length = 4) ∨ (t.mask = 31 ∧ L.length = 18) := by
      rw [mk] at full
      rcases S.tb.mok with e | e | e <;> rw [e] at full r
      · exact .inl ⟨e, by omega⟩
      · exact .inr ⟨e, by omega⟩
      · omega
    have go : ∀ M, SetTable.sizeAbove (SetTable.grown (L.length + 1)) = M + 1 → MaskOk M → M + 1 ≤ 128 → (L.length + 1) * 5 < M * 3 →
        wpAny (model P w) A (setRelay a (SetTable.grown (es.size + 1))) (fun _ z => wpAny (model P w) A (pure true) Q X z) X { s with heap := h1 } := fun M m1 m2 m3 m4 => by
      rw [S.len]
      refine lay_new (s := { s with heap := h1 }) lo1 ⟨ex.1, ex.2.1, ex.2.2⟩ rfl en (by rw [p1, z1]) T.dm (by rw [z1, mk]; rcases two with ⟨e, e2⟩ | ⟨e, e2⟩ <;> omega) df tp ld1 (by rw [l1]; exact lf) (by rw [m1]; rfl) m2 (by rw [m1]; exact m3) (by rw [l1]; exact m4) ?_
      exact fun h2 L2 es2 ep2 t2 sb2 S2 pm2 => wpAny_pure (q h2 L2 es2 ep2 t2 (sb.trans sb2) S2 (pm2.trans pm))
    have rest : wpAny (model P w) A (setRelay a (SetTable.grown (es.size + 1))) (fun _ z => wpAny (model P w) A (pure true) Q X z) X { s with heap := h1 } := by
      rcases two with ⟨_, e2⟩ | ⟨_, e2⟩
      · exact go 31 (by rw [e2]; exact size_20) (.inr (.inl rfl)) (by decide) (by omega)
      · exact go 127 (by rw [e2]; exact size_76) (.inr (.inr rfl)) (by decide) (by omega)
    first
      | exact wp_if_pos (by simp [tf]) (wpAny_bind rest)
      | exact wpAny_bind (wp_if_pos (by simp [tf]) rest)
  · have fin : wpAny (model P w) A (pure true) Q X { s with heap := h1 } := by
      refine wpAny_pure (q h1 L1 es1 (ep + 1) t1 sb ⟨⟨_, lo1, ⟨ex.1, ex.2.1, ex.2.2⟩, rfl⟩, en, T, df, tp, ld1, ?_, by rw [l1]; exact lf⟩ pm)
      have z := tf
      unfold SetTable.tooFull at z
      rw [decide_eq_true_eq, fl] at z
      rw [l1]
      omega
    first
      | exact wp_if_neg (by simp [tf]) fin
      | exact wpAny_bind (wp_if_neg (by simp [tf]) (wpAny_pure fin))
theorem add_in (S : SetAt P w s.heap a L es ep t) {x : Addr} {k : TKey} (hx : TupAt P w s.heap k x) (hu : A.units < cLine) (lf : L.length + 1 < 64) {Q : Bool → Shared → Prop}
    (q : ∀ b h' L' es' ep' t', Heap.SameBut a s.heap h' → SetAt P w h' a L' es' ep' t' → (k ∈ L.map (·.2) → L' = L) → (k ∉ L.map (·.2) → L'.Perm ((x, k) :: L)) → Q b { s with heap := h' }) :
    wpAny (model P w) A (setAddHashed a (.ref x) (hK P w k)) Q X s := by
  obtain ⟨o, lo, ex, dd⟩ := S.at_
  unfold setAddHashed
  refine wpAny_holding ?_
  rw [show (100000 : Nat) = 99999 + 1 from rfl, setAddHashedIn_succ]
  refine wpAny_bind (wpAny_setState_of lo dd S.fit ?_)
  dsimp only
  refine wp_if_neg (by simp [byScan, Value.scannable]) ?_
  try refine wpAny_bind (wpAny_pure ?_)
  refine wpAny_bind (find_at S hx hu (fun m => ?_) fun K nk k1 k2 => ?_)
  · exact wpAny_pure (q false s.heap L es ep t (Heap.SameBut.refl a s.heap) S (fun _ => rfl) fun z => absurd m z)
  · dsimp only
    refine wpAny_bind (wpAny_setState_of lo dd S.fit ?_)
    dsimp only
    obtain ⟨q1, q2, q3, q4, q5, _⟩ := S.tb.put k1 k2
    generalize hpt : t.put (way t.mask (hK P w k) K) = pt at q1 q3 q4 q5 ⊢
    obtain ⟨t1, p⟩ := pt
    dsimp only at q1 q3 q4 q5 ⊢
    subst q1
    generalize SetTable.below t.place (way t.mask (hK P w k) K) = p at q2 q3 ⊢
    rw [← hss_put L p x k] at q3
    have en : (SetTable.insertAt es p (hK P w k, Value.ref x)).toList = ents P w (L.take p ++ (x, k) :: L.drop p) := by rw [SetTable.toList_insertAt, ents_put, S.en]
    have pm := put_in L p (x, k)
    have all : ∀ t2 : SetTable, t2.place = t1.place → t2.dummies = t1.dummies → t2.mask = t1.mask → t2.led = t1.led → wpAny (model P w) A (do
        storeSet a (SetTable.insertAt es p (hK P w k, Value.ref x)) t2
        if !false && t2.tooFull then setRelay a (SetTable.grown (es.size + 1))
        return true) Q X s := fun t2 e1 e2 e3 e4 =>
      put_on S hx lf nk pm en (tab_same q3 e1 e2 e3) (e3.trans q4) (e4.trans q5) fun h' L' es' ep' t' sb S' pm' => q true h' L' es' ep' t' sb S' (fun z => absurd z nk) fun _ => pm'
    have fin : ∀ y : Bool, wpAny (model P w) A (do
        storeSet a (SetTable.insertAt es p (hK P w k, Value.ref x)) (if y = true then t1 else { t1 with plain := false })
        if !false && (if y = true then t1 else { t1 with plain := false }).tooFull then setRelay a (SetTable.grown (es.size + 1))
        return true) Q X s := fun y => by
      cases y with
      | true => exact all t1 rfl rfl rfl rfl
      | false => exact all { t1 with plain := false } rfl rfl rfl rfl
    by_cases pl : t1.plain = true
    · first
        | exact wpAny_bind (wp_if_pos pl (ask_hash hx fin))
        | exact wp_if_pos pl (wpAny_bind (ask_hash hx fin))
    · first
        | exact wpAny_bind (wp_if_neg pl (wpAny_pure (fin true)))
        | exact wp_if_neg pl (wpAny_bind (wpAny_pure (fin true)))
end
end Rt
set_option Elab.async false
set_option linter.all false
set_option maxRecDepth 100000
set_option maxHeartbeats 4000000
/-! set(xs), xs a list or a tuple of tuples of texts and ints -/
namespace Rt
open PySem PySem.Spec L2
open PyProof.Rows hiding St
/-- L: the first i of ks, each key once -/
structure Met (ks : TL) (i : Nat) (L : TL) : Prop where
  from_ : ∀ q ∈ L, q ∈ ks.take i
  all : ∀ q ∈ ks.take i, q.2 ∈ L.map (·.2)
  le : L.length ≤ i
theorem Met.none (ks : TL) : Met ks 0 [] := ⟨fun q m => absurd m List.not_mem_nil, fun q m => absurd m List.not_mem_nil, Nat.le_refl _⟩
theorem take_one {α : Type} {l : List α} {i : Nat} {x : α} (h : l[i]? = some x) : l.take (i + 1) = l.take i ++ [x] := by rw [List.take_succ, h]; rfl
theorem Met.next {ks L L' : TL} {i : Nat} {q : Addr × TKey} (M : Met ks i L) (h : ks[i]? = some q) (o : (q.2 ∈ L.map (·.2) ∧ L' = L) ∨ L'.Perm (q :: L)) : Met ks (i + 1) L' := by
  have e := take_one h
  have inl : ∀ z ∈ ks.take i, z ∈ ks.take (i + 1) := fun z m => by rw [e]; exact List.mem_append_left _ m
  have inr : q ∈ ks.take (i + 1) := by rw [e]; exact List.mem_append_right _ (List.mem_singleton.mpr rfl)
  rcases o with ⟨m, rfl⟩ | p
  · refine ⟨fun z m => inl z (M.from_ z m), fun z hz => ?_, Nat.le_succ_of_le M.le⟩
    rw [e] at hz
    rcases List.mem_append.mp hz with hz | hz
    · exact M.all z hz
    · rw [List.mem_singleton.mp hz]; exact m
  · have pm := p.map (·.2)
    refine ⟨fun z hz => ?_, fun z hz => ?_, by rw [p.length_eq, List.length_cons]; exact Nat.succ_le_succ M.le⟩
    · rcases List.mem_cons.mp (p.mem_iff.mp hz) with rfl | hz
      · exact inr
      · exact inl z (M.from_ z hz)
    · refine pm.mem_iff.mpr ?_
      rw [List.map_cons]
      rw [e] at hz
      rcases List.mem_append.mp hz with hz | hz
      · exact List.mem_cons_of_mem _ (M.all z hz)
      · rw [List.mem_singleton.mp hz]; exact List.mem_cons_self
section
variable {P : Program} {w : World} {A : Around} {X : Value → Shared → Prop} {s : Shared}
theorem tup_keep {h h' : Heap} {k : TKey} {b : Addr} (x : TupAt P w h k b) (hk : ∀ c o, h.get? c = some o → h'.get? c = some o) : TupAt P w h' k b := by
  obtain ⟨o, its, n, lo, r⟩ := x
  exact ⟨o, its, n, hk b o lo, r⟩
theorem SetAt.keep {h h' : Heap} {a : Addr} {L : TL} {es : Array (Int × Value)} {ep : Nat} {t : SetTable} (S : SetAt P w h a L es ep t) (ha : ∀ o, h.get? a = some o → h'.get? a = some o) (ht : ∀ q ∈ L, TupAt P w h' q.2 q.1) : SetAt P w h' a L es ep t := by
  obtain ⟨o, lo, r⟩ := S.at_
  exact ⟨⟨o, ha o lo, r⟩, S.en, S.tb, S.dif, ht, S.ld, S.rm, S.lt⟩
abbrev newSetO (w : World) : Obj := { cls := .type "set", dict := none, data := .set #[] 0 (.fresh 0 0 (!w.params.followText "set-order")) }
theorem setAt_new {h : Heap} {a : Addr} (lo : h.get? a = some (newSetO w)) : SetAt P w h a [] #[] 0 (.fresh 0 0 (!w.params.followText "set-order")) where
  at_ := ⟨_, lo, ⟨rfl, rfl, rfl⟩, rfl⟩
  en := rfl
  tb := ⟨List.Pairwise.nil, rfl, rfl, .inl rfl, fun x m => (by cases m), fun i z j e => (by simp at e)⟩
  dif := List.nodup_nil
  tps := fun q m => absurd m List.not_mem_nil
  ld := by
    show _ ∨ (!w.params.followText "set-order") = true
    cases w.params.followText "set-order" <;> simp
  rm := by show 0 * 5 < 7 * 3; decide
  lt := by show 0 < 64; decide
/-- the loop of set.update over what gives the tuples one by one -/
theorem upd_loop {I S : Addr} {fp wr : List Addr} {G : Array GenState → Array GenState → Prop} {n : Nat} {Pv : Nat → Value → Prop} {St : Nat → Shared → Prop} {R : Result → Shared → Prop} (W : WalksS P w A.in1 I fp wr G n Pv St) (nS : S ∉ fp) (ks : TL) (hn : n = ks.length) (lt : ks.length < 64)
    (val : ∀ i v, Pv i v → ∃ q, ks[i]? = some q ∧ v = .ref q.1) (h0 : Heap) (tp : ∀ q ∈ ks, TupAt P w h0 q.2 q.1) (fS : h0.get? S = none) (fw : ∀ b ∈ wr, h0.get? b = none) (hu : A.in1.units < cLine) :
    ∀ (d i : Nat) (s : Shared), n - i = d → i ≤ n → St i s → (∀ b o, h0.get? b = some o → s.heap.get? b = some o) → (∃ L es ep t, SetAt P w s.heap S L es ep t ∧ Met ks i L) →
      (∀ s' L es ep t, Moved (S :: wr) G s s' → SetAt P w s'.heap S L es ep t → Met ks n L → (∀ b o, h0.get? b = some o → s'.heap.get? b = some o) → R (.ok (.ret .none)) s') →
      codeAny (model P w) A (.builtin "set.update.loop" ⟨[.ref S, .ref I], []⟩) R s := by
  have nSw : S ∉ wr := fun m => nS (W.sub _ m)
  have up : ∀ b ∈ wr, b ∈ S :: wr := fun b m => List.mem_cons_of_mem _ m
  have mv : ∀ {s s' : Shared}, Moved wr G s s' → (∀ b o, h0.get? b = some o → s.heap.get? b = some o) → ∀ b o, h0.get? b = some o → s'.heap.get? b = some o := fun m k b o e => m.heap b o (fun z => by rw [fw b z] at e; cases e) (k b o e)
  intro d
  induction d with
  | zero =>
    intro i s hd hi st kp ⟨L, es, ep, t, hS, g⟩ hR
    obtain rfl : i = n := by omega
    refine codeAny_builtin F.entry_set_update_loop ?_
    rw [Around.under_plainId F.plain_set_update_loop _]
    show wpAny _ A.in1 (pyNext (.ref I) >>= _) _ _ s
    refine wpAny_bind (W.done s _ _ st fun s' m => ?_)
    show wpAny _ A.in1 (ret Value.none) _ _ s'
    have kp2 := mv m kp
    exact wpAny_pure (hR s' L es ep t (m.mono up) (hS.keep (fun o e => m.heap S o nSw e) fun q hq => tup_keep (tp q (List.mem_of_mem_take (g.from_ q hq))) kp2) g kp2)
  | succ d ih =>
    intro i s hd hi st kp ⟨L, es, ep, t, hS, g⟩ hR
    have lt2 : i < n := by omega
    refine codeAny_builtin F.entry_set_update_loop ?_
    rw [Around.under_plainId F.plain_set_update_loop _]
    show wpAny _ A.in1 (pyNext (.ref I) >>= _) _ _ s
    refine wpAny_bind (W.item i s _ _ lt2 st fun v s' hv st2 m => ?_)
    obtain ⟨q, lq, rfl⟩ := val i v hv
    have kp2 := mv m kp
    have hS2 : SetAt P w s'.heap S L es ep t := hS.keep (fun o e => m.heap S o nSw e) fun z hz => tup_keep (tp z (List.mem_of_mem_take (g.from_ z hz))) kp2
    have hx : TupAt P w s'.heap q.2 q.1 := tup_keep (tp q (List.mem_of_getElem? lq)) kp2
    show wpAny _ A.in1 (holding [Value.ref q.1] (setAdd S (.ref q.1)) >>= _) _ _ s'
    refine wpAny_bind (wpAny_holding ?_)
    unfold setAdd
    refine wpAny_holding (wpAny_bind (wpAny_pyHash_tuple hu hx ?_))
    refine add_in (s := { s' with toks := s'.toks + (q.2.length + 1) }) hS2 hx hu (by have := g.le; omega) fun b h' L' es' ep' t' sb S3 c1 c2 => ?_
    have g2 : Met ks (i + 1) L' := g.next lq (by
      rcases Classical.em (q.2 ∈ L.map (·.2)) with c | c
      · exact .inl ⟨c, c1 c⟩
      · exact .inr (c2 c))
    have kp3 : ∀ b o, h0.get? b = some o → h'.get? b = some o := fun b o e => (sb.2 b (fun z => by rw [z, fS] at e; cases e)).trans (kp2 b o e)
    refine wpAny_pure ⟨plainId_quiet F.plain_set_update_loop _, ih (i + 1) _ (by omega) lt2 (W.frame _ s' _ _ st2 (Nat.le_add_right _ _) fun b hb o e => ?_) kp3 ⟨L', es', ep', t', S3, g2⟩ fun s'' L2 es2 ep2 t2 m2 hS4 g3 kp4 => ?_⟩
    · rw [sb.2 b (fun z : b = S => nS (by rw [← z]; exact hb))]; exact e
    · refine hR s'' L2 es2 ep2 t2 (Moved.trans W.gtrans ((m.mono up).then_heap (Nat.le_add_right _ _) fun b o hb e => ?_) m2) hS4 g3 kp4
      rw [sb.2 b (fun z : b = S => hb (by rw [z]; exact List.mem_cons_self))]; exact e
end
end Rt
set_option Elab.async false
set_option linter.all false
set_option maxRecDepth 100000
set_option maxHeartbeats 8000000
/-! set(xs): the call -/
namespace Rt
open PySem PySem.Spec L2
open PyProof.Rows hiding St
section
variable {P : Program} {w : World} {A : Around} {X : Value → Shared → Prop} {s : Shared}
abbrev hpS (w : World) (s : Shared) : Heap := s.heap.push (newSetO w)
theorem hpS_at : (hpS w s).get? s.heap.objs.size = some (newSetO w) := Heap.get?_push_size _ rfl
theorem call_setX {l : Addr} {Q : Value → Shared → Prop} {I : Shared → Prop}
    (ini : ∀ (Qf : PySem.Fin → Shared → Prop) (E : Value → Shared → Prop), (∀ z, I z → Qf (.done (.ret .none)) z) → wpAny (model P w) A.in1.in1 (Builtin.«set.__init__» ⟨[.ref s.heap.objs.size, .ref l], []⟩) Qf E { s with heap := hpS w s })
    (h : ∀ z, I z → Q (.ref s.heap.objs.size) z) : wpAny (model P w) A (call (.type "set") [.ref l]) Q X s := by
  obtain ⟨c, tl, mr⟩ := F.called_set.mro
  have md := F.called_set.made
  have sb := F.called_set.sub
  refine wpAny_call (codeAny_of_tree ?_)
  show wpAny _ _ (callAny (.type "set") _) _ _ _
  refine wpAny_pure ⟨Code.quiet_builtin _ (by decide +kernel), codeAny_builtin F.entry_type_call ?_⟩
  rw [Around.under_plain (weight_type_call_type "set" [.ref l] []) rfl]
  have a1 := F.called_set.notType
  have a2 := F.called_set.canCreate
  have a3 := F.typeCall_set_1 (.ref l)
  repeat (any_goals (first | assumption | wp_step))
  refine codeAny_mono (code_set_led1 (.ref l) (E := X) (Q₁ := fun v z => v = .ref s.heap.objs.size ∧ z = { s with heap := hpS w s }) ⟨rfl, rfl⟩) fun r z hr => ?_
  match r, hr with
  | .error e, hr => exact hr
  | .ok (.ret v), hr =>
    obtain ⟨rfl, rfl⟩ := hr
    have lS := hpS_at (w := w) (s := s)
    have ty : Shared.TypeIs { s with heap := hpS w s } (.ref s.heap.objs.size) "set" := ⟨_, lS, rfl⟩
    have b1 := F.called_set.init.lookup
    have b2 := F.called_set.init.bind (.ref s.heap.objs.size)
    repeat (any_goals (first | assumption | wp_step))
    refine codeAny_mono (codeAny_call_builtin (R := wants (fun v z => v = .none ∧ I z) X) F.called_set.init.plain F.entry_set_init (check_set_init_1 ty ?_)) fun r2 z2 hr2 => ?_
    · exact ini _ _ fun z hz => ⟨rfl, hz⟩
    · match r2, hr2 with
      | .error e, hr2 => exact hr2
      | .ok (.ret v), hr2 =>
        obtain ⟨rfl, hz⟩ := hr2
        repeat (any_goals (first | assumption | wp_step))
        exact h _ hz
def Got (P : Program) (w : World) (ks : TL) (s z : Shared) : Prop := ∃ (h' : Heap) (tk : Nat) (L : TL) (es : Array (Int × Value)) (ep : Nat) (t : SetTable), z = { s with heap := h', toks := tk } ∧ SetAt P w h' s.heap.objs.size L es ep t ∧ Met ks ks.length L ∧ ∀ b o, s.heap.get? b = some o → h'.get? b = some o
theorem none_at {h : Heap} {b : Addr} (e : h.objs.size ≤ b) : h.get? b = none := by
  cases q : h.get? b with
  | none => rfl
  | some o => exact absurd (Nat.lt_of_lt_of_le (Heap.lt_size q) e) (Nat.lt_irrefl _)
theorem val_of {items : Array Value} {ks : TL} (hi : items.toList = ks.map fun q => Value.ref q.1) : ∀ (i : Nat) (v : Value), items[i]? = some v → ∃ q, ks[i]? = some q ∧ v = .ref q.1 := fun i v e => by
  rw [← Array.getElem?_toList, hi, List.getElem?_map] at e
  cases z : ks[i]? with
  | none => rw [z] at e; cases e
  | some q => rw [z] at e; exact ⟨q, rfl, (Option.some.inj e).symm⟩
theorem ini_list {l : Addr} {items : Array Value} {ks : TL} (hh : A.handled = none) (hl : s.heap.IsList l items) (hi : items.toList = ks.map fun q => Value.ref q.1) (tp : ∀ q ∈ ks, TupAt P w s.heap q.2 q.1) (lt : ks.length < 64) (hu : A.units + 3 < cLine)
    (Qf : PySem.Fin → Shared → Prop) (E : Value → Shared → Prop) (q : ∀ z, Got P w ks s z → Qf (.done (.ret .none)) z) : wpAny (model P w) A.in1.in1 (Builtin.«set.__init__» ⟨[.ref s.heap.objs.size, .ref l], []⟩) Qf E { s with heap := hpS w s } := by
  have sz : items.size = ks.length := by rw [← Array.length_toList, hi, List.length_map]
  have lS := hpS_at (w := w) (s := s)
  obtain ⟨⟨oc, od, odt, osl⟩, lo, hc, n, hd⟩ := hl
  have hc : oc = .type "list" := hc
  have hd : odt = .seq items n := hd
  subst hc hd
  have lo2 : (hpS w s).get? l = some { cls := .type "list", dict := od, data := .seq items n, slots := osl } := Heap.get?_push_of_some _ lo
  have c1 := F.sub_list_set
  have c2 := F.sub_list_frozenset
  have c3 : (Value.type "list" == Value.type "dict") = false := by decide
  have il : (hpS w s).IsList l items := ⟨_, lo2, rfl, n, rfl⟩
  unfold Builtin.«set.__init__» noKeywords Builtin.Frozenset.updateFrom
  generalize hPI : pyIter = PI
  wp_walk
  subst hPI
  refine wpAny_pyIter_list il ?_
  refine wpAny_bind (wpAny_runValue ?_)
  have llt : l < s.heap.objs.size := Heap.lt_size lo
  have zz : (hpS w s).objs.size = s.heap.objs.size + 1 := Heap.size_push ..
  have h3 : A.in1.in1.in1.handled = none := by simp [hh]
  have nI : l ≠ (hpS w s).objs.size := by rw [zz]; exact Nat.ne_of_lt (Nat.lt_succ_of_lt llt)
  have nS : s.heap.objs.size ∉ [(hpS w s).objs.size, l] := by
    rw [zz]
    simp only [List.mem_cons, List.not_mem_nil, or_false, not_or]
    exact ⟨Nat.ne_of_lt (Nat.lt_succ_self _), Nat.ne_of_gt llt⟩
  refine upd_loop (S := s.heap.objs.size) ((Walks.list h3 _ l nI items).toS) nS ks sz lt (val_of hi) s.heap tp (none_at (Nat.le_refl _)) (fun b m => none_at (by rw [List.mem_singleton.mp m, zz]; exact Nat.le_succ _)) hu (items.size - 0) 0 _ (by omega) (Nat.zero_le _)
    ⟨⟨_, Heap.get?_push_size _ rfl, rfl, rfl⟩, il.push _⟩ (fun b o e => Heap.get?_push_of_some _ (Heap.get?_push_of_some _ e)) ⟨[], #[], 0, _, setAt_new (Heap.get?_push_of_some _ lS), Met.none ks⟩ ?_
  intro z L es ep t m S g kp
  obtain ⟨h', g2, d2, tk, o2⟩ := z
  obtain rfl : g2 = s.gens := m.gens
  obtain rfl : d2 = s.drawn := m.drawn
  obtain rfl : o2 = s.os := m.os
  rw [sz] at g
  show wpAny _ _ _ _ _ _
  exact wpAny_pure (wpAny_pure (q _ ⟨h', tk, L, es, ep, t, rfl, S, g, kp⟩))
end
end Rt
set_option Elab.async false
set_option linter.all false
set_option maxRecDepth 100000
set_option maxHeartbeats 8000000
/-! set(xs) of a tuple -/
namespace Rt
open PySem PySem.Spec L2
open PyProof.Rows hiding St
section
variable {P : Program} {w : World} {A : Around} {X : Value → Shared → Prop} {s : Shared}
theorem ini_tuple {l : Addr} {items : Array Value} {ks : TL} (hh : A.handled = none) (hl : s.heap.IsTuple l items) (hi : items.toList = ks.map fun q => Value.ref q.1) (tp : ∀ q ∈ ks, TupAt P w s.heap q.2 q.1) (lt : ks.length < 64) (hu : A.units + 3 < cLine)
    (Qf : PySem.Fin → Shared → Prop) (E : Value → Shared → Prop) (q : ∀ z, Got P w ks s z → Qf (.done (.ret .none)) z) : wpAny (model P w) A.in1.in1 (Builtin.«set.__init__» ⟨[.ref s.heap.objs.size, .ref l], []⟩) Qf E { s with heap := hpS w s } := by
  have sz : items.size = ks.length := by rw [← Array.length_toList, hi, List.length_map]
  have lS := hpS_at (w := w) (s := s)
  obtain ⟨⟨oc, od, odt, osl⟩, lo, hc, n, hd⟩ := hl
  have hc : oc = .type "tuple" := hc
  have hd : odt = .seq items n := hd
  subst hc hd
  have lo2 : (hpS w s).get? l = some { cls := .type "tuple", dict := od, data := .seq items n, slots := osl } := Heap.get?_push_of_some _ lo
  have c1 := F.sub_tuple_set
  have c2 := F.sub_tuple_frozenset
  have c3 : (Value.type "tuple" == Value.type "dict") = false := by decide
  have il : (hpS w s).IsTuple l items := ⟨_, lo2, rfl, n, rfl⟩
  unfold Builtin.«set.__init__» noKeywords Builtin.Frozenset.updateFrom
  generalize hPI : pyIter = PI
  wp_walk
  subst hPI
  refine wpAny_pyIter_tuple il ?_
  refine wpAny_bind (wpAny_runValue ?_)
  have llt : l < s.heap.objs.size := Heap.lt_size lo
  have zz : (hpS w s).objs.size = s.heap.objs.size + 1 := Heap.size_push ..
  have h3 : A.in1.in1.in1.handled = none := by simp [hh]
  have nI : l ≠ (hpS w s).objs.size := by rw [zz]; exact Nat.ne_of_lt (Nat.lt_succ_of_lt llt)
  have nS : s.heap.objs.size ∉ [(hpS w s).objs.size, l] := by
    rw [zz]
    simp only [List.mem_cons, List.not_mem_nil, or_false, not_or]
    exact ⟨Nat.ne_of_lt (Nat.lt_succ_self _), Nat.ne_of_gt llt⟩
  refine upd_loop (S := s.heap.objs.size) ((Walks.tuple h3 _ l nI items).toS) nS ks sz lt (val_of hi) s.heap tp (none_at (Nat.le_refl _)) (fun b m => none_at (by rw [List.mem_singleton.mp m, zz]; exact Nat.le_succ _)) hu (items.size - 0) 0 _ (by omega) (Nat.zero_le _)
    ⟨⟨_, Heap.get?_push_size _ rfl, rfl, rfl⟩, il.at fun o e => Heap.get?_push_of_some _ e⟩ (fun b o e => Heap.get?_push_of_some _ (Heap.get?_push_of_some _ e)) ⟨[], #[], 0, _, setAt_new (Heap.get?_push_of_some _ lS), Met.none ks⟩ ?_
  intro z L es ep t m S g kp
  obtain ⟨h', g2, d2, tk, o2⟩ := z
  obtain rfl : g2 = s.gens := m.gens
  obtain rfl : d2 = s.drawn := m.drawn
  obtain rfl : o2 = s.os := m.os
  rw [sz] at g
  show wpAny _ _ _ _ _ _
  exact wpAny_pure (wpAny_pure (q _ ⟨h', tk, L, es, ep, t, rfl, S, g, kp⟩))
end
end Rt
set_option Elab.async false
set_option linter.all false
set_option maxRecDepth 100000
set_option maxHeartbeats 4000000
/-! lists of tuples of texts and ints, sorted -/
namespace Rt
open PySem PySem.Spec L2
open PyProof.Rows hiding St
abbrev IK := Int ⊕ List Nat
def nK : Key → IK
  | .inl i => .inl i
  | .inr x => .inr x.cps.toList
/-- the shape of a lag: text, text, int -/
def shp : Nat → Bool
  | 0 => true
  | 1 => true
  | _ => false
def isLg : TKey → Bool
  | [.inr _, .inr _, .inl _] => true
  | _ => false
theorem isLg_of {k : TKey} (h : isLg k = true) : ∃ x y i, k = [.inr x, .inr y, .inl i] := by
  unfold isLg at h
  split at h
  · exact ⟨_, _, _, rfl⟩
  · cases h
abbrev ltN (a b : List IK) : Bool := lexLt itemOrd a b
section
variable {α : Type} {l : List α} {p q : α → Bool}
theorem cnt_le : ∀ l : List α, (∀ x ∈ l, p x = true → q x = true) → (l.filter p).length ≤ (l.filter q).length
  | [], _ => Nat.le_refl _
  | x :: l, h => by
    have ih := cnt_le l fun y m => h y (List.mem_cons_of_mem _ m)
    rw [List.filter_cons, List.filter_cons]
    cases e : p x with
    | true => rw [if_pos rfl, if_pos (h x List.mem_cons_self e), List.length_cons, List.length_cons]; omega
    | false =>
      rw [if_neg (by simp)]
      split
      · rw [List.length_cons]; omega
      · exact ih
theorem cnt_lt : ∀ l : List α, (∀ x ∈ l, p x = true → q x = true) → (∃ x ∈ l, q x = true ∧ p x = false) → (l.filter p).length < (l.filter q).length
  | [], _, ⟨x, m, _⟩ => absurd m List.not_mem_nil
  | x :: l, h, ⟨y, m, e1, e2⟩ => by
    have h2 : ∀ z ∈ l, p z = true → q z = true := fun z m => h z (List.mem_cons_of_mem _ m)
    rw [List.filter_cons, List.filter_cons]
    rcases List.mem_cons.mp m with rfl | m
    · have := cnt_le l h2
      rw [if_neg (by rw [e2]; simp), if_pos e1, List.length_cons]
      omega
    · have ih := cnt_lt l h2 ⟨y, m, e1, e2⟩
      cases e : p x with
      | true => rw [if_pos rfl, if_pos (h x List.mem_cons_self e), List.length_cons, List.length_cons]; omega
      | false =>
        rw [if_neg (by simp)]
        split
        · rw [List.length_cons]; omega
        · exact ih
end
/-- a value's rank among the others: how many keys are less -/
def rkN (ks : List (List IK)) (k : List IK) : Int := ((ks.filter fun z => ltN z k).length : Nat)
theorem rkN_lt {ks : List (List IK)} {a b : List IK} (ma : a ∈ ks) : decide (rkN ks a < rkN ks b) = ltN a b := by
  cases e : ltN a b with
  | true =>
    refine decide_eq_true (Int.ofNat_lt.mpr (cnt_lt ks (fun z _ h => lex_trans (O := itemOrd) _ _ _ h e) ⟨a, ma, e, lex_irrefl (O := itemOrd) a⟩))
  | false =>
    refine decide_eq_false fun z => ?_
    have : rkN ks b ≤ rkN ks a := Int.ofNat_le.mpr (cnt_le ks fun z _ h => by
      rcases lex_negTrans (O := itemOrd) z a b h with y | y
      · exact y
      · have e : lexLt itemOrd a b = false := e
        rw [e] at y; cases y)
    omega
section
variable {P : Program} {w : World} {A : Around} {X : Value → Shared → Prop} {s : Shared}
theorem items_key {x y : Str} {i : Int} {vs : List Value} (h : ItemsAre (mixKind P w) [.inr x, .inr y, .inl i] vs) : tupItems shp 0 vs = some [.inr x.cps.toList, .inr y.cps.toList, .inl i] ∧ ∃ t u v, vs = [.str x t, .str y u, .int i v] := by
  cases h with
  | cons h1 h =>
    cases h with
    | cons h2 h =>
      cases h with
      | cons h3 h =>
        cases h
        rcases keyIs_shape (k := .inr x) h1 with ⟨_, _, e, _⟩ | ⟨_, t, e, rfl⟩
        · cases e
        cases e
        rcases keyIs_shape (k := .inr y) h2 with ⟨_, _, e, _⟩ | ⟨_, u, e, rfl⟩
        · cases e
        cases e
        rcases keyIs_shape (k := .inl i) h3 with ⟨_, v, e, rfl⟩ | ⟨_, _, e, _⟩
        · cases e
          exact ⟨rfl, t, u, v, rfl⟩
        · cases e
theorem key_at {h : Heap} {k : TKey} {b : Addr} (hk : isLg k = true) (x : TupAt P w h k b) : tupKey h shp (.ref b) = some (k.map nK) := by
  obtain ⟨p, q, i, rfl⟩ := isLg_of hk
  obtain ⟨o, its, n, lo, _, dd, hi⟩ := x
  obtain ⟨e, _⟩ := items_key hi
  simp only [tupKey, lo, dd]
  exact e
theorem tupOf_at {h : Heap} {k : TKey} {b : Addr} (hk : isLg k = true) (x : TupAt P w h k b) : ∃ f, TupOf h shp (.ref b) f := by
  obtain ⟨p, q, i, rfl⟩ := isLg_of hk
  obtain ⟨o, its, n, lo, c, dd, hi⟩ := x
  obtain ⟨_, t, u, v, e⟩ := items_key hi
  refine ⟨.str p t, b, o, its, n, rfl, lo, c, dd, ?_, fun z => (by cases z), fun _ => ⟨p, t, rfl⟩⟩
  rw [← Array.getElem?_toList, e]
  rfl
theorem tupsOf_at {h : Heap} : ∀ (L : TL), (∀ q ∈ L, isLg q.2 = true ∧ TupAt P w h q.2 q.1) → ∃ fs, TupsOf h shp (L.map fun q => Value.ref q.1) fs ∧ fs.length = L.length
  | [], _ => ⟨[], .nil, rfl⟩
  | q :: L, hL => by
    obtain ⟨fs, h1, h2⟩ := tupsOf_at L fun z m => hL z (List.mem_cons_of_mem _ m)
    obtain ⟨f, hf⟩ := tupOf_at (hL q List.mem_cons_self).1 (hL q List.mem_cons_self).2
    exact ⟨f :: fs, .cons hf h1, by rw [List.length_cons, List.length_cons, h2]⟩
/-- list.sort of such a list -/
theorem sort_lags {a : Addr} {L : TL} {n : Nat} {Pf : PySem.Fin → Shared → Prop} (ho : s.heap.get? a = some (seqObj "list" (L.map fun q => Value.ref q.1).toArray n)) (lt : L.length < 64) (hL : ∀ q ∈ L, isLg q.2 = true ∧ TupAt P w s.heap q.2 q.1)
    (q : ∀ (out : Array Value) (L' : TL), out.toList = L'.map (fun q => Value.ref q.1) → (out.toList.Perm (L.map fun q => Value.ref q.1)) → (∀ z ∈ L', z ∈ L) → L'.Pairwise (fun x y => ltN (y.2.map nK) (x.2.map nK) = false) → Pf (.done (.ret .none)) { s with heap := sortedHeap s.heap a (L.map fun q => Value.ref q.1) out }) :
    wpAny (model P w) A (Builtin.«list.sort» ⟨[.ref a], []⟩) Pf X s := by
  have mid : ∀ z ∈ L, TupAt P w (TS.midHeap s.heap a (L.map fun q => Value.ref q.1)) z.2 z.1 := fun z m => by
    obtain ⟨o, its, k, lo, c, dd, hi⟩ := (hL z m).2
    refine ⟨o, its, k, TS.midHeap_old ?_ lo, c, dd, hi⟩
    intro e
    rw [e, ho] at lo
    cases lo
    exact absurd (Value.type.inj c) (by decide)
  let key : Value → List IK := fun v => (tupKey s.heap shp v).getD []
  have ke : ∀ z ∈ L, key (.ref z.1) = z.2.map nK := fun z m => by
    show (tupKey s.heap shp (.ref z.1)).getD [] = _
    rw [key_at (hL z m).1 (hL z m).2]; rfl
  let ks := L.map fun z => z.2.map nK
  have len : (L.map fun q => Value.ref q.1).length = L.length := List.length_map _
  refine SK.plain_sort (r := fun v => rkN ks (key v)) ho (by rw [len]; exact lt) (fun h2 Q hQ => ?_) fun ps out h1 h2 h3 => ?_
  · obtain ⟨fs, t1, t2⟩ := tupsOf_at (h := TS.midHeap s.heap a (L.map fun q => Value.ref q.1)) L fun z m => ⟨(hL z m).1, mid z m⟩
    refine tup_kind (s := { s with heap := TS.midHeap s.heap a (L.map fun q => Value.ref q.1) }) (by rw [t2]; rw [len] at h2; omega) t1 (hQ _ ?_)
    intro x y hx hy Q' E' q'
    rw [pairsOf_toList] at hx hy
    obtain ⟨z1, m1, e1⟩ := List.mem_map.mp (mem_zip_self hx).2
    obtain ⟨z2, m2, e2⟩ := List.mem_map.mp (mem_zip_self hy).2
    rw [← e1, ← e2] at q' ⊢
    have d : decide (rkN ks (key (.ref z1.1)) < rkN ks (key (.ref z2.1))) = ltN (z1.2.map nK) (z2.2.map nK) := by
      rw [ke z1 m1, ke z2 m2]
      exact rkN_lt (List.mem_map.mpr ⟨z1, m1, rfl⟩)
    have q' : Q' (decide (rkN ks (key (.ref z1.1)) < rkN ks (key (.ref z2.1)))) _ := q'
    rw [d] at q'
    exact tup_ltAt (s := { s with heap := TS.midHeap s.heap a (L.map fun q => Value.ref q.1) }) true A E' _ _ _ _ (key_at (hL z1 m1).1 (mid z1 m1)) (key_at (hL z2 m2).1 (mid z2 m2)) q'
  · obtain ⟨p, o⟩ := TS.out_rank (r := fun v => rkN ks (key v)) h1 h2 h3
    have ord : ∀ vs : List Value, (∀ v ∈ vs, ∃ z ∈ L, v = Value.ref z.1) → ∃ L1 : TL, vs = L1.map (fun z => Value.ref z.1) ∧ ∀ z ∈ L1, z ∈ L := by
      intro vs
      induction vs with
      | nil => exact fun _ => ⟨[], rfl, fun z m => absurd m List.not_mem_nil⟩
      | cons v vs ih =>
        intro hv
        obtain ⟨z, m, rfl⟩ := hv v List.mem_cons_self
        obtain ⟨L1, rfl, hs⟩ := ih fun u m => hv u (List.mem_cons_of_mem _ m)
        exact ⟨z :: L1, rfl, fun y my => by
          rcases List.mem_cons.mp my with rfl | my
          · exact m
          · exact hs y my⟩
    obtain ⟨L', e', hs⟩ := ord out.toList fun v m => by
      obtain ⟨z, mz, e⟩ := List.mem_map.mp (p.mem_iff.mp m)
      exact ⟨z, mz, e.symm⟩
    refine q out L' e' p hs ?_
    rw [e', List.pairwise_map] at o
    refine List.Pairwise.imp_of_mem (fun {x y} mx my hle => ?_) o
    have hle : rkN ks (key (.ref x.1)) ≤ rkN ks (key (.ref y.1)) := hle
    rw [ke x (hs x mx), ke y (hs y my)] at hle
    have d := rkN_lt (b := x.2.map nK) (List.mem_map.mpr ⟨y, hs y my, rfl⟩ : y.2.map nK ∈ ks)
    rw [← d]
    exact decide_eq_false (Int.not_lt.mpr hle)
end
end Rt
set_option Elab.async false
set_option linter.all false
set_option maxRecDepth 100000
set_option maxHeartbeats 4000000
/-! sorted(set): the call -/
namespace Rt
open PySem PySem.Spec L2
open PyProof.Rows hiding St
section
variable {P : Program} {w : World} {A : Around} {X : Value → Shared → Prop} {s : Shared}
theorem refs_back2 {P : Program} {w : World} {h : Heap} {L : TL} (dif : (L.map (·.2)).Nodup) (tps : ∀ q ∈ L, TupAt P w h q.2 q.1) {L1 : TL} (sub : ∀ q ∈ L1, q ∈ L) (p : (L1.map fun q => Value.ref q.1).Perm (L.map fun q => Value.ref q.1)) : L1.Perm L := by
  have one : ∀ x ∈ L, ∀ y ∈ L, x.1 = y.1 → x = y := fun x mx y my e => by
    have a1 := tps x mx
    rw [e] at a1
    exact Prod.ext e (a1.inj (tps y my))
  have nL : L.Nodup := List.Pairwise.of_map (fun q => q.2) (fun _ _ ne e => ne (by rw [e])) dif
  have nR : (L.map fun q => Value.ref q.1).Nodup := List.pairwise_map.mpr (List.Pairwise.imp_of_mem (fun {x y} mx my ne e => ne (one x mx y my (Value.ref.inj e))) nL)
  have n1 : L1.Nodup := List.Pairwise.of_map (fun q => Value.ref q.1) (fun _ _ ne e => ne (by rw [e])) (p.nodup_iff.mpr nR)
  refine (List.perm_ext_iff_of_nodup n1 nL).mpr fun q => ⟨sub q, fun m => ?_⟩
  obtain ⟨r, mr, e⟩ := List.mem_map.mp (p.mem_iff.mpr (List.mem_map.mpr ⟨q, m, rfl⟩))
  rw [← one r (sub r mr) q m (Value.ref.inj e)]
  exact mr
theorem call_sortedX {a : Addr} {L : TL} {es : Array (Int × Value)} {ep : Nat} {t : SetTable} {Q : Value → Shared → Prop} (S : SetAt P w s.heap a L es ep t) (hh : A.handled = none) (lg : ∀ q ∈ L, isLg q.2 = true)
    (q : ∀ s' p (out : Array Value) (c : Nat) (L' : TL), (∀ b o, s.heap.get? b = some o → s'.heap.get? b = some o) → s'.gens = s.gens → s'.os = s.os → s.heap.objs.size ≤ p → s'.heap.get? p = some (seqObj "list" out c) → out.toList = L'.map (fun q => Value.ref q.1) →
      L'.Perm L → L'.Pairwise (fun x y => ltN (y.2.map nK) (x.2.map nK) = false) → Q (.ref p) s') : wpAny (model P w) A (call (.builtin "sorted") [.ref a]) Q X s := by
  obtain ⟨o, lo, ex, dd⟩ := S.at_
  refine Calls.call_function_entry kind_sorted plain_sorted entry_sorted (args_sorted1 _) ?_
  unfold Builtin.«sorted»
  refine wpAny_bind (m := checkCount "sorted" 1 1 _) (wpAny_pure ?_)
  refine wpAny_bind (collect_set (A := A.in1) hh ⟨o, lo, ex.1, dd⟩ S.fit (by rw [S.len]; exact Nat.lt_of_lt_of_le S.lt (by decide)) S.tb.ris S.ld fun s1 vs k1 z1 g1 o1 pm => ?_)
  have ev : es.toList.map (·.2) = L.map fun q => Value.ref q.1 := by rw [S.en, ents, List.map_map]; rfl
  rw [ev] at pm
  obtain ⟨L1, rfl, sub⟩ : ∃ L1 : TL, vs = L1.map (fun z => Value.ref z.1) ∧ ∀ z ∈ L1, z ∈ L := by
    have ord : ∀ vs : List Value, (∀ v ∈ vs, ∃ z ∈ L, v = Value.ref z.1) → ∃ L1 : TL, vs = L1.map (fun z => Value.ref z.1) ∧ ∀ z ∈ L1, z ∈ L := by
      intro vs
      induction vs with
      | nil => exact fun _ => ⟨[], rfl, fun z m => absurd m List.not_mem_nil⟩
      | cons v vs ih =>
        intro hv
        obtain ⟨z, m, rfl⟩ := hv v List.mem_cons_self
        obtain ⟨L1, rfl, hs⟩ := ih fun u m => hv u (List.mem_cons_of_mem _ m)
        exact ⟨z :: L1, rfl, fun y my => by
          rcases List.mem_cons.mp my with rfl | my
          · exact m
          · exact hs y my⟩
    exact ord vs fun v m => by
      obtain ⟨z, mz, e⟩ := List.mem_map.mp (pm.mem_iff.mp m)
      exact ⟨z, mz, e.symm⟩
  have p1 : L1.Perm L := refs_back2 S.dif S.tps sub pm
  have l1 : L1.length < 64 := by rw [p1.length_eq]; exact S.lt
  refine wpAny_bind (wpAny_newList ?_ (by rw [List.length_map, sizeLine_eq]; omega))
  have loL : (s1.heap.push (seqObj "list" (L1.map fun z => Value.ref z.1).toArray 0)).get? s1.heap.objs.size = some (seqObj "list" (L1.map fun z => Value.ref z.1).toArray 0) := Heap.get?_push_size _ rfl
  refine wpAny_bind (wpAny_holding (wpAny_call_entry slot_list_sort ⟨_, loL, rfl⟩ entry_list_sort (sort_lags (s := { s1 with heap := s1.heap.push (seqObj "list" (L1.map fun z => Value.ref z.1).toArray 0) }) loL l1
    (fun z m => ⟨lg z (sub z m), tup_keep (S.tps z (sub z m)) fun b u e => Heap.get?_push_of_some _ (k1 b u e)⟩) fun out L' e' pp hs pw => ⟨_, rfl, ?_⟩) (args_list_sort _)))
  obtain ⟨c, hc⟩ := sortedHeap_at (vs := L1.map fun z => Value.ref z.1) (out := out) loL
  rw [e'] at pp
  have p2 : L'.Perm L := refs_back2 S.dif S.tps (fun z m => sub z (hs z m)) (pp.trans (p1.map _))
  refine wpAny_pure ⟨_, rfl, q _ s1.heap.objs.size out c L' (fun b u e => ?_) g1 o1 z1 hc e' p2 pw⟩
  have z := k1 b u e
  have hb := Heap.lt_size z
  show (sortedHeap (s1.heap.push (seqObj "list" (L1.map fun z => Value.ref z.1).toArray 0)) s1.heap.objs.size (L1.map fun z => Value.ref z.1) out).get? b = some u
  rw [sortedHeap_old (Nat.ne_of_lt hb) (by rw [size_push']; exact Nat.lt_succ_of_lt hb)]
  exact Heap.get?_push_of_some _ z
end
end Rt
set_option Elab.async false
set_option linter.all false
set_option maxRecDepth 100000
set_option maxHeartbeats 4000000
/-! set(xs), sorted(set): the rules -/
namespace Rt
open PySem PySem.Spec L2
open PyProof.Rows hiding St
/-- a set of tuples, as it stands at a by itself -/
def Set0 (P : Program) (w : World) (h : Heap) (a : Addr) (L : TL) : Prop := ∃ (es : Array (Int × Value)) (ep : Nat) (t : SetTable), (∃ o, h.get? a = some o ∧ o.ExactSet ∧ o.data = .set es ep t) ∧ es.toList = ents P w L ∧ TabOk t (hss P w L) ∧ (L.map (·.2)).Nodup ∧
  (w.params.followText "set-order" = true ∨ t.led = true) ∧ L.length * 5 < t.mask * 3 ∧ L.length < 64
def SetO (P : Program) (w : World) (a : Addr) (L : TL) : HO := .ext fun h => Set0 P w h a L
theorem setO_new {P : Program} {w : World} {H : Hp} {h : Heap} {a : Addr} {L : TL} {es : Array (Int × Value)} {ep : Nat} {t : SetTable} (S : SetAt P w h a L es ep t) : ObjOk P w H h a (SetO P w a L) := by
  obtain ⟨o, lo, r⟩ := S.at_
  refine ⟨⟨es, ep, t, ⟨o, lo, r⟩, S.en, S.tb, S.dif, S.ld, S.rm, S.lt⟩, ⟨o, lo⟩, fun h1 h2 p k => ?_⟩
  obtain ⟨es', ep', t', ⟨o', lo', r'⟩, q'⟩ := (show Set0 P w h1 a L from p)
  exact ⟨es', ep', t', ⟨o', k o' lo', r'⟩, q'⟩
theorem items_mix {P : Program} {w : World} : ∀ {k : TKey} {us : List Value}, Vals (k.map kV) us → ItemsAre (mixKind P w) k us
  | [], _, .nil => .nil
  | _ :: _, _, .cons r l => .cons (kV_is r) (items_mix l)
theorem refs_of : ∀ {ks : TL} {us : List Value}, Vals (ks.map fun q => V.ref q.1) us → us = ks.map fun q => Value.ref q.1
  | [], _, .nil => rfl
  | q :: ks, _, .cons r l => by
    cases r
    rw [refs_of l]; rfl
theorem of_refs : ∀ ks : TL, Vals (ks.map fun q => V.ref q.1) (ks.map fun q => Value.ref q.1)
  | [] => .nil
  | _ :: ks => .cons rfl (of_refs ks)
section
variable {X : Cx}
theorem tupAt_of {pins : List (Addr × Obj)} {σ : L2.St} {H : Hp} {s : Shared} {b : Addr} {k : TKey} (I : Inv X pins σ H s) (h : SqT X.K H b (k.map kV)) : TupAt X.prog X.w s.heap k b := by
  obtain ⟨its, r, ⟨o, lo, c, n, d⟩, _⟩ := I.tuple h
  exact ⟨o, its.toArray, n, lo, c, d, by simpa using items_mix r⟩
/-- set(xs) -/
def rSetX (K : PySem.W.Frag) (P : Program) (w : World) : List V → Hp → VK → Prop := fun xs H Q => ∃ (l : Addr) (ks : TL), xs = [V.ref l] ∧ (SqL K H l (ks.map fun q => V.ref q.1) ∨ SqT K H l (ks.map fun q => V.ref q.1)) ∧ (∀ q ∈ ks, SqT K H q.1 (q.2.map kV)) ∧ ks.length < 64 ∧
  ∀ a L, H a = none → (∀ q ∈ L, q ∈ ks) → (∀ q ∈ ks, q.2 ∈ L.map (·.2)) → Q (.ref a) (upd H a (SetO P w a L))
theorem cr_setX (hc : X.calm = true) (hu : X.A.units + 64 < cLine) : CallR X (.type "set") (rSetX X.K X.prog X.w) := by
  intro pins s σ H xs us Q I r h
  obtain ⟨l, ks, rfl, hl, tp, lt, q⟩ := h
  rw [Vals.ref1 r]
  have fr : H s.heap.objs.size = none := I.hok.fresh (Nat.le_refl _)
  have tp' : ∀ z ∈ ks, TupAt X.prog X.w s.heap z.2 z.1 := fun z m => tupAt_of I (tp z m)
  have fin : ∀ z, Got X.prog X.w ks s z → EP X pins σ Q (.ref s.heap.objs.size) z := by
    rintro z ⟨h', tk, L, es, ep, t, rfl, S, g, k⟩
    refine ⟨.ref s.heap.objs.size, upd H s.heap.objs.size (SetO X.prog X.w s.heap.objs.size L), I.laid (t' := tk) k (Nat.le_refl _) (setO_new S), rfl, q _ L fr (fun z m => List.mem_of_mem_take (g.from_ z m)) fun z m => g.all z (by rw [List.take_length]; exact m)⟩
  rcases hl with hl | hl
  · obtain ⟨its, rv, pl, _⟩ := I.list hl
    exact call_setX (fun Qf E q' => ini_list (I.ok.hd hc) pl.isList (by simpa using refs_of rv) tp' lt (by omega) Qf E q') fin
  · obtain ⟨its, rv, ⟨o, lo, c, n, d⟩, _⟩ := I.tuple hl
    exact call_setX (fun Qf E q' => ini_tuple (items := its.toArray) (I.ok.hd hc) ⟨o, lo, c, n, d⟩ (by simpa using refs_of rv) tp' lt (by omega) Qf E q') fin
/-- sorted(set) -/
def rSortX (K : PySem.W.Frag) (P : Program) (w : World) : List V → Hp → VK → Prop := fun vs H Q => ∃ (a : Addr) (L : TL), vs = [V.ref a] ∧ H a = some (SetO P w a L) ∧ (∀ q ∈ L, SqT K H q.1 (q.2.map kV) ∧ isLg q.2 = true) ∧
  ∀ (L' : TL) (p : Addr), L'.Perm L → (L'.map (·.2)).Nodup → L'.length < 64 → L'.Pairwise (fun x y => ltN (y.2.map nK) (x.2.map nK) = false) → H p = none → Q (.ref p) (upd H p (.lst (L'.map fun q => V.ref q.1)))
theorem cr_sortX (hc : X.calm = true) : CallR X (.builtin "sorted") (rSortX X.K X.prog X.w) := by
  intro pins s σ H vs us Q I r h
  obtain ⟨a, L, rfl, ha, tp, q⟩ := h
  obtain ⟨es, ep, t, h1, h2, h3, h4, h5, h6, h7⟩ := (show Set0 X.prog X.w s.heap a L from (I.hok a _ ha).1)
  have S : SetAt X.prog X.w s.heap a L es ep t := ⟨h1, h2, h3, h4, fun z m => tupAt_of I (tp z m).1, h5, h6, h7⟩
  rw [Vals.ref1 r]
  refine call_sortedX S (I.ok.hd hc) (fun z m => (tp z m).2) fun s' p out c L' k g o hp hg ho pm pw => ?_
  have lt : L'.length < 64 := by rw [pm.length_eq]; exact h7
  have fr : H p = none := I.hok.fresh hp
  have hv : Vals (L'.map fun q => V.ref q.1) out.toList := by rw [ho]; exact of_refs L'
  have J : Inv X pins σ (upd H p (.lst (L'.map fun q => V.ref q.1))) { s with heap := s'.heap, gens := s'.gens, drawn := s'.drawn, toks := s'.toks } :=
    I.call (ch := []) (Un.laid k hp fr) (I.hok.laid k hp ⟨by rw [List.length_map, sizeLine_eq]; omega, out.toList, c, hv, hg⟩) (by rw [g]; exact I.bare) fun _ z => nomatch z
  obtain ⟨hh, gg, dr, tk, os⟩ := s'
  obtain rfl : os = s.os := o
  exact ⟨.ref p, _, J, rfl, q L' p pm ((pm.map (·.2)).nodup_iff.mpr h4) lt pw fr⟩
end
end Rt
set_option Elab.async false
set_option linter.all false
set_option maxRecDepth 100000
set_option maxHeartbeats 4000000
/-! tuple(sorted(set(xs))) of lags, upon data -/
namespace Rt
open PySem PySem.Spec L2
open PyProof.Rows hiding St
def lagK : D → Option TKey
  | .tup [.str x, .str y, .int i] => some [.inr x, .inr y, .inl i]
  | _ => none
def lagKs : List D → Option (List TKey)
  | [] => some []
  | d :: l => (lagK d).bind fun k => (lagKs l).map (k :: ·)
def lagD (k : TKey) : D := .tup (k.map keyD)
theorem lagK_of {d : D} {k : TKey} (h : lagK d = some k) : d = lagD k ∧ isLg k = true := by
  unfold lagK at h
  split at h
  · cases h; exact ⟨rfl, rfl⟩
  · cases h
theorem lagKs_of : ∀ {l : List D} {ks : List TKey}, lagKs l = some ks → l = ks.map lagD ∧ ∀ k ∈ ks, isLg k = true
  | [], _, h => by cases h; exact ⟨rfl, fun k m => absurd m List.not_mem_nil⟩
  | d :: l, ks, h => by
    unfold lagKs at h
    cases e : lagK d with
    | none => rw [e] at h; cases h
    | some k =>
      rw [e] at h
      cases e2 : lagKs l with
      | none => rw [e2] at h; cases h
      | some r =>
        rw [e2] at h
        cases h
        obtain ⟨e3, e4⟩ := lagK_of e
        obtain ⟨e5, e6⟩ := lagKs_of e2
        refine ⟨by rw [e3, e5]; rfl, fun k m => ?_⟩
        rcases List.mem_cons.mp m with rfl | m
        · exact e4
        · exact e6 k m
theorem nK_inj {a b : Key} (h : nK a = nK b) : a = b := by
  cases a with
  | inl i =>
    cases b with
    | inl j => exact congrArg Sum.inl (Sum.inl.inj h)
    | inr y => cases h
  | inr x =>
    cases b with
    | inl j => cases h
    | inr y =>
      have e : x.cps.toList = y.cps.toList := Sum.inr.inj h
      cases x; cases y
      exact congrArg Sum.inr (congrArg Str.mk (Array.toList_inj.mp e))
theorem nKs_inj : ∀ {a b : TKey}, a.map nK = b.map nK → a = b
  | [], [], _ => rfl
  | [], _ :: _, h => by cases h
  | _ :: _, [], h => by cases h
  | x :: a, y :: b, h => by
    rw [List.map_cons, List.map_cons] at h
    rw [nK_inj (List.cons.inj h).1, nKs_inj (List.cons.inj h).2]
def leK (a b : TKey) : Bool := !ltN (b.map nK) (a.map nK)
theorem leK_anti (a b : TKey) (h : leK a b = true) (k : leK b a = true) : a = b := by
  unfold leK at h k
  rw [Bool.not_eq_true'] at h k
  exact nKs_inj (lex_total (O := itemOrd) _ _ k h)
theorem leK_trans (a b c : TKey) (h : leK a b = true) (k : leK b c = true) : leK a c = true := by
  unfold leK at *
  rw [Bool.not_eq_true'] at *
  cases e : ltN (c.map nK) (a.map nK) with
  | false => rfl
  | true =>
    rcases lex_negTrans (O := itemOrd) _ (b.map nK) _ e with z | z
    · have k : lexLt itemOrd (c.map nK) (b.map nK) = false := k
      rw [k] at z; cases z
    · have h : lexLt itemOrd (b.map nK) (a.map nK) = false := h
      rw [h] at z; cases z
theorem leK_total (a b : TKey) : (leK a b || leK b a) = true := by
  unfold leK
  cases e : ltN (b.map nK) (a.map nK) with
  | false => rfl
  | true =>
    cases e2 : ltN (a.map nK) (b.map nK) with
    | false => rfl
    | true =>
      have z := lex_trans (O := itemOrd) _ _ _ e e2
      have y := lex_irrefl (O := itemOrd) (b.map nK)
      rw [y] at z; cases z
instance decKey : DecidableEq Key := inferInstanceAs (DecidableEq (Sum Int Str))
def inK (k : TKey) (l : List TKey) : Bool := l.any fun z => decide (z = k)
theorem inK_iff {k : TKey} {l : List TKey} : inK k l = true ↔ k ∈ l := by
  unfold inK
  rw [List.any_eq_true]
  exact ⟨fun ⟨z, m, e⟩ => of_decide_eq_true e ▸ m, fun m => ⟨k, m, decide_eq_true rfl⟩⟩
def ddK : List TKey → List TKey
  | [] => []
  | k :: r => bif inK k (ddK r) then ddK r else k :: ddK r
theorem dd_cons (k : TKey) (r : List TKey) : ddK (k :: r) = bif inK k (ddK r) then ddK r else k :: ddK r := rfl
theorem mem_dd : ∀ {l : List TKey} {k : TKey}, k ∈ ddK l ↔ k ∈ l
  | [], _ => Iff.rfl
  | x :: l, k => by
    rw [dd_cons]
    cases e : inK x (ddK l) with
    | true =>
      rw [cond_true, mem_dd, List.mem_cons]
      refine ⟨.inr, fun z => z.elim (fun e2 => ?_) id⟩
      rw [e2]; exact mem_dd.mp (inK_iff.mp e)
    | false => rw [cond_false, List.mem_cons, List.mem_cons, mem_dd]
theorem dd_nodup : ∀ l : List TKey, (ddK l).Nodup
  | [] => .nil
  | x :: l => by
    rw [dd_cons]
    cases e : inK x (ddK l) with
    | true => exact dd_nodup l
    | false => exact List.nodup_cons.mpr ⟨fun m => absurd (inK_iff.mpr m) (by rw [e]; simp), dd_nodup l⟩
/-- the keys in order, each once -/
def sortLg (ks : List TKey) : List TKey := (ddK ks).mergeSort leK
theorem sortLg_eq {l ks : List TKey} (nd : l.Nodup) (mem : ∀ k, k ∈ l ↔ k ∈ ks) (pw : l.Pairwise fun a b => leK a b = true) : l = sortLg ks := by
  refine perm_sorted_eq (r := fun a b => leK a b = true) leK_anti ?_ pw (List.pairwise_mergeSort leK_trans leK_total _)
  refine List.Perm.trans ?_ (List.mergeSort_perm _ leK).symm
  exact (List.perm_ext_iff_of_nodup nd (dd_nodup ks)).mpr fun k => (mem k).trans mem_dd.symm
def itemsD : D → Option (List D)
  | .lst l => some l
  | .tup l => some l
  | .tup0 => some []
  | _ => none
def dTss (d : D) : Option D := (itemsD d).bind fun l => (lagKs l).bind fun ks => if ks.length < 64 then some (.tup ((sortLg ks).map lagD)) else none
def fTss (fa : En → Rs (Hd × En)) : En → Rs (Hd × En) := fun e => fa e >>= fun r => Rs.of (r.1.get r.2) >>= fun d => Rs.of (dTss d) >>= fun t => .ok (.dat t, r.2)
section
variable {K : PySem.W.Frag} {mg : Str → Option Value} {F : Fr} {G : Hp} {σ : L2.St} {env : En} {H : Hp}
theorem lag_at (R : Rep K mg F G σ env H) {v : V} {k : TKey} (hk : isLg k = true) (dv : DV K mg G v (lagD k)) : ∃ a, v = .ref a ∧ H a = some (.tup (k.map kV)) := by
  obtain ⟨x, y, i, rfl⟩ := isLg_of hk
  obtain ⟨a, xs, rfl, h, l⟩ := cur_tup R (.inl dv : Cur K mg G H v (.tup [.str x, .str y, .int i]))
  cases l with
  | cons h1 l =>
    cases l with
    | cons h2 l =>
      cases l with
      | cons h3 l =>
        cases l; cases h1; cases h2; cases h3
        exact ⟨a, rfl, h⟩
theorem lags_at (R : Rep K mg F G σ env H) : ∀ {xs : List V} {ks : List TKey}, (∀ k ∈ ks, isLg k = true) → DVs K mg G xs (ks.map lagD) → ∃ L : TL, xs = L.map (fun q => V.ref q.1) ∧ L.map (·.2) = ks ∧ ∀ q ∈ L, H q.1 = some (.tup (q.2.map kV)) ∧ isLg q.2 = true ∧ DV K mg G (.ref q.1) (lagD q.2)
  | _, [], _, l => by cases l; exact ⟨[], rfl, rfl, fun q m => absurd m List.not_mem_nil⟩
  | _, k :: ks, hk, l => by
    cases l with
    | cons h l =>
      obtain ⟨a, rfl, ha⟩ := lag_at R (hk k List.mem_cons_self) h
      obtain ⟨L, rfl, rfl, hL⟩ := lags_at R (fun z m => hk z (List.mem_cons_of_mem _ m)) l
      refine ⟨(a, k) :: L, rfl, rfl, fun q m => ?_⟩
      rcases List.mem_cons.mp m with rfl | m
      · exact ⟨ha, hk k List.mem_cons_self, h⟩
      · exact hL q m
theorem lags_dvs : ∀ {L : TL}, (∀ q ∈ L, DV K mg G (.ref q.1) (lagD q.2)) → DVs K mg G (L.map fun q => V.ref q.1) ((L.map (·.2)).map lagD)
  | [], _ => .nil
  | q :: L, h => .cons (h q List.mem_cons_self) (lags_dvs fun z m => h z (List.mem_cons_of_mem _ m))
end
section
variable {X : Cx} {W : Wsh} {k : Nat} {a : Expr} {fa : En → Rs (Hd × En)} {p1 p2 p3 q1 q2 q3 : Pos}
theorem pb_tss (Y : Hy X W k) (g1 : Gl X "tuple") (m1 : X.mg "tuple" = none) (v1 : bootBuiltins "tuple" = some (.type "tuple")) (g2 : Gl X "sorted") (m2 : X.mg "sorted" = none) (v2 : bootBuiltins "sorted" = some (.builtin "sorted")) (g3 : Gl X "set") (m3 : X.mg "set" = none) (v3 : bootBuiltins "set" = some (.type "set")) (ha : PB X W a fa)
    (s3 : starEach [a] X.env = (false, eval a X.env) :: starEach [] X.env := by rfl) (s2 : starEach [.Call (.Name "set" p3) [a] [] q3] X.env = (false, eval (.Call (.Name "set" p3) [a] [] q3) X.env) :: starEach [] X.env := by rfl)
    (s1 : starEach [.Call (.Name "sorted" p2) [.Call (.Name "set" p3) [a] [] q3] [] q2] X.env = (false, eval (.Call (.Name "sorted" p2) [.Call (.Name "set" p3) [a] [] q3] [] q2) X.env) :: starEach [] X.env := by rfl)
    (h3 : (backTo q3 (starEach [] X.env)).any (·.1) = false := by rfl) (h2 : (backTo q2 (starEach [] X.env)).any (·.1) = false := by rfl) (h1 : (backTo q1 (starEach [] X.env)).any (·.1) = false := by rfl) :
    PB X W (.Call (.Name "tuple" p1) [.Call (.Name "sorted" p2) [.Call (.Name "set" p3) [a] [] q3] [] q2] [] q1) (fTss fa) := fun F => by
  refine pe_weak (pe_callTy call_tuple_of g1 m1 v1 (pa_cons (pe_callB (cr_sortX Y.calm) g2 m2 v2 (pa_cons (pe_callTy (cr_setX Y.calm Y.un) g3 m3 v3 (pa_cons (ha F) pa_nil s3) (by decide) (by decide) s3 h3) pa_nil s2) (by decide) (by decide) s2 h2) pa_nil s1) (by decide) (by decide) s1 h1) fun σ H Q q => ?_
  obtain ⟨G, env, R, q⟩ := q
  refine ⟨G, env, R, Rs.wp_mono (Rs.wp_bind.mp q) (fun r q v G1 H1 gl R1 o1 => ?_) fun _ _ _ z => z⟩
  obtain ⟨d, ed, q⟩ := wp_of (Rs.wp_bind.mp q)
  obtain ⟨t, et, q⟩ := wp_of (Rs.wp_bind.mp q)
  have main : ∀ (b : Addr) (xs : List V) (l : List D) (ks : List TKey), v = .ref b → (SqL X.K H1 b xs ∨ SqT X.K H1 b xs) → DVs X.K X.mg G1 xs l → lagKs l = some ks → ks.length < 64 → t = .tup ((sortLg ks).map lagD) →
      ∃ (l : Addr) (kk : TL), [v] = [.ref l] ∧ (SqL X.K H1 l (kk.map fun q => V.ref q.1) ∨ SqT X.K H1 l (kk.map fun q => V.ref q.1)) ∧ (∀ q ∈ kk, SqT X.K H1 q.1 (q.2.map kV)) ∧ kk.length < 64 ∧
        ∀ a L, H1 a = none → (∀ q ∈ L, q ∈ kk) → (∀ q ∈ kk, q.2 ∈ L.map (·.2)) → tCB (fun xs H Q => ∃ p ys, xs = [.ref p] ∧ ((SqL X.K H p ys ∧ ∀ l, H l = none → Q (.ref l) (upd H l (.tup ys))) ∨ (SqT X.K H p ys ∧ Q (.ref p) H))) (tCons (tCB (rSortX X.K X.prog X.w) (fun _ H' Q' => Q' [.ref a] H')) tNil) σ (upd H1 a (SetO X.prog X.w a L)) Q := by
    rintro b xs l ks rfl sq dvs hl lt rfl
    obtain ⟨rfl, lg⟩ := lagKs_of hl
    obtain ⟨kk, rfl, rfl, hk⟩ := lags_at R1 lg dvs
    refine ⟨b, kk, rfl, sq, fun z m => .inl (.inl (hk z m).1), by rw [List.length_map] at lt; exact lt, fun a L fa m1 m2 => ?_⟩
    have keep : ∀ {z : Addr} {o : HO}, H1 z = some o → (upd H1 a (SetO X.prog X.w a L)) z = some o := fun e => by rw [upd_ne (ne_of_none e fa)]; exact e
    refine ⟨a, L, rfl, upd_same, fun z m => ⟨.inl (.inl (keep (hk z (m1 z m)).1)), (hk z (m1 z m)).2.1⟩, fun L' p pm nd lt' pw fp => ?_⟩
    refine ⟨p, _, rfl, .inl ⟨.inl (.inl upd_same), fun y fy => ?_⟩⟩
    have sub : ∀ z ∈ L', z ∈ kk := fun z m => m1 z (pm.mem_iff.mp m)
    have eq : L'.map (·.2) = sortLg (kk.map (·.2)) := by
      refine sortLg_eq nd (fun k => ⟨fun m => ?_, fun m => ?_⟩) (List.pairwise_map.mpr (pw.imp fun {x y} h => ?_))
      · obtain ⟨z, mz, rfl⟩ := List.mem_map.mp m
        exact List.mem_map.mpr ⟨z, sub z mz, rfl⟩
      · obtain ⟨z, mz, rfl⟩ := List.mem_map.mp m
        exact (pm.map (·.2)).mem_iff.mpr (m2 z mz)
      · unfold leK; rw [h]; rfl
    have R2 := R1.alloc (o := SetO X.prog X.w a L) fa
    have R3 := R2.alloc (o := .lst (L'.map fun q => V.ref q.1)) fp
    obtain ⟨g4, R4⟩ := R3.new (o := .tup (L'.map fun q => V.ref q.1)) fy
    rw [← eq] at q
    exact q (.ref y) _ _ (gl.trans g4) R4 (.tup upd_same ((lags_dvs fun z m => (hk z (sub z m)).2.2).mono g4))
  have fin : ∀ (b : Addr) (xs : List V) (l : List D), v = .ref b → (SqL X.K H1 b xs ∨ SqT X.K H1 b xs) → DVs X.K X.mg G1 xs l → itemsD d = some l → _ := fun b xs l ev sq dvs ei => by
    unfold dTss at et
    rw [ei] at et
    cases ek : lagKs l with
    | none => rw [Option.bind_some, ek] at et; cases et
    | some ks =>
      rw [Option.bind_some, ek, Option.bind_some] at et
      by_cases lt : ks.length < 64
      · rw [if_pos lt] at et
        cases et
        exact main b xs l ks ev sq dvs ek lt rfl
      · rw [if_neg lt] at et; cases et
  cases d with
  | lst l =>
    obtain ⟨b, xs, ev, hb, dvs⟩ := cur_lst R1 (o1.cur R1 ed)
    exact fin b xs l ev (.inl (.inl (.inl hb))) dvs rfl
  | tup l =>
    obtain ⟨b, xs, ev, hb, dvs⟩ := cur_tup R1 (o1.cur R1 ed)
    exact fin b xs l ev (.inr (.inl (.inl hb))) dvs rfl
  | tup0 =>
    obtain ⟨b, ev, sq⟩ := cur_tup0 (o1.cur R1 ed)
    exact fin b [] [] ev (.inr sq) .nil rfl
  | _ => cases et
end
end Rt
set_option Elab.async false
set_option linter.all false
set_option maxRecDepth 100000
set_option maxHeartbeats 4000000
/-! {k: v for .. in .. if ..} upon data -/
namespace Rt
open PySem PySem.Spec L2
open PyProof.Rows hiding St
theorem keyOf_cur {K : PySem.W.Frag} {mg : Str → Option Value} {G H : Hp} {v : V} {d : D} {k : Key} (h : keyOf d = some k) (c : Cur K mg G H v d) : v = kV k := by
  cases d with
  | int i => cases h; exact cur_int c
  | str s => cases h; exact cur_str c
  | _ => cases h
/-- the walk of a comprehension whose target is a dict -/
theorem dict_it {J : It} {n : Nat} {Gd : Hp → Prop} {Y : Nat → Hp → V → Hp → Prop} (w : Walk J n Gd Y) {g : TG} {tt : TT} {tk tv : TE} {vs : List Nat} {σ : L2.St} {H1 : Hp} {p : Addr} {Qd : Hp → Prop} (Pv : Nat → Hp → Prop) (h0 : Pv 0 (upd H1 p (.dK []))) (hG : ∀ i H, i ≤ n → Pv i H → Gd H)
    (hs : ∀ i x H H', i < n → Pv i H → Y i H x H' → g x (wipe σ vs) H' fun σ2 H2 => wipe σ2 vs = wipe σ vs ∧ tt σ2 H2 fun b H3 =>
      if b = true then tk σ2 H3 fun y H4 => tv σ2 H4 fun z H5 => ∃ kvs k, y = kV k ∧ H5 p = some (.dK kvs) ∧ kvs.length < sizeLine ∧ Pv (i + 1) (upd H5 p (.dK (putK kvs k z))) else Pv (i + 1) H3) (hd : ∀ H, Pv n H → Qd H) :
    ∃ W : Nat → Nat → Hp → Prop, (∃ m, W 0 m (upd H1 p (.dK []))) ∧ ∀ i m H, W i m H →
      (J.stop i H ∧ Qd H) ∨ (J.go i H ∧ ∃ Nx : Hp → Prop, (∀ H', Nx H' → ∃ m', m' < m ∧ W (i + 1) m' H') ∧ ∀ x H', J.yld i H x H' → g x (wipe σ vs) H' fun σ2 H2 => wipe σ2 vs = wipe σ vs ∧ tt σ2 H2 fun b H3 =>
        if b = true then tk σ2 H3 fun y H4 => tv σ2 H4 fun z H5 => ∃ kvs k, y = kV k ∧ H5 p = some (.dK kvs) ∧ kvs.length < sizeLine ∧ Nx (upd H5 p (.dK (putK kvs k z))) else Nx H3) := by
  refine ⟨fun i m H => m + i = n ∧ Pv i H, ⟨n, rfl, h0⟩, fun i m H z => ?_⟩
  obtain ⟨e, pv⟩ := z
  have gd := hG i H (by omega) pv
  cases m with
  | zero =>
    have e : i = n := by omega
    subst e
    exact .inl ⟨w.stops H gd, hd H pv⟩
  | succ m =>
    have lt : i < n := by omega
    exact .inr ⟨w.goes i H lt gd, Pv (i + 1), fun H' pv' => ⟨m, Nat.lt_succ_self m, by omega, pv'⟩, fun x H' y => hs i x H H' lt pv (w.yields i H x H' lt gd y)⟩
def cdLoop (g : D → En → Option En) (ft : En → Rs (Bool × En)) (fk fv : En → Rs (Hd × En)) (vs : List Nat) : List D → En → List (Key × D) → Rs (List (Key × D) × En)
  | [], e, acc => .ok (acc, e)
  | d :: ds, e, acc => Rs.of (g d e) >>= fun e1 => ft e1 >>= fun t => if t.1 = true then
      fk t.2 >>= fun r => Rs.of (r.1.get r.2) >>= fun y => Rs.of (keyOf y) >>= fun k => fv r.2 >>= fun s => s.1.esc s.2 >>= fun q => if acc.length < sizeLine then cdLoop g ft fk fv vs ds (wipeE q.2 vs) (putD acc k q.1) else .bad
    else cdLoop g ft fk fv vs ds (wipeE t.2 vs) acc
def fDComp (fi : En → Rs IR) (g : D → En → Option En) (ft : En → Rs (Bool × En)) (fk fv : En → Rs (Hd × En)) (vs : List Nat) : En → Rs (D × En) := fun e => fi e >>= fun r =>
  if plainS r.2.2 vs = true then (cdLoop g ft fk fv vs r.1 (wipeE r.2.2 vs) []).mute >>= fun q => .ok (.dct q.1, back r.2.2 q.2 vs) else .bad
section
variable {X : Cx} {W : Wsh} {k : Nat} {g : D → En → Option En} {ft : En → Rs (Bool × En)} {fk fv : En → Rs (Hd × En)} {fi : En → Rs IR} {vs is : List Nat}
theorem maps_len2 {α β γ : Type} {l : List (α × β)} {m : List (α × γ)} (e : l.map (·.1) = m.map (·.1)) : l.length = m.length := by
  have := congrArg List.length e
  rwa [List.length_map, List.length_map] at this
theorem tDc_of (his : ∀ i ∈ is, i ∈ vs) {F : Fr} {σ : L2.St} {H : Hp} {Q : VK} (q : tO X.K X.mg W F (fDComp fi g ft fk fv vs) σ H Q) :
    tDc (tI X W F fi) (fun v σ H Q => ∃ F, tG X.K X.mg F is g v σ H Q) (fun σ H Q => ∃ F, tT X.K X.mg W0 F ft σ H Q) (fun σ H Q => ∃ F, tB X.K X.mg W0 F fk σ H Q) (fun σ H Q => ∃ F, tB X.K X.mg W0 F fv σ H Q) vs σ H (fun v H' => ∃ Hu, Unl X H' Hu ∧ Q v Hu) := by
  obtain ⟨G, env, R, q⟩ := q
  refine ⟨G, env, R, Rs.wp_mono (Rs.wp_bind.mp q) (fun r q J n Gd Y' F' G1 H1 l g1 R1 w ok => ?_) fun _ _ _ z => z⟩
  by_cases hp : ¬ plainS r.2.2 vs = true
  · have q : ((if plainS r.2.2 vs = true then (cdLoop g ft fk fv vs r.1 (wipeE r.2.2 vs) []).mute >>= fun q => .ok (.dct q.1, back r.2.2 q.2 vs) else .bad) : Rs (D × En)).wp _ _ := q
    rw [if_neg hp] at q
    exact q.elim
  have q : ((if plainS r.2.2 vs = true then (cdLoop g ft fk fv vs r.1 (wipeE r.2.2 vs) []).mute >>= fun q => .ok (.dct q.1, back r.2.2 q.2 vs) else .bad) : Rs (D × En)).wp _ _ := q
  have hp : plainS r.2.2 vs = true := Classical.not_not.mp hp
  rw [if_pos hp] at q
  have q := wp_mute0 (Rs.wp_bind.mp q)
  intro p hpn
  let Pd := fun q : List (Key × D) × En => ∀ a G' H', GLe G G' → Rep X.K X.mg F G' σ (back r.2.2 q.2 vs) H' → F.H0 a = none → G' a = none → Root X.K X.mg G' H' a (.dct q.1) → Fresh F σ (back r.2.2 q.2 vs) a → Q (.ref a) H'
  have q2 : (cdLoop g ft fk fv vs r.1 (wipeE r.2.2 vs) []).wp Pd (fun _ _ _ => False) := Rs.wp_mono q (fun _ z => z) fun _ _ _ z => z
  let Pv := fun (i : Nat) (H : Hp) => ∃ G' env acc, GLe G1 G' ∧ Rep X.K X.mg (F'.temp p (.dct acc)) G' (wipe σ vs) env H ∧ (cdLoop g ft fk fv vs (r.1.drop i) env acc).wp Pd (fun _ _ _ => False)
  refine dict_it w (g := fun v σ H Q => ∃ F, tG X.K X.mg F is g v σ H Q) (tt := fun σ H Q => ∃ F, tT X.K X.mg W0 F ft σ H Q) (tk := fun σ H Q => ∃ F, tB X.K X.mg W0 F fk σ H Q) (tv := fun σ H Q => ∃ F, tB X.K X.mg W0 F fv σ H Q) (vs := vs) Pv ?_ ?_ ?_ ?_
  · exact ⟨G1, _, [], .refl, (R1.wiped rfl).temp hpn (.dct (ks := []) (dk := []) upd_same rfl .nil), q2⟩
  · rintro i H2 _ ⟨G2, e2, acc, g2, R2, _⟩
    exact ok.stays F'.ts G2 _ e2 H2 g2 R2.tempEnd.1
  · rintro i x H2 H3 hi ⟨G2, e2, acc, g2, R2, q⟩ y
    obtain ⟨G3, d, ed, g3, R3, dv⟩ : ∃ G3 d, r.1[i]? = some d ∧ GLe G2 G3 ∧ Rep X.K X.mg (F'.temp p (.dct acc)) G3 (wipe σ vs) e2 H3 ∧ DV X.K X.mg G3 x d := ok.item ((p, .dct acc) :: F'.ts) i x H2 H3 G2 _ e2 hi g2 R2 y
    obtain ⟨hi', ed⟩ := List.getElem?_eq_some_iff.mp ed
    rw [List.drop_eq_getElem_cons hi', ed] at q
    unfold cdLoop at q
    obtain ⟨e3, ee, q⟩ := wp_of (Rs.wp_bind.mp q)
    refine ⟨_, G3, e2, d, R3, dv, e3, ee, fun σ2 o2 R4 => ⟨wipe_out_eq o2 his, _, G3, e3, R4, Rs.wp_mono (Rs.wp_bind.mp q) (fun t q G5 H5 g5 R5 => ?_) fun _ _ _ z => z.elim⟩⟩
    have wq := wipe_out_eq o2 his
    cases ht : t.1 with
    | false =>
      rw [if_neg (by rw [ht]; exact Bool.false_ne_true)] at q
      refine iteF ?_
      exact ⟨G5, _, acc, (g2.trans g3).trans g5, R5.wiped wq, q⟩
    | true =>
      rw [if_pos ht] at q
      refine iteT ?_
      refine ⟨_, G5, t.2, R5, Rs.wp_mono (Rs.wp_bind.mp q) (fun r2 q v G6 H6 g6 R6 o6 => ?_) fun _ _ _ z => z.elim⟩
      obtain ⟨y, ey, q⟩ := wp_of (Rs.wp_bind.mp q)
      obtain ⟨kk, ek, q⟩ := wp_of (Rs.wp_bind.mp q)
      have vk : v = kV kk := keyOf_cur ek (o6.cur R6 ey)
      refine ⟨_, G6, r2.2, R6, Rs.wp_mono (Rs.wp_bind.mp q) (fun r3 q u G7 H7 g7 R7 o7 => ?_) fun _ _ _ z => z.elim⟩
      obtain ⟨r4, G8, q, g8, R8, dv8⟩ := wp_esc R7 o7 (Rs.wp_bind.mp q)
      by_cases hz : acc.length < sizeLine
      · have q : ((if acc.length < sizeLine then cdLoop g ft fk fv vs (r.1.drop (i + 1)) (wipeE r4.2 vs) (putD acc kk r4.1) else .bad) : Rs (List (Key × D) × En)).wp _ _ := q
        rw [if_pos hz] at q
        obtain ⟨_, _, rt⟩ := R8.tsk (p, .dct acc) (List.mem_cons_self ..)
        cases rt with
        | dct ha e1 dl =>
          obtain ⟨m1, m2⟩ := put_ok (k := kk) e1 dl dv8
          refine ⟨_, kk, vk, ha, by rw [maps_len2 e1]; exact hz, G8, _, putD acc kk r4.1, ((g2.trans g3).trans g5).trans (g6.trans (g7.trans g8)), ?_, q⟩
          exact (R8.wiped wq).tempSet (.dct upd_same m1 m2)
      · have q : ((if acc.length < sizeLine then cdLoop g ft fk fv vs (r.1.drop (i + 1)) (wipeE r4.2 vs) (putD acc kk r4.1) else .bad) : Rs (List (Key × D) × En)).wp _ _ := q
        rw [if_neg hz] at q
        exact q.elim
  · rintro H2 ⟨G2, e2, acc, g2, R2, q⟩
    rw [List.drop_eq_nil_of_le (Nat.le_of_eq ok.len.symm)] at q
    have q : Pd (acc, e2) := q
    obtain ⟨R3, h0, hg, rt, fr⟩ := R2.tempEnd
    have R4 := R3.backed R1 g2 hp
    have fr4 : Fresh F' σ (back r.2.2 e2 vs) p := ⟨fun i ra => by
      obtain ⟨s, z1, z2, z3⟩ := ra
      rcases back_get _ _ i vs z1 with ⟨y1, y2⟩ | ⟨y1, y2⟩
      · have hp' := List.all_eq_true.mp hp i y1
        cases y3 : r.2.2[i]? with
        | none => rw [y3] at y2; cases y2; cases z2
        | some u =>
          rw [y3] at y2 hp'
          have y2 : s = u := y2
          subst y2
          cases s with
          | no => cases z2
          | val d => cases z2
          | own d => cases hp'
          | io n d => cases hp'
      · exact fr.1 i ⟨s, y2, z2, by rw [wipe_get, if_neg y1]; exact z3⟩, fr.2⟩
    rcases l with rfl | ⟨_, d, od, rfl, nl, nz⟩
    · exact ⟨H2, .inl rfl, q p G2 H2 (g1.trans g2) R4 h0 hg rt fr4⟩
    · obtain ⟨u, hu, R5⟩ := R4.unlock nl
      obtain ⟨o, hgd, _, _⟩ := R4.lkg d od lock_self
      exact ⟨_, .inr ⟨d, od, u, hu, nz, rfl⟩, q p G2 _ (g1.trans g2) R5 h0 hg (rt.mono .refl (upd_ne fun z => by rw [z, hgd] at hg; cases hg)) fr4⟩
end
section
variable {X : Cx} {W : Wsh} {k : Nat} {g : D → En → Option En} {ft : En → Rs (Bool × En)} {fk fv : En → Rs (Hd × En)} {fi : En → Rs IR} {is : List Nat} {tg it kx vx : Expr} {ifs : List Expr} {scope : Scope} {own : List (Str × Nat)} {pos : Pos}
theorem po_dcomp (Y : Hy X W k) (hi : PIv X W tg it fi) (ok : BlkOk X.N X.env.scope scope own)
    (hg : ∀ (s : Shared) (H : Hp) (C : Addr) (cl : List (Str × Addr)) (fp : List Addr), Hy (X.blk s H scope (compEnvC scope cl C X.env) fp) W0 k → PGt (X.blk s H scope (compEnvC scope cl C X.env) fp) tg is g)
    (ht : ∀ (s : Shared) (H : Hp) (C : Addr) (cl : List (Str × Addr)) (fp : List Addr), Hy (X.blk s H scope (compEnvC scope cl C X.env) fp) W0 k → PTq (X.blk s H scope (compEnvC scope cl C X.env) fp) W0 ifs ft)
    (hk : ∀ (s : Shared) (H : Hp) (C : Addr) (cl : List (Str × Addr)) (fp : List Addr), Hy (X.blk s H scope (compEnvC scope cl C X.env) fp) W0 k → PB (X.blk s H scope (compEnvC scope cl C X.env) fp) W0 kx fk)
    (hv : ∀ (s : Shared) (H : Hp) (C : Addr) (cl : List (Str × Addr)) (fp : List Addr), Hy (X.blk s H scope (compEnvC scope cl C X.env) fp) W0 k → PB (X.blk s H scope (compEnvC scope cl C X.env) fp) W0 vx fv)
    (his : ∀ i ∈ is, i ∈ own.map (·.2)) (hs : ∀ x, foldedSetIterable it X.env x = pure x := by intro _; rfl) :
    PO X W (.DictComp kx vx [⟨tg, it, ifs, 0⟩] scope pos) (fDComp fi g ft fk fv (own.map (·.2))) :=
  fun F => pe_weak (pe_unl (pe_dc Y.calm Y.nd (hi F) ok (fun s H C cl fp => pg_ex (hg s H C cl fp (Y.blk s H scope _ fp))) (fun s H C cl fp => pts_ex (ht s H C cl fp (Y.blk s H scope _ fp))) (fun s H C cl fp => pe_ex (hk s H C cl fp (Y.blk s H scope _ fp))) (fun s H C cl fp => pe_ex (hv s H C cl fp (Y.blk s H scope _ fp))) hs)) fun σ H Q q => tDc_of his q
end
end Rt
set_option Elab.async false
set_option linter.all false
set_option maxRecDepth 100000
set_option maxHeartbeats 4000000
/-! dict(list of pairs) upon data -/
namespace Rt
open PySem PySem.Spec L2
open PyProof.Rows hiding St
def pairD : D → Option (Key × D)
  | .tup [k, v] => (keyOf k).map fun k => (k, v)
  | _ => none
def pairsD : List D → Option (List (Key × D))
  | [] => some []
  | d :: l => (pairD d).bind fun p => (pairsD l).map (p :: ·)
def dDictP : List D → Option D
  | [.lst l] => (pairsD l).map fun ps => .dct (mergeD [] ps)
  | _ => none
section
variable {K : PySem.W.Frag} {mg : Str → Option Value} {F : Fr} {G : Hp} {σ : L2.St} {env : En} {H : Hp}
theorem pair_at (R : Rep K mg F G σ env H) {x : V} {d : D} {q : Key × D} (e : pairD d = some q) (dv : DV K mg G x d) : ∃ p v, x = .ref p ∧ SqT K H p [kV q.1, v] ∧ DV K mg G v q.2 := by
  unfold pairD at e
  split at e
  · rename_i k v
    cases ek : keyOf k with
    | none => rw [ek] at e; cases e
    | some kk =>
      rw [ek] at e
      cases e
      obtain ⟨p, xs, rfl, h, l⟩ := cur_tup R (.inl dv : Cur K mg G H x (.tup [k, v]))
      cases l with
      | cons h1 l =>
        cases l with
        | cons h2 l =>
          cases l
          have := keyOf_cur (H := H) ek (.inl h1)
          subst this
          exact ⟨p, _, rfl, .inl (.inl h), h2⟩
  · cases e
theorem pairs_at (R : Rep K mg F G σ env H) : ∀ {xs : List V} {l : List D} {qs : List (Key × D)}, pairsD l = some qs → DVs K mg G xs l →
    ∃ (ps : List Addr) (kvs : List (Key × V)), xs = ps.map V.ref ∧ Paired (fun p kv => SqT K H p [kV kv.1, kv.2]) ps kvs ∧ kvs.map (·.1) = qs.map (·.1) ∧ DVs K mg G (kvs.map (·.2)) (qs.map (·.2))
  | _, [], _, e, l => by cases e; cases l; exact ⟨[], [], rfl, .nil, rfl, .nil⟩
  | _, d :: r, qs, e, l => by
    unfold pairsD at e
    cases e1 : pairD d with
    | none => rw [e1] at e; cases e
    | some q =>
      rw [e1] at e
      cases e2 : pairsD r with
      | none => rw [e2] at e; cases e
      | some qr =>
        rw [e2] at e
        cases e
        cases l with
        | cons h l =>
          obtain ⟨p, v, rfl, h1, h2⟩ := pair_at R e1 h
          obtain ⟨ps, kvs, rfl, h3, h4, h5⟩ := pairs_at R e2 l
          refine ⟨p :: ps, (q.1, v) :: kvs, rfl, .cons h1 h3, ?_, .cons h2 h5⟩
          rw [List.map_cons, List.map_cons, h4]
end
section
variable {X : Cx}
theorem co_dictP : CallO X (fun xs H Q => ∃ (a : Addr) (ps : List Addr) (kvs : List (Key × V)), xs = [.ref a] ∧ SqL X.K H a (ps.map V.ref) ∧ Paired (fun p kv => SqT X.K H p [kV kv.1, kv.2]) ps kvs ∧ ∀ p, H p = none → Q (.ref p) (upd H p (.dK (L2.mergeK [] kvs)))) dDictP := by
  intro F G σ env H vs ds d Q R c e k
  unfold dDictP at e
  split at e
  · rename_i l
    cases eq : pairsD l with
    | none => rw [eq] at e; cases e
    | some qs =>
      rw [eq] at e
      cases e
      obtain ⟨v, rfl, cu⟩ := curs1 c
      obtain ⟨a, xs, rfl, h, dl⟩ := cur_lst R cu
      obtain ⟨ps, kvs, rfl, h3, h4, h5⟩ := pairs_at R eq dl
      refine ⟨a, ps, kvs, rfl, .inl (.inl h), h3, fun p hp => ?_⟩
      obtain ⟨m1, m2⟩ := merge_ok (ps := []) (dk := []) rfl .nil h4 h5
      exact own_new R hp (.dct upd_same m1 m2) k
  · cases e
end
end Rt
set_option Elab.async false
set_option linter.all false
set_option maxRecDepth 100000
set_option maxHeartbeats 4000000
/-! l.pop(j) of an own list; sorted(set(xs)) as a value; a class made with a default -/
namespace Rt
open PySem PySem.Spec L2
open PyProof.Rows hiding St
theorem dvs_erase {K : PySem.W.Frag} {mg : Str → Option Value} {G : Hp} : ∀ (m : Nat) {vs : List V} {ds : List D}, DVs K mg G vs ds → DVs K mg G (vs.eraseIdx m) (ds.eraseIdx m)
  | _, _, _, .nil => .nil
  | 0, _, _, .cons _ l => l
  | m + 1, _, _, .cons h l => .cons h (dvs_erase m l)
section
variable {X : Cx} {W : Wsh} {k : Nat} {a : Expr} {fa : En → Rs (Hd × En)} {pos : Pos}
/-- x.pop(j), x the def's own list or one that is lent to it -/
def fPop (i : Nat) (fj : En → Rs (Hd × En)) : En → Rs (Hd × En) := fun e => match rootD e i with
  | some (.lst _) => fj e >>= fun r => match r.1.get r.2, rootD r.2 i with
    | some (.int n), some (.lst l) => if -(2 ^ 63) ≤ n ∧ n < 2 ^ 63 then
        (match seqIndex? n l.length with
        | some m => match l[m]? with
          | some d => .ok (.dat d, setRoot r.2 i (.lst (l.eraseIdx m)))
          | none => .bad
        | none => .bad) else .bad
    | _, _ => .bad
  | _ => .bad
theorem pb_pop {call : Expr} {i : Nat} (h : ∀ {t : TA}, PA X [a] t → PE X call (tBM X.K "list" rPopAt (tVar i) t)) (ha : PB X W a fa) (hs : starEach [a] X.env = (false, eval a X.env) :: starEach [] X.env := by rfl) : PB X W call (fPop i fa) :=
  fun F => pe_weak (h (pa_cons (ha F) pa_nil hs)) fun σ H Q q => by
  obtain ⟨G, env, R, q⟩ := q
  unfold fPop at q
  split at q
  · rename_i l0 h0
    obtain ⟨p0, s0, _, z0, rt0, _⟩ := root_slot R h0
    refine ⟨_, z0, .inl ⟨rfl, ?_⟩, G, env, R, Rs.wp_mono (Rs.wp_bind.mp q) (fun r q v G1 H1 g1 R1 o1 => ?_) fun _ _ _ z => z⟩
    · cases rt0 with | lst y _ => exact ⟨_, .of y⟩
    split at q
    · rename_i n l en hl
      split at q
      · rename_i hn
        split at q
        · rename_i m em
          split at q
          · rename_i d ed
            have vn := cur_int (o1.cur R1 en)
            subst vn
            obtain ⟨p, s, es, z, rt, hs⟩ := root_slot R1 hl
            rw [z0] at z; cases z
            cases rt with
            | @lst xs _ y dl =>
              obtain ⟨w, ew, dw⟩ := dl.get ed
              exact ⟨p0, xs, n, m, w, rfl, rfl, y, hn.1, hn.2, by rw [dl.length]; exact em, ew, q w G1 _ g1 (write_slot R1 es z0 hs (.lst upd_same (dvs_erase m dl))) dw⟩
          · exact q.elim
        · exact q.elim
      · exact q.elim
    · exact q.elim
  · exact q.elim
end
end Rt
set_option Elab.async false
set_option linter.all false
set_option maxRecDepth 100000
set_option maxHeartbeats 4000000
/-! defs with defaults: entering, making -/
namespace Rt
open PySem PySem.Spec L2
open PyProof.Rows hiding St
section
variable {P : Program} {w : World} {K : PySem.W.Frag} {mg : Str → Option Value} {base : Heap}
theorem fnG_dfl {x qual : Str} {st : Stmt} {f : Addr} {fd : FuncData} {N ps : List Str} {k : Nat} {sp : Sp} {dvs : List V} {kws : List (Str × V)} (F : FunD K x qual (defArgs st) (defBody st) (defScope st) dvs kws f fd) (S : FnScope N ps (defScope st)) (ar : ∀ vs H Q E, sp vs H Q E → vs.length = ps.length)
    (hb : ∀ (cd : Value) (A : Around) (out : List Env) (s : Shared) (H : Hp) (vs : List V) (Q : VK) (E : XK), A.guards = some [] →
      Room k (A.deeper (envOfC qual (defScope st) s.heap.objs.size f cd)) → sp vs H Q E →
      ∃ t, PSs (bodyCx P w K mg base N qual (defScope st) f cd A out s H E) (defBody st) t ∧ t { nx := fun _ H' => Q .non H', rt := Q } (start N vs) H) :
    FnG P w K mg base (k + 1) f fd ps sp := by
  obtain ⟨oc, od, dV, kV, doc, pm, an, cd, ct, osl, rfl, lk, hcd, _, _⟩ := F.ex
  refine ⟨ar, ?_⟩
  intro A out s H args us vs Q E hg hr e0 bt r hsp
  have hl := ar _ _ _ _ hsp
  have inH : ∀ b o, base.get? b = some o → s.heap.get? b = some o := fun b o e => (e0.bs b o e).1
  have KX : K.In s.heap := e0.mod.kin.keeps inH
  refine codeAny_call_function hr.depth (KX _ _ lk) rfl S.co S.gen rfl (PySem.W.codeRec_of KX hcd) (bt _ _ _ _ ?_)
  refine wpAny_newFunctionEnv_cells S.kind (fun y hy => ?_) fun env he s1 x => ?_
  · obtain ⟨n, v⟩ := y
    exact (S.par n (List.of_mem_zip hy).1).imp id fun q => ⟨q, PySem.W.cellsFrom_some _ _ _ (Or.inl q)⟩
  · cases he
    refine ⟨(e0.mod.nolimit.keeps inH).keeps x.toInCall.keep, codeAny_func ?_⟩
    obtain ⟨t, ht, hq⟩ := hb cd A out s H vs Q E hg (hr.deeper _) hsp
    refine wpAny_mono (ht.run [] s1 (start N vs) H _ (inv_start S hr.hd e0 hl r x) hq) ?_ (fun _ _ z => z)
    intro fl s' hs
    cases fl with
    | brk => exact hs.elim fun _ z => z.elim fun _ z => z.2.elim
    | cont => exact hs.elim fun _ z => z.elim fun _ z => z.2.elim
    | ret u =>
      obtain ⟨v, σ', H', J, rv, q⟩ := hs
      exact ⟨v, H', J.os, J.bare, J.base, J.hok, rv, q⟩
    | next =>
      obtain ⟨σ', H', J, q⟩ := hs
      exact ⟨V.non, H', J.os, J.bare, J.base, J.hok, rfl, q⟩
theorem fnDD {x qual : Str} {st : Stmt} {f : Addr} {fd : FuncData} {N ps : List Str} {k : Nat} {fb : En → Rs (Fl × En)} {dvs : List V} {kws : List (Str × V)} (Fn : FunD K x qual (defArgs st) (defBody st) (defScope st) dvs kws f fd) (S : FnScope N ps (defScope st))
    (hb : ∀ (cd : Value) (A : Around) (out : List Env) (s : Shared) (H : Hp) (E : XK), Hy (bodyCx P w K mg base N qual (defScope st) f cd A out s H E) (fun _ => E) k → PBl (bodyCx P w K mg base N qual (defScope st) f cd A out s H E) (fun _ => E) (defBody st) fb) :
    FnG P w K mg base (k + 1) f fd ps (spD K mg (runDef N.length ps.length fb)) := by
  refine fnG_dfl Fn S (fun vs H Q E h => ?_) fun cd A out s H vs Q E hg hr h => ?_
  · obtain ⟨G, as, ws, sy, gh, ao, q⟩ := h
    rw [ao.len.1]
    unfold runDef at q
    split at q
    · assumption
    · exact q.elim
  · obtain ⟨G, as, ws, sy, gh, ao, q⟩ := h
    have Y : Hy (bodyCx P w K mg base N qual (defScope st) f cd A out s H E) (fun _ => E) k := {
      calm := rfl
      nd := S.nd
      gd := hg
      rm := hr
      own := passes_of rfl
      tk := passAt (takes_of rfl rfl rfl rfl) }
    refine ⟨_, hb cd A out s H E Y { H0 := H, G0 := G, ws := ws }, G, _, entry sy gh ao, ?_⟩
    unfold runDef at q
    split at q
    · cases z : fb (bindE 0 as ++ List.replicate (N.length - as.length) .no) with
      | bad => rw [z] at q; exact q.elim
      | exc c fs e =>
        rw [z] at q
        simp only at q
        cases z2 : outsAt e 0 (ioCount as) with
        | none => rw [z2] at q; exact q.elim
        | some outs =>
          rw [z2] at q
          intro σ' G' H' C xd g' R' hC xf
          have q := q G' H' C xd
          rw [filterMap_vals] at q
          exact q (exit R' (by rw [ao.len.2.1]; exact z2)) hC xf
      | ok r =>
        obtain ⟨fl, e⟩ := r
        rw [z] at q
        simp only at q
        cases z2 : outsAt e 0 (ioCount as) with
        | none => rw [z2] at q; exact q.elim
        | some outs =>
          rw [z2] at q
          have z3 : outsAt e 0 ws.length = some outs := by rw [ao.len.2.1]; exact z2
          cases fl with
          | nx => exact fun σ' G' H' g' R' => q .non G' H' (exit R' z3) .non
          | rt d => exact fun σ' v G' H' g' R' dv => q v G' H' (exit R' z3) dv
          | ro d => exact fun σ' a G' H' g' R' h0 hg' rt => q _ G' H' (exit R' z3) ⟨a, rfl, h0, hg', rt, fun z => by
              obtain ⟨u, hu, _⟩ := R'.wsd a z
              have h0 : H a = none := h0
              have hu : H a = some u := hu
              rw [h0] at hu; cases hu⟩
          | bk => exact q.elim
          | ct => exact q.elim
    · exact q.elim
/-- one argument more, the empty tuple of the written part -/
theorem arOk_app {G H : Hp} {T : Addr} (hT : T0 K T) : ∀ {vs : List V} {as : List Ar} {ws : List Addr}, ArOk K mg G H vs as ws → ArOk K mg G H (vs ++ [.ref T]) (as ++ [.val .tup0]) ws
  | _, _, _, .nil => .val (.tup0 hT) .nil
  | _, _, _, .val d r => .val d (arOk_app hT r)
  | _, _, _, .io rt ga na r => .io rt ga na (arOk_app hT r)
theorem spD_app {g : List Ar → Rs Rz} {T : Addr} (hT : T0 K T) {vs : List V} {H : Hp} {Q : VK} {E : XK} (h : spD K mg (fun as => g (as ++ [.val .tup0])) vs H Q E) : spD K mg g (vs ++ [.ref T]) H Q E := by
  obtain ⟨G, as, ws, h1, h2, h3, q⟩ := h
  exact ⟨G, as ++ [.val .tup0], ws, h1, h2, arOk_app hT h3, q⟩
end
section
variable {X : Cx} {W : Wsh} {k j : Nat} {f C : Addr} {fd : FuncData} {ps : List Str} {g : List Ar → Rs Rz} {x : Str} {p pos : Pos} {e : Expr} {es : List Expr} {fA : En → Rs (List Hd × En)}
/-- C(e, ..), the last parameter's default being the empty tuple -/
theorem po_makeD {T : Addr} {ds : List Value} (M : Mk X.K C f) (Fn : FnG X.prog X.w X.K X.mg X.base j f fd ps (spD X.K X.mg g)) (hj : j + 1 ≤ k) (Y : Hy X W k) (hg : Gl X x) (hm : X.mg x = some (.ref C)) (hT : T0 X.K T) (hd : Vals [V.ref T] ds) (hb : Binds X.K fd ps ds) (ha : PAs X W (e :: es) fA)
    (ms : List Bool) (hdb : (x == ("__debug__" : Str)) = false := by decide) (he : starEach (e :: es) X.env = (false, eval e X.env) :: starEach es X.env := by rfl) (hpl : (backTo pos (starEach es X.env)).any (·.1) = false := by rfl) :
    PO X W (.Call (.Name x p) (e :: es) [] pos) (fUserO ms (mkD x fun as => g (as ++ [.val .tup0])) fA) := fun F => pe_weak (peG_make M Fn Y.gd (Y.rm.mono hj) hg hm hb hd Y.tk (ha F) hdb he hpl) fun σ H Q q => by
  obtain ⟨G, env, R, q⟩ := q
  have main : tCl (spD X.K X.mg (mkD x fun as => g (as ++ [.val .tup0]))) [] W (tA X.K X.mg W F fA) σ H Q := by
    refine call_of (ms := ms) R (Rs.wp_bind.mp q) fun r v G' H' q g' R' res => ?_
    split at q
    · rename_i ho
      rw [if_pos ho] at res
      obtain ⟨a, rfl, h0, hg, rt, fr⟩ := res
      exact q a G' H' g' R' h0 hg rt fr
    · exact q.elim
  obtain ⟨G0, env0, R0, z⟩ := main
  exact ⟨G0, env0, R0, Rs.wp_mono z (fun r z vs G1 H1 g1 R1 o1 a dx ea ex ne => spD_app (vs := V.ref a :: vs) hT (by have y := mk_sp hm (z vs G1 H1 g1 R1 o1) ea ex ne; rwa [List.append_nil] at y)) fun _ _ _ z => z⟩
end
end Rt
set_option Elab.async false
set_option linter.all false
set_option maxRecDepth 100000
set_option maxHeartbeats 4000000
/-! sorted(set(xs)) of lags, upon data: a list -/
namespace Rt
open PySem PySem.Spec L2
open PyProof.Rows hiding St
def dSs (d : D) : Option D := (itemsD d).bind fun l => (lagKs l).bind fun ks => if ks.length < 64 then some (.lst ((sortLg ks).map lagD)) else none
def fSs (fa : En → Rs (Hd × En)) : En → Rs (Hd × En) := fun e => fa e >>= fun r => Rs.of (r.1.get r.2) >>= fun d => Rs.of (dSs d) >>= fun t => .ok (.dat t, r.2)
section
variable {X : Cx} {W : Wsh} {k : Nat} {a : Expr} {fa : En → Rs (Hd × En)} {p2 p3 q2 q3 : Pos}
theorem pb_ss (Y : Hy X W k) (g2 : Gl X "sorted") (m2 : X.mg "sorted" = none) (v2 : bootBuiltins "sorted" = some (.builtin "sorted")) (g3 : Gl X "set") (m3 : X.mg "set" = none) (v3 : bootBuiltins "set" = some (.type "set")) (ha : PB X W a fa)
    (s3 : starEach [a] X.env = (false, eval a X.env) :: starEach [] X.env := by rfl) (s2 : starEach [.Call (.Name "set" p3) [a] [] q3] X.env = (false, eval (.Call (.Name "set" p3) [a] [] q3) X.env) :: starEach [] X.env := by rfl)
    (h3 : (backTo q3 (starEach [] X.env)).any (·.1) = false := by rfl) (h2 : (backTo q2 (starEach [] X.env)).any (·.1) = false := by rfl) :
    PB X W (.Call (.Name "sorted" p2) [.Call (.Name "set" p3) [a] [] q3] [] q2) (fSs fa) := fun F => by
  refine pe_weak (pe_callB (cr_sortX Y.calm) g2 m2 v2 (pa_cons (pe_callTy (cr_setX Y.calm Y.un) g3 m3 v3 (pa_cons (ha F) pa_nil s3) (by decide) (by decide) s3 h3) pa_nil s2) (by decide) (by decide) s2 h2) fun σ H Q q => ?_
  obtain ⟨G, env, R, q⟩ := q
  refine ⟨G, env, R, Rs.wp_mono (Rs.wp_bind.mp q) (fun r q v G1 H1 gl R1 o1 => ?_) fun _ _ _ z => z⟩
  obtain ⟨d, ed, q⟩ := wp_of (Rs.wp_bind.mp q)
  obtain ⟨t, et, q⟩ := wp_of (Rs.wp_bind.mp q)
  have main : ∀ (b : Addr) (xs : List V) (l : List D) (ks : List TKey), v = .ref b → (SqL X.K H1 b xs ∨ SqT X.K H1 b xs) → DVs X.K X.mg G1 xs l → lagKs l = some ks → ks.length < 64 → t = .lst ((sortLg ks).map lagD) →
      ∃ (l : Addr) (kk : TL), [v] = [.ref l] ∧ (SqL X.K H1 l (kk.map fun q => V.ref q.1) ∨ SqT X.K H1 l (kk.map fun q => V.ref q.1)) ∧ (∀ q ∈ kk, SqT X.K H1 q.1 (q.2.map kV)) ∧ kk.length < 64 ∧
        ∀ a L, H1 a = none → (∀ q ∈ L, q ∈ kk) → (∀ q ∈ kk, q.2 ∈ L.map (·.2)) → rSortX X.K X.prog X.w [.ref a] (upd H1 a (SetO X.prog X.w a L)) Q := by
    rintro b xs l ks rfl sq dvs hl lt rfl
    obtain ⟨rfl, lg⟩ := lagKs_of hl
    obtain ⟨kk, rfl, rfl, hk⟩ := lags_at R1 lg dvs
    refine ⟨b, kk, rfl, sq, fun z m => .inl (.inl (hk z m).1), by rw [List.length_map] at lt; exact lt, fun a L fa m1 m2 => ?_⟩
    have keep : ∀ {z : Addr} {o : HO}, H1 z = some o → (upd H1 a (SetO X.prog X.w a L)) z = some o := fun e => by rw [upd_ne (ne_of_none e fa)]; exact e
    refine ⟨a, L, rfl, upd_same, fun z m => ⟨.inl (.inl (keep (hk z (m1 z m)).1)), (hk z (m1 z m)).2.1⟩, fun L' p pm nd lt' pw fp => ?_⟩
    have sub : ∀ z ∈ L', z ∈ kk := fun z m => m1 z (pm.mem_iff.mp m)
    have eq : L'.map (·.2) = sortLg (kk.map (·.2)) := by
      refine sortLg_eq nd (fun k => ⟨fun m => ?_, fun m => ?_⟩) (List.pairwise_map.mpr (pw.imp fun {x y} h => ?_))
      · obtain ⟨z, mz, rfl⟩ := List.mem_map.mp m
        exact List.mem_map.mpr ⟨z, sub z mz, rfl⟩
      · obtain ⟨z, mz, rfl⟩ := List.mem_map.mp m
        exact (pm.map (·.2)).mem_iff.mpr (m2 z mz)
      · unfold leK; rw [h]; rfl
    have R2 := R1.alloc (o := SetO X.prog X.w a L) fa
    obtain ⟨g4, R4⟩ := R2.new (o := .lst (L'.map fun q => V.ref q.1)) fp
    rw [← eq] at q
    exact q (.ref p) _ _ (gl.trans g4) R4 (.lst upd_same ((lags_dvs fun z m => (hk z (sub z m)).2.2).mono g4))
  have fin : ∀ (b : Addr) (xs : List V) (l : List D), v = .ref b → (SqL X.K H1 b xs ∨ SqT X.K H1 b xs) → DVs X.K X.mg G1 xs l → itemsD d = some l → _ := fun b xs l ev sq dvs ei => by
    unfold dSs at et
    rw [ei] at et
    cases ek : lagKs l with
    | none => rw [Option.bind_some, ek] at et; cases et
    | some ks =>
      rw [Option.bind_some, ek, Option.bind_some] at et
      by_cases lt : ks.length < 64
      · rw [if_pos lt] at et
        cases et
        exact main b xs l ks ev sq dvs ek lt rfl
      · rw [if_neg lt] at et; cases et
  cases d with
  | lst l =>
    obtain ⟨b, xs, ev, hb, dvs⟩ := cur_lst R1 (o1.cur R1 ed)
    exact fin b xs l ev (.inl (.inl (.inl hb))) dvs rfl
  | tup l =>
    obtain ⟨b, xs, ev, hb, dvs⟩ := cur_tup R1 (o1.cur R1 ed)
    exact fin b xs l ev (.inr (.inl (.inl hb))) dvs rfl
  | tup0 =>
    obtain ⟨b, ev, sq⟩ := cur_tup0 (o1.cur R1 ed)
    exact fin b [] [] ev (.inr sq) .nil rfl
  | _ => cases et
end
end Rt
set_option Elab.async false
set_option linter.all false
set_option maxRecDepth 100000
set_option maxHeartbeats 4000000
/-! len of a dict too -/
namespace Rt
open PySem PySem.Spec L2
open PyProof.Rows hiding St
def dLenX : List D → Option D
  | [.dct l] => some (.int l.length)
  | l => dLen l
abbrev rLenX (X : Cx) : RN := rnOr (fun xs H Q => ∃ x n, xs = [x] ∧ LenV X.K x H n ∧ Q (.int (n : Nat)) H) fun xs H Q => ∃ a kvs, xs = [V.ref a] ∧ Rd H a (.dK kvs) ∧ Q (.int kvs.length) H
theorem call_lenX {X : Cx} : CallR X (.builtin "len") (rLenX X) := CallR.or call_len fun pins s σ H xs us Q I r h => by
  obtain ⟨a, kvs, rfl, ha, q⟩ := h
  obtain ⟨u, rfl, ru⟩ := vals1 r
  cases ru
  exact d_len I ha fun t s' I' => ⟨.int kvs.length, H, I', ⟨t, rfl⟩, q⟩
theorem cd_lenX {X : Cx} : CallD X (rLenX X) dLenX := by
  intro F G σ env H vs ds d Q R c e k
  unfold dLenX at e
  split at e
  · cases e
    obtain ⟨v, rfl, cu⟩ := curs1 c
    obtain ⟨a, ks, rfl, hr, e1, l⟩ := cur_dct R cu
    refine .inr ⟨a, ks, rfl, hr, ?_⟩
    rw [maps_len e1]
    exact k _ G H .refl R .int
  · exact .inl (cd_len F G σ env H vs _ d Q R c e k)
end Rt
set_option Elab.async false
set_option linter.all false
set_option maxRecDepth 100000
set_option maxHeartbeats 4000000
/-! while, with fuel -/
namespace Rt
open PySem PySem.Spec L2
open PyProof.Rows hiding St
section
variable {X : Cx} {W : Wsh} {k : Nat} {c : Expr} {t : En → Rs (Bool × En)} {f : En → Rs (Fl × En)} {pos : Pos}
def fWhile (t : En → Rs (Bool × En)) (f : En → Rs (Fl × En)) : Nat → En → Rs (Fl × En)
  | 0, _ => .bad
  | n + 1, e => t e >>= fun r => if r.1 = true then f r.2 >>= fun q => match q.1 with
      | .nx => fWhile t f n q.2
      | .ct => fWhile t f n q.2
      | .bk => .ok (.nx, q.2)
      | .rt d => .ok (.rt d, q.2)
      | .ro d => .ok (.ro d, q.2)
    else .ok (.nx, r.2)
theorem pst_while {body : List Stmt} (Y : Hy X W k) (n : Nat) (hc : PTt X W c t) (hb : PBl X W body f) : PSt X W (.While c body [] pos) (fWhile t f n) :=
  fun F => ps_weak (ps_while Y.own (hc F) (hb F)) fun D σ H q => by
  obtain ⟨G, env, R, q⟩ := q
  refine ⟨fun m σ H => ∃ G1 env, GLe G G1 ∧ Rep X.K X.mg F G1 σ env H ∧ (fWhile t f m env).wp (FlOk X.K X.mg F G D) (ZS X.K X.mg W F G), ⟨n, G, env, .refl, R, q⟩, ?_⟩
  rintro m σ H ⟨G1, env, g1, R, q⟩
  cases m with
  | zero => exact q.elim
  | succ m =>
    refine ⟨G1, env, R, Rs.wp_mono (Rs.wp_bind.mp q) (fun r q G2 H2 g2 R2 => ?_) fun _ _ _ z => (z.mono g1).zx .refl⟩
    obtain ⟨b, e1⟩ := r
    cases b with
    | false => exact q σ G2 H2 (g1.trans g2) R2
    | true =>
      have q : ((f e1 >>= fun q => match q.1 with
        | .nx => fWhile t f m q.2
        | .ct => fWhile t f m q.2
        | .bk => .ok (.nx, q.2)
        | .rt d => .ok (.rt d, q.2)
        | .ro d => .ok (.ro d, q.2)) : Rs (Fl × En)).wp (FlOk X.K X.mg F G D) (ZS X.K X.mg W F G) := q
      refine ⟨fun σ' H' => ∃ G1 env, GLe G G1 ∧ Rep X.K X.mg F G1 σ' env H' ∧ (fWhile t f m env).wp (FlOk X.K X.mg F G D) (ZS X.K X.mg W F G), fun σ' H' h => ⟨m, Nat.lt_succ_self m, h⟩, G2, e1, R2, Rs.wp_mono (Rs.wp_bind.mp q) (fun r q => ?_) fun _ _ _ z => z.mono (g1.trans g2)⟩
      obtain ⟨fl, e2⟩ := r
      cases fl with
      | nx => exact fun σ3 G3 H3 g3 R3 => ⟨G3, e2, (g1.trans g2).trans g3, R3, q⟩
      | ct => exact fun σ3 G3 H3 g3 R3 => ⟨G3, e2, (g1.trans g2).trans g3, R3, q⟩
      | bk => exact fun σ3 G3 H3 g3 R3 => q σ3 G3 H3 ((g1.trans g2).trans g3) R3
      | rt d => exact fun σ3 v G3 H3 g3 R3 => q σ3 v G3 H3 ((g1.trans g2).trans g3) R3
      | ro d => exact fun σ3 v G3 H3 g3 R3 => q σ3 v G3 H3 ((g1.trans g2).trans g3) R3
end
end Rt
set_option Elab.async false
set_option linter.all false
set_option maxRecDepth 100000
set_option maxHeartbeats 4000000
/-! str of an int, f-strings -/
namespace Rt
open PySem PySem.Spec L2
open PyProof.Rows hiding St
def dStrI : List D → Option D
  | [.int i] => if i.natAbs.log2 < 1920 then some (.str (toString i)) else none
  | _ => none
theorem cd_strI {X : Cx} : CallD X (fun xs H Q => ∃ i, xs = [.int i] ∧ i.natAbs.log2 < 1920 ∧ Q (.str (toString i)) H) dStrI := by
  intro F G σ env H vs ds d Q R c e k
  unfold dStrI at e
  split at e
  · split at e
    · rename_i hz
      cases e
      obtain ⟨v, rfl, cu⟩ := curs1 c
      cases cur_int cu
      exact ⟨_, rfl, hz, k _ G H .refl R .str⟩
    · cases e
  · cases e
section
variable {X : Cx} {W : Wsh} {pos : Pos} {e : Expr} {es : List Expr} {f : En → Rs (Hd × En)} {g : En → Rs (Str × En)} {gs : List (En → Rs (Str × En))}
def tP (K : PySem.W.Frag) (mg : Str → Option Value) (W : Wsh) (F : Fr) (g : En → Rs (Str × En)) : TE := fun σ H Q => ∃ G env, Rep K mg F G σ env H ∧ (g env).wp (fun r => ∀ G' H', GLe G G' → Rep K mg F G' σ r.2 H' → Q (.str r.1) H') (ZX K mg W F G σ)
/-- a part of an f-string -/
def PP (X : Cx) (W : Wsh) (e : Expr) (g : En → Rs (Str × En)) : Prop := ∀ F, PE X e (tP X.K X.mg W F g)
def PJs (X : Cx) (W : Wsh) (es : List Expr) (gs : List (En → Rs (Str × En))) : Prop := ∀ F, PJ X es (gs.map (tP X.K X.mg W F))
theorem pjs_nil : PJs X W [] [] := fun _ => .nil
theorem pjs_cons (h : PP X W e g) (r : PJs X W es gs) : PJs X W (e :: es) (g :: gs) := fun F => .cons (h F) (r F)
def fmtD : D → Option Str
  | .str y => if y.length ≤ sizeLine then some y else none
  | .int i => if i.natAbs.log2 < 1920 then some (toString i) else none
  | _ => none
def fFmt (f : En → Rs (Hd × En)) : En → Rs (Str × En) := fun e => f e >>= fun r => Rs.of (r.1.get r.2) >>= fun d => Rs.of (fmtD d) >>= fun s => .ok (s, r.2)
theorem pp_fmt (h : PB X W e f) : PP X W (.FormattedValue e (-1) none pos) (fFmt f) := fun F => pe_weak (pe_fmt (h F)) fun σ H Q q => by
  obtain ⟨G, env, R, q⟩ := q
  refine ⟨G, env, R, Rs.wp_mono (Rs.wp_bind.mp q) (fun r q v G1 H1 g1 R1 o1 => ?_) fun _ _ _ z => z⟩
  obtain ⟨d, ed, q⟩ := wp_of (Rs.wp_bind.mp q)
  obtain ⟨s, es, kk⟩ := wp_of (Rs.wp_bind.mp q)
  clear q
  have cu := o1.cur R1 ed
  unfold fmtD at es
  split at es
  · split at es
    · rename_i hz
      cases es; cases cur_str cu
      exact .inl ⟨_, rfl, hz, kk G1 H1 g1 R1⟩
    · cases es
  · split at es
    · rename_i hz
      cases es; cases cur_int cu
      exact .inr ⟨_, rfl, hz, kk G1 H1 g1 R1⟩
    · cases es
  · cases es
theorem pp_str {s : Str} (h : PB X W e (fC (.str s))) : PP X W e (fun e => .ok (s, e)) := fun F => pe_weak (h F) fun σ H Q q => by
  obtain ⟨G, env, R, q⟩ := q
  refine ⟨G, env, R, fun v G1 H1 g1 R1 o1 => ?_⟩
  cases cur_str (o1.cur R1 (d := .str s) rfl)
  exact q G1 H1 g1 R1
def fJs : List (En → Rs (Str × En)) → Str → En → Rs (Str × En)
  | [], acc, e => .ok (acc, e)
  | g :: gs, acc, e => g e >>= fun r => if (acc ++ r.1).length ≤ sizeLine then fJs gs (acc ++ r.1) r.2 else .bad
def fJoin (gs : List (En → Rs (Str × En))) : En → Rs (Hd × En) := fun e => fJs gs Str.empty e >>= fun r => .ok (.dat (.str r.1), r.2)
theorem tJs_of {F : Fr} {σ : L2.St} {Q : Str → Hp → Prop} : ∀ (gs : List (En → Rs (Str × En))) (acc : Str) (G : Hp) (env : En) (H : Hp), Rep X.K X.mg F G σ env H → (fJs gs acc env).wp (fun r => ∀ G' H', GLe G G' → Rep X.K X.mg F G' σ r.2 H' → Q r.1 H') (ZX X.K X.mg W F G σ) → tJs (gs.map (tP X.K X.mg W F)) acc σ H Q
  | [], acc, G, env, H, R, q => q G H .refl R
  | g :: gs, acc, G, env, H, R, q => by
    refine ⟨G, env, R, Rs.wp_mono (Rs.wp_bind.mp q) (fun r q G1 H1 g1 R1 => ?_) fun _ _ _ z => z⟩
    by_cases hz : (acc ++ r.1).length ≤ sizeLine
    · rw [if_pos hz] at q
      exact ⟨r.1, rfl, hz, tJs_of gs (acc ++ r.1) G1 r.2 H1 R1 (Rs.wp_mono q (fun r q G2 H2 g2 R2 => q G2 H2 (g1.trans g2) R2) fun _ _ _ z => z.mono g1)⟩
    · rw [if_neg hz] at q; exact q.elim
theorem pb_joined {v1 v2 : Expr} {rest : List Expr} (h : PJs X W (v1 :: v2 :: rest) gs) : PB X W (.JoinedStr (v1 :: v2 :: rest) pos) (fJoin gs) := fun F => pe_weak (pe_joined (h F)) fun σ H Q q => by
  obtain ⟨G, env, R, q⟩ := q
  exact tJs_of gs Str.empty G env H R (Rs.wp_mono (Rs.wp_bind.mp q) (fun r q G1 H1 g1 R1 => q _ G1 H1 g1 R1 DV.str) fun _ _ _ z => z)
end
end Rt
set_option Elab.async false
set_option linter.all false
set_option maxRecDepth 100000
set_option maxHeartbeats 4000000
/-! sum, max and min of a list of ints -/
namespace Rt
open PySem PySem.Spec L2
open PyProof.Rows hiding St
def intsOf : List D → Option (List Int)
  | [] => some []
  | .int i :: l => (intsOf l).map (i :: ·)
  | _ :: _ => none
theorem ints_v {K : PySem.W.Frag} {mg : Str → Option Value} {G : Hp} : ∀ {vs : List V} {ds : List D} {ns : List Int}, DVs K mg G vs ds → intsOf ds = some ns → vs = ns.map V.int
  | _, _, _, .nil, h => by cases h; rfl
  | _, _, _, .cons (d := d) (ds := ds) dv l, h => by
    cases d with
    | int i =>
      cases dv
      have h : (intsOf ds).map (i :: ·) = some _ := h
      cases q : intsOf ds with
      | none => rw [q] at h; cases h
      | some ns => rw [q] at h; cases h; rw [ints_v l q]; rfl
    | _ => cases h
def dSum : List D → Option D
  | [.lst l] => (intsOf l).map fun ns => .int ns.sum
  | _ => none
theorem cd_sum {X : Cx} : CallD X (rSum X.K) dSum := by
  intro F G σ env H vs ds d Q R c e k
  unfold dSum at e
  split at e
  · rename_i l
    obtain ⟨v, rfl, cu⟩ := curs1 c
    obtain ⟨a, xs, rfl, ha, dv⟩ := cur_lst R cu
    cases q : intsOf l with
    | none => rw [q] at e; cases e
    | some ns => rw [q] at e; cases e; exact ⟨a, ns, rfl, .of (by rw [ha, ints_v dv q]), k _ G H .refl R .int⟩
  · cases e
/-- the greatest, the least -/
def topI : Int → List Int → Int
  | x, [] => x
  | x, y :: l => topI (if y > x then y else x) l
theorem topI_ge : ∀ (l : List Int) (x : Int), x ≤ topI x l ∧ ∀ y ∈ l, y ≤ topI x l
  | [], x => ⟨Int.le_refl _, fun _ m => absurd m List.not_mem_nil⟩
  | y :: l, x => by
    obtain ⟨h1, h2⟩ := topI_ge l (if y > x then y else x)
    have e : topI x (y :: l) = topI (if y > x then y else x) l := rfl
    rw [e]
    have hx : x ≤ if y > x then y else x := by split <;> omega
    have hy : y ≤ if y > x then y else x := by split <;> omega
    refine ⟨Int.le_trans hx h1, fun z m => ?_⟩
    rcases List.mem_cons.mp m with m | m
    · rw [m]; exact Int.le_trans hy h1
    · exact h2 z m
theorem topI_mem : ∀ (l : List Int) (x : Int), topI x l ∈ x :: l
  | [], x => List.mem_cons_self
  | y :: l, x => by
    have h := topI_mem l (if y > x then y else x)
    have e : topI x (y :: l) = topI (if y > x then y else x) l := rfl
    rw [e]
    rcases List.mem_cons.mp h with h | h
    · rw [h]; split <;> simp
    · exact List.mem_cons_of_mem _ (List.mem_cons_of_mem _ h)
def dMaxL : List D → Option D
  | [.lst l] => (intsOf l).bind fun ns => match ns with
    | [] => none
    | x :: r => some (.int (topI x r))
  | _ => none
theorem cd_maxL {X : Cx} : CallD X (rMax X.K) dMaxL := by
  intro F G σ env H vs ds d Q R c e k
  unfold dMaxL at e
  split at e
  · rename_i l
    obtain ⟨v, rfl, cu⟩ := curs1 c
    obtain ⟨a, xs, rfl, ha, dv⟩ := cur_lst R cu
    cases q : intsOf l with
    | none => rw [q] at e; cases e
    | some ns =>
      rw [q] at e
      cases ns with
      | nil => cases e
      | cons x r =>
        cases e
        refine ⟨a, x :: r, rfl, .of (by rw [ha, ints_v dv q]), Nat.zero_lt_succ _, fun m m1 m2 => ?_⟩
        have h1 := topI_ge r x
        have h2 := m2 _ (topI_mem r x)
        have h3 : m ≤ topI x r := by
          rcases List.mem_cons.mp m1 with rfl | z
          · exact h1.1
          · exact h1.2 _ z
        have : m = topI x r := Int.le_antisymm h3 h2
        subst this
        exact k _ G H .refl R .int
  · cases e
def dMinL : List D → Option D
  | [.lst l] => (intsOf l).bind fun ns => match ns.map (- ·) with
    | [] => none
    | x :: r => some (.int (-topI x r))
  | _ => none
theorem cd_minL {X : Cx} : CallD X (rMin X.K) dMinL := by
  intro F G σ env H vs ds d Q R c e k
  unfold dMinL at e
  split at e
  · rename_i l
    obtain ⟨v, rfl, cu⟩ := curs1 c
    obtain ⟨a, xs, rfl, ha, dv⟩ := cur_lst R cu
    cases q : intsOf l with
    | none => rw [q] at e; cases e
    | some ns =>
      rw [q] at e
      cases ns with
      | nil => cases e
      | cons x r =>
        cases e
        refine ⟨a, x :: r, rfl, .of (by rw [ha, ints_v dv q]), Nat.zero_lt_succ _, fun m m1 m2 => ?_⟩
        have h1 := topI_ge (r.map (- ·)) (-x)
        have h3 : -m ≤ topI (-x) (r.map (- ·)) := by
          rcases List.mem_cons.mp m1 with rfl | z
          · exact h1.1
          · exact h1.2 _ (List.mem_map.mpr ⟨m, z, rfl⟩)
        have h2 : m ≤ -topI (-x) (r.map (- ·)) := by
          rcases List.mem_cons.mp (topI_mem (r.map (- ·)) (-x)) with z | z
          · rw [z]; have := m2 x List.mem_cons_self; omega
          · obtain ⟨y, my, ey⟩ := List.mem_map.mp z
            have := m2 y (List.mem_cons_of_mem _ my)
            omega
        have : m = -topI (-x) (r.map (- ·)) := by omega
        subst this
        exact k _ G H .refl R .int
  · cases e
section
variable {X : Cx} {W : Wsh} {e : Expr} {f : En → Rs (Hd × En)} {p p2 pos pos2 : Pos}
def fTupRev (f : En → Rs (Hd × En)) : En → Rs (Hd × En) := fun e => f e >>= fun r => Rs.of (r.1.get r.2) >>= fun d => match d with
  | .lst l => .ok (.dat (.tup l.reverse), r.2)
  | _ => .bad
theorem dvs_rev {K : PySem.W.Frag} {mg : Str → Option Value} {G : Hp} : ∀ {vs : List V} {ds : List D}, DVs K mg G vs ds → DVs K mg G vs.reverse ds.reverse
  | _, _, .nil => .nil
  | _, _, .cons h l => by
    rw [List.reverse_cons, List.reverse_cons]
    exact DVs.append (dvs_rev l) (.cons h .nil)
theorem pb_tupRev (hc : X.calm = true) (hg : Gl X "tuple") (hm : X.mg "tuple" = none) (hg2 : Gl X "reversed") (hm2 : X.mg "reversed" = none) (he : PB X W e f)
    (hs : starEach [e] X.env = (false, eval e X.env) :: starEach [] X.env := by rfl)
    (hs2 : starEach [.Call (.Name "reversed" p2) [e] [] pos2] X.env = (false, eval (.Call (.Name "reversed" p2) [e] [] pos2) X.env) :: starEach [] X.env := by rfl) : PB X W (.Call (.Name "tuple" p) [.Call (.Name "reversed" p2) [e] [] pos2] [] pos) (fTupRev f) :=
  fun F => pe_weak (RT.pe_tupRev hc hg hm hg2 hm2 (he F) hs hs2) fun σ H Q q => by
  obtain ⟨G, env, R, q⟩ := q
  refine ⟨G, env, R, Rs.wp_mono (Rs.wp_bind.mp q) (fun r q v G1 H1 g1 R1 o1 => ?_) fun _ _ _ z => z⟩
  obtain ⟨d, ed, q⟩ := wp_of (Rs.wp_bind.mp q)
  have cu := o1.cur R1 ed
  cases d with
  | lst l =>
    obtain ⟨a, xs, rfl, ha, dv⟩ := cur_lst R1 cu
    refine ⟨a, xs, rfl, .of ha, fun y hy => ?_⟩
    obtain ⟨G2, g2, R2, dv2⟩ := newT R1 (dvs_rev dv) hy
    exact q _ G2 _ (g1.trans g2) R2 dv2
  | _ => exact q.elim
end
end Rt
set_option Elab.async false
set_option linter.all false
set_option maxRecDepth 100000
set_option maxHeartbeats 4000000
/-! a, b = x, y: two new objects of the def's own -/
namespace Rt
open PySem PySem.Spec L2
open PyProof.Rows hiding St
section
variable {K : PySem.W.Frag} {mg : Str → Option Value} {F : Fr} {G : Hp} {σ : L2.St} {e : En} {H : Hp}
/-- an object at hand, kept apart -/
theorem Rep.push (R : Rep K mg F G σ e H) {p : Addr} {d : D} (h0 : F.H0 p = none) (hg : G p = none) (r : Root K mg G H p d) (fr : Fresh F σ e p) : Rep K mg (F.temp p d) G σ e H :=
  { R with
    apT := fun i a q z => (List.mem_cons.mp z).elim (fun y => fr.1 i ((show a = p from y) ▸ q)) (R.apT i a q)
    ndT := List.nodup_cons.mpr ⟨fr.2, R.ndT⟩
    tsk := fun q hq => (List.mem_cons.mp hq).elim (fun y => by subst y; exact ⟨h0, hg, r⟩) (R.tsk q) }
end
def fParO (i j : Nat) (fa fb : En → Rs (D × En)) : En → Rs (Fl × En) := fun e => fa e >>= fun r => fb r.2 >>= fun q => .ok (.nx, (q.2.set i (.own r.1)).set j (.own q.1))
section
variable {X : Cx} {W : Wsh} {k : Nat} {a b : Expr} {fa fb : En → Rs (D × En)} {pos : Pos}
theorem tCons_of {F : Fr} {σ : L2.St} {H : Hp} {i j : Nat} {D' : Ends} (q : tS X.K X.mg W F (fParO i j fa fb) D' σ H) :
    tPar i j (tCons (tO X.K X.mg W F fa) (tCons (fun σ H Q => ∃ F, tO X.K X.mg W F fb σ H Q) tNil)) D' σ H := by
  obtain ⟨G, env, R, q⟩ := q
  refine ⟨G, env, R, Rs.wp_mono (Rs.wp_bind.mp q) (fun r q p G1 H1 g1 R1 h0 hg rt fr => ?_) fun _ _ _ z => z.zx .refl⟩
  refine ⟨F.temp p r.1, G1, r.2, R1.push h0 hg rt fr, Rs.wp_mono (Rs.wp_bind.mp q) (fun s q p2 G2 H2 g2 R2 h02 hg2 rt2 fr2 => ?_) fun c fs e z => ?_⟩
  · obtain ⟨R3, k0, kg, krt, kfr⟩ := R2.tempEnd
    have ne : p2 ≠ p := fun z => fr2.2 (z ▸ List.mem_cons_self ..)
    refine ⟨.ref p, .ref p2, rfl, ?_⟩
    have R4 := R3.setO (i := i) k0 kg krt kfr
    refine q _ G2 H2 (g1.trans g2) (R4.setO (i := j) h02 hg2 rt2 ⟨fun m ra => ?_, fun z => fr2.2 (List.mem_cons_of_mem _ z)⟩)
    rcases rootAt_set ra R3.len with ⟨_, _, z⟩ | ⟨_, ra⟩
    · cases z; exact ne rfl
    · exact fr2.1 m ra
  · intro G' H' C xd g' R' hC xf
    exact z σ G' H' C xd (g1.trans g') R'.tempEnd.1 hC xf
theorem po_ex {e : Expr} {W : Wsh} {f : En → Rs (D × En)} (h : PO X W e f) : PE X e (fun σ H Q => ∃ F, tO X.K X.mg W F f σ H Q) := ⟨fun pins s σ H Q I ⟨F, q⟩ => (h F).run pins s σ H Q I q⟩
theorem pst_parO {i j : Nat} {x y : Str} {px py pt : Pos} {kt k2 pt2} (Y : Hy X W k) (hi : X.N[i]? = some x) (hj : X.N[j]? = some y) (hij : i ≠ j)
    (hx : X.env.scope.names.lookup x = some .local) (hy : X.env.scope.names.lookup y = some .local) (ha : PO X W a fa) (hb : PO X W b fb)
    (hw : swappedStores [.Tuple [.Name x px, .Name y py] kt pt] (.Tuple [a, b] k2 pt2) X.env = pure (some [x, y]))
    (hs : swapsWithSole [.Tuple [.Name x px, .Name y py] kt pt] (.Tuple [a, b] k2 pt2) pos.line X.env = pure false := by rfl)
    (h1 : starEach [a, b] X.env = (false, eval a X.env) :: starEach [b] X.env := by rfl) (h2 : starEach [b] X.env = (false, eval b X.env) :: starEach [] X.env := by rfl) :
    PSt X W (.Assign [.Tuple [.Name x px, .Name y py] kt pt] (.Tuple [a, b] k2 pt2) pos) (fParO i j fa fb) :=
  fun F => ps_weak (ps_par Y.calm Y.nd hi hj hij hx hy (pa_cons (ha F) (pa_cons (po_ex hb) pa_nil h2) h1) hw hs) fun D σ H q => tCons_of q
end
end Rt
set_option Elab.async false
set_option linter.all false
set_option maxRecDepth 100000
set_option maxHeartbeats 4000000
/-! == and != of two instances by the class's own def -/
namespace PySem.W
open PySem PyProof.Rows
section
variable {prog : Program} {w : World} {A : Around} {E : Value → Shared → Prop} {s : Shared} {K : Frag} {x C L f : Addr} {h₀ : Heap} {m : Str → Option Value} {ox : Obj} {od : Option Obj} {b tb : Value}
/-- object.__ne__ of an instance with an __eq__ of its class -/
theorem ifBoundNe_K {M : Model} {args : List Value} {Q : Option Value → Shared → Prop} (X : K.In s.heap) (I : InstAt s.heap x ox C od) (hs : findIn K (.ref C) "__ne__" = some (some (.builtin "object.__ne__")))
    (h : wpAny M A (call (.builtin "object.__ne__") (.ref x :: args)) (fun v => Q (some v)) E s) : wpAny M A (callSpecialIfBound? (.ref x) "__ne__" args) Q E s := by
  simp only [callSpecialIfBound?, bindSpecialIfBound?]
  refine wpAny_holding (wpAny_bind (wpAny_bind (wpAny_bind (I.type.here ((looks_findIn X hs).here ?_)))))
  simp only [F.cmp_object.ne.bind]
  refine wpAny_bind (wpAny_askSetting (wpAny_ite ?_))
  have fin : wpAny M A (call (.builtin "object.__ne__") ([.ref x] ++ args) >>= fun v => pure (some v)) Q E s := wpAny_bind (wpAny_mono h (fun v s' h' => wpAny_pure h') fun _ _ h' => h')
  split
  · exact wpAny_bind (wpAny_pure (wpAny_pure (by exact fin)))
  · exact wpAny_tryCatch (wpAny_bind (wpAny_pure (wpAny_pure (by exact fin))))
def NeBack (Q : Value → Shared → Prop) (v : Value) (s' : Shared) : Prop := ∃ b, v = .bool b ∧ Q (.bool (!b)) s'
theorem chkNe_K {M : Model} {Q : Unit → Shared → Prop} (X : K.In s.heap) (I : InstAt s.heap x ox C od) (hm : mroIn K C (.type "object") = some true) (hq : Q () s) : wpAny M A (checkBuiltinCall "object.__ne__" ⟨[.ref x, b], []⟩) Q E s := by
  have ha := F.cmpArgs_ne (.ref x) b
  simp only [checkBuiltinCall, F.cmpKind_ne, F.cmpSplit_ne]
  refine wpAny_bind ?_
  unfold isInstance
  refine wpAny_bind (I.type.here ?_)
  refine (looks_mroIn X hm).here ?_
  simp only [Bool.not_true, Bool.false_eq_true, if_false]
  cases hsig : Manifest.signature? "object.__ne__" with
  | none => exact wpAny_pure hq
  | some sig =>
    simp only [argsOk, hsig] at ha
    have h2 : Bind.checkArgs "object.__ne__" sig ⟨[.ref x, b], []⟩ = pure () := ha
    show wpAny M A (Bind.checkArgs "object.__ne__" sig ⟨[.ref x, b], []⟩) Q E _
    rw [h2]; exact wpAny_pure hq
theorem cmpNe_K {Q : Value → Shared → Prop} (hu : A.units + 1 < cLine) (F₀ : Fr h₀ L s.heap m) (X₀ : K.In h₀) (I : InstAt s.heap x ox C od) (hb : Looks (model prog w) s.heap (typeOf b) tb) (hn : notFirst K C tb = true)
    (hs : findIn K (.ref C) "__ne__" = some (some (.builtin "object.__ne__"))) (hm : mroIn K C (.type "object") = some true) (he : findIn K (.ref C) "__eq__" = some (some (.ref f))) (hf : isFn K (.ref f) = true)
    (h : wpAny (model prog w) A.in1 (call (.ref f) [.ref x, b]) (NeBack Q) E s) : wpAny (model prog w) A (richCompare .NotEq (.ref x) b) Q E s := by
  have X := X₀.keeps F₀.keep
  have one : wpAny (model prog w) A (tryCompare (.ref x) "__ne__" b) (fun r s' => ∃ v, r = some v ∧ Q v s') E s := by
    unfold tryCompare
    refine wpAny_bind (ifBoundNe_K X I hs (wpAny_call (codeAny_call_builtin F.cmp_object.ne.plain F.cmpEntry_ne (chkNe_K X I hm ?_))))
    have hu' : A.in1.units < cLine := hu
    unfold Builtin.«object.__ne__»
    repeat (first
      | with_reducible refine wpAny_cRoomFor hu' ?_
      | (refine wpAny_bind (m := callSpecialIfBound? (.ref x) (Str.ofString "__eq__") [b])
          (ifBound_K X I he hf (wpAny_mono h (fun r s' hr => by
            obtain ⟨b', rfl, hq⟩ := hr
            repeat (first | exact ⟨_, rfl, hq⟩ | exact wpAny_pure ⟨_, rfl, hq⟩ | (refine wpAny_bind (m := truthy (.bool _)) (wpAny_truthy_bool ?_)) | wp_step)) fun _ _ e => e)))
      | wp_step)
  unfold richCompare
  simp only [oneThing_ref]
  refine wpAny_holding (wpAny_bind (wpAny_cRoomFor (by omega) ?_))
  refine wpAny_bind (I.type.here (wpAny_bind (hb.here ?_)))
  rw [cmpInfo_NotEq]
  dsimp only
  split
  · rename_i q
    have e : subIn K tb (.ref C) = some false := by
      rcases Bool.or_eq_true_iff.mp hn with e | e
      · rw [beq_iff_eq.mp e] at q; simp at q
      · exact beq_iff_eq.mp e
    refine wpAny_bind ((looks_subIn X e).here ?_)
    simp only [Bool.false_eq_true, if_false]
    refine wpAny_bind (wpAny_mono one (fun r s' z => ?_) fun _ _ e => e)
    obtain ⟨v, rfl, hq⟩ := z
    exact wpAny_pure hq
  · refine wpAny_bind (wpAny_pure ?_)
    simp only [Bool.false_eq_true, if_false]
    refine wpAny_bind (wpAny_mono one (fun r s' z => ?_) fun _ _ e => e)
    obtain ⟨v, rfl, hq⟩ := z
    exact wpAny_pure hq
end
end PySem.W
namespace Rt
open PySem PySem.Spec L2
open PyProof.Rows hiding St
/-- what of the text a class with an __eq__ must have -/
structure ClsEq (K : PySem.W.Frag) (C f : Addr) : Prop where
  ne : PySem.W.findIn K (.ref C) "__ne__" = some (some (.builtin "object.__ne__"))
  ob : PySem.W.mroIn K C (.type "object") = some true
  eq : PySem.W.findIn K (.ref C) "__eq__" = some (some (.ref f))
  fn : PySem.W.isFn K (.ref f) = true
def rEqO (n : Bool) (C : Addr) (sp : Sp) : R2 := fun x y H Q => ∃ a b dx dy fs gs, x = .ref a ∧ y = .ref b ∧ H a = some (.ins C dx fs) ∧ H b = some (.ins C dy gs) ∧
  sp [.ref a, .ref b] H (fun v H' => ∃ k, v = .bl k ∧ Q (.bl (if n = true then !k else k)) H') (fun _ _ _ => False)
section
variable {X : Cx} {W : Wsh} {k j : Nat} {f C : Addr} {fd : FuncData} {ps : List Str} {sp : Sp}
theorem eqO_run {n : Bool} {A : Around} (Fn : FnG X.prog X.w X.K X.mg X.base j f fd ps sp) (hf : A.frames = X.A.frames) (hg : A.guards = some []) (hr : Room j A) (hb : Binds X.K fd ps []) {pins : List (Addr × Obj)} {s : Shared} {σ : L2.St} {H : Hp} {a b : Addr} {Q : VK} (I : Inv X pins σ H s)
    (h : sp [.ref a, .ref b] H (fun v H' => ∃ k, v = .bl k ∧ Q (.bl (if n = true then !k else k)) H') (fun _ _ _ => False)) :
    wpAny (model X.prog X.w) A (call (.ref f) [.ref a, .ref b]) (fun v s' => ∃ k, v = .bool k ∧ EP X pins σ Q (.bool (if n = true then !k else k)) s') X.xe s := by
  have e0 : Env0 X.prog X.w X.K X.mg X.base A X.stack s H := by
    have e := I.env0
    exact ⟨by rw [hf]; exact e.frames, e.mod, e.bs, e.bsz, e.funs, e.frf, e.hok, e.bare⟩
  have hl := Fn.ar _ _ _ _ h
  have r2 : Vals [V.ref a, V.ref b] [Value.ref a, Value.ref b] := .cons rfl (.cons rfl .nil)
  refine wpAny_call (codeAny_mono (Fn.go A X.stack s H ⟨[.ref a, .ref b], []⟩ [.ref a, .ref b] [.ref a, .ref b] _ _ hg hr e0 (by
    have := hb s [.ref a, .ref b] I.kIn (by simpa using hl)
    simpa using this) r2 h) fun r s' hq => ?_)
  cases r with
  | error e => obtain ⟨_, _, _, _, _, _, _, _, _, _, _, _, q⟩ := hq; exact q.elim
  | ok fl =>
    cases fl with
    | ret w =>
      obtain ⟨z, H', I', rz, k, ez, q⟩ := I.after hq
      subst ez
      cases rz
      exact ⟨k, rfl, .bl _, H', I', rfl, q⟩
    | next => exact False.elim hq
    | brk => exact False.elim hq
    | cont => exact False.elim hq
theorem op_eqO (Fn : FnG X.prog X.w X.K X.mg X.base j f fd ps sp) (hK : ClsEq X.K C f) (hg : X.A.guards = some []) (hr : Room j X.A) (hb : Binds X.K fd ps []) : OpR X (compareOp .Eq) (rEqO false C sp) := by
  intro pins s σ H x y v u Q I rx ry hq
  obtain ⟨a, b, dx, dy, fs, gs, rfl, rfl, ha, hb', h⟩ := hq
  cases rx
  cases ry
  obtain ⟨mA, J, _⟩ := ins_get I.hok ha
  obtain ⟨mB, J', _⟩ := ins_get I.hok hb'
  obtain ⟨od, J, _⟩ := J.look
  obtain ⟨od', J', _⟩ := J'.look
  obtain ⟨m, hF⟩ := I.fr
  have hu : X.A.units < cLine := by have := hr.un; omega
  show wpAny _ _ (richCompare .Eq (.ref a) (.ref b)) _ _ _
  refine PySem.W.cmp_K (op := .Eq) (tb := .ref C) hu hF I.ok.mod.kin J J'.type (by simp [PySem.W.notFirst]) hK.eq hK.fn (wpAny_mono (eqO_run (n := false) Fn rfl hg hr hb I h) (fun v s' z => ?_) fun _ _ e => e)
  obtain ⟨k, rfl, q⟩ := z
  exact q
theorem op_neO (Fn : FnG X.prog X.w X.K X.mg X.base j f fd ps sp) (hK : ClsEq X.K C f) (hg : X.A.guards = some []) (hr : Room (j + 1) X.A) (hb : Binds X.K fd ps []) : OpR X (compareOp .NotEq) (rEqO true C sp) := by
  intro pins s σ H x y v u Q I rx ry hq
  obtain ⟨a, b, dx, dy, fs, gs, rfl, rfl, ha, hb', h⟩ := hq
  cases rx
  cases ry
  obtain ⟨mA, J, _⟩ := ins_get I.hok ha
  obtain ⟨mB, J', _⟩ := ins_get I.hok hb'
  obtain ⟨od, J, _⟩ := J.look
  obtain ⟨od', J', _⟩ := J'.look
  obtain ⟨m, hF⟩ := I.fr
  have hu : X.A.units + 1 < cLine := by have := hr.un; omega
  show wpAny _ _ (richCompare .NotEq (.ref a) (.ref b)) _ _ _
  refine PySem.W.cmpNe_K (tb := .ref C) hu hF I.ok.mod.kin J J'.type (by simp [PySem.W.notFirst]) hK.ne hK.ob hK.eq hK.fn (wpAny_mono (eqO_run (n := true) (A := X.A.in1) Fn rfl hg hr.in1 hb I h) (fun v s' z => ?_) fun _ _ e => e)
  obtain ⟨k, rfl, q⟩ := z
  exact ⟨k, rfl, q⟩
def isC (c : Str) : D → Bool
  | .obj c' _ => decide (c' = c)
  | _ => false
def bl1 (n : Bool) (e : En) : Rs Rz → Rs (Hd × En)
  | .ok ⟨_, .bl b, []⟩ => .ok (.dat (.bl (if n = true then !b else b)), e)
  | _ => .bad
def fEqO (n : Bool) (c : Str) (g : List Ar → Rs Rz) (fa fb : En → Rs (Hd × En)) : En → Rs (Hd × En) := fun e => fa e >>= fun r => fb r.2 >>= fun q => r.1.esc q.2 >>= fun x => q.1.esc x.2 >>= fun y =>
  if (isC c x.1 && isC c y.1) = true then bl1 n y.2 (g [.val x.1, .val y.1]) else .bad
theorem isC_of {c : Str} {d : D} (h : isC c d = true) : ∃ df, d = .obj c df := by
  cases d with
  | obj c' df => exact ⟨df, by rw [of_decide_eq_true h]⟩
  | _ => cases h
theorem eqO_of {n : Bool} {c : Str} {g : List Ar → Rs Rz} {fa fb : En → Rs (Hd × En)} (hC : X.mg c = some (.ref C)) {F : Fr} {σ : L2.St} {H : Hp} {Q : VK} (h : tB X.K X.mg W F (fEqO n c g fa fb) σ H Q) :
    tOp (rEqO n C (spD X.K X.mg g)) (tB X.K X.mg W F fa) (tB X.K X.mg W F fb) σ H Q := by
  obtain ⟨G, env, R, h⟩ := h
  refine ⟨G, env, R, Rs.wp_mono (Rs.wp_bind.mp h) (fun r h x G1 H1 g1 R1 o1 => ?_) fun _ _ _ z => z⟩
  refine ⟨G1, r.2, R1, Rs.wp_mono (Rs.wp_bind.mp h) (fun q h y G2 H2 g2 R2 o2 => ?_) fun _ _ _ z => z.mono g1⟩
  obtain ⟨r3, G3, h, g3, R3, d1⟩ := wp_esc R2 (o1.mono g2) (Rs.wp_bind.mp h)
  obtain ⟨r4, G4, h, g4, R4, d2⟩ := wp_esc R3 (o2.mono g3) (Rs.wp_bind.mp h)
  by_cases hc : (isC c r3.1 && isC c r4.1) = true
  · have h : ((if (isC c r3.1 && isC c r4.1) = true then bl1 n r4.2 (g [.val r3.1, .val r4.1]) else .bad) : Rs (Hd × En)).wp _ _ := h
    rw [if_pos hc] at h
    simp only [Bool.and_eq_true] at hc
    obtain ⟨df1, e1⟩ := isC_of hc.1
    obtain ⟨df2, e2⟩ := isC_of hc.2
    have d1 := d1.mono g4
    have d1' := d1
    have d2' := d2
    rw [e1] at d1'; rw [e2] at d2'
    obtain ⟨a, C1, dx, fs, rfl, hc1, ha, _⟩ := cur_obj R4 (.inl d1')
    obtain ⟨b, C2, dy, gs, rfl, hc2, hb, _⟩ := cur_obj R4 (.inl d2')
    rw [hC] at hc1 hc2
    cases hc1; cases hc2
    refine ⟨a, b, dx, dy, fs, gs, rfl, rfl, ha, hb, G4, [.val r3.1, .val r4.1], [], R4.sys, fun b o z => (R4.gh b o z).imp id fun ⟨h1, c, h2, _⟩ => ⟨h1, c, h2⟩, .val d1 (.val d2 .nil), ?_⟩
    cases z : g [.val r3.1, .val r4.1] with
    | bad => rw [z] at h; exact h.elim
    | exc c fs eo => rw [z] at h; exact h.elim
    | ok zz =>
      rw [z] at h
      obtain ⟨ow, d, outs⟩ := zz
      cases d with
      | bl kk =>
        cases outs with
        | nil =>
          intro v G' H' af res
          have hv : v = .bl kk := by
            cases ow with
            | true =>
              obtain ⟨a, _, _, _, rt, _⟩ := (show ∃ a, v = .ref a ∧ _ ∧ _ ∧ Root X.K X.mg G' H' a (.bl kk) ∧ _ from res)
              cases rt
            | false =>
              have res : DV X.K X.mg G' v (.bl kk) := res
              cases res; rfl
          refine ⟨kk, hv, ?_⟩
          exact h _ G' H' (((g1.trans g2).trans (g3.trans g4)).trans af.gle) (putM_ok R4 af .nil List.nodup_nil) .bl
        | cons _ _ => exact h.elim
      | _ => exact h.elim
  · have h : ((if (isC c r3.1 && isC c r4.1) = true then bl1 n r4.2 (g [.val r3.1, .val r4.1]) else .bad) : Rs (Hd × En)).wp _ _ := h
    rw [if_neg hc] at h
    exact h.elim
variable {c : Str} {g : List Ar → Rs Rz} {a b : Expr} {fa fb : En → Rs (Hd × En)} {pos : Pos}
theorem pb_eqO (hC : X.mg c = some (.ref C)) (hK : ClsEq X.K C f) (Fn : FnG X.prog X.w X.K X.mg X.base j f fd ps (spD X.K X.mg g)) (hj : j + 1 ≤ k) (Y : Hy X W k) (hb : Binds X.K fd ps []) (ha : PB X W a fa) (hb' : PB X W b fb) : PB X W (.Compare a [.Eq] [b] pos) (fEqO false c g fa fb) :=
  fun F => pe_weak (pe_cmpR (op_eqO Fn hK Y.gd (Y.rm.mono (by omega)) hb) (ha F) (hb' F) (nobehind _ (by decide) (by decide))) fun _ _ _ h => eqO_of hC h
theorem pt_eqO (hC : X.mg c = some (.ref C)) (hK : ClsEq X.K C f) (Fn : FnG X.prog X.w X.K X.mg X.base j f fd ps (spD X.K X.mg g)) (hj : j + 1 ≤ k) (Y : Hy X W k) (hb : Binds X.K fd ps []) (ha : PB X W a fa) (hb' : PB X W b fb) : PTt X W (.Compare a [.Eq] [b] pos) (fTst (fEqO false c g fa fb)) :=
  fun F => pt_weak (pt_cmpR (op_eqO Fn hK Y.gd (Y.rm.mono (by omega)) hb) (ha F) (hb' F) (nobehind _ (by decide) (by decide))) fun _ _ _ h => eqO_of hC (tst_of h)
theorem pb_neO (hC : X.mg c = some (.ref C)) (hK : ClsEq X.K C f) (Fn : FnG X.prog X.w X.K X.mg X.base j f fd ps (spD X.K X.mg g)) (hj : j + 1 ≤ k) (Y : Hy X W k) (hb : Binds X.K fd ps []) (ha : PB X W a fa) (hb' : PB X W b fb) : PB X W (.Compare a [.NotEq] [b] pos) (fEqO true c g fa fb) :=
  fun F => pe_weak (pe_cmpR (op_neO Fn hK Y.gd (Y.rm.mono hj) hb) (ha F) (hb' F) (nobehind _ (by decide) (by decide))) fun _ _ _ h => eqO_of hC h
theorem pt_neO (hC : X.mg c = some (.ref C)) (hK : ClsEq X.K C f) (Fn : FnG X.prog X.w X.K X.mg X.base j f fd ps (spD X.K X.mg g)) (hj : j + 1 ≤ k) (Y : Hy X W k) (hb : Binds X.K fd ps []) (ha : PB X W a fa) (hb' : PB X W b fb) : PTt X W (.Compare a [.NotEq] [b] pos) (fTst (fEqO true c g fa fb)) :=
  fun F => pt_weak (pt_cmpR (op_neO Fn hK Y.gd (Y.rm.mono hj) hb) (ha F) (hb' F) (nobehind _ (by decide) (by decide))) fun _ _ _ h => eqO_of hC (tst_of h)
end
end Rt
set_option Elab.async false
set_option linter.all false
set_option maxRecDepth 100000
set_option maxHeartbeats 4000000
/-! [.. for a in d for b in d if ..], d a dict -/
namespace Rt
open PySem PySem.Spec L2
open PyProof.Rows hiding St
theorem wipe_in {σ : L2.St} {vs vs1 : List Nat} (h : ∀ i ∈ vs1, i ∈ vs) : wipe (wipe σ vs1) vs = wipe σ vs := by
  apply List.ext_getElem?
  intro i
  rw [wipe_get, wipe_get, wipe_get]
  by_cases z : i ∈ vs
  · rw [if_pos z, if_pos z]
    split
    · cases σ[i]? <;> rfl
    · rfl
  · rw [if_neg z, if_neg z, if_neg fun y => z (h i y)]
def keysD (l : List (Key × D)) : List D := l.map fun p => keyD p.1
def dctAt (e : En) (i : Nat) : Option (List (Key × D)) := match e[i]? with
  | some (.val (.dct l)) => some l
  | _ => none
def cLoop2 (i : Nat) (g1 g2 : D → En → Option En) (ft : En → Rs (Bool × En)) (fe : En → Rs (Hd × En)) (vs vs1 : List Nat) : List D → En → List D → Rs (List D × En)
  | [], e, acc => .ok (acc, e)
  | d :: ds, e, acc => Rs.of (g1 d e) >>= fun e1 => Rs.of (dctAt e1 i) >>= fun l => cLoop g2 ft fe vs1 (keysD l) (wipeE e1 vs1) acc >>= fun q => cLoop2 i g1 g2 ft fe vs vs1 ds (wipeE q.2 vs) q.1
def fComp2 (i : Nat) (g1 g2 : D → En → Option En) (ft : En → Rs (Bool × En)) (fe : En → Rs (Hd × En)) (vs vs1 : List Nat) : En → Rs (D × En) := fun e => Rs.of (dctAt e i) >>= fun l =>
  if plainS e vs = true then (cLoop2 i g1 g2 ft fe vs vs1 (keysD l) (wipeE e vs) []).mute >>= fun q => .ok (.lst q.1, back e q.2 vs) else .bad
theorem dctAt_of {e : En} {i : Nat} {l : List (Key × D)} (h : dctAt e i = some l) : e[i]? = some (.val (.dct l)) := by
  unfold dctAt at h
  split at h
  · rename_i q; cases h; exact q
  · cases h
section
variable {X : Cx} {K : PySem.W.Frag} {mg : Str → Option Value} {F : Fr} {G : Hp} {σ : L2.St} {e : En} {H : Hp} {p : Addr} {ks : List (Key × V)}
/-- a dict at rest: locked already, or to be locked -/
theorem lock2 (R2 : Rep X.K X.mg F G σ e H) (hg : Rd G p (.dK ks)) :
    (∃ b, H p = some (.frz b (.dK ks)) ∧ ∀ ts G' σ' env H', GLe G G' → Rep X.K X.mg (F.wts ts) G' σ' env H' → H' p = some (.frz b (.dK ks))) ∨
    (H p = some (.dK ks) ∧ ∀ od, F.lk p = none ∧ Rep X.K X.mg (F.lock p od) G σ e (upd H p (.frz od (.dK ks))) ∧ ∀ ts G' σ' env H', GLe G G' → Rep X.K X.mg ((F.lock p od).wts ts) G' σ' env H' → H' p = some (.frz od (.dK ks))) := by
  rcases hg with hg | ⟨b, hg⟩
  · rcases R2.gh _ _ hg with hh | ⟨_, b, hb, hc⟩
    · right
      refine ⟨hh, fun od => ⟨R2.nolk hh rfl, R2.lock hg hh rfl, fun ts G' σ' env H' g' R' => ?_⟩⟩
      obtain ⟨o, h1, _, h3⟩ := R'.lkg p od lock_self
      rw [g' _ _ hg] at h1; cases h1
      exact h3
    · left
      refine ⟨b, hb, fun ts G' σ' env H' g' R' => ?_⟩
      rcases hc with hc | hc
      · obtain ⟨o, h1, _, h3⟩ := R'.lkg p b hc
        rw [g' _ _ hg] at h1; cases h1
        exact h3
      · have nw : p ∉ F.ws := fun w => by
          obtain ⟨o, h1, h2⟩ := R'.wsd p w
          have h1 : F.H0 p = some o := h1
          rw [hc] at h1; cases h1; cases h2
        have nl : F.lk p = none := by
          cases y : F.lk p with
          | none => rfl
          | some b' =>
            obtain ⟨o, h1, _, h3⟩ := R2.lkg p b' y
            have h4 := (R2.base p _ hc nw).2 b' y
            rw [h3] at h4; cases h4
            rw [hg] at h1; cases h1
        exact (R'.base p _ hc nw).1 nl
  · left
    exact ⟨b, gh_of R2 hg rfl, fun ts G' σ' env H' g' R' => gh_of R' (g' _ _ hg) rfl⟩
end
section
variable {X : Cx} {W : Wsh} {k i : Nat} {g1 g2 : D → En → Option En} {ft : En → Rs (Bool × En)} {fe : En → Rs (Hd × En)} {vs vs1 is is1 : List Nat}
def tLkV (X : Cx) (W : Wsh) (F : Fr) (i : Nat) : TE := fun σ H Q => tB X.K X.mg W F (fVar i) σ H fun x H1 => Q x H1 ∨ ∃ d u, x = .ref d ∧ H1 d = some u ∧ Mut (some u) ∧ ∀ od, (∀ o u, X.H_0 d ≠ some (.frz o u)) → Q x (upd H1 d (.frz od u))
theorem keys_item {K : PySem.W.Frag} {mg : Str → Option Value} {G : Hp} {ks : List (Key × V)} {dk : List (Key × D)} (hk : ks.map (·.1) = dk.map (·.1)) {j : Nat} {kk : Key} {v : V} (h : ks[j]? = some (kk, v)) : (keysD dk)[j]? = some (keyD kk) ∧ DV K mg G (kV kk) (keyD kk) := by
  refine ⟨?_, keyD_v kk⟩
  have h1 := keys_get h
  rw [hk] at h1
  unfold keysD
  rw [List.getElem?_map] at h1 ⊢
  cases z : dk[j]? with
  | none => rw [z] at h1; cases h1
  | some w => rw [z] at h1; cases h1; rfl
theorem tLc2_of (his : ∀ j ∈ is, j ∈ vs) (his1 : ∀ j ∈ is1, j ∈ vs1) (hv : ∀ j ∈ vs1, j ∈ vs) (hi : i ∉ vs) {F : Fr} {σ : L2.St} {H : Hp} {Q : VK} (q : tO X.K X.mg W F (fComp2 i g1 g2 ft fe vs vs1) σ H Q) :
    tLc2 (iKeys (tLkV X W F i)) (fun v σ H Q => ∃ F, tG X.K X.mg F is g1 v σ H Q) (fun σ H Q => ∃ F, tT X.K X.mg W0 F fYes σ H Q) (iKeys (fun σ H Q => ∃ F, tB X.K X.mg W0 F (fVar i) σ H Q))
      (fun v σ H Q => ∃ F, tG X.K X.mg F is1 g2 v σ H Q) (fun σ H Q => ∃ F, tT X.K X.mg W0 F ft σ H Q) (fun σ H Q => ∃ F, tB X.K X.mg W0 F fe σ H Q) vs vs1 σ H (fun v H' => ∃ Hu, Unl X H' Hu ∧ Q v Hu) := by
  obtain ⟨G, env, R, q⟩ := q
  obtain ⟨dl, hdl, q⟩ := wp_of (Rs.wp_bind.mp q)
  have el := dctAt_of hdl
  by_cases hp : ¬ plainS env vs = true
  · have q : ((if plainS env vs = true then (cLoop2 i g1 g2 ft fe vs vs1 (keysD dl) (wipeE env vs) []).mute >>= fun q => .ok (.lst q.1, back env q.2 vs) else .bad) : Rs (D × En)).wp _ _ := q
    rw [if_neg hp] at q
    exact q.elim
  have hp : plainS env vs = true := Classical.not_not.mp hp
  have q : ((if plainS env vs = true then (cLoop2 i g1 g2 ft fe vs vs1 (keysD dl) (wipeE env vs) []).mute >>= fun q => .ok (.lst q.1, back env q.2 vs) else .bad) : Rs (D × En)).wp _ _ := q
  rw [if_pos hp] at q
  have q := wp_mute0 (Rs.wp_bind.mp q)
  obtain ⟨xv, hx, dv⟩ := R.sl i _ el
  have fv : fVar i env = .ok (.slot i, env) := by simp only [fVar, el]
  -- the value of the name
  have dv0 := dv
  cases dv with
  | dct hg hk dvl =>
    rename_i p ks
    let P := fun q : List D × En => ∀ a G' H', GLe G G' → Rep X.K X.mg F G' σ (back env q.2 vs) H' → F.H0 a = none → G' a = none → Root X.K X.mg G' H' a (.lst q.1) → Fresh F σ (back env q.2 vs) a → Q (.ref a) H'
    have q2 : (cLoop2 i g1 g2 ft fe vs vs1 (keysD dl) (wipeE env vs) []).wp P (fun _ _ _ => False) := Rs.wp_mono q (fun _ z => z) fun _ _ _ z => z
    have lens : ks.length = (keysD dl).length := by
      have := congrArg List.length hk
      rw [List.length_map, List.length_map] at this
      unfold keysD; rw [List.length_map]; exact this
    -- what a state that is locked gives
    have core : ∀ (F' : Fr) (b : Obj) (G1 H1 : Hp), LkD X true F F' → GLe G G1 → Rep X.K X.mg F' G1 σ env H1 → (∀ ts G' σ' env H', GLe G1 G' → Rep X.K X.mg (F'.wts ts) G' σ' env H' → H' p = some (.frz b (.dK ks))) →
        ∀ D, H1 D = none → ∃ W : Nat → Nat → Hp → Prop, (∃ m, W 0 m (upd H1 D (.lst []))) ∧ ∀ j m H, W j m H →
          ((Itk p b ks).stop j H ∧ ∃ Hu, Unl X H Hu ∧ Q (.ref D) Hu) ∨ ((Itk p b ks).go j H ∧ ∃ Nx : Hp → Prop, (∀ H', Nx H' → ∃ m', m' < m ∧ W (j + 1) m' H') ∧ ∀ x H', (Itk p b ks).yld j H x H' → (∃ F, tG X.K X.mg F is g1 x (wipe σ vs) H' fun σ2 H2 => wipe σ2 vs = wipe σ vs ∧ (∃ F, tT X.K X.mg W0 F fYes σ2 H2 fun bb H3 =>
            if bb = true then iKeys (fun σ H Q => ∃ F, tB X.K X.mg W0 F (fVar i) σ H Q) σ2 H3 (fun J1 H4 => ∃ W1 : Nat → Nat → Hp → Prop, (∃ m, W1 0 m H4) ∧ ∀ j k H, W1 j k H →
              (J1.stop j H ∧ Nx H) ∨ (J1.go j H ∧ ∃ Nx1 : Hp → Prop, (∀ H', Nx1 H' → ∃ k', k' < k ∧ W1 (j + 1) k' H') ∧ ∀ x H', J1.yld j H x H' → (∃ F, tG X.K X.mg F is1 g2 x (wipe σ2 vs1) H' fun σ3 H5 => wipe σ3 vs1 = wipe σ2 vs1 ∧ (∃ F, tT X.K X.mg W0 F ft σ3 H5 fun bb H6 =>
                if bb = true then (∃ F, tB X.K X.mg W0 F fe σ3 H6 fun y H7 => ∃ acc, H7 D = some (.lst acc) ∧ acc.length < sizeLine ∧ Nx1 (upd H7 D (.lst (acc ++ [y])))) else Nx1 H6))))
            else Nx H3))) := by
      intro F' b G1 H1 lk gg R1 st D hD
      let Pv := fun (j : Nat) (H : Hp) => ∃ G' env' acc, GLe G1 G' ∧ Rep X.K X.mg (F'.temp D (.lst acc)) G' (wipe σ vs) env' H ∧ (cLoop2 i g1 g2 ft fe vs vs1 ((keysD dl).drop j) env' acc).wp P (fun _ _ _ => False)
      refine ⟨fun j m H => m + j = ks.length ∧ Pv j H, ⟨ks.length, rfl, G1, _, [], .refl, (R1.wiped rfl).temp hD (.lst upd_same .nil), q2⟩, ?_⟩
      rintro j m H2 ⟨em, G2, e2, acc, g2', R2, q⟩
      have hb2 : H2 p = some (.frz b (.dK ks)) := st ((D, .lst acc) :: F'.ts) G2 _ e2 H2 g2' R2
      cases m with
      | zero =>
        have e : j = ks.length := by omega
        subst e
        refine .inl ⟨walk_keys.stops H2 hb2, ?_⟩
        rw [List.drop_eq_nil_of_le (Nat.le_of_eq lens.symm)] at q
        have q : P (acc, e2) := q
        obtain ⟨R3, h0, hgD, rt, fr⟩ := R2.tempEnd
        have R4 := R3.backed R1 g2' hp
        have fr4 : Fresh F' σ (back env e2 vs) D := ⟨fun i ra => by
          obtain ⟨s, z1, z2, z3⟩ := ra
          rcases back_get _ _ i vs z1 with ⟨y1, y2⟩ | ⟨y1, y2⟩
          · have hp' := List.all_eq_true.mp hp i y1
            cases y3 : env[i]? with
            | none => rw [y3] at y2; cases y2; cases z2
            | some u =>
              rw [y3] at y2 hp'
              have y2 : s = u := y2
              subst y2
              cases s with
              | no => cases z2
              | val d => cases z2
              | own d => cases hp'
              | io n d => cases hp'
          · exact fr.1 i ⟨s, y2, z2, by rw [wipe_get, if_neg y1]; exact z3⟩, fr.2⟩
        rcases lk with rfl | ⟨_, d, od, rfl, nl, nz⟩
        · exact ⟨H2, .inl rfl, q D G2 H2 (gg.trans g2') R4 h0 hgD rt fr4⟩
        · obtain ⟨u, hu, R5⟩ := R4.unlock nl
          obtain ⟨o, hgd, _, _⟩ := R4.lkg d od lock_self
          exact ⟨_, .inr ⟨d, od, u, hu, nz, rfl⟩, q D G2 _ (gg.trans g2') R5 h0 hgD (rt.mono .refl (upd_ne fun z => by rw [z, hgd] at hgD; cases hgD)) fr4⟩
      | succ m =>
        have lt : j < ks.length := by omega
        refine .inr ⟨walk_keys.goes j H2 lt hb2, Pv (j + 1), fun H' pv => ⟨m, Nat.lt_succ_self m, by omega, pv⟩, fun x H3 y => ?_⟩
        obtain ⟨rfl, kk, v, hkv, rfl⟩ := walk_keys.yields j H2 x H3 lt hb2 y
        obtain ⟨ed, dvx⟩ := keys_item (K := X.K) (mg := X.mg) (G := G2) hk hkv
        obtain ⟨hj, ed⟩ := List.getElem?_eq_some_iff.mp ed
        rw [List.drop_eq_getElem_cons hj, ed] at q
        unfold cLoop2 at q
        obtain ⟨e3, ee, q⟩ := wp_of (Rs.wp_bind.mp q)
        obtain ⟨l', hl', q⟩ := wp_of (Rs.wp_bind.mp q)
        have q := Rs.wp_bind.mp q
        have el' := dctAt_of hl'
        refine ⟨_, G2, e2, keyD kk, R2, dvx, e3, ee, fun σ2 o2 R4 => ?_⟩
        have wq := wipe_out_eq o2 his
        refine ⟨wq, _, G2, e3, R4, fun G5 H5 g5 R5 => ?_⟩
        refine iteT ?_
        have hσ : σ2[i]? = σ[i]? := by
          have := congrArg (fun z => z[i]?) wq
          simp only [wipe_get, if_neg hi] at this
          exact this
        refine ⟨_, G5, e3, R5, ?_⟩
        have fv3 : fVar i e3 = .ok (.slot i, e3) := by simp only [fVar, el']
        rw [fv3]
        intro v' G6 H6 g6 R6 o6
        have o6 : σ2[i]? = some (some v') := o6
        have hx' : σ[i]? = some (some (V.ref p)) := hx
        rw [hσ, hx'] at o6
        cases o6
        have hb6 : H6 p = some (.frz b (.dK ks)) := st ((D, .lst acc) :: F'.ts) G6 _ e3 H6 ((g2'.trans g5).trans g6) R6
        obtain ⟨xv', hx2, dv2⟩ := R6.sl i _ el'
        have hx2 : σ2[i]? = some (some xv') := hx2
        rw [hσ, hx'] at hx2
        cases hx2
        obtain ⟨ks2, hg2, hk2⟩ : ∃ ks2, Rd G6 p (.dK ks2) ∧ ks2.map (·.1) = l'.map (·.1) := by
          cases dv2 with
          | dct a b c => exact ⟨_, a, b⟩
        have eks : ks2 = ks := by
          have h1 := (((gg.trans g2').trans g5).trans g6).rd hg
          rcases h1 with h1 | ⟨c1, h1⟩ <;> rcases hg2 with h2 | ⟨c2, h2⟩ <;> (rw [h1] at h2; cases h2; try rfl)
        subst eks
        have lens2 : ks2.length = (keysD l').length := by
          have := congrArg List.length hk2
          rw [List.length_map, List.length_map] at this
          unfold keysD; rw [List.length_map]; exact this
        refine ⟨p, b, rfl, .inl ⟨ks2, hb6, ?_⟩⟩
        let P1 := fun q : List Rt.D × En => (cLoop2 i g1 g2 ft fe vs vs1 ((keysD dl).drop (j + 1)) (wipeE q.2 vs) q.1).wp P (fun _ _ _ => False)
        let Pv1 := fun (j1 : Nat) (H : Hp) => ∃ G' env' acc', GLe G1 G' ∧ Rep X.K X.mg (F'.temp D (.lst acc')) G' (wipe σ2 vs1) env' H ∧ (cLoop g2 ft fe vs1 ((keysD l').drop j1) env' acc').wp P1 (fun _ _ _ => False)
        refine ⟨fun j1 k1 H => k1 + j1 = ks2.length ∧ Pv1 j1 H, ⟨ks2.length, rfl, G6, _, acc, (g2'.trans g5).trans g6, R6.wiped rfl, q⟩, ?_⟩
        rintro j1 k1 H7 ⟨ek, G7, e7, acc7, g7, R7, q7⟩
        have hb7 : H7 p = some (.frz b (.dK ks2)) := st ((D, .lst acc7) :: F'.ts) G7 _ e7 H7 g7 R7
        cases k1 with
        | zero =>
          have e : j1 = ks2.length := by omega
          subst e
          refine .inl ⟨walk_keys.stops H7 hb7, ?_⟩
          rw [List.drop_eq_nil_of_le (Nat.le_of_eq lens2.symm)] at q7
          exact ⟨G7, _, acc7, g7, R7.wiped ((wipe_in hv).trans wq), q7⟩
        | succ k1 =>
          have lt1 : j1 < ks2.length := by omega
          refine .inr ⟨walk_keys.goes j1 H7 lt1 hb7, Pv1 (j1 + 1), fun H' pv => ⟨k1, Nat.lt_succ_self k1, by omega, pv⟩, fun x1 H8 y1 => ?_⟩
          obtain ⟨rfl, kk1, v1, hkv1, rfl⟩ := walk_keys.yields j1 H7 x1 H8 lt1 hb7 y1
          obtain ⟨ed1, dvx1⟩ := keys_item (K := X.K) (mg := X.mg) (G := G7) hk2 hkv1
          obtain ⟨hj1, ed1⟩ := List.getElem?_eq_some_iff.mp ed1
          rw [List.drop_eq_getElem_cons hj1, ed1] at q7
          unfold cLoop at q7
          obtain ⟨e9, ee9, q7⟩ := wp_of (Rs.wp_bind.mp q7)
          refine ⟨_, G7, e7, keyD kk1, R7, dvx1, e9, ee9, fun σ3 o3 R9 => ⟨wipe_out_eq o3 his1, _, G7, e9, R9, Rs.wp_mono (Rs.wp_bind.mp q7) (fun t q G10 H10 g10 R10 => ?_) fun _ _ _ z => z.elim⟩⟩
          have wq1 := wipe_out_eq o3 his1
          cases ht : t.1 with
          | false =>
            rw [if_neg (by rw [ht]; exact Bool.false_ne_true)] at q
            refine iteF ?_
            exact ⟨G10, _, acc7, g7.trans g10, R10.wiped wq1, q⟩
          | true =>
            rw [if_pos ht] at q
            refine iteT ?_
            refine ⟨_, G10, t.2, R10, Rs.wp_mono (Rs.wp_bind.mp q) (fun r2 q v G11 H11 g11 R11 o11 => ?_) fun _ _ _ z => z.elim⟩
            obtain ⟨r3, G12, q, g12, R12, dv12⟩ := wp_esc R11 o11 (Rs.wp_bind.mp q)
            by_cases hz : acc7.length < sizeLine
            · have q : ((if acc7.length < sizeLine then cLoop g2 ft fe vs1 ((keysD l').drop (j1 + 1)) (wipeE r3.2 vs1) (acc7 ++ [r3.1]) else .bad) : Rs (List Rt.D × En)).wp _ _ := q
              rw [if_pos hz] at q
              obtain ⟨_, _, rt⟩ := R12.tsk (D, .lst acc7) (List.mem_cons_self ..)
              cases rt with
              | lst ha dl2 =>
                refine ⟨_, ha, by rw [dl2.length]; exact hz, G12, _, acc7 ++ [r3.1], ((g7.trans g10).trans g11).trans g12, ?_, q⟩
                exact (R12.wiped wq1).tempSet (.lst upd_same (dl2.append (.cons dv12 .nil)))
            · have q : ((if acc7.length < sizeLine then cLoop g2 ft fe vs1 ((keysD l').drop (j1 + 1)) (wipeE r3.2 vs1) (acc7 ++ [r3.1]) else .bad) : Rs (List Rt.D × En)).wp _ _ := q
              rw [if_neg hz] at q
              exact q.elim
    refine ⟨G, env, R, ?_⟩
    rw [fv]
    intro v G' H' g' R' o
    have o : σ[i]? = some (some v) := o
    have hx' : σ[i]? = some (some (V.ref p)) := hx
    rw [hx'] at o
    cases o
    rcases lock2 R' (g'.rd hg) with ⟨b, hb, st⟩ | ⟨hh, lc⟩
    · exact .inl ⟨p, b, rfl, .inl ⟨ks, hb, core F b G' H' (.inl rfl) g' R' st⟩⟩
    · refine .inr ⟨p, _, rfl, hh, trivial, fun od n => ⟨p, od, rfl, .inl ⟨ks, upd_same, ?_⟩⟩⟩
      obtain ⟨nl, R5, st⟩ := lc od
      exact core (F.lock p od) od G' _ (.inr ⟨rfl, p, od, rfl, nl, n⟩) g' R5 st
theorem po_comp2 {tg1 tg2 elt : Expr} {x : Str} {p1 p2 : Pos} {ifs : List Expr} {scope : Scope} {own : List (Str × Nat)} {pos : Pos} (Y : Hy X W k) (hb : PB X W (.Name x p1) (fVar i)) (ok : BlkOk X.N X.env.scope scope own)
    (hg1 : ∀ (s : Shared) (H : Hp) (C : Addr) (cl : List (Str × Addr)) (fp : List Addr), Hy (X.blk s H scope (compEnvC scope cl C X.env) fp) W0 k → PGt (X.blk s H scope (compEnvC scope cl C X.env) fp) tg1 is g1)
    (hb2 : ∀ (s : Shared) (H : Hp) (C : Addr) (cl : List (Str × Addr)) (fp : List Addr), Hy (X.blk s H scope (compEnvC scope cl C X.env) fp) W0 k → PB (X.blk s H scope (compEnvC scope cl C X.env) fp) W0 (.Name x p2) (fVar i))
    (hg2 : ∀ (s : Shared) (H : Hp) (C : Addr) (cl : List (Str × Addr)) (fp : List Addr), Hy (X.blk s H scope (compEnvC scope cl C X.env) fp) W0 k → PGt (X.blk s H scope (compEnvC scope cl C X.env) fp) tg2 is1 g2)
    (ht : ∀ (s : Shared) (H : Hp) (C : Addr) (cl : List (Str × Addr)) (fp : List Addr), Hy (X.blk s H scope (compEnvC scope cl C X.env) fp) W0 k → PTq (X.blk s H scope (compEnvC scope cl C X.env) fp) W0 ifs ft)
    (he : ∀ (s : Shared) (H : Hp) (C : Addr) (cl : List (Str × Addr)) (fp : List Addr), Hy (X.blk s H scope (compEnvC scope cl C X.env) fp) W0 k → PB (X.blk s H scope (compEnvC scope cl C X.env) fp) W0 elt fe)
    (his : ∀ j ∈ is, j ∈ own.map (·.2)) (his1 : ∀ j ∈ is1, j ∈ vs1) (hv : ∀ j ∈ vs1, j ∈ own.map (·.2)) (hi : i ∉ own.map (·.2)) (hs : ∀ y, foldedSetIterable (.Name x p1) X.env y = pure y := by intro _; rfl) (hs1 : ∀ env y, foldedSetIterable (.Name x p2) env y = pure y := by intro _ _; rfl) :
    PO X W (.ListComp elt [⟨tg1, .Name x p1, [], 0⟩, ⟨tg2, .Name x p2, ifs, 0⟩] scope pos) (fComp2 i g1 g2 ft fe (own.map (·.2)) vs1) :=
  fun F => pe_weak (pe_unl (pe_lc2 Y.calm Y.nd (pi_keys (pe_lk (hb F))) ok hv (fun s H C cl fp => pg_ex (hg1 s H C cl fp (Y.blk s H scope _ fp))) (fun s H C cl fp => pts_ex ptq_nil) (fun s H C cl fp => pi_keys (pe_ex (hb2 s H C cl fp (Y.blk s H scope _ fp))))
    (fun s H C cl fp => pg_ex (hg2 s H C cl fp (Y.blk s H scope _ fp))) (fun s H C cl fp => pts_ex (ht s H C cl fp (Y.blk s H scope _ fp))) (fun s H C cl fp => pe_ex (he s H C cl fp (Y.blk s H scope _ fp))) hs hs1)) fun σ H Q q => tLc2_of his his1 hv hi q
end
end Rt
set_option Elab.async false
set_option linter.all false
set_option maxRecDepth 100000
set_option maxHeartbeats 4000000
/-! isinstance(x, C), C a plain class of the text -/
namespace Rt
open PySem PySem.Spec L2
open PyProof.Rows hiding St
def someTypes : List String := ["NoneType", "bool", "int", "str", "list", "tuple", "dict"]
/-- what of the text isinstance with the class at C wants -/
structure ClsIs (K : PySem.W.Frag) (C : Addr) : Prop where
  cls : Cls K C
  ca : PySem.W.findIn K (.ref C) "__class__" = some (some (.builtin "object.__class__"))
  sp : PySem.W.specialIn K (.builtin "object.__class__") "__get__" = some (some (.builtin "getset_descriptor.__get__"))
  tk : PySem.W.takesIn K (.builtin "object.__class__") = some true
  ob : PySem.W.mroIn K C (.type "object") = some true
  no : (someTypes.all fun t => PySem.W.kitOne K (.type t) (.ref C) == some false) = true
theorem tyn_some {d : D} {t : String} (h : d.tyn = some t) : t ∈ someTypes := by
  cases d <;> cases h <;> decide
def isO (c : Str) : D → Option Bool
  | .obj c' _ => if c' = c then some true else none
  | d => d.tyn.map fun _ => false
def fIsO (c : Str) (fa : En → Rs (Hd × En)) : En → Rs (Hd × En) := fun e => fa e >>= fun r => Rs.of (r.1.get r.2) >>= fun d => Rs.of (isO c d) >>= fun b => .ok (.dat (.bl b), r.2)
section
variable {X : Cx} {W : Wsh} {k : Nat} {a : Expr} {fa : En → Rs (Hd × En)} {pos p pt : Pos} {c : Str} {C : Addr}
theorem pb_isO (hC : X.mg c = some (.ref C)) (hK : ClsIs X.K C) (hg : Gl X "isinstance") (hm : X.mg "isinstance" = none) (hv : bootBuiltins "isinstance" = some (.builtin "isinstance")) (hgT : Gl X c) (ha : PB X W a fa)
    (he : starEach [a, .Name c pt] X.env = (false, eval a X.env) :: starEach [.Name c pt] X.env := by rfl) (hpl : (backTo pos (starEach [.Name c pt] X.env)).any (·.1) = false := by rfl) (hs2 : starEach [.Name c pt] X.env = (false, eval (.Name c pt) X.env) :: starEach [] X.env := by rfl) (hdb : (c == ("__debug__" : Str)) = false := by decide) :
    PB X W (.Call (.Name "isinstance" p) [a, .Name c pt] [] pos) (fIsO c fa) :=
  fun F => pe_weak (pe_callB call_isi hg hm hv (pa_cons (ha F) (pa_cons (pe_glob (v := .ref C) hgT hC rfl hdb) pa_nil hs2) he) (by decide) (by decide) he hpl) fun σ H Q q => by
  obtain ⟨G, env, R, q⟩ := q
  refine ⟨G, env, R, Rs.wp_mono (Rs.wp_bind.mp q) (fun r q v G1 H1 g1 R1 o1 => ?_) fun _ _ _ z => z⟩
  obtain ⟨d, ed, q⟩ := wp_of (Rs.wp_bind.mp q)
  obtain ⟨b, eb, qq⟩ := wp_of (Rs.wp_bind.mp q)
  have base : ∀ t, d.tyn = some t → b = false → ∃ (x c : V) (t u : Value) (b : Bool), [v, V.ref C] = [x, c] ∧ ClsV c u ∧ TyX X.K H1 x t ∧ PySem.W.kitOne X.K t u = some b ∧ Q (.bl b) H1 := fun t n hb => by
    have h := List.all_eq_true.mp hK.no t (tyn_some n)
    have h := beq_iff_eq.mp h
    subst hb
    exact ⟨v, .ref C, .type t, .ref C, false, rfl, .own C, tyx_of R1 (o1.cur R1 ed) n, h, qq _ G1 H1 g1 R1 .bl⟩
  cases d with
  | obj c' df =>
    have eb : (if c' = c then some true else none) = some b := eb
    split at eb
    · rename_i hc
      cases eb
      subst hc
      obtain ⟨a, C', dx, fs, rfl, hc', hh, _⟩ := cur_obj R1 (o1.cur R1 ed)
      rw [hC] at hc'; cases hc'
      exact ⟨_, .ref C, .ref C, .ref C, true, rfl, .own C, .base (.ins hh hK.cls hK.ca hK.sp hK.tk hK.ob), by unfold PySem.W.kitOne; rw [if_pos (by simp)], qq _ G1 H1 g1 R1 .bl⟩
    · cases eb
  | non => cases eb; exact base _ rfl rfl
  | bl x => cases eb; exact base _ rfl rfl
  | int x => cases eb; exact base _ rfl rfl
  | str x => cases eb; exact base _ rfl rfl
  | lst x => cases eb; exact base _ rfl rfl
  | tup x => cases eb; exact base _ rfl rfl
  | dct x => cases eb; exact base _ rfl rfl
  | tup0 => cases eb; exact base _ rfl rfl
  | _ => cases eb
end
end Rt
set_option Elab.async false
set_option linter.all false
set_option maxRecDepth 100000
set_option maxHeartbeats 4000000
/-! dict == dict, values ints -/
namespace Rt
open PySem PySem.Spec L2
open PyProof.Rows hiding St

def isI : V → Option Int
  | .int i => some i
  | _ => none
def hitB {κ : Type} [DecidableEq κ] (kb : List (κ × V)) : List (κ × V) → Bool
  | [] => true
  | p :: l => match valV kb p.1 with
    | none => false
    | some y => (isI p.2 == isI y) && hitB kb l
theorem isI_eq {x : V} (h : (isI x).isSome = true) : ∃ i, x = .int i := by
  cases x with
  | int i => exact ⟨i, rfl⟩
  | _ => cases h
section
variable {κ : Type} [DecidableEq κ]
theorem hits_b {A : Around} {s : Shared} {kvs : List (κ × V)} {vb : List (κ × Value)} (rb : KV kvs vb) (ib : ∀ k y, valV kvs k = some y → (isI y).isSome = true) : ∀ {ks : List (κ × V)} {va : List (κ × Value)} (ra : KV ks va),
    (∀ p ∈ ks, (isI p.2).isSome = true) → ks.length = va.length → PySem.W.KeqHits A s vb va (hitB kvs ks) ∨ hitB kvs ks = false ∧ PySem.W.KeqHits A s vb va false := by
  intro ks va ra
  unfold KV at ra
  induction ra with
  | nil => intro _ _; exact .inl .nil
  | @cons p q ps qs h t ih =>
    intro hp hl
    obtain ⟨h1, h2⟩ := h
    obtain ⟨k, v⟩ := q
    have h1' : p.1 = k := h1
    have rr := rb.val p.1
    have ih := ih (fun p m => hp p (List.mem_cons_of_mem _ m)) (by simpa using hl)
    unfold hitB
    cases e : valV kvs p.1 with
    | none =>
      rw [e] at rr
      cases e2 : valueAt vb p.1 with
      | none => rw [h1'] at e2; exact .inl (.miss e2)
      | some y => rw [e2] at rr; exact (show False from rr).elim
    | some y =>
      have iy := ib _ _ e
      rw [e] at rr
      cases e2 : valueAt vb p.1 with
      | none => rw [e2] at rr; exact (show False from rr).elim
      | some u =>
        rw [e2] at rr
        have rr : RelV y u := rr
        rw [h1'] at e2
        obtain ⟨i, hi⟩ := isI_eq iy
        obtain ⟨j, hj⟩ := isI_eq (hp p List.mem_cons_self)
        rw [hi] at rr
        have h2 : RelV p.2 v := h2
        rw [hj] at h2
        obtain ⟨t1, rfl⟩ := h2
        obtain ⟨t2, rfl⟩ := rr
        rw [hi, hj]
        have ee : (isI (.int j) == isI (.int i)) = (j == i) := by
          show (some j == some i) = _
          rfl
        simp only [ee]
        rcases ih with ih | ⟨z, ih⟩
        · exact .inl (.hit e2 (SeqAt.EqAt.int_int j t1 i t2) ih)
        · rw [z]
          have := PySem.W.KeqHits.hit (A := A) (s := s) (k := k) e2 (SeqAt.EqAt.int_int j t1 i t2) ih
          rw [Bool.and_false] at this ⊢
          exact .inr ⟨rfl, this⟩
end
section
variable {X : Cx}
def rEqK : R2 := fun x y H Q => ∃ a b ks ls, x = .ref a ∧ y = .ref b ∧ Rd H a (.dK ks) ∧ Rd H b (.dK ls) ∧ (∀ p ∈ ks, (isI p.2).isSome = true) ∧ (∀ p ∈ ls, (isI p.2).isSome = true) ∧ Q (.bl (ks.length == ls.length && hitB ls ks)) H
theorem valV_mem {κ : Type} [DecidableEq κ] : ∀ {l : List (κ × V)} {k : κ} {y : V}, valV l k = some y → ∃ p ∈ l, p.2 = y
  | [], _, _, h => by cases h
  | p :: r, k, y, h => by
    by_cases e : p.1 = k
    · rw [valV_pos e] at h; cases h; exact ⟨p, List.mem_cons_self, rfl⟩
    · rw [valV_neg e] at h
      obtain ⟨q, m, z⟩ := valV_mem h
      exact ⟨q, List.mem_cons_of_mem _ m, z⟩
theorem op_eqK (hu : X.A.units < cLine) : OpR X (compareOp .Eq) rEqK := by
  intro pins s σ H x y v u Q I rx ry h
  obtain ⟨a, b, ks, ls, rfl, rfl, ea, eb, ik, il, q⟩ := h
  obtain rfl : v = Value.ref a := rx
  obtain rfl : u = Value.ref b := ry
  obtain ⟨_, ya, va, ra, da⟩ := dk_rd I.hok ea
  obtain ⟨_, yb, vb, rb, db⟩ := dk_rd I.hok eb
  have ha : ks.length = va.length := ra.length
  have hb : ls.length = vb.length := rb.length
  have hz := hits_b (A := X.A.in1) (s := s) rb (fun k y e => by obtain ⟨p, m, z⟩ := valV_mem e; exact z ▸ il p m) ra ik ha
  rcases hz with hz | ⟨z, hz⟩
  · exact PySem.W.keq_eq (knd := mixKind X.prog X.w) (r := hitB ls ks) ya yb da db hu (fun _ => hz) (fin_bl I q (by rw [ha, hb]))
  · exact PySem.W.keq_eq (knd := mixKind X.prog X.w) (r := false) ya yb da db hu (fun _ => hz) (fin_bl I q (by rw [ha, hb, z]))
end
/-! upon data -/
def isID : D → Option Int
  | .int i => some i
  | _ => none
def hitD (kb : List (Key × D)) : List (Key × D) → Bool
  | [] => true
  | p :: l => match look kb p.1 with
    | none => false
    | some y => (isID p.2 == isID y) && hitD kb l
def intsD (l : List (Key × D)) : Bool := l.all fun p => (isID p.2).isSome
def dEqX : D → D → Option D
  | .dct ka, .dct kb => if (intsD ka && intsD kb) = true then some (.bl (ka.length == kb.length && hitD kb ka)) else none
  | a, b => dEq a b
section
variable {K : PySem.W.Frag} {mg : Str → Option Value} {G : Hp}
theorem intsX_v : ∀ {ks : List (Key × V)} {dk : List (Key × D)}, ks.map (·.1) = dk.map (·.1) → DVs K mg G (ks.map (·.2)) (dk.map (·.2)) → intsD dk = true → ∀ p ∈ ks, (isI p.2).isSome = true
  | [], [], _, _, _, p, m => absurd m List.not_mem_nil
  | [], _ :: _, e, _, _, _, _ => by cases e
  | _ :: _, [], e, _, _, _, _ => by cases e
  | (a, v) :: ks, (b, u) :: dk, e, .cons h l, q, p, m => by
    unfold intsD at q
    rw [List.all_cons, Bool.and_eq_true] at q
    injection e with _ e2
    rcases List.mem_cons.mp m with rfl | m
    · cases u with
      | int i => cases h; rfl
      | _ => cases q.1
    · exact intsX_v e2 l q.2 p m
theorem isI_v {v : V} {d : D} (h : DV K mg G v d) (q : (isID d).isSome = true) : isI v = isID d := by
  cases d with
  | int i => cases h; rfl
  | _ => cases q
theorem lookX_mem {κ : Type} [DecidableEq κ] {l : List (κ × D)} {k : κ} {y : D} (h : look l k = some y) : ∃ p ∈ l, p.2 = y := by
  unfold look at h
  cases e : l.find? fun p => decide (p.1 = k) with
  | none => rw [e] at h; cases h
  | some p => rw [e] at h; cases h; exact ⟨p, List.mem_of_find?_eq_some e, rfl⟩
theorem hit_v {ls : List (Key × V)} {dl : List (Key × D)} (el : ls.map (·.1) = dl.map (·.1)) (ll : DVs K mg G (ls.map (·.2)) (dl.map (·.2))) (il : intsD dl = true) :
    ∀ {ks : List (Key × V)} {dk : List (Key × D)}, ks.map (·.1) = dk.map (·.1) → DVs K mg G (ks.map (·.2)) (dk.map (·.2)) → intsD dk = true → hitB ls ks = hitD dl dk
  | [], [], _, _, _ => rfl
  | [], _ :: _, e, _, _ => by cases e
  | _ :: _, [], e, _, _ => by cases e
  | (a, v) :: ks, (b, u) :: dk, e, .cons h l, q => by
    have q0 := q
    unfold intsD at q
    rw [List.all_cons, Bool.and_eq_true] at q
    injection e with e1 e2
    have e1 : a = b := e1
    have ih := hit_v el ll il e2 l q.2
    obtain ⟨h1, h2⟩ := look_dv (k := b) el ll
    unfold hitB hitD
    rw [e1]
    show (match valV ls b with | none => false | some y => (isI v == isI y) && hitB ls ks) = (match look dl b with | none => false | some y => (isID u == isID y) && hitD dl dk)
    cases z : look dl b with
    | none => rw [h2 z]
    | some y =>
      obtain ⟨w, hw, dw⟩ := h1 y z
      rw [hw]
      obtain ⟨p, m, rfl⟩ := lookX_mem z
      have iy := List.all_eq_true.mp il p m
      show ((isI v == isI w) && hitB ls ks) = ((isID u == isID p.2) && hitD dl dk)
      rw [isI_v h q.1, isI_v dw iy, ih]
end
section
variable {X : Cx} {W : Wsh}
theorem od_eqX : OpD X (rOr (rOr rEq (rEqD X.K)) rEqK) dEqX := by
  intro F G σ env H x y p q d Q R cx cy e k
  unfold dEqX at e
  split at e
  · rename_i dka dkb
    split at e
    · rename_i hz
      cases e
      rw [Bool.and_eq_true] at hz
      obtain ⟨a, ks, rfl, ra, ka, la⟩ := cur_dct R cx
      obtain ⟨b, ls, rfl, rb, kb, lb⟩ := cur_dct R cy
      have ea : ks.length = dka.length := by have := congrArg List.length ka; simpa using this
      have eb : ls.length = dkb.length := by have := congrArg List.length kb; simpa using this
      have en := hit_v kb lb hz.2 ka la hz.1
      rw [← ea, ← eb, ← en] at k
      exact or2 ⟨a, b, ks, ls, rfl, rfl, ra, rb, intsX_v ka la hz.1, intsX_v kb lb hz.2, k _ G H .refl R .bl⟩
    · cases e
  · exact or1 (od_eq F G σ env H x y p q d Q R cx cy e k)
variable {k : Nat}
theorem pb_eqX (Y : Hy X W k) {a b : Expr} {fa fb} {pos} (ha : PB X W a fa) (hb : PB X W b fb) : PB X W (.Compare a [.Eq] [b] pos) (fOp dEqX fa fb) := pb_cmp ((op_eq.or (op_eqD Y.un)).or (op_eqK (by have := Y.un; omega))) od_eqX ha hb (nobehind _ (by decide) (by decide))
theorem pt_eqX (Y : Hy X W k) {a b : Expr} {fa fb} {pos} (ha : PB X W a fa) (hb : PB X W b fb) : PTt X W (.Compare a [.Eq] [b] pos) (fTst (fOp dEqX fa fb)) := ptt_cmp ((op_eq.or (op_eqD Y.un)).or (op_eqK (by have := Y.un; omega))) od_eqX ha hb (nobehind _ (by decide) (by decide))
end
end Rt
set_option Elab.async false
set_option linter.all false
set_option maxRecDepth 100000
set_option maxHeartbeats 4000000
/-! x in xs, x a sequence -/
namespace Rt
open PySem PySem.Spec L2
open PyProof.Rows hiding St
def inDeep (x : D) (l : List D) : Option Bool := if (x.seqs && D.seqsA l && x.py.canLay0 && PyData.canLayAll0 (D.pys l) && decide (x.py.depth ≤ 60)) = true then some ((D.pys l).any fun z => PyData.eqv z x.py) else none
def dInBX (x y : D) : Option Bool := match dInB x y with
  | some b => some b
  | none => match y with
    | .lst l => inDeep x l
    | .tup l => inDeep x l
    | _ => none
def dInX (x y : D) : Option D := (dInBX x y).map .bl
def dNinX (x y : D) : Option D := (dInBX x y).map fun b => .bl (!b)
section
variable {X : Cx} {W : Wsh} {k : Nat} {a b : Expr} {fa fb : En → Rs (Hd × En)} {pos : Pos}
def rInT (K : PySem.W.Frag) (n : Bool) : R2 := fun x y H Q => ∃ d ds, Dp K H x d ∧ (Dp K H y (.list ds) ∨ Dp K H y (.tuple ds)) ∧ d.canLay0 = true ∧ PyData.canLayAll0 ds = true ∧ d.depth ≤ 60 ∧ Q (.bl (if n = true then !(ds.any fun z => PyData.eqv z d) else ds.any fun z => PyData.eqv z d)) H
theorem op_inT (hu : X.A.units + 64 < cLine) : OpR X (compareOp .In) (rInT X.K false) := by
  intro pins s σ H x y v u Q I rx ry h
  obtain ⟨d, ds, hd, he, sd, se, dp, q⟩ := h
  obtain ⟨as, r1⟩ := Dp.reads I d x v hd rx
  have hr : X.A.units + 1 + min (PyData.depthAll ds) d.depth < cLine := by
    have : min (PyData.depthAll ds) d.depth ≤ d.depth := Nat.min_le_right _ _
    omega
  rcases he with he | he
  · obtain ⟨bs, r2⟩ := Dp.reads I (.list ds) y u he ry
    exact SeqAt.in_list_reads r2 r1 se sd hr ⟨.bl _, H, I, rfl, q⟩
  · obtain ⟨bs, r2⟩ := Dp.reads I (.tuple ds) y u he ry
    exact SeqAt.in_tuple_reads r2 r1 se sd hr ⟨.bl _, H, I, rfl, q⟩
theorem op_ninT (hu : X.A.units + 64 < cLine) : OpR X (compareOp .NotIn) (rInT X.K true) := by
  intro pins s σ H x y v u Q I rx ry h
  obtain ⟨d, ds, hd, he, sd, se, dp, q⟩ := h
  obtain ⟨as, r1⟩ := Dp.reads I d x v hd rx
  have hr : X.A.units + 1 + min (PyData.depthAll ds) d.depth < cLine := by
    have : min (PyData.depthAll ds) d.depth ≤ d.depth := Nat.min_le_right _ _
    omega
  rcases he with he | he
  · obtain ⟨bs, r2⟩ := Dp.reads I (.list ds) y u he ry
    exact SeqAt.notIn_list_reads r2 r1 se sd hr ⟨.bl _, H, I, rfl, q⟩
  · obtain ⟨bs, r2⟩ := Dp.reads I (.tuple ds) y u he ry
    exact SeqAt.notIn_tuple_reads r2 r1 se sd hr ⟨.bl _, H, I, rfl, q⟩
theorem deep_aux {n : Bool} {F : Fr} {G : Hp} {σ : L2.St} {env : En} {H : Hp} {x y : V} {p q : D} {b : Bool} {Q : VK} (R : Rep X.K X.mg F G σ env H) (cx : Cur X.K X.mg G H x p) (cy : Cur X.K X.mg G H y q) (e : dInBX p q = some b) (z : dInB p q = none) (k : Q (.bl (if n = true then !b else b)) H) : rInT X.K n x y H Q := by
  unfold dInBX at e
  rw [z] at e
  have go : ∀ l : List D, inDeep p l = some b → (Dp X.K H y (.list (D.pys l)) ∨ Dp X.K H y (.tuple (D.pys l))) → rInT X.K n x y H Q := by
    intro l e h
    unfold inDeep at e
    split at e
    · rename_i hz
      simp only [Bool.and_eq_true, decide_eq_true_eq] at hz
      injection e with e
      exact ⟨p.py, D.pys l, cur_dp R cx hz.1.1.1.1, h, hz.1.1.2, hz.1.2, hz.2, by rw [e]; exact k⟩
    · cases e
  have sq : ∀ l : List D, inDeep p l = some b → D.seqsA l = true := by
    intro l e
    unfold inDeep at e
    split at e
    · rename_i hz
      simp only [Bool.and_eq_true] at hz
      exact hz.1.1.1.2
    · cases e
  cases q with
  | lst l => exact go l e (.inl (cur_dp R cy (sq l e)))
  | tup l => exact go l e (.inr (cur_dp R cy (sq l e)))
  | _ => cases e
theorem od_inX : OpD X (rOr (rOr (rIn X.K false) (rOr rIs (rDi false))) (rInT X.K false)) dInX := by
  intro F G σ env H x y p q d Q R cx cy e k
  unfold dInX at e
  cases z : dInBX p q with
  | none => rw [z] at e; cases e
  | some b =>
    rw [z] at e
    cases e
    cases z2 : dInB p q with
    | some b2 =>
      have : b2 = b := by unfold dInBX at z; rw [z2] at z; exact Option.some.inj z
      subst this
      exact or1 (od_in F G σ env H x y p q _ Q R cx cy (by unfold dIn; rw [z2]; rfl) k)
    | none => exact or2 (deep_aux (n := false) R cx cy z z2 (k _ G H .refl R .bl))
theorem od_ninX : OpD X (rOr (rOr (rIn X.K true) (rOr rNis (rDi true))) (rInT X.K true)) dNinX := by
  intro F G σ env H x y p q d Q R cx cy e k
  unfold dNinX at e
  cases z : dInBX p q with
  | none => rw [z] at e; cases e
  | some b =>
    rw [z] at e
    cases e
    cases z2 : dInB p q with
    | some b2 =>
      have : b2 = b := by unfold dInBX at z; rw [z2] at z; exact Option.some.inj z
      subst this
      exact or1 (od_nin F G σ env H x y p q _ Q R cx cy (by unfold dNin; rw [z2]; rfl) k)
    | none => exact or2 (deep_aux (n := true) R cx cy z z2 (k _ G H .refl R .bl))
theorem pb_inX (Y : Hy X W k) (ha : PB X W a fa) (hb : PB X W b fb) (hm : behindInMarks .In b = false) : PB X W (.Compare a [.In] [b] pos) (fOp dInX fa fb) := pb_cmp ((orr_in Y).or (op_inT Y.un)) od_inX ha hb hm
theorem pt_inX (Y : Hy X W k) (ha : PB X W a fa) (hb : PB X W b fb) (hm : behindInMarks .In b = false) : PTt X W (.Compare a [.In] [b] pos) (fTst (fOp dInX fa fb)) := ptt_cmp ((orr_in Y).or (op_inT Y.un)) od_inX ha hb hm
theorem pb_ninX (Y : Hy X W k) (ha : PB X W a fa) (hb : PB X W b fb) (hm : behindInMarks .NotIn b = false) : PB X W (.Compare a [.NotIn] [b] pos) (fOp dNinX fa fb) := pb_cmp ((orr_nin Y).or (op_ninT Y.un)) od_ninX ha hb hm
theorem pt_ninX (Y : Hy X W k) (ha : PB X W a fa) (hb : PB X W b fb) (hm : behindInMarks .NotIn b = false) : PTt X W (.Compare a [.NotIn] [b] pos) (fTst (fOp dNinX fa fb)) := ptt_cmp ((orr_nin Y).or (op_ninT Y.un)) od_ninX ha hb hm
end
end Rt
set_option Elab.async false
set_option linter.all false
set_option maxRecDepth 100000
set_option maxHeartbeats 4000000
/-! a + b of two lists: a new list of its own -/
namespace Rt
open PySem PySem.Spec L2
open PyProof.Rows hiding St
def dCatL : D → D → Option D
  | .lst x, .lst y => if x.length + y.length ≤ sizeLine then some (.lst (x ++ y)) else none
  | _, _ => none
def fOpO (op : D → D → Option D) (fa fb : En → Rs (Hd × En)) : En → Rs (D × En) := fun e => fa e >>= fun r => fb r.2 >>= fun q => Rs.of (r.1.get q.2) >>= fun x => Rs.of (q.1.get q.2) >>= fun y => Rs.of (op x y) >>= fun d => .ok (d, q.2)
section
variable {X : Cx} {W : Wsh} {fa fb : En → Rs (Hd × En)} {a b : Expr} {pos : Pos}
def OpDO (X : Cx) (r : R2) (op : D → D → Option D) : Prop := ∀ (F : Fr) (G : Hp) (σ : L2.St) (env : En) (H : Hp) (x y : V) (p q d : D) (Q : VK), Rep X.K X.mg F G σ env H → Cur X.K X.mg G H x p → Cur X.K X.mg G H y q → op p q = some d →
  (∀ a G' H', GLe G G' → Rep X.K X.mg F G' σ env H' → F.H0 a = none → G' a = none → Root X.K X.mg G' H' a d → Fresh F σ env a → Q (.ref a) H') → r x y H Q
theorem tOpO_of {r : R2} {op : D → D → Option D} (ho : OpDO X r op) {F : Fr} {σ : L2.St} {H : Hp} {Q : VK} (h : tO X.K X.mg W F (fOpO op fa fb) σ H Q) : tOp r (tB X.K X.mg W F fa) (tB X.K X.mg W F fb) σ H Q := by
  obtain ⟨G, env, R, h⟩ := h
  refine ⟨G, env, R, Rs.wp_mono (Rs.wp_bind.mp h) (fun r h x G1 H1 g1 R1 o1 => ?_) fun _ _ _ z => z⟩
  refine ⟨G1, r.2, R1, Rs.wp_mono (Rs.wp_bind.mp h) (fun q h y G2 H2 g2 R2 o2 => ?_) fun _ _ _ z => z.mono g1⟩
  obtain ⟨p, ep, h⟩ := wp_of (Rs.wp_bind.mp h)
  obtain ⟨u, eu, h⟩ := wp_of (Rs.wp_bind.mp h)
  obtain ⟨d, ed, k⟩ := wp_of (Rs.wp_bind.mp h)
  exact ho F G2 σ q.2 H2 x y p u d Q R2 ((o1.mono g2).cur R2 ep) (o2.cur R2 eu) ed fun v G3 H3 g3 R3 => k v G3 H3 ((g1.trans g2).trans g3) R3
theorem od_catL : OpDO X rCat dCatL := by
  intro F G σ env H x y p q d Q R cx cy e k
  unfold dCatL at e
  split at e
  · split at e
    · rename_i hz
      cases e
      obtain ⟨a, xs, rfl, ha, la⟩ := cur_lst R cx
      obtain ⟨b, ys, rfl, hb, lb⟩ := cur_lst R cy
      exact ⟨a, b, xs, ys, rfl, rfl, ha, hb, by rw [la.length, lb.length]; exact hz, fun p hp => own_new R hp (.lst upd_same (la.append lb)) k⟩
    · cases e
  · cases e
theorem po_cat (ha : PB X W a fa) (hb : PB X W b fb) : PO X W (.BinOp a .Add b pos) (fOpO dCatL fa fb) := fun F => pe_weak (pe_op op_cat (ha F) (hb F)) fun _ _ _ h => tOpO_of od_catL h
end
section
variable {e e1 e2 : En} {h1 h2 : Hd} {fa fb : En → Rs (Hd × En)} {op : D → D → Option D} {x y d : D}
theorem ev_opO (a : fa e = .ok (h1, e1)) (b : fb e1 = .ok (h2, e2)) (p : h1.get e2 = some x) (q : h2.get e2 = some y) (o : op x y = some d) : fOpO op fa fb e = .ok (d, e2) := by
  simp only [fOpO, a, b, p, q, o, Rs.ok_bind, of_some]
end
end Rt
set_option Elab.async false
set_option linter.all false
set_option maxRecDepth 100000
set_option maxHeartbeats 4000000
/-! dicts keyed by tuples that agree -/
namespace Rt
open PySem PySem.Spec L2
open PyProof.Rows hiding St
theorem key_get {κ β : Type} : ∀ {l : List (κ × β)}, (l.map (·.1)).Nodup → ∀ {i j : Nat} {k : κ} {p q : β}, l[i]? = some (k, p) → l[j]? = some (k, q) → q = p
  | [], _, _, _, _, _, _, h, _ => by simp at h
  | x :: l, nd, 0, 0, k, p, q, h1, h2 => by
    simp at h1 h2
    rw [h1] at h2
    injection h2 with _ h2
    exact h2.symm
  | x :: l, nd, 0, j + 1, k, p, q, h1, h2 => by
    simp at h1 h2
    rw [List.map_cons, List.nodup_cons] at nd
    subst h1
    exact absurd (List.mem_map.mpr ⟨(k, q), List.mem_of_getElem? h2, rfl⟩) nd.1
  | x :: l, nd, i + 1, 0, k, p, q, h1, h2 => by
    simp at h1 h2
    rw [List.map_cons, List.nodup_cons] at nd
    subst h2
    exact absurd (List.mem_map.mpr ⟨(k, p), List.mem_of_getElem? h1, rfl⟩) nd.1
  | x :: l, nd, i + 1, j + 1, k, p, q, h1, h2 => by
    rw [List.map_cons, List.nodup_cons] at nd
    exact key_get nd.2 (by simpa using h1) (by simpa using h2)
section
variable {P : Program} {w : World} {K : Type} [DecidableEq K] {knd : HeapKind P w K} {A : Around} {E : Value → Shared → Prop} {s : Shared}
/-- all pairs of the one are pairs of the other -/
theorem agreeH {nm : String} {a b : Addr} {xs ys : List (K × Addr × Value)} {Q : Bool → Shared → Prop} (ha : (a == sysModules) = false) (hb : (b == sysModules) = false) (da : s.heap.DictOfH knd a xs) (db : s.heap.DictOfH knd b ys) (hu : knd.room A)
    (len : xs.length = ys.length) (eqs : ∀ x ∈ xs, ∃ (j : Nat) (p : Addr × Value), ys[j]? = some (x.1, p) ∧ SeqAt.EqAt A s x.2.2 p.2 true) (q : Q true s) : wpAny (model P w) A (Builtin.Dict.samePairs nm a b) Q E s := by
  obtain ⟨oa, es, ep, la, _, dda, ea, ka, _⟩ := da
  obtain ⟨ob, es', ep', lb, _, ddb, eb, kb, nb⟩ := db
  have za : es.size = xs.length := size_of_entries ea
  have zb : es'.size = ys.length := size_of_entries eb
  unfold Builtin.Dict.samePairs Builtin.Dict.showsAll
  rw [if_neg (by rw [ha]; exact Bool.false_ne_true), if_neg (by rw [hb]; exact Bool.false_ne_true)]
  refine wpAny_bind (wpAny_pure (wpAny_bind (wpAny_pure (wpAny_bind (wpAny_dictEntries la dda ?_)))))
  dsimp only
  refine wpAny_bind (wpAny_dictEntries lb ddb ?_)
  rw [if_neg (by rw [za, zb, len]; simp)]
  refine wpAny_bind (wpAny_dictEpoch la dda (wpAny_bind ?_))
  rw [Std.Legacy.Range.forIn_eq_forIn_range']
  simp only [Std.Legacy.Range.size, Nat.sub_zero, Nat.add_sub_cancel, Nat.div_one]
  refine wpAny_forIn_list _ (fun rest r s' => s' = s ∧ r = (none, ()) ∧ ∃ i, rest = List.range' i (es.size - i) ∧ i ≤ es.size) _ ?_ ?_ _ _ ⟨rfl, rfl, 0, by simp, Nat.zero_le _⟩
  · rintro x rest r s' ⟨rfl, rfl, i, hr, hi⟩
    have lt : i < es.size := by
      rcases Nat.lt_or_ge i es.size with h | h
      · exact h
      · rw [Nat.sub_eq_zero_of_le h] at hr; simp at hr
    have e : es.size - i = (es.size - (i + 1)) + 1 := by omega
    rw [e, List.range'_succ] at hr
    injection hr with hx hrest
    subst hx
    refine wpAny_bind (wpAny_dictEntries la dda ?_)
    have lx : x < xs.length := by omega
    have ex : es[x]? = some (entryOfKey knd xs[x]) := by rw [entry_at ea x, List.getElem?_eq_getElem lx]; rfl
    rw [ex]
    have mx : xs[x] ∈ xs := List.getElem_mem lx
    obtain ⟨j, p, hj, he⟩ := eqs _ mx
    show wpAny _ _ (holding [(entryOfKey knd xs[x]).key, (entryOfKey knd xs[x]).val] _ >>= _) _ _ _
    refine wpAny_bind (wpAny_holding (wpAny_bind (wpAny_dictFind_heap (k := (xs[x]).1) hu (ka _ mx) lb ddb eb kb nb (fun no => absurd hj (no j p)) fun j' p' hj' => ?_)))
    have lj := (List.getElem?_eq_some_iff.mp hj').1
    have ep2 : p' = p := by
      have u := key_get nb hj hj'
      exact u
    subst ep2
    refine wpAny_bind (wpAny_dictEntries lb ddb ?_)
    have ey : es'[j']? = some (entryOfKey knd ((xs[x]).1, p')) := by rw [entry_at eb j', hj']; rfl
    rw [ey]
    refine wpAny_holding (he P w _ _ ?_)
    show wpAny _ _ (if (!true) = true then _ else _) _ _ _
    rw [if_neg (by decide)]
    refine wpAny_bind (wpAny_dictEpoch la dda ?_)
    rw [if_neg (by simp)]
    exact wpAny_pure ⟨rfl, rfl, x + 1, hrest, lt⟩
  · rintro r s' ⟨rfl, rfl, _⟩
    exact wpAny_pure q
end
section
variable {P : Program} {w : World} {K : Type} [DecidableEq K] {knd : HeapKind P w K} {A : Around} {E : Value → Shared → Prop} {s : Shared}
theorem neH {a b : Addr} {xs ys : List (K × Addr × Value)} {Q : Value → Shared → Prop} (ha : (a == sysModules) = false) (hb : (b == sysModules) = false) (da : s.heap.DictOfH knd a xs) (db : s.heap.DictOfH knd b ys) (hc : A.units < cLine) (hu : knd.room A.in1)
    (len : xs.length = ys.length) (eqs : ∀ x ∈ xs, ∃ (j : Nat) (p : Addr × Value), ys[j]? = some (x.1, p) ∧ SeqAt.EqAt A.in1 s x.2.2 p.2 true) (q : Q (.bool false) s) : wpAny (model P w) A (compareOp .NotEq (.ref a) (.ref b)) Q E s := by
  refine wpAny_richCompare_same_room (op := .NotEq) da.typeIs db.typeIs PySem.F.slot_dict_ne (wpAny_call_entry PySem.F.slot_dict_ne da.typeIs PySem.F.entry_dict_ne ?_ (PySem.F.args_dict_ne_2 _ _)) hc
  show wpAny _ _ (Builtin.Dict.dictSlotArgs "__ne__" ⟨[.ref a, .ref b], []⟩ >>= _) _ _ s
  refine wpAny_bind ?_
  unfold Builtin.Dict.dictSlotArgs
  refine wpAny_bind (wpAny_notOrdered_dict da.typeIs ?_)
  show wpAny _ _ (pure (Value.ref a, Value.ref b)) _ _ s
  refine wpAny_pure ?_
  refine wpAny_bind (wpAny_isInstance (T := "dict") db.typeIs PySem.F.sub_dict_dict ?_)
  simp only [Bool.not_true, Bool.false_eq_true, if_false]
  refine wpAny_bind (wpAny_pure (wpAny_bind (wpAny_pure (wpAny_bind (agreeH ha hb da db hu len eqs ?_)))))
  refine wpAny_pure ⟨_, rfl, ?_, ?_⟩
  · exact fun x => nomatch x
  · simpa using q
end
/-! upon data -/
def agrD {κ : Type} [DecidableEq κ] (kb : List (κ × D)) : List (κ × D) → Bool
  | [] => true
  | p :: l => (match look kb p.1, p.2 with
    | some (.int j), .int i => decide (i = j)
    | _, _ => false) && agrD kb l
def dNeT : D → D → Option D
  | .dcT ka, .dcT kb => if (ka.length == kb.length && agrD kb ka) = true then some (.bl false) else none
  | a, b => dNe a b
theorem agr_iff {κ : Type} [DecidableEq κ] {kb : List (κ × D)} : ∀ {l : List (κ × D)}, agrD kb l = true ↔ ∀ p ∈ l, ∃ i, p.2 = .int i ∧ look kb p.1 = some (.int i)
  | [] => ⟨fun _ p m => absurd m List.not_mem_nil, fun _ => rfl⟩
  | p :: l => by
    have ih := agr_iff (kb := kb) (l := l)
    unfold agrD
    rw [Bool.and_eq_true, ih]
    constructor
    · rintro ⟨h1, h2⟩ q m
      rcases List.mem_cons.mp m with rfl | m
      · split at h1
        · rename_i j i e1 e2
          have := of_decide_eq_true h1
          subst this
          exact ⟨_, e2, e1⟩
        · cases h1
      · exact h2 q m
    · intro h
      refine ⟨?_, fun q m => h q (List.mem_cons_of_mem _ m)⟩
      obtain ⟨i, e1, e2⟩ := h p List.mem_cons_self
      rw [e1, e2]
      exact decide_eq_true rfl
section
variable {X : Cx} {W : Wsh}
def rNeT : R2 := fun x y H Q => ∃ a b ks ls, x = .ref a ∧ y = .ref b ∧ Rd H a (.dT ks) ∧ Rd H b (.dT ls) ∧ ks.length = ls.length ∧ (∀ p ∈ ks, ∃ i, p.2 = V.int i ∧ valV ls p.1 = some (.int i)) ∧ Q (.bl false) H
theorem atKey_get {κ : Type} [DecidableEq κ] {xs : List (κ × Addr × Value)} {k : κ} {p : Addr × Value} (h : atKey xs k = some p) : ∃ j : Nat, xs[j]? = some (k, p) := by
  unfold atKey at h
  cases e : xs.find? fun x => decide (x.1 = k) with
  | none => rw [e] at h; cases h
  | some x =>
    rw [e] at h
    injection h with h
    have hk : x.1 = k := by simpa using List.find?_some e
    obtain ⟨j, hj, ej⟩ := List.mem_iff_getElem.mp (List.mem_of_find?_eq_some e)
    refine ⟨j, ?_⟩
    rw [List.getElem?_eq_getElem hj, ej]
    obtain ⟨a, b⟩ := x
    simp only at h hk
    rw [hk, h]
theorem KT.mem {H : Hp} : ∀ {ks : List (List Key × V)} {xs : List (List Key × Addr × Value)}, KT H ks xs → ∀ x ∈ xs, ∃ v, (x.1, v) ∈ ks ∧ RelV v x.2.2 := by
  intro ks xs r
  induction r with
  | nil => intro x m; exact absurd m List.not_mem_nil
  | @cons p q ps qs h t ih =>
    intro x m
    rcases List.mem_cons.mp m with rfl | m
    · exact ⟨p.2, by rw [← h.1]; exact List.mem_cons_self, h.2.2⟩
    · obtain ⟨v, mv, rv⟩ := ih x m
      exact ⟨v, List.mem_cons_of_mem _ mv, rv⟩
theorem op_neT (hu : X.A.units + 64 < cLine) : OpR X (compareOp .NotEq) rNeT := by
  intro pins s σ H x y v u Q I rx ry h
  obtain ⟨a, b, ks, ls, rfl, rfl, ea, eb, len, hp, q⟩ := h
  obtain rfl : v = Value.ref a := rx
  obtain rfl : u = Value.ref b := ry
  obtain ⟨_, ya, xs, ra, da⟩ := dt_rd I.hok ea
  obtain ⟨_, yb, ys, rb, db⟩ := dt_rd I.hok eb
  have la : ks.length = xs.length := Paired.length ra
  have lb : ls.length = ys.length := Paired.length rb
  refine neH ya yb da db (by omega) (show X.A.in1.units < cLine from (by have : X.A.in1.units = X.A.units + 1 := rfl; omega)) (by omega) (fun z mz => ?_) (fin_bl I q rfl)
  obtain ⟨vz, mv, rv⟩ := KT.mem ra z mz
  obtain ⟨i, e1, e2⟩ := hp _ mv
  simp only at e1
  rw [e1] at rv
  have r2 := rb.val z.1
  rw [e2] at r2
  cases ek : atKey ys z.1 with
  | none => rw [ek] at r2; exact (show False from r2).elim
  | some p =>
    rw [ek] at r2
    obtain ⟨j, hj⟩ := atKey_get ek
    refine ⟨j, p, hj, ?_⟩
    have r2 : RelV (.int i) p.2 := r2
    obtain ⟨t1, e3⟩ := rv
    obtain ⟨t2, e4⟩ := r2
    rw [e3, e4]
    have := SeqAt.EqAt.int_int (A := X.A.in1) (s := s) i t1 i t2
    rwa [beq_self_eq_true] at this
theorem dvs_int {K : PySem.W.Frag} {mg : Str → Option Value} {G : Hp} {κ : Type} [DecidableEq κ] {kb : List (κ × D)} {ls : List (κ × V)} (el : ls.map (·.1) = kb.map (·.1)) (ll : DVs K mg G (ls.map (·.2)) (kb.map (·.2))) :
    ∀ {ks : List (κ × V)} {dk : List (κ × D)}, ks.map (·.1) = dk.map (·.1) → DVs K mg G (ks.map (·.2)) (dk.map (·.2)) → (∀ p ∈ dk, ∃ i, p.2 = D.int i ∧ look kb p.1 = some (.int i)) → ∀ p ∈ ks, ∃ i, p.2 = V.int i ∧ valV ls p.1 = some (.int i)
  | [], [], _, _, _, p, m => absurd m List.not_mem_nil
  | [], _ :: _, e, _, _, _, _ => by cases e
  | _ :: _, [], e, _, _, _, _ => by cases e
  | (a, v) :: ks, (b, u) :: dk, e, .cons h l, q, p, m => by
    injection e with e1 e2
    rcases List.mem_cons.mp m with rfl | m
    · obtain ⟨i, hu, hl⟩ := q (b, u) List.mem_cons_self
      simp only at hu hl
      subst hu
      have e1 : a = b := e1
      subst e1
      obtain ⟨w, hw, dw⟩ := (look_dv (k := a) el ll).1 _ hl
      cases dw
      cases h
      exact ⟨i, rfl, hw⟩
    · exact dvs_int el ll e2 l (fun p m => q p (List.mem_cons_of_mem _ m)) p m
theorem od_neT : OpD X (rOr (rOr rNe (rNeD X.K)) rNeT) dNeT := by
  intro F G σ env H x y p q d Q R cx cy e k
  unfold dNeT at e
  split at e
  · rename_i dka dkb
    split at e
    · rename_i hz
      cases e
      rw [Bool.and_eq_true, beq_iff_eq, agr_iff] at hz
      obtain ⟨a, ks, rfl, ra, ka, la⟩ := cur_dcT R cx
      obtain ⟨b, ls, rfl, rb, kb, lb⟩ := cur_dcT R cy
      have ea : ks.length = dka.length := by have := congrArg List.length ka; simpa using this
      have eb : ls.length = dkb.length := by have := congrArg List.length kb; simpa using this
      exact or2 ⟨a, b, ks, ls, rfl, rfl, ra, rb, by rw [ea, eb]; exact hz.1, dvs_int kb lb ka la hz.2, k _ G H .refl R .bl⟩
    · cases e
  · exact or1 (od_ne F G σ env H x y p q d Q R cx cy e k)
variable {k : Nat}
theorem pb_neT (Y : Hy X W k) {a b : Expr} {fa fb} {pos} (ha : PB X W a fa) (hb : PB X W b fb) : PB X W (.Compare a [.NotEq] [b] pos) (fOp dNeT fa fb) := pb_cmp ((op_ne.or (op_neD Y.un)).or (op_neT Y.un)) od_neT ha hb (nobehind _ (by decide) (by decide))
theorem pt_neT (Y : Hy X W k) {a b : Expr} {fa fb} {pos} (ha : PB X W a fa) (hb : PB X W b fb) : PTt X W (.Compare a [.NotEq] [b] pos) (fTst (fOp dNeT fa fb)) := ptt_cmp ((op_ne.or (op_neD Y.un)).or (op_neT Y.un)) od_neT ha hb (nobehind _ (by decide) (by decide))
end
end Rt
set_option Elab.async false
set_option linter.all false
set_option maxRecDepth 100000
set_option maxHeartbeats 4000000
/-! for pair in d, the keys of d tuples -/
namespace Rt
open PySem PySem.Spec L2
open PyProof.Rows hiding St
def dIterT : D → Option (List D)
  | .dcT l => some (l.map fun p => .tup (p.1.map keyD))
  | _ => none
def fIterT (f : En → Rs (Hd × En)) : En → Rs IR := fun e => f e >>= fun r => r.1.esc r.2 >>= fun q => Rs.of (dIterT q.1) >>= fun i => .ok (i, true, q.2)
section
variable {X : Cx} {W : Wsh} {a tg : Expr} {fa : En → Rs (Hd × En)}
theorem piv_keysT (h : PB X W a fa) : PIv X W tg a (fIterT fa) := fun F => pi_weak (pi_keys (pe_lk (h F))) fun σ H R q => by
  obtain ⟨G, env, Rp, q⟩ := q
  have q := Rs.wp_bind.mp q
  have fromB : ∀ (P : V → Hp → Prop), (∀ r, fa env = .ok r → ∀ v G1 H1, GLe G G1 → Rep X.K X.mg F G1 σ r.2 H1 → HdOk X.K X.mg G1 σ v r.1 → P v H1) → tB X.K X.mg W F fa σ H P := fun P hp => by
    refine ⟨G, env, Rp, ?_⟩
    cases ef : fa env with
    | bad => rw [ef] at q; exact q.elim
    | exc c fs en => rw [ef] at q; exact q
    | ok r => exact hp r ef
  cases ef : fa env with
  | bad => rw [ef] at q; exact q.elim
  | exc c fs en => exact fromB _ fun r er => by rw [ef] at er; cases er
  | ok r =>
    rw [ef] at q
    have q : ((r.1.esc r.2 >>= fun q => Rs.of (dIterT q.1) >>= fun i => .ok (i, true, q.2)) : Rs IR).wp _ _ := q
    cases es : r.1.esc r.2 with
    | bad => rw [es] at q; exact q.elim
    | exc c fs en =>
      refine fromB _ fun r' er v G1 H1 g1 R1 o1 => ?_
      rw [ef] at er; cases er
      obtain ⟨_, _, z, _⟩ := wp_esc (P := fun _ => False) (Z := fun _ _ _ => True) R1 o1 (by rw [es]; exact True.intro)
      exact z.elim
    | ok r2 =>
      rw [es, Rs.ok_bind] at q
      obtain ⟨i, ei, q⟩ := wp_of (Rs.wp_bind.mp q)
      obtain ⟨d, e2⟩ := r2
      cases d with
      | dcT l =>
        cases ei
        refine fromB _ fun r' er v G1 H1 g1 R1 o1 => ?_
        rw [ef] at er; cases er
        obtain ⟨G2, g2, R2, dv⟩ := o1.esc R1 es
        cases dv with
        | @dcT p ks _ hg hk dl =>
          have hl : ks.length = (l.map fun p => D.tup (p.1.map keyD)).length := by rw [List.length_map]; exact maps_len hk
          have main := lock_any (u := .dT ks) (C := fun b H' => R (Itkt p b ks) H') rfl trivial R2 hg fun b F' H' lk R3 hp st =>
            q _ _ _ _ F' G2 H' lk (g1.trans g2) R3 walk_keysT ⟨hl, fun ts G' σ' env H'' g' R' => st ts G' σ' env H'' g' R', fun ts i x H0 H4 G' σ' env hi g' R' y => by
              obtain ⟨rfl, k0, v0, q0, e1, rfl, hq⟩ := y
              obtain ⟨dd, hd, dvv⟩ := dvs_at hk dl e1
              obtain ⟨G3, g3, hq3, R3'⟩ := R'.know hq
              exact ⟨G3, .tup (k0.map keyD), by rw [List.getElem?_map, hd]; rfl, g3, R3', .tup hq3 (keysD_v k0)⟩⟩
          rcases main with ⟨b, hb, hr⟩ | ⟨hb, hr⟩
          · exact .inl ⟨p, b, rfl, .inr ⟨ks, hb, hr⟩⟩
          · exact .inr ⟨p, _, rfl, hb, trivial, fun od n => ⟨p, od, rfl, .inr ⟨ks, upd_same, hr od n⟩⟩⟩
      | _ => cases ei
end
end Rt
set_option Elab.async false
set_option linter.all false
set_option maxRecDepth 100000
set_option maxHeartbeats 4000000
namespace Rt
open PySem PySem.Spec L2
open PyProof.Rows hiding St
/-! ### the text by places -/
def topS (i : Nat) : Stmt := PySem.Challenge.pw_retime_k14_whole_distances.main.body.getD i (.Pass ⟨0, 0, 0, 0⟩)
abbrev s__law_pen : Stmt := topS 28
abbrev s__law_next : Stmt := topS 29
abbrev s__law_draw : Stmt := topS 30
abbrev s__law_names : Stmt := topS 31
abbrev s__law_starts : Stmt := topS 32
abbrev s__law_far : Stmt := topS 33
abbrev s__law_limits : Stmt := topS 34
abbrev s__law_parts : Stmt := topS 35
abbrev s_is_task_of : Stmt := topS 16
abbrev s_is_node_of : Stmt := topS 17
abbrev s_Plan___times : Stmt := (clsBody (topS 20)).getD 1 (.Pass ⟨0, 0, 0, 0⟩)
abbrev s_check_node : Stmt := topS 24
abbrev s_longest_chains : Stmt := topS 26
abbrev s_greatest_gaps : Stmt := topS 1
abbrev s_Plan___lags : Stmt := (clsBody (topS 20)).getD 3 (.Pass ⟨0, 0, 0, 0⟩)
abbrev s_gaps_of : Stmt := topS 25
abbrev s_distance : Stmt := topS 22
abbrev s__law_table : Stmt := topS 36
abbrev s_positive_cycle : Stmt := topS 2
abbrev s_is_integer_within : Stmt := topS 14
abbrev s_is_name : Stmt := topS 13
abbrev s_are_times : Stmt := topS 15
abbrev s_is_lag : Stmt := topS 18
abbrev s_form_plan : Stmt := topS 19
abbrev s_Plan_____init__ : Stmt := (clsBody (topS 20)).getD 0 (.Pass ⟨0, 0, 0, 0⟩)
abbrev s_chain : Stmt := topS 23
abbrev s__law_parts_right : Stmt := topS 37
abbrev s_law : Stmt := topS 38
def c_LETTERS : Str := "abcdefghijklmnopqrstuvwxyz"
/-! ### the defs upon data -/
abbrev N__law_pen : List Str := ["script"]
def b__law_pen : En → Rs (Fl × En) :=
  (fRetO (fLst (fCons (fKeep (fCallO dList (fCons (fSl (fVar 0) none (some (fC (.int 60)))) fNil))) (fCons (fC (.int 0)) (fCons (fC (.int 0)) fNil)))))
def g__law_pen : List Ar → Rs Rz := runDef 1 1 b__law_pen
abbrev N__law_next : List Str := ["pen", "nth", "cell", "one", "two", "three"]
def b__law_next : En → Rs (Fl × En) :=
  (fSeq (fAsg (fOp dIx (fVar 0) (fC (.int 1))) (gSet 1))
  (fSeq (fStL 0 (fC (.int 1)) (fOp dAdd (fVar 1) (fC (.int 1))))
  (fSeq (fAsg (fOp dAdd (fOp dMul (fC (.int 31)) (fVar 1)) (fC (.int 17))) (gSet 2))
  (fSeq (fIfS (fTst (fOp dGt (fCall dLenX (fCons (fOp dIx (fVar 0) (fC (.int 0))) fNil)) (fC (.int 0))))
  (fAsg (fOp dIx (fOp dIx (fVar 0) (fC (.int 0))) (fOp dMod (fVar 1) (fCall dLenX (fCons (fOp dIx (fVar 0) (fC (.int 0))) fNil)))) (gSet 2))
  fNx)
  (fSeq (fIfS (fAnd (fTst (fOp dLt (fVar 1) (fCall dLenX (fCons (fOp dIx (fVar 0) (fC (.int 0))) fNil)))) (fTst (fOp dGe (fVar 2) (fOp dPow (fC (.int 10)) (fC (.int 18))))))
  (fRet (fVar 2))
  fNx)
  (fSeq (fAsg (fOp dMod (fOp dPow (fOp dAdd (fOp dAdd (fOp dMul (fOp dMod (fVar 2) (fC (.int 1000000021))) (fOp dAdd (fVar 1) (fC (.int 5)))) (fOp dMul (fC (.int 88001)) (fVar 1))) (fC (.int 41))) (fC (.int 3))) (fC (.int 2147483587))) (gSet 3))
  (fSeq (fAsg (fOp dMod (fOp dPow (fOp dAdd (fOp dAdd (fOp dMul (fVar 3) (fOp dAdd (fVar 1) (fC (.int 9)))) (fOp dMod (fVar 2) (fC (.int 65537)))) (fC (.int 3))) (fC (.int 5))) (fC (.int 2147483563))) (gSet 4))
  (fSeq (fAsg (fOp dMod (fOp dAdd (fOp dAdd (fOp dMul (fVar 4) (fVar 4)) (fVar 3)) (fOp dMul (fC (.int 7)) (fVar 1))) (fC (.int 2147483549))) (gSet 5))
  (fRet (fOp dAdd (fOp dMul (fOp dAdd (fOp dMul (fVar 5) (fC (.int 2147483587))) (fVar 4)) (fC (.int 2147483563))) (fVar 3)))))))))))
def g__law_next : List Ar → Rs Rz := runDef 6 1 b__law_next
abbrev N__law_draw : List Str := ["pen", "below", "digit"]
def b__law_draw : En → Rs (Fl × En) :=
  (fSeq (fIfS (fTst (fOp dLt (fOp dIx (fVar 0) (fC (.int 2))) (fVar 1)))
  (fStL 0 (fC (.int 2)) (fUser [true] g__law_next (fCons (fVar 0) fNil)))
  fNx)
  (fSeq (fAsg (fOp dMod (fOp dIx (fVar 0) (fC (.int 2))) (fVar 1)) (gSet 2))
  (fSeq (fStL 0 (fC (.int 2)) (fOp dDiv (fOp dIx (fVar 0) (fC (.int 2))) (fVar 1)))
  (fRet (fVar 2)))))
def g__law_draw : List Ar → Rs Rz := runDef 3 2 b__law_draw
abbrev N__law_names : List Str := ["pen", "tally", "pool", "turn"]
def b__law_names : En → Rs (Fl × En) :=
  (fSeq (fSetO 2 (fLst (fCons (fC (.str "a")) (fCons (fC (.str "b")) (fCons (fC (.str "c")) (fCons (fC (.str "d")) (fCons (fC (.str "e")) (fCons (fC (.str "f")) (fCons (fC (.str "ab")) (fCons (fC (.str "aa")) (fCons (fC (.str "zz")) (fCons (fC (.str "abcdefgh")) (fCons (fC (.str "m")) fNil)))))))))))))
  (fRetO (fComp (fRng1 (fCons (fVar 1) fNil)) (gSet 3) fYes (fPop 2 (fUser [true, false] g__law_draw (fCons (fVar 0) (fCons (fCall dLenX (fCons (fVar 2) fNil)) fNil)))) [3])))
def g__law_names : List Ar → Rs Rz := runDef 4 2 b__law_names
abbrev N__law_starts : List Str := ["pen", "names", "wide", "one"]
def b__law_starts : En → Rs (Fl × En) :=
  (fRetO (fCallO dDictP (fCons (fKeep (fComp (fIter (fVar 1)) (gSet 3) fYes (fTup (fCons (fVar 3) (fCons (fUser [true, false] g__law_draw (fCons (fVar 0) (fCons (fOp dAdd (fVar 2) (fC (.int 1))) fNil))) fNil))) [3])) fNil)))
def g__law_starts : List Ar → Rs Rz := runDef 4 3 b__law_starts
abbrev N__law_far : List Str := ["names", "wide", "limits", "nodes", "far", "one", "mid", "other", "gap", "total"]
def b__law_far : En → Rs (Fl × En) :=
  (fSeq (fAsg (fOp dAdd (fKeep (fLst (fCons (fC (.str "")) fNil))) (fKeep (fCallO dList (fCons (fVar 0) fNil)))) (gSet 3))
  (fSeq (fSetO 4 (fNewO (.dcT [])))
  (fSeq (fFor (fIter (fVar 3)) (gSet 5)
  (fFor (fIter (fVar 3)) (gSet 7)
  (fStD 4 (fTup (fCons (fVar 5) (fCons (fVar 7) fNil))) (fIf (fTst (fOp dIn (fVar 5) (fTup (fCons (fC (.str "")) (fCons (fVar 7) fNil))))) (fC (.int 0)) (fNeg (fVar 1))))))
  (fSeq (fFor (fIter (fVar 2)) (gTu (gCo (gSet 5) (gCo (gSet 7) (gCo (gSet 8) gNo))))
  (fStD 4 (fTup (fCons (fVar 5) (fCons (fVar 7) fNil))) (fCall dMax2 (fCons (fOp dIx (fVar 4) (fTup (fCons (fVar 5) (fCons (fVar 7) fNil)))) (fCons (fVar 8) fNil)))))
  (fSeq (fFor (fIter (fVar 3)) (gSet 6)
  (fFor (fIter (fVar 3)) (gSet 5)
  (fFor (fIter (fVar 3)) (gSet 7)
  (fSeq (fAsg (fOp dAdd (fOp dIx (fVar 4) (fTup (fCons (fVar 5) (fCons (fVar 6) fNil)))) (fOp dIx (fVar 4) (fTup (fCons (fVar 6) (fCons (fVar 7) fNil))))) (gSet 9))
  (fStD 4 (fTup (fCons (fVar 5) (fCons (fVar 7) fNil))) (fCall dMax2 (fCons (fOp dIx (fVar 4) (fTup (fCons (fVar 5) (fCons (fVar 7) fNil)))) (fCons (fVar 9) fNil))))))))
  (fSeq (fIfS (fTru (fCall dAny (fCons (fKeep (fComp (fIter (fVar 3)) (gSet 5) fYes (fOp dGt (fOp dIx (fVar 4) (fTup (fCons (fVar 5) (fCons (fVar 5) fNil)))) (fC (.int 0))) [5])) fNil)))
  (fRet (fC .non))
  fNx)
  (fRet (fVar 4))))))))
def g__law_far : List Ar → Rs Rz := runDef 10 3 b__law_far
abbrev N__law_limits : List Str := ["pen", "names", "starts", "wide", "tally", "nodes", "found", "turn", "one", "other", "gap"]
def b__law_limits : En → Rs (Fl × En) :=
  (fSeq (fAsg (fOp dAdd (fKeep (fLst (fCons (fC (.str "")) fNil))) (fKeep (fCallO dList (fCons (fVar 1) fNil)))) (gSet 5))
  (fSeq (fSetO 6 (fLst fNil))
  (fSeq (fFor (fRng1 (fCons (fVar 4) fNil)) (gSet 7)
  (fSeq (fAsg (fOp dIx (fVar 5) (fUser [true, false] g__law_draw (fCons (fVar 0) (fCons (fCall dLenX (fCons (fVar 5) fNil)) fNil)))) (gSet 8))
  (fSeq (fAsg (fOp dIx (fVar 5) (fUser [true, false] g__law_draw (fCons (fVar 0) (fCons (fCall dLenX (fCons (fVar 5) fNil)) fNil)))) (gSet 9))
  (fSeq (fAsg (fOp dSub (fOp dAdd (fOp dSub (fGet (fVar 2) (fVar 9) (fC (.int 0))) (fGet (fVar 2) (fVar 8) (fC (.int 0)))) (fUser [true, false] g__law_draw (fCons (fVar 0) (fCons (fC (.int 9)) fNil)))) (fC (.int 5))) (gSet 10))
  (fSeq (fAsg (fCall dMax2 (fCons (fVar 10) (fCons (fOp dSub (fC (.int 0)) (fOp dPow (fC (.int 10)) (fC (.int 6)))) fNil))) (gSet 10))
  (fIfS (fAnd (fTst (fOp dNe (fVar 8) (fVar 9))) (fTst (fOp dNotN (fUser [false, false, false] g__law_far (fCons (fVar 1) (fCons (fVar 3) (fCons (fOp dAdd (fVar 6) (fKeep (fLst (fCons (fTup (fCons (fVar 8) (fCons (fVar 9) (fCons (fVar 10) fNil)))) fNil)))) fNil)))) (fC .non))))
  (fDrop (fApp 6 (fTup (fCons (fVar 8) (fCons (fVar 9) (fCons (fVar 10) fNil))))))
  fNx))))))
  (fRet (fVar 6)))))
def g__law_limits : List Ar → Rs Rz := runDef 11 5 b__law_limits
abbrev N__law_parts : List Str := ["pen", "most", "names", "wide", "starts"]
def b__law_parts : En → Rs (Fl × En) :=
  (fSeq (fAsg (fUser [true, false] g__law_names (fCons (fVar 0) (fCons (fOp dAdd (fC (.int 1)) (fUser [true, false] g__law_draw (fCons (fVar 0) (fCons (fVar 1) fNil)))) fNil))) (gSet 2))
  (fSeq (fAsg (fOp dIx (fKeep (fLst (fCons (fC (.int 6)) (fCons (fC (.int 12)) (fCons (fC (.int 30)) (fCons (fOp dPow (fC (.int 10)) (fC (.int 6))) (fCons (fC (.int 0)) (fCons (fC (.int 3)) fNil)))))))) (fUser [true, false] g__law_draw (fCons (fVar 0) (fCons (fC (.int 6)) fNil)))) (gSet 3))
  (fSeq (fAsg (fUser [true, false, false] g__law_starts (fCons (fVar 0) (fCons (fVar 2) (fCons (fOp dIx (fKeep (fLst (fCons (fCall dMin2 (fCons (fVar 3) (fCons (fC (.int 15)) fNil))) (fCons (fVar 3) fNil)))) (fOp dDiv (fUser [true, false] g__law_draw (fCons (fVar 0) (fCons (fC (.int 4)) fNil))) (fC (.int 3)))) fNil)))) (gSet 4))
  (fRet (fTup (fCons (fVar 3) (fCons (fVar 4) (fCons (fUser [true, false, false, false, false] g__law_limits (fCons (fVar 0) (fCons (fVar 2) (fCons (fVar 4) (fCons (fVar 3) (fCons (fUser [true, false] g__law_draw (fCons (fVar 0) (fCons (fOp dAdd (fOp dMul (fC (.int 2)) (fCall dLenX (fCons (fVar 2) fNil))) (fC (.int 1))) fNil))) fNil)))))) fNil))))))))
def g__law_parts : List Ar → Rs Rz := runDef 5 2 b__law_parts
abbrev N_is_task_of : List Str := ["thing", "tasks"]
def b_is_task_of : En → Rs (Fl × En) :=
  (fRet (fAndV (fIsi "str" (fVar 0)) (fOp dIn (fVar 0) (fVar 1))))
def g_is_task_of : List Ar → Rs Rz := runDef 2 2 b_is_task_of
abbrev N_is_node_of : List Str := ["thing", "tasks"]
def b_is_node_of : En → Rs (Fl × En) :=
  (fRet (fOrV (fOp dEq (fVar 0) (fC (.str ""))) (fUser [false, false] g_is_task_of (fCons (fVar 0) (fCons (fVar 1) fNil)))))
def g_is_node_of : List Ar → Rs Rz := runDef 2 2 b_is_node_of
abbrev N_Plan___times : List Str := ["self"]
def b_Plan___times : En → Rs (Fl × En) :=
  (fRetO (fCallO dDict (fCons (fFld "Plan" "_times" (fVar 0)) fNil)))
def g_Plan___times : List Ar → Rs Rz := runDef 1 1 b_Plan___times
abbrev N_check_node : List Str := ["plan", "thing"]
def b_check_node : En → Rs (Fl × En) :=
  (fIfS (fNotT (fTru (fUser [false, false] g_is_node_of (fCons (fVar 1) (fCons (fUser [false] g_Plan___times (fRecv "Plan" "times" (fVar 0) fNil)) fNil)))))
  (fun _ => .bad)
  fNx)
def g_check_node : List Ar → Rs Rz := runDef 2 2 b_check_node
abbrev N_longest_chains : List Str := ["gaps", "start", "totals", "previous", "raised", "gap", "first", "second"]
def b_longest_chains : En → Rs (Fl × En) :=
  (fSeq (fSetO 2 (fDisp (((fVar 1), (fC (.int 0))) :: [])))
  (fSeq (fSetO 3 (fNewO (.dct [])))
  (fSeq (fAsg (fC (.bl true)) (gSet 4))
  (fSeq (fWhile (fTru (fVar 4))
  (fSeq (fAsg (fC (.bl false)) (gSet 4))
  (fFor (fItms (fVar 0)) (gTu (gCo (gTu (gCo (gSet 6) (gCo (gSet 7) gNo))) (gCo (gSet 5) gNo)))
  (fIfS (fAnd (fTst (fOp dIn (fVar 6) (fVar 2))) (fOr (fTst (fOp dNin (fVar 7) (fVar 2))) (fTst (fOp dGt (fOp dAdd (fOp dIx (fVar 2) (fVar 6)) (fVar 5)) (fOp dIx (fVar 2) (fVar 7))))))
  (fSeq (fStD 2 (fVar 7) (fOp dAdd (fOp dIx (fVar 2) (fVar 6)) (fVar 5)))
  (fSeq (fStD 3 (fVar 7) (fVar 6))
  (fAsg (fC (.bl true)) (gSet 4))))
  fNx))) 100000)
  (fRet (fTup (fCons (fVar 2) (fCons (fVar 3) fNil))))))))
def g_longest_chains : List Ar → Rs Rz := runDef 8 2 b_longest_chains
abbrev N_greatest_gaps : List Str := ["horizon", "tasks", "lags", "gaps", "task", "first", "second", "gap", "pair"]
def b_greatest_gaps : En → Rs (Fl × En) :=
  (fSeq (fSetO 3 (fNewO (.dcT [])))
  (fSeq (fFor (fIter (fVar 1)) (gSet 4)
  (fSeq (fStD 3 (fTup (fCons (fC (.str "")) (fCons (fVar 4) fNil))) (fC (.int 0)))
  (fStD 3 (fTup (fCons (fVar 4) (fCons (fC (.str "")) fNil))) (fNeg (fVar 0)))))
  (fSeq (fFor (fIter (fVar 2)) (gTu (gCo (gSet 5) (gCo (gSet 6) (gCo (gSet 7) gNo))))
  (fSeq (fAsg (fTup (fCons (fVar 5) (fCons (fVar 6) fNil))) (gSet 8))
  (fStD 3 (fVar 8) (fCall dMax2 (fCons (fVar 7) (fCons (fGet (fVar 3) (fVar 8) (fVar 7)) fNil))))))
  (fRet (fVar 3)))))
def g_greatest_gaps : List Ar → Rs Rz := runDef 9 3 b_greatest_gaps
abbrev N_Plan___lags : List Str := ["self"]
def b_Plan___lags : En → Rs (Fl × En) :=
  (fRet (fFld "Plan" "_lags" (fVar 0)))
def g_Plan___lags : List Ar → Rs Rz := runDef 1 1 b_Plan___lags
abbrev N_gaps_of : List Str := ["plan"]
def b_gaps_of : En → Rs (Fl × En) :=
  (fRetO (fUserO [false, false, false] g_greatest_gaps (fCons (fFld "Plan" "horizon" (fVar 0)) (fCons (fUser [false] g_Plan___times (fRecv "Plan" "times" (fVar 0) fNil)) (fCons (fUser [false] g_Plan___lags (fRecv "Plan" "lags" (fVar 0) fNil)) fNil)))))
def g_gaps_of : List Ar → Rs Rz := runDef 1 1 b_gaps_of
abbrev N_distance : List Str := ["plan", "first", "second", "totals", "_"]
def b_distance : En → Rs (Fl × En) :=
  (fSeq (fDrop (fUser [false, false] g_check_node (fCons (fVar 0) (fCons (fVar 1) fNil))))
  (fSeq (fDrop (fUser [false, false] g_check_node (fCons (fVar 0) (fCons (fVar 2) fNil))))
  (fSeq (fAsg (fUser [false, false] g_longest_chains (fCons (fUser [false] g_gaps_of (fCons (fVar 0) fNil)) (fCons (fVar 1) fNil))) (gTu (gCo (gSet 3) (gCo (gSet 4) gNo))))
  (fRet (fOp dIx (fVar 3) (fVar 2))))))
def g_distance : List Ar → Rs Rz := runDef 5 3 b_distance
abbrev N__law_table : List Str := ["plan", "nodes", "found", "one", "other"]
def b__law_table : En → Rs (Fl × En) :=
  (fSeq (fSetO 2 (fNewO (.dcT [])))
  (fSeq (fFor (fIter (fVar 1)) (gSet 3)
  (fFor (fIter (fVar 1)) (gSet 4)
  (fStD 2 (fTup (fCons (fVar 3) (fCons (fVar 4) fNil))) (fUser [false, false, false] g_distance (fCons (fVar 0) (fCons (fVar 3) (fCons (fVar 4) fNil)))))))
  (fRet (fVar 2))))
def g__law_table : List Ar → Rs Rz := runDef 5 2 b__law_table
abbrev N_positive_cycle : List Str := ["horizon", "tasks", "lags", "gaps", "reached", "task", "previous", "_", "raised", "gap", "first", "second"]
def b_positive_cycle : En → Rs (Fl × En) :=
  (fSeq (fSetO 3 (fUserO [false, false, false] g_greatest_gaps (fCons (fVar 0) (fCons (fVar 1) (fCons (fVar 2) fNil)))))
  (fSeq (fSetO 4 (fDisp (((fC (.str "")), (fC (.int 0))) :: [])))
  (fSeq (fFor (fIter (fVar 1)) (gSet 5)
  (fStD 4 (fVar 5) (fC (.int 0))))
  (fSeq (fSetO 6 (fNewO (.dct [])))
  (fSeq (fFor (fRng1 (fCons (fCall dLenX (fCons (fVar 4) fNil)) fNil)) (gSet 7)
  (fSeq (fAsg (fC .non) (gSet 8))
  (fSeq (fFor (fItms (fVar 3)) (gTu (gCo (gTu (gCo (gSet 10) (gCo (gSet 11) gNo))) (gCo (gSet 9) gNo)))
  (fIfS (fTst (fOp dGt (fOp dAdd (fOp dIx (fVar 4) (fVar 10)) (fVar 9)) (fOp dIx (fVar 4) (fVar 11))))
  (fSeq (fStD 4 (fVar 11) (fOp dAdd (fOp dIx (fVar 4) (fVar 10)) (fVar 9)))
  (fSeq (fStD 6 (fVar 11) (fVar 10))
  (fAsg (fVar 11) (gSet 8))))
  fNx))
  (fIfS (fTst (fOp dIsN (fVar 8) (fC .non)))
  (fRet (fC .non))
  fNx))))
  (fRet fNever))))))
def g_positive_cycle : List Ar → Rs Rz := runDef 12 3 b_positive_cycle
abbrev N_is_integer_within : List Str := ["thing", "low", "high"]
def b_is_integer_within : En → Rs (Fl × En) :=
  (fSeq (fIfS (fOr (fNotT (fTru (fIsi "int" (fVar 0)))) (fTru (fIsi "bool" (fVar 0))))
  (fRet (fC (.bl false)))
  fNx)
  (fRet (fChain dLe dLe (fVar 1) (fVar 0) (fVar 2))))
def g_is_integer_within : List Ar → Rs Rz := runDef 3 3 b_is_integer_within
abbrev N_is_name : List Str := ["thing", "letter"]
def b_is_name : En → Rs (Fl × En) :=
  (fSeq (fIfS (fOr (fNotT (fTru (fIsi "str" (fVar 0)))) (fNotT (fTst (fChain dLe dLe (fC (.int 1)) (fCall dLenX (fCons (fVar 0) fNil)) (fC (.int 8))))))
  (fRet (fC (.bl false)))
  fNx)
  (fRet (fCall dAll (fCons (fKeep (fComp (fIter (fVar 0)) (gSet 1) fYes (fOp dIn (fVar 1) (fC (.str c_LETTERS))) [1])) fNil))))
def g_is_name : List Ar → Rs Rz := runDef 2 1 b_is_name
abbrev N_are_times : List Str := ["thing", "horizon", "name"]
def b_are_times : En → Rs (Fl × En) :=
  (fSeq (fIfS (fNotT (fTru (fIsi "dict" (fVar 0))))
  (fRet (fC (.bl false)))
  fNx)
  (fRet (fCall dAll (fCons (fKeep (fComp (fIter (fVar 0)) (gSet 2) fYes (fAndV (fUser [false] g_is_name (fCons (fVar 2) fNil)) (fUser [false, false, false] g_is_integer_within (fCons (fOp dIx (fVar 0) (fVar 2)) (fCons (fC (.int 0)) (fCons (fVar 1) fNil))))) [2])) fNil))))
def g_are_times : List Ar → Rs Rz := runDef 3 2 b_are_times
abbrev N_is_lag : List Str := ["thing", "tasks", "first", "second", "gap"]
def b_is_lag : En → Rs (Fl × En) :=
  (fSeq (fIfS (fOr (fNotT (fTru (fIsi "tuple" (fVar 0)))) (fTst (fOp dNe (fCall dLenX (fCons (fVar 0) fNil)) (fC (.int 3)))))
  (fRet (fC (.bl false)))
  fNx)
  (fSeq (fAsg (fVar 0) (gTu (gCo (gSet 2) (gCo (gSet 3) (gCo (gSet 4) gNo)))))
  (fSeq (fIfS (fOr (fNotT (fTru (fUser [false, false] g_is_node_of (fCons (fVar 2) (fCons (fVar 1) fNil))))) (fNotT (fTru (fUser [false, false] g_is_node_of (fCons (fVar 3) (fCons (fVar 1) fNil))))))
  (fRet (fC (.bl false)))
  fNx)
  (fRet (fAndV (fOp dNe (fVar 2) (fVar 3)) (fUser [false, false, false] g_is_integer_within (fCons (fVar 4) (fCons (fNeg (fC (.int 1000000))) (fCons (fC (.int 1000000)) fNil)))))))))
def g_is_lag : List Ar → Rs Rz := runDef 5 2 b_is_lag
abbrev N_form_plan : List Str := ["horizon", "times", "lags", "lag"]
def b_form_plan : En → Rs (Fl × En) :=
  (fSeq (fIfS (fOr (fNotT (fTru (fUser [false, false, false] g_is_integer_within (fCons (fVar 0) (fCons (fC (.int 0)) (fCons (fC (.int 1000000)) fNil)))))) (fNotT (fTru (fUser [false, false] g_are_times (fCons (fVar 1) (fCons (fVar 0) fNil))))))
  (fRet (fC (.bl false)))
  fNx)
  (fSeq (fIfS (fNotT (fTru (fIsi2 "list" "tuple" (fVar 2))))
  (fRet (fC (.bl false)))
  fNx)
  (fRet (fCall dAll (fCons (fKeep (fComp (fIter (fVar 2)) (gSet 3) fYes (fUser [false, false] g_is_lag (fCons (fVar 3) (fCons (fVar 1) fNil))) [3])) fNil)))))
def g_form_plan : List Ar → Rs Rz := runDef 4 3 b_form_plan
abbrev N_Plan_____init__ : List Str := ["self", "horizon", "times", "lags", "cycle", "name"]
def b_Plan_____init__ : En → Rs (Fl × En) :=
  (fSeq (fIfS (fNotT (fTru (fUser [false, false, false] g_form_plan (fCons (fVar 1) (fCons (fVar 2) (fCons (fVar 3) fNil))))))
  (fun _ => .bad)
  fNx)
  (fSeq (fAsg (fUser [false, false, false] g_positive_cycle (fCons (fVar 1) (fCons (fVar 2) (fCons (fVar 3) fNil)))) (gSet 4))
  (fSeq (fIfS (fTst (fOp dNotN (fVar 4) (fC .non)))
  (fun _ => .bad)
  fNx)
  (fSeq (fStF "Plan" "horizon" 0 (fVar 1))
  (fSeq (fStF "Plan" "_times" 0 (fKeep (fDComp (fIter (fKeep (fCallO dSortedD (fCons (fVar 2) fNil)))) (gSet 5) fYes (fVar 5) (fOp dIx (fVar 2) (fVar 5)) [5])))
  (fStF "Plan" "_lags" 0 (fTss (fVar 3))))))))
def g_Plan_____init__ : List Ar → Rs Rz := runDef 6 4 b_Plan_____init__
abbrev N_chain : List Str := ["plan", "first", "second", "nodes", "_", "previous"]
def b_chain : En → Rs (Fl × En) :=
  (fSeq (fDrop (fUser [false, false] g_check_node (fCons (fVar 0) (fCons (fVar 1) fNil))))
  (fSeq (fDrop (fUser [false, false] g_check_node (fCons (fVar 0) (fCons (fVar 2) fNil))))
  (fSeq (fAsg (fUser [false, false] g_longest_chains (fCons (fUser [false] g_gaps_of (fCons (fVar 0) fNil)) (fCons (fVar 1) fNil))) (gTu (gCo (gSet 4) (gCo (gSet 5) gNo))))
  (fSeq (fSetO 3 (fLst (fCons (fVar 2) fNil)))
  (fSeq (fWhile (fTst (fOp dNe (fOp dIx (fVar 3) (fNeg (fC (.int 1)))) (fVar 1)))
  (fDrop (fApp 3 (fOp dIx (fVar 5) (fOp dIx (fVar 3) (fNeg (fC (.int 1))))))) 100000)
  (fRet (fTupRev (fVar 3))))))))
def g_chain : List Ar → Rs Rz := runDef 6 3 b_chain
abbrev N__law_parts_right : List Str := ["plan", "nodes", "far", "one", "other", "way", "k"]
def b__law_parts_right : En → Rs (Fl × En) :=
  (fSeq (fFor (fIter (fVar 1)) (gSet 3)
  (fFor (fIter (fVar 1)) (gSet 4)
  (fSeq (fAsg (fUser [false, false, false] g_chain (fCons (fVar 0) (fCons (fVar 3) (fCons (fVar 4) fNil)))) (gSet 5))
  (fFor (fRng1 (fCons (fCall dLenX (fCons (fVar 5) fNil)) fNil)) (gSet 6)
  (fIfS (fTst (fOp dNe (fOp dAdd (fOp dIx (fVar 2) (fTup (fCons (fVar 3) (fCons (fOp dIx (fVar 5) (fVar 6)) fNil)))) (fOp dIx (fVar 2) (fTup (fCons (fOp dIx (fVar 5) (fVar 6)) (fCons (fVar 4) fNil))))) (fOp dIx (fVar 2) (fTup (fCons (fVar 3) (fCons (fVar 4) fNil))))))
  (fRet (fC (.bl false)))
  fNx)))))
  (fRet (fC (.bl true))))
def g__law_parts_right : List Ar → Rs Rz := runDef 7 3 b__law_parts_right
abbrev N_law : List Str := ["script", "pen", "turn", "far", "moved", "gap", "wide", "starts", "some", "plan", "nodes", "one", "other", "later", "pair", "name"]
def b_law : En → Rs (Fl × En) :=
  (fSeq (fSetO 1 (fUserO [false] g__law_pen (fCons (fVar 0) fNil)))
  (fSeq (fFor (fRng1 (fCons (fC (.int 4)) fNil)) (gSet 2)
  (fSeq (fAsg (fUser [true, false] g__law_parts (fCons (fVar 1) (fCons (fC (.int 5)) fNil))) (gTu (gCo (gSet 6) (gCo (gSet 7) (gCo (gSet 8) gNo)))))
  (fSeq (fPar 9 10 (fCons (fKeep (fUserO [false, false, false] (mkD "Plan" g_Plan_____init__) (fCons (fVar 6) (fCons (fVar 7) (fCons (fVar 8) fNil))))) (fCons (fOp dAdd (fKeep (fLst (fCons (fC (.str "")) fNil))) (fKeep (fCallO dSortedD (fCons (fVar 7) fNil)))) fNil)))
  (fSeq (fAsg (fUser [false, false] g__law_table (fCons (fVar 9) (fCons (fVar 10) fNil))) (gSet 3))
  (fSeq (fSetO 4 (fCallO dDictP (fCons (fKeep (fComp (fIter (fKeep (fCallO dSortedD (fCons (fVar 7) fNil)))) (gSet 15) fYes (fTup (fCons (fVar 15) (fCons (fUser [true, false] g__law_draw (fCons (fVar 1) (fCons (fOp dAdd (fVar 6) (fC (.int 1))) fNil))) fNil))) [15])) fNil)))
  (fSeq (fIfS (fOr (fTst (fOp dNeT (fUser [false, false] g__law_table (fCons (fKeep (fUserO [false, false, false] (mkD "Plan" g_Plan_____init__) (fCons (fVar 6) (fCons (fVar 4) (fCons (fVar 8) fNil))))) (fCons (fVar 10) fNil))) (fVar 3))) (fNotT (fTru (fUser [false, false, false] g__law_parts_right (fCons (fVar 9) (fCons (fVar 10) (fCons (fVar 3) fNil)))))))
  (fRet (fC (.bl false)))
  fNx)
  (fSeq (fPar 11 12 (fCons (fOp dIx (fVar 10) (fUser [true, false] g__law_draw (fCons (fVar 1) (fCons (fCall dLenX (fCons (fVar 10) fNil)) fNil)))) (fCons (fOp dIx (fVar 10) (fUser [true, false] g__law_draw (fCons (fVar 1) (fCons (fCall dLenX (fCons (fVar 10) fNil)) fNil)))) fNil)))
  (fSeq (fAsg (fOp dAdd (fOp dIx (fVar 3) (fTup (fCons (fVar 11) (fCons (fVar 12) fNil)))) (fOp dIx (fKeep (fLst (fCons (fC (.int 0)) (fCons (fNeg (fC (.int 1))) (fCons (fC (.int 1)) (fCons (fC (.int 2)) fNil)))))) (fUser [true, false] g__law_draw (fCons (fVar 1) (fCons (fC (.int 4)) fNil))))) (gSet 5))
  (fIfS (fAnd (fTst (fOp dNeT (fVar 11) (fVar 12))) (fAnd (fTst (fChain dLe dLe (fNeg (fOp dPow (fC (.int 10)) (fC (.int 6)))) (fVar 5) (fOp dPow (fC (.int 10)) (fC (.int 6))))) (fTst (fOp dLe (fOp dAdd (fVar 5) (fOp dIx (fVar 3) (fTup (fCons (fVar 12) (fCons (fVar 11) fNil))))) (fC (.int 0))))))
  (fSeq (fAsg (fUser [false, false] g__law_table (fCons (fKeep (fUserO [false, false, false] (mkD "Plan" g_Plan_____init__) (fCons (fVar 6) (fCons (fVar 7) (fCons (fOp dAdd (fVar 8) (fKeep (fLst (fCons (fTup (fCons (fVar 11) (fCons (fVar 12) (fCons (fVar 5) fNil)))) fNil)))) fNil))))) (fCons (fVar 10) fNil))) (gSet 13))
  (fFor (fIterT (fVar 3)) (gSet 14)
  (fIfS (fTst (fOp dNeT (fOp dIx (fVar 13) (fVar 14)) (fCall dMax2 (fCons (fOp dIx (fVar 3) (fVar 14)) (fCons (fOp dAdd (fOp dAdd (fOp dIx (fVar 3) (fTup (fCons (fOp dIx (fVar 14) (fC (.int 0))) (fCons (fVar 11) fNil)))) (fVar 5)) (fOp dIx (fVar 3) (fTup (fCons (fVar 12) (fCons (fOp dIx (fVar 14) (fC (.int 1))) fNil))))) fNil)))))
  (fRet (fC (.bl false)))
  fNx)))
  fNx)))))))))
  (fRet (fC (.bl true)))))
def g_law : List Ar → Rs Rz := runDef 16 1 b_law
section
variable {P : Program} {w : World} {K : PySem.W.Frag} {mg : Str → Option Value} {base : Heap}
structure Txt (P : Program) (w : World) (K : PySem.W.Frag) (mg : Str → Option Value) (base : Heap) : Prop where
  z_all : mg "all" = none
  z_any : mg "any" = none
  z_bool : mg "bool" = none
  z_dict : mg "dict" = none
  z_int : mg "int" = none
  z_isinstance : mg "isinstance" = none
  z_len : mg "len" = none
  z_list : mg "list" = none
  z_max : mg "max" = none
  z_min : mg "min" = none
  z_range : mg "range" = none
  z_reversed : mg "reversed" = none
  z_set : mg "set" = none
  z_sorted : mg "sorted" = none
  z_str : mg "str" = none
  z_tuple : mg "tuple" = none
  c_LARGEST : ∃ t : Tok, mg "LARGEST" = some (.int 1000000 t)
  c_LETTERS : ∃ t : Tok, mg "LETTERS" = some (.str c_LETTERS t)
  c_LONGEST_NAME : ∃ t : Tok, mg "LONGEST_NAME" = some (.int 8 t)
  cl_Plan : ∃ C : Addr, mg "Plan" = some (.ref C) ∧ Cls K C ∧ NoAttr K C "_lags" ∧ NoAttr K C "_times" ∧ NoAttr K C "horizon"
theorem sc__law_pen : FnScope N__law_pen ["script"] (defScope s__law_pen) := ⟨rfl, rfl, rfl, by decide +kernel, rfl, by decide +kernel, by decide +kernel⟩
theorem sc__law_next : FnScope N__law_next ["pen"] (defScope s__law_next) := ⟨rfl, rfl, rfl, by decide +kernel, rfl, by decide +kernel, by decide +kernel⟩
theorem sc__law_draw : FnScope N__law_draw ["pen", "below"] (defScope s__law_draw) := ⟨rfl, rfl, rfl, by decide +kernel, rfl, by decide +kernel, by decide +kernel⟩
theorem sc__law_names : FnScope N__law_names ["pen", "tally"] (defScope s__law_names) := ⟨rfl, rfl, rfl, by decide +kernel, rfl, by decide +kernel, by decide +kernel⟩
theorem sc__law_starts : FnScope N__law_starts ["pen", "names", "wide"] (defScope s__law_starts) := ⟨rfl, rfl, rfl, by decide +kernel, rfl, by decide +kernel, by decide +kernel⟩
theorem sc__law_far : FnScope N__law_far ["names", "wide", "limits"] (defScope s__law_far) := ⟨rfl, rfl, rfl, by decide +kernel, rfl, by decide +kernel, by decide +kernel⟩
theorem sc__law_limits : FnScope N__law_limits ["pen", "names", "starts", "wide", "tally"] (defScope s__law_limits) := ⟨rfl, rfl, rfl, by decide +kernel, rfl, by decide +kernel, by decide +kernel⟩
theorem sc__law_parts : FnScope N__law_parts ["pen", "most"] (defScope s__law_parts) := ⟨rfl, rfl, rfl, by decide +kernel, rfl, by decide +kernel, by decide +kernel⟩
theorem sc_is_task_of : FnScope N_is_task_of ["thing", "tasks"] (defScope s_is_task_of) := ⟨rfl, rfl, rfl, by decide +kernel, rfl, by decide +kernel, by decide +kernel⟩
theorem sc_is_node_of : FnScope N_is_node_of ["thing", "tasks"] (defScope s_is_node_of) := ⟨rfl, rfl, rfl, by decide +kernel, rfl, by decide +kernel, by decide +kernel⟩
theorem sc_Plan___times : FnScope N_Plan___times ["self"] (defScope s_Plan___times) := ⟨rfl, rfl, rfl, by decide +kernel, rfl, by decide +kernel, by decide +kernel⟩
theorem sc_check_node : FnScope N_check_node ["plan", "thing"] (defScope s_check_node) := ⟨rfl, rfl, rfl, by decide +kernel, rfl, by decide +kernel, by decide +kernel⟩
theorem sc_longest_chains : FnScope N_longest_chains ["gaps", "start"] (defScope s_longest_chains) := ⟨rfl, rfl, rfl, by decide +kernel, rfl, by decide +kernel, by decide +kernel⟩
theorem sc_greatest_gaps : FnScope N_greatest_gaps ["horizon", "tasks", "lags"] (defScope s_greatest_gaps) := ⟨rfl, rfl, rfl, by decide +kernel, rfl, by decide +kernel, by decide +kernel⟩
theorem sc_Plan___lags : FnScope N_Plan___lags ["self"] (defScope s_Plan___lags) := ⟨rfl, rfl, rfl, by decide +kernel, rfl, by decide +kernel, by decide +kernel⟩
theorem sc_gaps_of : FnScope N_gaps_of ["plan"] (defScope s_gaps_of) := ⟨rfl, rfl, rfl, by decide +kernel, rfl, by decide +kernel, by decide +kernel⟩
theorem sc_distance : FnScope N_distance ["plan", "first", "second"] (defScope s_distance) := ⟨rfl, rfl, rfl, by decide +kernel, rfl, by decide +kernel, by decide +kernel⟩
theorem sc__law_table : FnScope N__law_table ["plan", "nodes"] (defScope s__law_table) := ⟨rfl, rfl, rfl, by decide +kernel, rfl, by decide +kernel, by decide +kernel⟩
theorem sc_positive_cycle : FnScope N_positive_cycle ["horizon", "tasks", "lags"] (defScope s_positive_cycle) := ⟨rfl, rfl, rfl, by decide +kernel, rfl, by decide +kernel, by decide +kernel⟩
theorem sc_is_integer_within : FnScope N_is_integer_within ["thing", "low", "high"] (defScope s_is_integer_within) := ⟨rfl, rfl, rfl, by decide +kernel, rfl, by decide +kernel, by decide +kernel⟩
theorem sc_is_name : FnScope N_is_name ["thing"] (defScope s_is_name) := ⟨rfl, rfl, rfl, by decide +kernel, rfl, by decide +kernel, by decide +kernel⟩
theorem sc_are_times : FnScope N_are_times ["thing", "horizon"] (defScope s_are_times) := ⟨rfl, rfl, rfl, by decide +kernel, rfl, by decide +kernel, by decide +kernel⟩
theorem sc_is_lag : FnScope N_is_lag ["thing", "tasks"] (defScope s_is_lag) := ⟨rfl, rfl, rfl, by decide +kernel, rfl, by decide +kernel, by decide +kernel⟩
theorem sc_form_plan : FnScope N_form_plan ["horizon", "times", "lags"] (defScope s_form_plan) := ⟨rfl, rfl, rfl, by decide +kernel, rfl, by decide +kernel, by decide +kernel⟩
theorem sc_Plan_____init__ : FnScope N_Plan_____init__ ["self", "horizon", "times", "lags"] (defScope s_Plan_____init__) := ⟨rfl, rfl, rfl, by decide +kernel, rfl, by decide +kernel, by decide +kernel⟩
theorem sc_chain : FnScope N_chain ["plan", "first", "second"] (defScope s_chain) := ⟨rfl, rfl, rfl, by decide +kernel, rfl, by decide +kernel, by decide +kernel⟩
theorem sc__law_parts_right : FnScope N__law_parts_right ["plan", "nodes", "far"] (defScope s__law_parts_right) := ⟨rfl, rfl, rfl, by decide +kernel, rfl, by decide +kernel, by decide +kernel⟩
theorem sc_law : FnScope N_law ["script"] (defScope s_law) := ⟨rfl, rfl, rfl, by decide +kernel, rfl, by decide +kernel, by decide +kernel⟩
structure Of__law_pen (P : Program) (w : World) (K : PySem.W.Frag) (mg : Str → Option Value) (base : Heap) : Prop where
  t : Txt P w K mg base
theorem ok__law_pen {f : Addr} {fd : FuncData} (Fn : Fun K "_law_pen" "_law_pen" s__law_pen f fd) (O : Of__law_pen P w K mg base) : FnG P w K mg base 1 f fd ["script"] (spD K mg g__law_pen) := by
  have T := O.t
  refine fnD (N := N__law_pen) Fn sc__law_pen fun cd A out s H E Y => ?_
  exact (pbl_one (pst_retO (po_lst (pas_cons (pb_keep (po_callT call_list_of co_list (by rfl) T.z_list (by decide +kernel) (pas_cons (pb_sl (pbv 0) ppt_no (ppt_some pb_int)) pas_nil))) (pas_cons pb_int (pas_cons pb_int pas_nil))))))
structure Of__law_next (P : Program) (w : World) (K : PySem.W.Frag) (mg : Str → Option Value) (base : Heap) : Prop where
  t : Txt P w K mg base
theorem ok__law_next {f : Addr} {fd : FuncData} (Fn : Fun K "_law_next" "_law_next" s__law_next f fd) (O : Of__law_next P w K mg base) : FnG P w K mg base 1 f fd ["pen"] (spD K mg g__law_next) := by
  have T := O.t
  refine fnD (N := N__law_next) Fn sc__law_next fun cd A out s H E Y => ?_
  exact (pbl_cons (pst_set (i := 1) Y rfl (by first | exact Or.inl rfl | exact Or.inr rfl) (pb_ix Y (pbv 0) pb_int (fun _ _ => rfl)))
    (pbl_cons (pst_lset (i := 0) (fun hv hj => ps_asg hv (pg_sub (pv 0) hj set_list)) pb_int (pb_add (pbv 1) pb_int))
    (pbl_cons (pst_set (i := 2) Y rfl (by first | exact Or.inl rfl | exact Or.inr rfl) (pb_add (pb_mul pb_int (pbv 1)) pb_int))
    (pbl_cons (pst_if (pt_gt (pb_callB call_lenX cd_lenX (by rfl) T.z_len PySem.boot_len (pas_cons (pb_ix Y (pbv 0) pb_int (fun _ _ => rfl)) pas_nil)) pb_int)
    (pbl_one (pst_set (i := 2) Y rfl (by first | exact Or.inl rfl | exact Or.inr rfl) (pb_ix Y (pb_ix Y (pbv 0) pb_int (fun _ _ => rfl)) (pb_mod (pbv 1) (pb_callB call_lenX cd_lenX (by rfl) T.z_len PySem.boot_len (pas_cons (pb_ix Y (pbv 0) pb_int (fun _ _ => rfl)) pas_nil))) (fun _ _ => rfl))))
    pbl_nil)
    (pbl_cons (pst_if (pt_w (pw_a (pt_lt (pbv 1) (pb_callB call_lenX cd_lenX (by rfl) T.z_len PySem.boot_len (pas_cons (pb_ix Y (pbv 0) pb_int (fun _ _ => rfl)) pas_nil))) (pw_a1 (pt_ge (pbv 2) (pb_pow pb_int pb_int)))))
    (pbl_one (pst_ret (pbv 2)))
    pbl_nil)
    (pbl_cons (pst_set (i := 3) Y rfl (by first | exact Or.inl rfl | exact Or.inr rfl) (pb_mod (pb_pow (pb_add (pb_add (pb_mul (pb_mod (pbv 2) pb_int) (pb_add (pbv 1) pb_int)) (pb_mul pb_int (pbv 1))) pb_int) pb_int) pb_int))
    (pbl_cons (pst_set (i := 4) Y rfl (by first | exact Or.inl rfl | exact Or.inr rfl) (pb_mod (pb_pow (pb_add (pb_add (pb_mul (pbv 3) (pb_add (pbv 1) pb_int)) (pb_mod (pbv 2) pb_int)) pb_int) pb_int) pb_int))
    (pbl_cons (pst_set (i := 5) Y rfl (by first | exact Or.inl rfl | exact Or.inr rfl) (pb_mod (pb_add (pb_add (pb_mul (pbv 4) (pbv 4)) (pbv 3)) (pb_mul pb_int (pbv 1))) pb_int))
    (pbl_one (pst_ret (pb_add (pb_mul (pb_add (pb_mul (pbv 5) pb_int) (pbv 4)) pb_int) (pbv 3))))))))))))
structure Of__law_draw (P : Program) (w : World) (K : PySem.W.Frag) (mg : Str → Option Value) (base : Heap) : Prop where
  t : Txt P w K mg base
  q__law_next : ∃ (f : Addr) (fd : FuncData), FnG P w K mg base 1 f fd ["pen"] (spD K mg g__law_next) ∧ mg "_law_next" = some (.ref f) ∧ PySem.W.keepIn K (.ref f) = true ∧ Binds K fd ["pen"] []
theorem ok__law_draw {f : Addr} {fd : FuncData} (Fn : Fun K "_law_draw" "_law_draw" s__law_draw f fd) (O : Of__law_draw P w K mg base) : FnG P w K mg base 2 f fd ["pen", "below"] (spD K mg g__law_draw) := by
  have T := O.t
  obtain ⟨f__law_next, fd__law_next, o__law_next, m__law_next, k__law_next, b__law_next⟩ := O.q__law_next
  refine fnD (N := N__law_draw) Fn sc__law_draw fun cd A out s H E Y => ?_
  exact (pbl_cons (pst_if (pt_lt (pb_ix Y (pbv 0) pb_int (fun _ _ => rfl)) (pbv 1))
    (pbl_one (pst_lset (i := 0) (fun hv hj => ps_asg hv (pg_sub (pv 0) hj set_list)) pb_int (pb_user o__law_next (by decide) Y (by rfl) m__law_next k__law_next b__law_next (pas_cons (pbv 0) pas_nil) [true])))
    pbl_nil)
    (pbl_cons (pst_set (i := 2) Y rfl (by first | exact Or.inl rfl | exact Or.inr rfl) (pb_mod (pb_ix Y (pbv 0) pb_int (fun _ _ => rfl)) (pbv 1)))
    (pbl_cons (pst_lset (i := 0) (fun hv hj => ps_asg hv (pg_sub (pv 0) hj set_list)) pb_int (pb_div (pb_ix Y (pbv 0) pb_int (fun _ _ => rfl)) (pbv 1)))
    (pbl_one (pst_ret (pbv 2))))))
structure Of__law_names (P : Program) (w : World) (K : PySem.W.Frag) (mg : Str → Option Value) (base : Heap) : Prop where
  t : Txt P w K mg base
  q__law_draw : ∃ (f : Addr) (fd : FuncData), FnG P w K mg base 2 f fd ["pen", "below"] (spD K mg g__law_draw) ∧ mg "_law_draw" = some (.ref f) ∧ PySem.W.keepIn K (.ref f) = true ∧ Binds K fd ["pen", "below"] []
theorem ok__law_names {f : Addr} {fd : FuncData} (Fn : Fun K "_law_names" "_law_names" s__law_names f fd) (O : Of__law_names P w K mg base) : FnG P w K mg base 3 f fd ["pen", "tally"] (spD K mg g__law_names) := by
  have T := O.t
  obtain ⟨f__law_draw, fd__law_draw, o__law_draw, m__law_draw, k__law_draw, b__law_draw⟩ := O.q__law_draw
  refine fnD (N := N__law_names) Fn sc__law_names fun cd A out s H E Y => ?_
  exact (pbl_cons (pst_setO (i := 2) Y rfl (by first | exact Or.inl rfl | exact Or.inr rfl) (po_lst (pas_cons pb_str (pas_cons pb_str (pas_cons pb_str (pas_cons pb_str (pas_cons pb_str (pas_cons pb_str (pas_cons pb_str (pas_cons pb_str (pas_cons pb_str (pas_cons pb_str (pas_cons pb_str pas_nil)))))))))))))
    (pbl_one (pst_retO (po_cmp Y (piv_rng1 (by rfl) T.z_range (pas_cons (pbv 1) pas_nil)) (blkOk_by (own := [("turn", 3)]) (N := N__law_names) (sc := defScope s__law_names) (by decide +kernel)) (fun s H C cl fp Y => (pgt_name (i := 3) Y.nd rfl (by first | exact Or.inl rfl | exact Or.inr rfl))) (fun s H C cl fp Y => ptq_nil) (fun s H C cl fp Y => (pb_pop (i := 2) (fun h => pe_bm PySem.F.plainAttrs_list PySem.F.slot_list_pop PySem.F.type_list_pop mt_popAt (pv 2) h) (pb_user o__law_draw (by decide) Y (by rfl) m__law_draw k__law_draw b__law_draw (pas_cons (pbv 0) (pas_cons (pb_callB call_lenX cd_lenX (by rfl) T.z_len PySem.boot_len (pas_cons (pbv 2) pas_nil)) pas_nil)) [true, false]))) (by decide)))))
structure Of__law_starts (P : Program) (w : World) (K : PySem.W.Frag) (mg : Str → Option Value) (base : Heap) : Prop where
  t : Txt P w K mg base
  q__law_draw : ∃ (f : Addr) (fd : FuncData), FnG P w K mg base 2 f fd ["pen", "below"] (spD K mg g__law_draw) ∧ mg "_law_draw" = some (.ref f) ∧ PySem.W.keepIn K (.ref f) = true ∧ Binds K fd ["pen", "below"] []
theorem ok__law_starts {f : Addr} {fd : FuncData} (Fn : Fun K "_law_starts" "_law_starts" s__law_starts f fd) (O : Of__law_starts P w K mg base) : FnG P w K mg base 3 f fd ["pen", "names", "wide"] (spD K mg g__law_starts) := by
  have T := O.t
  obtain ⟨f__law_draw, fd__law_draw, o__law_draw, m__law_draw, k__law_draw, b__law_draw⟩ := O.q__law_draw
  refine fnD (N := N__law_starts) Fn sc__law_starts fun cd A out s H E Y => ?_
  exact (pbl_one (pst_retO (po_callT (call_dictP Y.calm) co_dictP (by rfl) T.z_dict (by decide +kernel) (pas_cons (pb_keep (po_cmp Y (piv_any (pbv 1)) (blkOk_by (own := [("one", 3)]) (N := N__law_starts) (sc := defScope s__law_starts) (by decide +kernel)) (fun s H C cl fp Y => (pgt_name (i := 3) Y.nd rfl (by first | exact Or.inl rfl | exact Or.inr rfl))) (fun s H C cl fp Y => ptq_nil) (fun s H C cl fp Y => (pb_tup (pas_cons (pbv 3) (pas_cons (pb_user o__law_draw (by decide) Y (by rfl) m__law_draw k__law_draw b__law_draw (pas_cons (pbv 0) (pas_cons (pb_add (pbv 2) pb_int) pas_nil)) [true, false]) pas_nil)))) (by decide))) pas_nil))))
structure Of__law_far (P : Program) (w : World) (K : PySem.W.Frag) (mg : Str → Option Value) (base : Heap) : Prop where
  t : Txt P w K mg base
theorem ok__law_far {f : Addr} {fd : FuncData} (Fn : Fun K "_law_far" "_law_far" s__law_far f fd) (O : Of__law_far P w K mg base) : FnG P w K mg base 1 f fd ["names", "wide", "limits"] (spD K mg g__law_far) := by
  have T := O.t
  refine fnD (N := N__law_far) Fn sc__law_far fun cd A out s H E Y => ?_
  exact (pbl_cons (pst_set (i := 3) Y rfl (by first | exact Or.inl rfl | exact Or.inr rfl) (pb_add (pb_keep (po_lst (pas_cons pb_str pas_nil))) (pb_keep (po_callT call_list_of co_list (by rfl) T.z_list (by decide +kernel) (pas_cons (pbv 0) pas_nil)))))
    (pbl_cons (pst_setO (i := 4) Y rfl (by first | exact Or.inl rfl | exact Or.inr rfl) po_dnewT)
    (pbl_cons (pst_for Y (piv_any (pbv 3)) (pgt_name (i := 5) Y.nd rfl (by first | exact Or.inl rfl | exact Or.inr rfl))
    (pbl_one (pst_for Y (piv_any (pbv 3)) (pgt_name (i := 7) Y.nd rfl (by first | exact Or.inl rfl | exact Or.inr rfl))
    (pbl_one (pst_dput (i := 4) (fun hv hj => ps_dput (hu1 Y) (pv 4) hj hv rfl) (pb_tup (pas_cons (pbv 5) (pas_cons (pbv 7) pas_nil))) (pb_if (pt_in Y (pbv 5) (pb_tup (pas_cons pb_str (pas_cons (pbv 7) pas_nil))) rfl) pb_int (pb_neg (pbv 1))))))))
    (pbl_cons (pst_for Y (piv_any (pbv 2)) (pgt_tup Y.calm (pgts_cons (pgt_name (i := 5) Y.nd rfl (by first | exact Or.inl rfl | exact Or.inr rfl)) (pgts_cons (pgt_name (i := 7) Y.nd rfl (by first | exact Or.inl rfl | exact Or.inr rfl)) (pgts_cons (pgt_name (i := 8) Y.nd rfl (by first | exact Or.inl rfl | exact Or.inr rfl)) pgts_nil))) (gCo_ln (gCo_ln (gCo_ln gNo_len))))
    (pbl_one (pst_dput (i := 4) (fun hv hj => ps_dput (hu1 Y) (pv 4) hj hv rfl) (pb_tup (pas_cons (pbv 5) (pas_cons (pbv 7) pas_nil))) (pb_callB (call_max2 Y.calm) cd_max2 (by rfl) T.z_max (by decide +kernel) (pas_cons (pb_ix Y (pbv 4) (pb_tup (pas_cons (pbv 5) (pas_cons (pbv 7) pas_nil))) (fun _ _ => rfl)) (pas_cons (pbv 8) pas_nil))))))
    (pbl_cons (pst_for Y (piv_any (pbv 3)) (pgt_name (i := 6) Y.nd rfl (by first | exact Or.inl rfl | exact Or.inr rfl))
    (pbl_one (pst_for Y (piv_any (pbv 3)) (pgt_name (i := 5) Y.nd rfl (by first | exact Or.inl rfl | exact Or.inr rfl))
    (pbl_one (pst_for Y (piv_any (pbv 3)) (pgt_name (i := 7) Y.nd rfl (by first | exact Or.inl rfl | exact Or.inr rfl))
    (pbl_cons (pst_set (i := 9) Y rfl (by first | exact Or.inl rfl | exact Or.inr rfl) (pb_add (pb_ix Y (pbv 4) (pb_tup (pas_cons (pbv 5) (pas_cons (pbv 6) pas_nil))) (fun _ _ => rfl)) (pb_ix Y (pbv 4) (pb_tup (pas_cons (pbv 6) (pas_cons (pbv 7) pas_nil))) (fun _ _ => rfl))))
    (pbl_one (pst_dput (i := 4) (fun hv hj => ps_dput (hu1 Y) (pv 4) hj hv rfl) (pb_tup (pas_cons (pbv 5) (pas_cons (pbv 7) pas_nil))) (pb_callB (call_max2 Y.calm) cd_max2 (by rfl) T.z_max (by decide +kernel) (pas_cons (pb_ix Y (pbv 4) (pb_tup (pas_cons (pbv 5) (pas_cons (pbv 7) pas_nil))) (fun _ _ => rfl)) (pas_cons (pbv 9) pas_nil)))))))))))
    (pbl_cons (pst_if (pt_tru (pb_callB (cr_any Y.calm) cd_any (by rfl) T.z_any (by decide +kernel) (pas_cons (pb_keep (po_cmp Y (piv_any (pbv 3)) (blkOk_by (own := [("one", 5)]) (N := N__law_far) (sc := defScope s__law_far) (by decide +kernel)) (fun s H C cl fp Y => (pgt_name (i := 5) Y.nd rfl (by first | exact Or.inl rfl | exact Or.inr rfl))) (fun s H C cl fp Y => ptq_nil) (fun s H C cl fp Y => (pb_gt (pb_ix Y (pbv 4) (pb_tup (pas_cons (pbv 5) (pas_cons (pbv 5) pas_nil))) (fun _ _ => rfl)) pb_int)) (by decide))) pas_nil)))
    (pbl_one (pst_ret pb_non))
    pbl_nil)
    (pbl_one (pst_ret (pbv 4)))))))))
structure Of__law_limits (P : Program) (w : World) (K : PySem.W.Frag) (mg : Str → Option Value) (base : Heap) : Prop where
  t : Txt P w K mg base
  q__law_draw : ∃ (f : Addr) (fd : FuncData), FnG P w K mg base 2 f fd ["pen", "below"] (spD K mg g__law_draw) ∧ mg "_law_draw" = some (.ref f) ∧ PySem.W.keepIn K (.ref f) = true ∧ Binds K fd ["pen", "below"] []
  q__law_far : ∃ (f : Addr) (fd : FuncData), FnG P w K mg base 1 f fd ["names", "wide", "limits"] (spD K mg g__law_far) ∧ mg "_law_far" = some (.ref f) ∧ PySem.W.keepIn K (.ref f) = true ∧ Binds K fd ["names", "wide", "limits"] []
theorem ok__law_limits {f : Addr} {fd : FuncData} (Fn : Fun K "_law_limits" "_law_limits" s__law_limits f fd) (O : Of__law_limits P w K mg base) : FnG P w K mg base 3 f fd ["pen", "names", "starts", "wide", "tally"] (spD K mg g__law_limits) := by
  have T := O.t
  obtain ⟨f__law_draw, fd__law_draw, o__law_draw, m__law_draw, k__law_draw, b__law_draw⟩ := O.q__law_draw
  obtain ⟨f__law_far, fd__law_far, o__law_far, m__law_far, k__law_far, b__law_far⟩ := O.q__law_far
  refine fnD (N := N__law_limits) Fn sc__law_limits fun cd A out s H E Y => ?_
  exact (pbl_cons (pst_set (i := 5) Y rfl (by first | exact Or.inl rfl | exact Or.inr rfl) (pb_add (pb_keep (po_lst (pas_cons pb_str pas_nil))) (pb_keep (po_callT call_list_of co_list (by rfl) T.z_list (by decide +kernel) (pas_cons (pbv 1) pas_nil)))))
    (pbl_cons (pst_setO (i := 6) Y rfl (by first | exact Or.inl rfl | exact Or.inr rfl) (po_lst pas_nil))
    (pbl_cons (pst_for Y (piv_rng1 (by rfl) T.z_range (pas_cons (pbv 4) pas_nil)) (pgt_name (i := 7) Y.nd rfl (by first | exact Or.inl rfl | exact Or.inr rfl))
    (pbl_cons (pst_set (i := 8) Y rfl (by first | exact Or.inl rfl | exact Or.inr rfl) (pb_ix Y (pbv 5) (pb_user o__law_draw (by decide) Y (by rfl) m__law_draw k__law_draw b__law_draw (pas_cons (pbv 0) (pas_cons (pb_callB call_lenX cd_lenX (by rfl) T.z_len PySem.boot_len (pas_cons (pbv 5) pas_nil)) pas_nil)) [true, false]) (fun _ _ => rfl)))
    (pbl_cons (pst_set (i := 9) Y rfl (by first | exact Or.inl rfl | exact Or.inr rfl) (pb_ix Y (pbv 5) (pb_user o__law_draw (by decide) Y (by rfl) m__law_draw k__law_draw b__law_draw (pas_cons (pbv 0) (pas_cons (pb_callB call_lenX cd_lenX (by rfl) T.z_len PySem.boot_len (pas_cons (pbv 5) pas_nil)) pas_nil)) [true, false]) (fun _ _ => rfl)))
    (pbl_cons (pst_set (i := 10) Y rfl (by first | exact Or.inl rfl | exact Or.inr rfl) (pb_sub (pb_add (pb_sub (pb_get (fun ho hk hx => pe_dget2 (hu1 Y) ho hk hx ⟨rfl, rfl, rfl, rfl⟩) (pbv 2) (pbv 9) pb_int) (pb_get (fun ho hk hx => pe_dget2 (hu1 Y) ho hk hx ⟨rfl, rfl, rfl, rfl⟩) (pbv 2) (pbv 8) pb_int)) (pb_user o__law_draw (by decide) Y (by rfl) m__law_draw k__law_draw b__law_draw (pas_cons (pbv 0) (pas_cons pb_int pas_nil)) [true, false])) pb_int))
    (pbl_cons (pst_set (i := 10) Y rfl (by first | exact Or.inl rfl | exact Or.inr rfl) (pb_callB (call_max2 Y.calm) cd_max2 (by rfl) T.z_max (by decide +kernel) (pas_cons (pbv 10) (pas_cons (pb_sub pb_int (pb_pow pb_int pb_int)) pas_nil))))
    (pbl_one (pst_if (pt_w (pw_a (pt_ne Y (pbv 8) (pbv 9)) (pw_a1 (pt_isnot (pb_user o__law_far (by decide) Y (by rfl) m__law_far k__law_far b__law_far (pas_cons (pbv 1) (pas_cons (pbv 3) (pas_cons (pb_add (pbv 6) (pb_keep (po_lst (pas_cons (pb_tup (pas_cons (pbv 8) (pas_cons (pbv 9) (pas_cons (pbv 10) pas_nil)))) pas_nil)))) pas_nil))) [false, false, false]) pb_non))))
    (pbl_one (pst_expr (pb_append (i := 6) (fun h => pe_bm PySem.F.plainAttrs_list PySem.F.slot_list_append PySem.F.type_list_append mt_append (pv 6) h) (pb_tup (pas_cons (pbv 8) (pas_cons (pbv 9) (pas_cons (pbv 10) pas_nil)))))))
    pbl_nil)))))))
    (pbl_one (pst_ret (pbv 6))))))
structure Of__law_parts (P : Program) (w : World) (K : PySem.W.Frag) (mg : Str → Option Value) (base : Heap) : Prop where
  t : Txt P w K mg base
  q__law_draw : ∃ (f : Addr) (fd : FuncData), FnG P w K mg base 2 f fd ["pen", "below"] (spD K mg g__law_draw) ∧ mg "_law_draw" = some (.ref f) ∧ PySem.W.keepIn K (.ref f) = true ∧ Binds K fd ["pen", "below"] []
  q__law_names : ∃ (f : Addr) (fd : FuncData), FnG P w K mg base 3 f fd ["pen", "tally"] (spD K mg g__law_names) ∧ mg "_law_names" = some (.ref f) ∧ PySem.W.keepIn K (.ref f) = true ∧ Binds K fd ["pen", "tally"] []
  q__law_starts : ∃ (f : Addr) (fd : FuncData), FnG P w K mg base 3 f fd ["pen", "names", "wide"] (spD K mg g__law_starts) ∧ mg "_law_starts" = some (.ref f) ∧ PySem.W.keepIn K (.ref f) = true ∧ Binds K fd ["pen", "names", "wide"] []
  q__law_limits : ∃ (f : Addr) (fd : FuncData), FnG P w K mg base 3 f fd ["pen", "names", "starts", "wide", "tally"] (spD K mg g__law_limits) ∧ mg "_law_limits" = some (.ref f) ∧ PySem.W.keepIn K (.ref f) = true ∧ Binds K fd ["pen", "names", "starts", "wide", "tally"] []
theorem ok__law_parts {f : Addr} {fd : FuncData} (Fn : Fun K "_law_parts" "_law_parts" s__law_parts f fd) (O : Of__law_parts P w K mg base) : FnG P w K mg base 4 f fd ["pen", "most"] (spD K mg g__law_parts) := by
  have T := O.t
  obtain ⟨f__law_draw, fd__law_draw, o__law_draw, m__law_draw, k__law_draw, b__law_draw⟩ := O.q__law_draw
  obtain ⟨f__law_names, fd__law_names, o__law_names, m__law_names, k__law_names, b__law_names⟩ := O.q__law_names
  obtain ⟨f__law_starts, fd__law_starts, o__law_starts, m__law_starts, k__law_starts, b__law_starts⟩ := O.q__law_starts
  obtain ⟨f__law_limits, fd__law_limits, o__law_limits, m__law_limits, k__law_limits, b__law_limits⟩ := O.q__law_limits
  refine fnD (N := N__law_parts) Fn sc__law_parts fun cd A out s H E Y => ?_
  exact (pbl_cons (pst_set (i := 2) Y rfl (by first | exact Or.inl rfl | exact Or.inr rfl) (pb_user o__law_names (by decide) Y (by rfl) m__law_names k__law_names b__law_names (pas_cons (pbv 0) (pas_cons (pb_add pb_int (pb_user o__law_draw (by decide) Y (by rfl) m__law_draw k__law_draw b__law_draw (pas_cons (pbv 0) (pas_cons (pbv 1) pas_nil)) [true, false])) pas_nil)) [true, false]))
    (pbl_cons (pst_set (i := 3) Y rfl (by first | exact Or.inl rfl | exact Or.inr rfl) (pb_ix Y (pb_keep (po_lst (pas_cons pb_int (pas_cons pb_int (pas_cons pb_int (pas_cons (pb_pow pb_int pb_int) (pas_cons pb_int (pas_cons pb_int pas_nil)))))))) (pb_user o__law_draw (by decide) Y (by rfl) m__law_draw k__law_draw b__law_draw (pas_cons (pbv 0) (pas_cons pb_int pas_nil)) [true, false]) (fun _ _ => rfl)))
    (pbl_cons (pst_set (i := 4) Y rfl (by first | exact Or.inl rfl | exact Or.inr rfl) (pb_user o__law_starts (by decide) Y (by rfl) m__law_starts k__law_starts b__law_starts (pas_cons (pbv 0) (pas_cons (pbv 2) (pas_cons (pb_ix Y (pb_keep (po_lst (pas_cons (pb_callB (call_min2 Y.calm) cd_min2 (by rfl) T.z_min (by decide +kernel) (pas_cons (pbv 3) (pas_cons pb_int pas_nil))) (pas_cons (pbv 3) pas_nil)))) (pb_div (pb_user o__law_draw (by decide) Y (by rfl) m__law_draw k__law_draw b__law_draw (pas_cons (pbv 0) (pas_cons pb_int pas_nil)) [true, false]) pb_int) (fun _ _ => rfl)) pas_nil))) [true, false, false]))
    (pbl_one (pst_ret (pb_tup (pas_cons (pbv 3) (pas_cons (pbv 4) (pas_cons (pb_user o__law_limits (by decide) Y (by rfl) m__law_limits k__law_limits b__law_limits (pas_cons (pbv 0) (pas_cons (pbv 2) (pas_cons (pbv 4) (pas_cons (pbv 3) (pas_cons (pb_user o__law_draw (by decide) Y (by rfl) m__law_draw k__law_draw b__law_draw (pas_cons (pbv 0) (pas_cons (pb_add (pb_mul pb_int (pb_callB call_lenX cd_lenX (by rfl) T.z_len PySem.boot_len (pas_cons (pbv 2) pas_nil))) pb_int) pas_nil)) [true, false]) pas_nil))))) [true, false, false, false, false]) pas_nil)))))))))
structure Of_is_task_of (P : Program) (w : World) (K : PySem.W.Frag) (mg : Str → Option Value) (base : Heap) : Prop where
  t : Txt P w K mg base
theorem ok_is_task_of {f : Addr} {fd : FuncData} (Fn : Fun K "is_task_of" "is_task_of" s_is_task_of f fd) (O : Of_is_task_of P w K mg base) : FnG P w K mg base 1 f fd ["thing", "tasks"] (spD K mg g_is_task_of) := by
  have T := O.t
  refine fnD (N := N_is_task_of) Fn sc_is_task_of fun cd A out s H E Y => ?_
  exact (pbl_one (pst_ret (pb_and (pb_isi (pbv 0) (by rfl) T.z_isinstance (by rfl) T.z_str (by decide +kernel) (by decide +kernel)) (pb_one (pb_in Y (pbv 0) (pbv 1) rfl)))))
structure Of_is_node_of (P : Program) (w : World) (K : PySem.W.Frag) (mg : Str → Option Value) (base : Heap) : Prop where
  t : Txt P w K mg base
  q_is_task_of : ∃ (f : Addr) (fd : FuncData), FnG P w K mg base 1 f fd ["thing", "tasks"] (spD K mg g_is_task_of) ∧ mg "is_task_of" = some (.ref f) ∧ PySem.W.keepIn K (.ref f) = true ∧ Binds K fd ["thing", "tasks"] []
theorem ok_is_node_of {f : Addr} {fd : FuncData} (Fn : Fun K "is_node_of" "is_node_of" s_is_node_of f fd) (O : Of_is_node_of P w K mg base) : FnG P w K mg base 2 f fd ["thing", "tasks"] (spD K mg g_is_node_of) := by
  have T := O.t
  obtain ⟨f_is_task_of, fd_is_task_of, o_is_task_of, m_is_task_of, k_is_task_of, b_is_task_of⟩ := O.q_is_task_of
  refine fnD (N := N_is_node_of) Fn sc_is_node_of fun cd A out s H E Y => ?_
  exact (pbl_one (pst_ret (pb_or (pb_eq Y (pbv 0) pb_str) (pb_one (pb_user o_is_task_of (by decide) Y (by rfl) m_is_task_of k_is_task_of b_is_task_of (pas_cons (pbv 0) (pas_cons (pbv 1) pas_nil)) [false, false])))))
structure Of_Plan___times (P : Program) (w : World) (K : PySem.W.Frag) (mg : Str → Option Value) (base : Heap) : Prop where
  t : Txt P w K mg base
theorem ok_Plan___times {f : Addr} {fd : FuncData} (Fn : Fun K "times" "Plan.times" s_Plan___times f fd) (O : Of_Plan___times P w K mg base) : FnG P w K mg base 1 f fd ["self"] (spD K mg g_Plan___times) := by
  have T := O.t
  obtain ⟨C_Plan, zm_Plan, zc_Plan, zn_Plan__lags, zn_Plan__times, zn_Plan_horizon⟩ := T.cl_Plan
  refine fnD (N := N_Plan___times) Fn sc_Plan___times fun cd A out s H E Y => ?_
  exact (pbl_one (pst_retO (po_callT call_dictD co_dict (by rfl) T.z_dict (by decide +kernel) (pas_cons (pb_fld zm_Plan zc_Plan zn_Plan__times (pbv 0)) pas_nil))))
structure Of_check_node (P : Program) (w : World) (K : PySem.W.Frag) (mg : Str → Option Value) (base : Heap) : Prop where
  t : Txt P w K mg base
  q_is_node_of : ∃ (f : Addr) (fd : FuncData), FnG P w K mg base 2 f fd ["thing", "tasks"] (spD K mg g_is_node_of) ∧ mg "is_node_of" = some (.ref f) ∧ PySem.W.keepIn K (.ref f) = true ∧ Binds K fd ["thing", "tasks"] []
  q_Plan___times : ∀ C : Addr, mg "Plan" = some (.ref C) → ∃ (f : Addr) (fd : FuncData), FnG P w K mg base 1 f fd ["self"] (spD K mg g_Plan___times) ∧ Meth K C "times" f ∧ Binds K fd ["self"] []
theorem ok_check_node {f : Addr} {fd : FuncData} (Fn : Fun K "check_node" "check_node" s_check_node f fd) (O : Of_check_node P w K mg base) : FnG P w K mg base 3 f fd ["plan", "thing"] (spD K mg g_check_node) := by
  have T := O.t
  obtain ⟨C_Plan, zm_Plan, zc_Plan, zn_Plan__lags, zn_Plan__times, zn_Plan_horizon⟩ := T.cl_Plan
  obtain ⟨f_is_node_of, fd_is_node_of, o_is_node_of, m_is_node_of, k_is_node_of, b_is_node_of⟩ := O.q_is_node_of
  obtain ⟨f_Plan___times, fd_Plan___times, o_Plan___times, zh_Plan___times, b_Plan___times⟩ := O.q_Plan___times C_Plan zm_Plan
  refine fnD (N := N_check_node) Fn sc_check_node fun cd A out s H E Y => ?_
  exact (pbl_one (pst_if (pt_no (pt_tru (pb_user o_is_node_of (by decide) Y (by rfl) m_is_node_of k_is_node_of b_is_node_of (pas_cons (pbv 1) (pas_cons (pb_meth0 (pl := _) zm_Plan zc_Plan zh_Plan___times o_Plan___times (by decide) Y b_Plan___times (pbv 0) [false]) pas_nil)) [false, false])))
    (pbl_one pst_never)
    pbl_nil))
structure Of_longest_chains (P : Program) (w : World) (K : PySem.W.Frag) (mg : Str → Option Value) (base : Heap) : Prop where
  t : Txt P w K mg base
theorem ok_longest_chains {f : Addr} {fd : FuncData} (Fn : Fun K "longest_chains" "longest_chains" s_longest_chains f fd) (O : Of_longest_chains P w K mg base) : FnG P w K mg base 1 f fd ["gaps", "start"] (spD K mg g_longest_chains) := by
  have T := O.t
  refine fnD (N := N_longest_chains) Fn sc_longest_chains fun cd A out s H E Y => ?_
  exact (pbl_cons (pst_setO (i := 2) Y rfl (by first | exact Or.inl rfl | exact Or.inr rfl) (po_disp (pds_cons (pbv 1) pb_int pds_nil) rfl rfl (by simp) (by decide)))
    (pbl_cons (pst_setO (i := 3) Y rfl (by first | exact Or.inl rfl | exact Or.inr rfl) po_dnewK)
    (pbl_cons (pst_set (i := 4) Y rfl (by first | exact Or.inl rfl | exact Or.inr rfl) pb_bl)
    (pbl_cons (pst_while Y 100000 (pt_tru (pbv 4))
    (pbl_cons (pst_set (i := 4) Y rfl (by first | exact Or.inl rfl | exact Or.inr rfl) pb_bl)
    (pbl_one (pst_for Y (piv_items (pbv 0)) (pgt_tup Y.calm (pgts_cons (pgt_tup Y.calm (pgts_cons (pgt_name (i := 6) Y.nd rfl (by first | exact Or.inl rfl | exact Or.inr rfl)) (pgts_cons (pgt_name (i := 7) Y.nd rfl (by first | exact Or.inl rfl | exact Or.inr rfl)) pgts_nil)) (gCo_ln (gCo_ln gNo_len))) (pgts_cons (pgt_name (i := 5) Y.nd rfl (by first | exact Or.inl rfl | exact Or.inr rfl)) pgts_nil)) (gCo_ln (gCo_ln gNo_len)))
    (pbl_one (pst_if (pt_w (pw_a (pt_in Y (pbv 6) (pbv 2) rfl) (pw_a1 (pt_w (pw_o (pt_nin Y (pbv 7) (pbv 2) rfl) (pw_o1 (pt_gt (pb_add (pb_ix Y (pbv 2) (pbv 6) (fun _ _ => rfl)) (pbv 5)) (pb_ix Y (pbv 2) (pbv 7) (fun _ _ => rfl)))))))))
    (pbl_cons (pst_dput (i := 2) (fun hv hj => ps_dput (hu1 Y) (pv 2) hj hv rfl) (pbv 7) (pb_add (pb_ix Y (pbv 2) (pbv 6) (fun _ _ => rfl)) (pbv 5)))
    (pbl_cons (pst_dput (i := 3) (fun hv hj => ps_dput (hu1 Y) (pv 3) hj hv rfl) (pbv 7) (pbv 6))
    (pbl_one (pst_set (i := 4) Y rfl (by first | exact Or.inl rfl | exact Or.inr rfl) pb_bl))))
    pbl_nil))))))
    (pbl_one (pst_ret (pb_tup (pas_cons (pbv 2) (pas_cons (pbv 3) pas_nil)))))))))
structure Of_greatest_gaps (P : Program) (w : World) (K : PySem.W.Frag) (mg : Str → Option Value) (base : Heap) : Prop where
  t : Txt P w K mg base
theorem ok_greatest_gaps {f : Addr} {fd : FuncData} (Fn : Fun K "greatest_gaps" "greatest_gaps" s_greatest_gaps f fd) (O : Of_greatest_gaps P w K mg base) : FnG P w K mg base 1 f fd ["horizon", "tasks", "lags"] (spD K mg g_greatest_gaps) := by
  have T := O.t
  refine fnD (N := N_greatest_gaps) Fn sc_greatest_gaps fun cd A out s H E Y => ?_
  exact (pbl_cons (pst_setO (i := 3) Y rfl (by first | exact Or.inl rfl | exact Or.inr rfl) po_dnewT)
    (pbl_cons (pst_for Y (piv_any (pbv 1)) (pgt_name (i := 4) Y.nd rfl (by first | exact Or.inl rfl | exact Or.inr rfl))
    (pbl_cons (pst_dput (i := 3) (fun hv hj => ps_dput (hu1 Y) (pv 3) hj hv rfl) (pb_tup (pas_cons pb_str (pas_cons (pbv 4) pas_nil))) pb_int)
    (pbl_one (pst_dput (i := 3) (fun hv hj => ps_dput (hu1 Y) (pv 3) hj hv rfl) (pb_tup (pas_cons (pbv 4) (pas_cons pb_str pas_nil))) (pb_neg (pbv 0))))))
    (pbl_cons (pst_for Y (piv_any (pbv 2)) (pgt_tup Y.calm (pgts_cons (pgt_name (i := 5) Y.nd rfl (by first | exact Or.inl rfl | exact Or.inr rfl)) (pgts_cons (pgt_name (i := 6) Y.nd rfl (by first | exact Or.inl rfl | exact Or.inr rfl)) (pgts_cons (pgt_name (i := 7) Y.nd rfl (by first | exact Or.inl rfl | exact Or.inr rfl)) pgts_nil))) (gCo_ln (gCo_ln (gCo_ln gNo_len))))
    (pbl_cons (pst_set (i := 8) Y rfl (by first | exact Or.inl rfl | exact Or.inr rfl) (pb_tup (pas_cons (pbv 5) (pas_cons (pbv 6) pas_nil))))
    (pbl_one (pst_dput (i := 3) (fun hv hj => ps_dput (hu1 Y) (pv 3) hj hv rfl) (pbv 8) (pb_callB (call_max2 Y.calm) cd_max2 (by rfl) T.z_max (by decide +kernel) (pas_cons (pbv 7) (pas_cons (pb_get (fun ho hk hx => pe_dget2 (hu1 Y) ho hk hx ⟨rfl, rfl, rfl, rfl⟩) (pbv 3) (pbv 8) (pbv 7)) pas_nil)))))))
    (pbl_one (pst_ret (pbv 3))))))
structure Of_Plan___lags (P : Program) (w : World) (K : PySem.W.Frag) (mg : Str → Option Value) (base : Heap) : Prop where
  t : Txt P w K mg base
theorem ok_Plan___lags {f : Addr} {fd : FuncData} (Fn : Fun K "lags" "Plan.lags" s_Plan___lags f fd) (O : Of_Plan___lags P w K mg base) : FnG P w K mg base 1 f fd ["self"] (spD K mg g_Plan___lags) := by
  have T := O.t
  obtain ⟨C_Plan, zm_Plan, zc_Plan, zn_Plan__lags, zn_Plan__times, zn_Plan_horizon⟩ := T.cl_Plan
  refine fnD (N := N_Plan___lags) Fn sc_Plan___lags fun cd A out s H E Y => ?_
  exact (pbl_one (pst_ret (pb_fld zm_Plan zc_Plan zn_Plan__lags (pbv 0))))
structure Of_gaps_of (P : Program) (w : World) (K : PySem.W.Frag) (mg : Str → Option Value) (base : Heap) : Prop where
  t : Txt P w K mg base
  q_Plan___times : ∀ C : Addr, mg "Plan" = some (.ref C) → ∃ (f : Addr) (fd : FuncData), FnG P w K mg base 1 f fd ["self"] (spD K mg g_Plan___times) ∧ Meth K C "times" f ∧ Binds K fd ["self"] []
  q_greatest_gaps : ∃ (f : Addr) (fd : FuncData), FnG P w K mg base 1 f fd ["horizon", "tasks", "lags"] (spD K mg g_greatest_gaps) ∧ mg "greatest_gaps" = some (.ref f) ∧ PySem.W.keepIn K (.ref f) = true ∧ Binds K fd ["horizon", "tasks", "lags"] []
  q_Plan___lags : ∀ C : Addr, mg "Plan" = some (.ref C) → ∃ (f : Addr) (fd : FuncData), FnG P w K mg base 1 f fd ["self"] (spD K mg g_Plan___lags) ∧ Meth K C "lags" f ∧ Binds K fd ["self"] []
theorem ok_gaps_of {f : Addr} {fd : FuncData} (Fn : Fun K "gaps_of" "gaps_of" s_gaps_of f fd) (O : Of_gaps_of P w K mg base) : FnG P w K mg base 2 f fd ["plan"] (spD K mg g_gaps_of) := by
  have T := O.t
  obtain ⟨C_Plan, zm_Plan, zc_Plan, zn_Plan__lags, zn_Plan__times, zn_Plan_horizon⟩ := T.cl_Plan
  obtain ⟨f_Plan___times, fd_Plan___times, o_Plan___times, zh_Plan___times, b_Plan___times⟩ := O.q_Plan___times C_Plan zm_Plan
  obtain ⟨f_greatest_gaps, fd_greatest_gaps, o_greatest_gaps, m_greatest_gaps, k_greatest_gaps, b_greatest_gaps⟩ := O.q_greatest_gaps
  obtain ⟨f_Plan___lags, fd_Plan___lags, o_Plan___lags, zh_Plan___lags, b_Plan___lags⟩ := O.q_Plan___lags C_Plan zm_Plan
  refine fnD (N := N_gaps_of) Fn sc_gaps_of fun cd A out s H E Y => ?_
  exact (pbl_one (pst_retO (po_user o_greatest_gaps (by decide) Y (by rfl) m_greatest_gaps k_greatest_gaps b_greatest_gaps (pas_cons (pb_fld zm_Plan zc_Plan zn_Plan_horizon (pbv 0)) (pas_cons (pb_meth0 (pl := _) zm_Plan zc_Plan zh_Plan___times o_Plan___times (by decide) Y b_Plan___times (pbv 0) [false]) (pas_cons (pb_meth0 (pl := _) zm_Plan zc_Plan zh_Plan___lags o_Plan___lags (by decide) Y b_Plan___lags (pbv 0) [false]) pas_nil))) [false, false, false])))
structure Of_distance (P : Program) (w : World) (K : PySem.W.Frag) (mg : Str → Option Value) (base : Heap) : Prop where
  t : Txt P w K mg base
  q_check_node : ∃ (f : Addr) (fd : FuncData), FnG P w K mg base 3 f fd ["plan", "thing"] (spD K mg g_check_node) ∧ mg "check_node" = some (.ref f) ∧ PySem.W.keepIn K (.ref f) = true ∧ Binds K fd ["plan", "thing"] []
  q_longest_chains : ∃ (f : Addr) (fd : FuncData), FnG P w K mg base 1 f fd ["gaps", "start"] (spD K mg g_longest_chains) ∧ mg "longest_chains" = some (.ref f) ∧ PySem.W.keepIn K (.ref f) = true ∧ Binds K fd ["gaps", "start"] []
  q_gaps_of : ∃ (f : Addr) (fd : FuncData), FnG P w K mg base 2 f fd ["plan"] (spD K mg g_gaps_of) ∧ mg "gaps_of" = some (.ref f) ∧ PySem.W.keepIn K (.ref f) = true ∧ Binds K fd ["plan"] []
theorem ok_distance {f : Addr} {fd : FuncData} (Fn : Fun K "distance" "distance" s_distance f fd) (O : Of_distance P w K mg base) : FnG P w K mg base 4 f fd ["plan", "first", "second"] (spD K mg g_distance) := by
  have T := O.t
  obtain ⟨f_check_node, fd_check_node, o_check_node, m_check_node, k_check_node, b_check_node⟩ := O.q_check_node
  obtain ⟨f_longest_chains, fd_longest_chains, o_longest_chains, m_longest_chains, k_longest_chains, b_longest_chains⟩ := O.q_longest_chains
  obtain ⟨f_gaps_of, fd_gaps_of, o_gaps_of, m_gaps_of, k_gaps_of, b_gaps_of⟩ := O.q_gaps_of
  refine fnD (N := N_distance) Fn sc_distance fun cd A out s H E Y => ?_
  exact (pbl_cons (pst_expr (pb_user o_check_node (by decide) Y (by rfl) m_check_node k_check_node b_check_node (pas_cons (pbv 0) (pas_cons (pbv 1) pas_nil)) [false, false]))
    (pbl_cons (pst_expr (pb_user o_check_node (by decide) Y (by rfl) m_check_node k_check_node b_check_node (pas_cons (pbv 0) (pas_cons (pbv 2) pas_nil)) [false, false]))
    (pbl_cons (pst_asg (pb_user o_longest_chains (by decide) Y (by rfl) m_longest_chains k_longest_chains b_longest_chains (pas_cons (pb_user o_gaps_of (by decide) Y (by rfl) m_gaps_of k_gaps_of b_gaps_of (pas_cons (pbv 0) pas_nil) [false]) (pas_cons (pbv 1) pas_nil)) [false, false]) (pgt_tup Y.calm (pgts_cons (pgt_name (i := 3) Y.nd rfl (by first | exact Or.inl rfl | exact Or.inr rfl)) (pgts_cons (pgt_name (i := 4) Y.nd rfl (by first | exact Or.inl rfl | exact Or.inr rfl)) pgts_nil)) (gCo_ln (gCo_ln gNo_len))))
    (pbl_one (pst_ret (pb_ix Y (pbv 3) (pbv 2) (fun _ _ => rfl)))))))
structure Of__law_table (P : Program) (w : World) (K : PySem.W.Frag) (mg : Str → Option Value) (base : Heap) : Prop where
  t : Txt P w K mg base
  q_distance : ∃ (f : Addr) (fd : FuncData), FnG P w K mg base 4 f fd ["plan", "first", "second"] (spD K mg g_distance) ∧ mg "distance" = some (.ref f) ∧ PySem.W.keepIn K (.ref f) = true ∧ Binds K fd ["plan", "first", "second"] []
theorem ok__law_table {f : Addr} {fd : FuncData} (Fn : Fun K "_law_table" "_law_table" s__law_table f fd) (O : Of__law_table P w K mg base) : FnG P w K mg base 5 f fd ["plan", "nodes"] (spD K mg g__law_table) := by
  have T := O.t
  obtain ⟨f_distance, fd_distance, o_distance, m_distance, k_distance, b_distance⟩ := O.q_distance
  refine fnD (N := N__law_table) Fn sc__law_table fun cd A out s H E Y => ?_
  exact (pbl_cons (pst_setO (i := 2) Y rfl (by first | exact Or.inl rfl | exact Or.inr rfl) po_dnewT)
    (pbl_cons (pst_for Y (piv_any (pbv 1)) (pgt_name (i := 3) Y.nd rfl (by first | exact Or.inl rfl | exact Or.inr rfl))
    (pbl_one (pst_for Y (piv_any (pbv 1)) (pgt_name (i := 4) Y.nd rfl (by first | exact Or.inl rfl | exact Or.inr rfl))
    (pbl_one (pst_dput (i := 2) (fun hv hj => ps_dput (hu1 Y) (pv 2) hj hv rfl) (pb_tup (pas_cons (pbv 3) (pas_cons (pbv 4) pas_nil))) (pb_user o_distance (by decide) Y (by rfl) m_distance k_distance b_distance (pas_cons (pbv 0) (pas_cons (pbv 3) (pas_cons (pbv 4) pas_nil))) [false, false, false]))))))
    (pbl_one (pst_ret (pbv 2)))))
structure Of_positive_cycle (P : Program) (w : World) (K : PySem.W.Frag) (mg : Str → Option Value) (base : Heap) : Prop where
  t : Txt P w K mg base
  q_greatest_gaps : ∃ (f : Addr) (fd : FuncData), FnG P w K mg base 1 f fd ["horizon", "tasks", "lags"] (spD K mg g_greatest_gaps) ∧ mg "greatest_gaps" = some (.ref f) ∧ PySem.W.keepIn K (.ref f) = true ∧ Binds K fd ["horizon", "tasks", "lags"] []
theorem ok_positive_cycle {f : Addr} {fd : FuncData} (Fn : Fun K "positive_cycle" "positive_cycle" s_positive_cycle f fd) (O : Of_positive_cycle P w K mg base) : FnG P w K mg base 2 f fd ["horizon", "tasks", "lags"] (spD K mg g_positive_cycle) := by
  have T := O.t
  obtain ⟨f_greatest_gaps, fd_greatest_gaps, o_greatest_gaps, m_greatest_gaps, k_greatest_gaps, b_greatest_gaps⟩ := O.q_greatest_gaps
  refine fnD (N := N_positive_cycle) Fn sc_positive_cycle fun cd A out s H E Y => ?_
  exact (pbl_cons (pst_setO (i := 3) Y rfl (by first | exact Or.inl rfl | exact Or.inr rfl) (po_user o_greatest_gaps (by decide) Y (by rfl) m_greatest_gaps k_greatest_gaps b_greatest_gaps (pas_cons (pbv 0) (pas_cons (pbv 1) (pas_cons (pbv 2) pas_nil))) [false, false, false]))
    (pbl_cons (pst_setO (i := 4) Y rfl (by first | exact Or.inl rfl | exact Or.inr rfl) (po_disp (pds_cons pb_str pb_int pds_nil) rfl rfl (by simp) (by decide)))
    (pbl_cons (pst_for Y (piv_any (pbv 1)) (pgt_name (i := 5) Y.nd rfl (by first | exact Or.inl rfl | exact Or.inr rfl))
    (pbl_one (pst_dput (i := 4) (fun hv hj => ps_dput (hu1 Y) (pv 4) hj hv rfl) (pbv 5) pb_int)))
    (pbl_cons (pst_setO (i := 6) Y rfl (by first | exact Or.inl rfl | exact Or.inr rfl) po_dnewK)
    (pbl_cons (pst_for Y (piv_rng1 (by rfl) T.z_range (pas_cons (pb_callB call_lenX cd_lenX (by rfl) T.z_len PySem.boot_len (pas_cons (pbv 4) pas_nil)) pas_nil)) (pgt_name (i := 7) Y.nd rfl (by first | exact Or.inl rfl | exact Or.inr rfl))
    (pbl_cons (pst_set (i := 8) Y rfl (by first | exact Or.inl rfl | exact Or.inr rfl) pb_non)
    (pbl_cons (pst_for Y (piv_items (pbv 3)) (pgt_tup Y.calm (pgts_cons (pgt_tup Y.calm (pgts_cons (pgt_name (i := 10) Y.nd rfl (by first | exact Or.inl rfl | exact Or.inr rfl)) (pgts_cons (pgt_name (i := 11) Y.nd rfl (by first | exact Or.inl rfl | exact Or.inr rfl)) pgts_nil)) (gCo_ln (gCo_ln gNo_len))) (pgts_cons (pgt_name (i := 9) Y.nd rfl (by first | exact Or.inl rfl | exact Or.inr rfl)) pgts_nil)) (gCo_ln (gCo_ln gNo_len)))
    (pbl_one (pst_if (pt_gt (pb_add (pb_ix Y (pbv 4) (pbv 10) (fun _ _ => rfl)) (pbv 9)) (pb_ix Y (pbv 4) (pbv 11) (fun _ _ => rfl)))
    (pbl_cons (pst_dput (i := 4) (fun hv hj => ps_dput (hu1 Y) (pv 4) hj hv rfl) (pbv 11) (pb_add (pb_ix Y (pbv 4) (pbv 10) (fun _ _ => rfl)) (pbv 9)))
    (pbl_cons (pst_dput (i := 6) (fun hv hj => ps_dput (hu1 Y) (pv 6) hj hv rfl) (pbv 11) (pbv 10))
    (pbl_one (pst_set (i := 8) Y rfl (by first | exact Or.inl rfl | exact Or.inr rfl) (pbv 11)))))
    pbl_nil)))
    (pbl_one (pst_if (pt_is (pbv 8) pb_non)
    (pbl_one (pst_ret pb_non))
    pbl_nil)))))
    (pbl_one (pst_ret pb_never)))))))
structure Of_is_integer_within (P : Program) (w : World) (K : PySem.W.Frag) (mg : Str → Option Value) (base : Heap) : Prop where
  t : Txt P w K mg base
theorem ok_is_integer_within {f : Addr} {fd : FuncData} (Fn : Fun K "is_integer_within" "is_integer_within" s_is_integer_within f fd) (O : Of_is_integer_within P w K mg base) : FnG P w K mg base 1 f fd ["thing", "low", "high"] (spD K mg g_is_integer_within) := by
  have T := O.t
  refine fnD (N := N_is_integer_within) Fn sc_is_integer_within fun cd A out s H E Y => ?_
  exact (pbl_cons (pst_if (pt_w (pw_o (pt_no (pt_tru (pb_isi (pbv 0) (by rfl) T.z_isinstance (by rfl) T.z_int (by decide +kernel) (by decide +kernel)))) (pw_o1 (pt_tru (pb_isi (pbv 0) (by rfl) T.z_isinstance (by rfl) T.z_bool (by decide +kernel) (by decide +kernel))))))
    (pbl_one (pst_ret pb_bl))
    pbl_nil)
    (pbl_one (pst_ret (pb_chain or_le or_le od_ord od_ord (pbv 1) (pbv 0) (pbv 2)))))
structure Of_is_name (P : Program) (w : World) (K : PySem.W.Frag) (mg : Str → Option Value) (base : Heap) : Prop where
  t : Txt P w K mg base
theorem ok_is_name {f : Addr} {fd : FuncData} (Fn : Fun K "is_name" "is_name" s_is_name f fd) (O : Of_is_name P w K mg base) : FnG P w K mg base 1 f fd ["thing"] (spD K mg g_is_name) := by
  have T := O.t
  obtain ⟨tk_LETTERS, C_LETTERS⟩ := T.c_LETTERS
  obtain ⟨tk_LONGEST_NAME, C_LONGEST_NAME⟩ := T.c_LONGEST_NAME
  refine fnD (N := N_is_name) Fn sc_is_name fun cd A out s H E Y => ?_
  exact (pbl_cons (pst_if (pt_w (pw_o (pt_no (pt_tru (pb_isi (pbv 0) (by rfl) T.z_isinstance (by rfl) T.z_str (by decide +kernel) (by decide +kernel)))) (pw_o1 (pt_no (ptt_chain or_le or_le od_ord od_ord pb_int (pb_callB call_lenX cd_lenX (by rfl) T.z_len PySem.boot_len (pas_cons (pbv 0) pas_nil)) (pb_glI (by rfl) C_LONGEST_NAME))))))
    (pbl_one (pst_ret pb_bl))
    pbl_nil)
    (pbl_one (pst_ret (pb_callB (cr_all Y.calm) cd_all (by rfl) T.z_all (by decide +kernel) (pas_cons (pb_keep (po_cmp Y (piv_any (pbv 0)) (blkOk_by (own := [("letter", 1)]) (N := N_is_name) (sc := defScope s_is_name) (by decide +kernel)) (fun s H C cl fp Y => (pgt_name (i := 1) Y.nd rfl (by first | exact Or.inl rfl | exact Or.inr rfl))) (fun s H C cl fp Y => ptq_nil) (fun s H C cl fp Y => (pb_in Y (pbv 1) (pb_glS (by rfl) C_LETTERS) rfl)) (by decide))) pas_nil)))))
structure Of_are_times (P : Program) (w : World) (K : PySem.W.Frag) (mg : Str → Option Value) (base : Heap) : Prop where
  t : Txt P w K mg base
  q_is_integer_within : ∃ (f : Addr) (fd : FuncData), FnG P w K mg base 1 f fd ["thing", "low", "high"] (spD K mg g_is_integer_within) ∧ mg "is_integer_within" = some (.ref f) ∧ PySem.W.keepIn K (.ref f) = true ∧ Binds K fd ["thing", "low", "high"] []
  q_is_name : ∃ (f : Addr) (fd : FuncData), FnG P w K mg base 1 f fd ["thing"] (spD K mg g_is_name) ∧ mg "is_name" = some (.ref f) ∧ PySem.W.keepIn K (.ref f) = true ∧ Binds K fd ["thing"] []
theorem ok_are_times {f : Addr} {fd : FuncData} (Fn : Fun K "are_times" "are_times" s_are_times f fd) (O : Of_are_times P w K mg base) : FnG P w K mg base 2 f fd ["thing", "horizon"] (spD K mg g_are_times) := by
  have T := O.t
  obtain ⟨f_is_integer_within, fd_is_integer_within, o_is_integer_within, m_is_integer_within, k_is_integer_within, b_is_integer_within⟩ := O.q_is_integer_within
  obtain ⟨f_is_name, fd_is_name, o_is_name, m_is_name, k_is_name, b_is_name⟩ := O.q_is_name
  refine fnD (N := N_are_times) Fn sc_are_times fun cd A out s H E Y => ?_
  exact (pbl_cons (pst_if (pt_no (pt_tru (pb_isi (pbv 0) (by rfl) T.z_isinstance (by rfl) T.z_dict (by decide +kernel) (by decide +kernel))))
    (pbl_one (pst_ret pb_bl))
    pbl_nil)
    (pbl_one (pst_ret (pb_callB (cr_all Y.calm) cd_all (by rfl) T.z_all (by decide +kernel) (pas_cons (pb_keep (po_cmp Y (piv_any (pbv 0)) (blkOk_by (own := [("name", 2)]) (N := N_are_times) (sc := defScope s_are_times) (by decide +kernel)) (fun s H C cl fp Y => (pgt_name (i := 2) Y.nd rfl (by first | exact Or.inl rfl | exact Or.inr rfl))) (fun s H C cl fp Y => ptq_nil) (fun s H C cl fp Y => (pb_and (pb_user o_is_name (by decide) Y (by rfl) m_is_name k_is_name b_is_name (pas_cons (pbv 2) pas_nil) [false]) (pb_one (pb_user o_is_integer_within (by decide) Y (by rfl) m_is_integer_within k_is_integer_within b_is_integer_within (pas_cons (pb_ix Y (pbv 0) (pbv 2) (fun _ _ => rfl)) (pas_cons pb_int (pas_cons (pbv 1) pas_nil))) [false, false, false])))) (by decide))) pas_nil)))))
structure Of_is_lag (P : Program) (w : World) (K : PySem.W.Frag) (mg : Str → Option Value) (base : Heap) : Prop where
  t : Txt P w K mg base
  q_is_node_of : ∃ (f : Addr) (fd : FuncData), FnG P w K mg base 2 f fd ["thing", "tasks"] (spD K mg g_is_node_of) ∧ mg "is_node_of" = some (.ref f) ∧ PySem.W.keepIn K (.ref f) = true ∧ Binds K fd ["thing", "tasks"] []
  q_is_integer_within : ∃ (f : Addr) (fd : FuncData), FnG P w K mg base 1 f fd ["thing", "low", "high"] (spD K mg g_is_integer_within) ∧ mg "is_integer_within" = some (.ref f) ∧ PySem.W.keepIn K (.ref f) = true ∧ Binds K fd ["thing", "low", "high"] []
theorem ok_is_lag {f : Addr} {fd : FuncData} (Fn : Fun K "is_lag" "is_lag" s_is_lag f fd) (O : Of_is_lag P w K mg base) : FnG P w K mg base 3 f fd ["thing", "tasks"] (spD K mg g_is_lag) := by
  have T := O.t
  obtain ⟨f_is_node_of, fd_is_node_of, o_is_node_of, m_is_node_of, k_is_node_of, b_is_node_of⟩ := O.q_is_node_of
  obtain ⟨f_is_integer_within, fd_is_integer_within, o_is_integer_within, m_is_integer_within, k_is_integer_within, b_is_integer_within⟩ := O.q_is_integer_within
  obtain ⟨tk_LARGEST, C_LARGEST⟩ := T.c_LARGEST
  refine fnD (N := N_is_lag) Fn sc_is_lag fun cd A out s H E Y => ?_
  exact (pbl_cons (pst_if (pt_w (pw_o (pt_no (pt_tru (pb_isi (pbv 0) (by rfl) T.z_isinstance (by rfl) T.z_tuple (by decide +kernel) (by decide +kernel)))) (pw_o1 (pt_ne Y (pb_callB call_lenX cd_lenX (by rfl) T.z_len PySem.boot_len (pas_cons (pbv 0) pas_nil)) pb_int))))
    (pbl_one (pst_ret pb_bl))
    pbl_nil)
    (pbl_cons (pst_asg (pbv 0) (pgt_tup Y.calm (pgts_cons (pgt_name (i := 2) Y.nd rfl (by first | exact Or.inl rfl | exact Or.inr rfl)) (pgts_cons (pgt_name (i := 3) Y.nd rfl (by first | exact Or.inl rfl | exact Or.inr rfl)) (pgts_cons (pgt_name (i := 4) Y.nd rfl (by first | exact Or.inl rfl | exact Or.inr rfl)) pgts_nil))) (gCo_ln (gCo_ln (gCo_ln gNo_len)))))
    (pbl_cons (pst_if (pt_w (pw_o (pt_no (pt_tru (pb_user o_is_node_of (by decide) Y (by rfl) m_is_node_of k_is_node_of b_is_node_of (pas_cons (pbv 2) (pas_cons (pbv 1) pas_nil)) [false, false]))) (pw_o1 (pt_no (pt_tru (pb_user o_is_node_of (by decide) Y (by rfl) m_is_node_of k_is_node_of b_is_node_of (pas_cons (pbv 3) (pas_cons (pbv 1) pas_nil)) [false, false]))))))
    (pbl_one (pst_ret pb_bl))
    pbl_nil)
    (pbl_one (pst_ret (pb_and (pb_ne Y (pbv 2) (pbv 3)) (pb_one (pb_user o_is_integer_within (by decide) Y (by rfl) m_is_integer_within k_is_integer_within b_is_integer_within (pas_cons (pbv 4) (pas_cons (pb_neg (pb_glI (by rfl) C_LARGEST)) (pas_cons (pb_glI (by rfl) C_LARGEST) pas_nil))) [false, false, false]))))))))
structure Of_form_plan (P : Program) (w : World) (K : PySem.W.Frag) (mg : Str → Option Value) (base : Heap) : Prop where
  t : Txt P w K mg base
  q_is_integer_within : ∃ (f : Addr) (fd : FuncData), FnG P w K mg base 1 f fd ["thing", "low", "high"] (spD K mg g_is_integer_within) ∧ mg "is_integer_within" = some (.ref f) ∧ PySem.W.keepIn K (.ref f) = true ∧ Binds K fd ["thing", "low", "high"] []
  q_are_times : ∃ (f : Addr) (fd : FuncData), FnG P w K mg base 2 f fd ["thing", "horizon"] (spD K mg g_are_times) ∧ mg "are_times" = some (.ref f) ∧ PySem.W.keepIn K (.ref f) = true ∧ Binds K fd ["thing", "horizon"] []
  q_is_lag : ∃ (f : Addr) (fd : FuncData), FnG P w K mg base 3 f fd ["thing", "tasks"] (spD K mg g_is_lag) ∧ mg "is_lag" = some (.ref f) ∧ PySem.W.keepIn K (.ref f) = true ∧ Binds K fd ["thing", "tasks"] []
theorem ok_form_plan {f : Addr} {fd : FuncData} (Fn : Fun K "form_plan" "form_plan" s_form_plan f fd) (O : Of_form_plan P w K mg base) : FnG P w K mg base 4 f fd ["horizon", "times", "lags"] (spD K mg g_form_plan) := by
  have T := O.t
  obtain ⟨f_is_integer_within, fd_is_integer_within, o_is_integer_within, m_is_integer_within, k_is_integer_within, b_is_integer_within⟩ := O.q_is_integer_within
  obtain ⟨f_are_times, fd_are_times, o_are_times, m_are_times, k_are_times, b_are_times⟩ := O.q_are_times
  obtain ⟨f_is_lag, fd_is_lag, o_is_lag, m_is_lag, k_is_lag, b_is_lag⟩ := O.q_is_lag
  obtain ⟨tk_LARGEST, C_LARGEST⟩ := T.c_LARGEST
  refine fnD (N := N_form_plan) Fn sc_form_plan fun cd A out s H E Y => ?_
  exact (pbl_cons (pst_if (pt_w (pw_o (pt_no (pt_tru (pb_user o_is_integer_within (by decide) Y (by rfl) m_is_integer_within k_is_integer_within b_is_integer_within (pas_cons (pbv 0) (pas_cons pb_int (pas_cons (pb_glI (by rfl) C_LARGEST) pas_nil))) [false, false, false]))) (pw_o1 (pt_no (pt_tru (pb_user o_are_times (by decide) Y (by rfl) m_are_times k_are_times b_are_times (pas_cons (pbv 1) (pas_cons (pbv 0) pas_nil)) [false, false]))))))
    (pbl_one (pst_ret pb_bl))
    pbl_nil)
    (pbl_cons (pst_if (pt_no (pt_tru (pb_isi2 (pbv 2) (by rfl) T.z_isinstance (by rfl) T.z_list (by rfl) T.z_tuple (by decide +kernel) (by decide +kernel) (by decide +kernel))))
    (pbl_one (pst_ret pb_bl))
    pbl_nil)
    (pbl_one (pst_ret (pb_callB (cr_all Y.calm) cd_all (by rfl) T.z_all (by decide +kernel) (pas_cons (pb_keep (po_cmp Y (piv_any (pbv 2)) (blkOk_by (own := [("lag", 3)]) (N := N_form_plan) (sc := defScope s_form_plan) (by decide +kernel)) (fun s H C cl fp Y => (pgt_name (i := 3) Y.nd rfl (by first | exact Or.inl rfl | exact Or.inr rfl))) (fun s H C cl fp Y => ptq_nil) (fun s H C cl fp Y => (pb_user o_is_lag (by decide) Y (by rfl) m_is_lag k_is_lag b_is_lag (pas_cons (pbv 3) (pas_cons (pbv 1) pas_nil)) [false, false])) (by decide))) pas_nil))))))
structure Of_Plan_____init__ (P : Program) (w : World) (K : PySem.W.Frag) (mg : Str → Option Value) (base : Heap) : Prop where
  t : Txt P w K mg base
  q_positive_cycle : ∃ (f : Addr) (fd : FuncData), FnG P w K mg base 2 f fd ["horizon", "tasks", "lags"] (spD K mg g_positive_cycle) ∧ mg "positive_cycle" = some (.ref f) ∧ PySem.W.keepIn K (.ref f) = true ∧ Binds K fd ["horizon", "tasks", "lags"] []
  q_form_plan : ∃ (f : Addr) (fd : FuncData), FnG P w K mg base 4 f fd ["horizon", "times", "lags"] (spD K mg g_form_plan) ∧ mg "form_plan" = some (.ref f) ∧ PySem.W.keepIn K (.ref f) = true ∧ Binds K fd ["horizon", "times", "lags"] []
theorem ok_Plan_____init__ {f : Addr} {fd : FuncData} {dvs : List V} (Fn : FunD K "__init__" "Plan.__init__" (defArgs s_Plan_____init__) (defBody s_Plan_____init__) (defScope s_Plan_____init__) dvs [] f fd) (O : Of_Plan_____init__ P w K mg base) : FnG P w K mg base 5 f fd ["self", "horizon", "times", "lags"] (spD K mg g_Plan_____init__) := by
  have T := O.t
  obtain ⟨C_Plan, zm_Plan, zc_Plan, zn_Plan__lags, zn_Plan__times, zn_Plan_horizon⟩ := T.cl_Plan
  obtain ⟨f_positive_cycle, fd_positive_cycle, o_positive_cycle, m_positive_cycle, k_positive_cycle, b_positive_cycle⟩ := O.q_positive_cycle
  obtain ⟨f_form_plan, fd_form_plan, o_form_plan, m_form_plan, k_form_plan, b_form_plan⟩ := O.q_form_plan
  refine fnDD (N := N_Plan_____init__) Fn sc_Plan_____init__ fun cd A out s H E Y => ?_
  exact (pbl_cons (pst_if (pt_no (pt_tru (pb_user o_form_plan (by decide) Y (by rfl) m_form_plan k_form_plan b_form_plan (pas_cons (pbv 1) (pas_cons (pbv 2) (pas_cons (pbv 3) pas_nil))) [false, false, false])))
    (pbl_one pst_never)
    pbl_nil)
    (pbl_cons (pst_set (i := 4) Y rfl (by first | exact Or.inl rfl | exact Or.inr rfl) (pb_user o_positive_cycle (by decide) Y (by rfl) m_positive_cycle k_positive_cycle b_positive_cycle (pas_cons (pbv 1) (pas_cons (pbv 2) (pas_cons (pbv 3) pas_nil))) [false, false, false]))
    (pbl_cons (pst_if (pt_isnot (pbv 4) pb_non)
    (pbl_one pst_never)
    pbl_nil)
    (pbl_cons (pst_fld (i := 0) zm_Plan zc_Plan zn_Plan_horizon (fun h => ps_fld (pv 0) h rfl) (pbv 1))
    (pbl_cons (pst_fld (i := 0) zm_Plan zc_Plan zn_Plan__times (fun h => ps_fld (pv 0) h rfl) (pb_keep (po_dcomp Y (piv_any (pb_keep (po_callB (call_sortedD Y.calm) co_sortedD (by rfl) T.z_sorted (by decide +kernel) (pas_cons (pbv 2) pas_nil)))) (blkOk_by (own := [("name", 5)]) (N := N_Plan_____init__) (sc := defScope s_Plan_____init__) (by decide +kernel)) (fun s H C cl fp Y => (pgt_name (i := 5) Y.nd rfl (by first | exact Or.inl rfl | exact Or.inr rfl))) (fun s H C cl fp Y => ptq_nil) (fun s H C cl fp Y => (pbv 5)) (fun s H C cl fp Y => (pb_ix Y (pbv 2) (pbv 5) (fun _ _ => rfl))) (by decide))))
    (pbl_one (pst_fld (i := 0) zm_Plan zc_Plan zn_Plan__lags (fun h => ps_fld (pv 0) h rfl) (pb_tss Y (by rfl) T.z_tuple (by decide +kernel) (by rfl) T.z_sorted (by decide +kernel) (by rfl) T.z_set (by decide +kernel) (pbv 3)))))))))
structure Of_chain (P : Program) (w : World) (K : PySem.W.Frag) (mg : Str → Option Value) (base : Heap) : Prop where
  t : Txt P w K mg base
  q_check_node : ∃ (f : Addr) (fd : FuncData), FnG P w K mg base 3 f fd ["plan", "thing"] (spD K mg g_check_node) ∧ mg "check_node" = some (.ref f) ∧ PySem.W.keepIn K (.ref f) = true ∧ Binds K fd ["plan", "thing"] []
  q_longest_chains : ∃ (f : Addr) (fd : FuncData), FnG P w K mg base 1 f fd ["gaps", "start"] (spD K mg g_longest_chains) ∧ mg "longest_chains" = some (.ref f) ∧ PySem.W.keepIn K (.ref f) = true ∧ Binds K fd ["gaps", "start"] []
  q_gaps_of : ∃ (f : Addr) (fd : FuncData), FnG P w K mg base 2 f fd ["plan"] (spD K mg g_gaps_of) ∧ mg "gaps_of" = some (.ref f) ∧ PySem.W.keepIn K (.ref f) = true ∧ Binds K fd ["plan"] []
theorem ok_chain {f : Addr} {fd : FuncData} (Fn : Fun K "chain" "chain" s_chain f fd) (O : Of_chain P w K mg base) : FnG P w K mg base 4 f fd ["plan", "first", "second"] (spD K mg g_chain) := by
  have T := O.t
  obtain ⟨f_check_node, fd_check_node, o_check_node, m_check_node, k_check_node, b_check_node⟩ := O.q_check_node
  obtain ⟨f_longest_chains, fd_longest_chains, o_longest_chains, m_longest_chains, k_longest_chains, b_longest_chains⟩ := O.q_longest_chains
  obtain ⟨f_gaps_of, fd_gaps_of, o_gaps_of, m_gaps_of, k_gaps_of, b_gaps_of⟩ := O.q_gaps_of
  refine fnD (N := N_chain) Fn sc_chain fun cd A out s H E Y => ?_
  exact (pbl_cons (pst_expr (pb_user o_check_node (by decide) Y (by rfl) m_check_node k_check_node b_check_node (pas_cons (pbv 0) (pas_cons (pbv 1) pas_nil)) [false, false]))
    (pbl_cons (pst_expr (pb_user o_check_node (by decide) Y (by rfl) m_check_node k_check_node b_check_node (pas_cons (pbv 0) (pas_cons (pbv 2) pas_nil)) [false, false]))
    (pbl_cons (pst_asg (pb_user o_longest_chains (by decide) Y (by rfl) m_longest_chains k_longest_chains b_longest_chains (pas_cons (pb_user o_gaps_of (by decide) Y (by rfl) m_gaps_of k_gaps_of b_gaps_of (pas_cons (pbv 0) pas_nil) [false]) (pas_cons (pbv 1) pas_nil)) [false, false]) (pgt_tup Y.calm (pgts_cons (pgt_name (i := 4) Y.nd rfl (by first | exact Or.inl rfl | exact Or.inr rfl)) (pgts_cons (pgt_name (i := 5) Y.nd rfl (by first | exact Or.inl rfl | exact Or.inr rfl)) pgts_nil)) (gCo_ln (gCo_ln gNo_len))))
    (pbl_cons (pst_setO (i := 3) Y rfl (by first | exact Or.inl rfl | exact Or.inr rfl) (po_lst (pas_cons (pbv 2) pas_nil)))
    (pbl_cons (pst_while Y 100000 (pt_ne Y (pb_ix Y (pbv 3) (pb_neg pb_int) (fun _ _ => rfl)) (pbv 1))
    (pbl_one (pst_expr (pb_append (i := 3) (fun h => pe_bm PySem.F.plainAttrs_list PySem.F.slot_list_append PySem.F.type_list_append mt_append (pv 3) h) (pb_ix Y (pbv 5) (pb_ix Y (pbv 3) (pb_neg pb_int) (fun _ _ => rfl)) (fun _ _ => rfl))))))
    (pbl_one (pst_ret (pb_tupRev Y.calm (by rfl) T.z_tuple (by rfl) T.z_reversed (pbv 3)))))))))
structure Of__law_parts_right (P : Program) (w : World) (K : PySem.W.Frag) (mg : Str → Option Value) (base : Heap) : Prop where
  t : Txt P w K mg base
  q_chain : ∃ (f : Addr) (fd : FuncData), FnG P w K mg base 4 f fd ["plan", "first", "second"] (spD K mg g_chain) ∧ mg "chain" = some (.ref f) ∧ PySem.W.keepIn K (.ref f) = true ∧ Binds K fd ["plan", "first", "second"] []
theorem ok__law_parts_right {f : Addr} {fd : FuncData} (Fn : Fun K "_law_parts_right" "_law_parts_right" s__law_parts_right f fd) (O : Of__law_parts_right P w K mg base) : FnG P w K mg base 5 f fd ["plan", "nodes", "far"] (spD K mg g__law_parts_right) := by
  have T := O.t
  obtain ⟨f_chain, fd_chain, o_chain, m_chain, k_chain, b_chain⟩ := O.q_chain
  refine fnD (N := N__law_parts_right) Fn sc__law_parts_right fun cd A out s H E Y => ?_
  exact (pbl_cons (pst_for Y (piv_any (pbv 1)) (pgt_name (i := 3) Y.nd rfl (by first | exact Or.inl rfl | exact Or.inr rfl))
    (pbl_one (pst_for Y (piv_any (pbv 1)) (pgt_name (i := 4) Y.nd rfl (by first | exact Or.inl rfl | exact Or.inr rfl))
    (pbl_cons (pst_set (i := 5) Y rfl (by first | exact Or.inl rfl | exact Or.inr rfl) (pb_user o_chain (by decide) Y (by rfl) m_chain k_chain b_chain (pas_cons (pbv 0) (pas_cons (pbv 3) (pas_cons (pbv 4) pas_nil))) [false, false, false]))
    (pbl_one (pst_for Y (piv_rng1 (by rfl) T.z_range (pas_cons (pb_callB call_lenX cd_lenX (by rfl) T.z_len PySem.boot_len (pas_cons (pbv 5) pas_nil)) pas_nil)) (pgt_name (i := 6) Y.nd rfl (by first | exact Or.inl rfl | exact Or.inr rfl))
    (pbl_one (pst_if (pt_ne Y (pb_add (pb_ix Y (pbv 2) (pb_tup (pas_cons (pbv 3) (pas_cons (pb_ix Y (pbv 5) (pbv 6) (fun _ _ => rfl)) pas_nil))) (fun _ _ => rfl)) (pb_ix Y (pbv 2) (pb_tup (pas_cons (pb_ix Y (pbv 5) (pbv 6) (fun _ _ => rfl)) (pas_cons (pbv 4) pas_nil))) (fun _ _ => rfl))) (pb_ix Y (pbv 2) (pb_tup (pas_cons (pbv 3) (pas_cons (pbv 4) pas_nil))) (fun _ _ => rfl)))
    (pbl_one (pst_ret pb_bl))
    pbl_nil))))))))
    (pbl_one (pst_ret pb_bl)))
structure Of_law (P : Program) (w : World) (K : PySem.W.Frag) (mg : Str → Option Value) (base : Heap) : Prop where
  t : Txt P w K mg base
  q__law_pen : ∃ (f : Addr) (fd : FuncData), FnG P w K mg base 1 f fd ["script"] (spD K mg g__law_pen) ∧ mg "_law_pen" = some (.ref f) ∧ PySem.W.keepIn K (.ref f) = true ∧ Binds K fd ["script"] []
  q__law_draw : ∃ (f : Addr) (fd : FuncData), FnG P w K mg base 2 f fd ["pen", "below"] (spD K mg g__law_draw) ∧ mg "_law_draw" = some (.ref f) ∧ PySem.W.keepIn K (.ref f) = true ∧ Binds K fd ["pen", "below"] []
  q__law_parts : ∃ (f : Addr) (fd : FuncData), FnG P w K mg base 4 f fd ["pen", "most"] (spD K mg g__law_parts) ∧ mg "_law_parts" = some (.ref f) ∧ PySem.W.keepIn K (.ref f) = true ∧ Binds K fd ["pen", "most"] []
  q__law_table : ∃ (f : Addr) (fd : FuncData), FnG P w K mg base 5 f fd ["plan", "nodes"] (spD K mg g__law_table) ∧ mg "_law_table" = some (.ref f) ∧ PySem.W.keepIn K (.ref f) = true ∧ Binds K fd ["plan", "nodes"] []
  q_Plan_____init__ : ∀ C : Addr, mg "Plan" = some (.ref C) → ∃ (f : Addr) (fd : FuncData), FnG P w K mg base 5 f fd ["self", "horizon", "times", "lags"] (spD K mg g_Plan_____init__) ∧ Mk K C f ∧ Binds K fd ["self", "horizon", "times", "lags"] [] ∧ ∃ (T : Addr) (ds : List Value), T0 K T ∧ Vals [V.ref T] ds ∧ Binds K fd ["self", "horizon", "times", "lags"] ds
  q__law_parts_right : ∃ (f : Addr) (fd : FuncData), FnG P w K mg base 5 f fd ["plan", "nodes", "far"] (spD K mg g__law_parts_right) ∧ mg "_law_parts_right" = some (.ref f) ∧ PySem.W.keepIn K (.ref f) = true ∧ Binds K fd ["plan", "nodes", "far"] []
theorem ok_law {f : Addr} {fd : FuncData} (Fn : Fun K "law" "law" s_law f fd) (O : Of_law P w K mg base) : FnG P w K mg base 7 f fd ["script"] (spD K mg g_law) := by
  have T := O.t
  obtain ⟨C_Plan, zm_Plan, zc_Plan, zn_Plan__lags, zn_Plan__times, zn_Plan_horizon⟩ := T.cl_Plan
  obtain ⟨f__law_pen, fd__law_pen, o__law_pen, m__law_pen, k__law_pen, b__law_pen⟩ := O.q__law_pen
  obtain ⟨f__law_draw, fd__law_draw, o__law_draw, m__law_draw, k__law_draw, b__law_draw⟩ := O.q__law_draw
  obtain ⟨f__law_parts, fd__law_parts, o__law_parts, m__law_parts, k__law_parts, b__law_parts⟩ := O.q__law_parts
  obtain ⟨f__law_table, fd__law_table, o__law_table, m__law_table, k__law_table, b__law_table⟩ := O.q__law_table
  obtain ⟨f_Plan_____init__, fd_Plan_____init__, o_Plan_____init__, zk_Plan, b_Plan_____init__, T_Plan_____init__, ds_Plan_____init__, zt_Plan_____init__, zv_Plan_____init__, zd_Plan_____init__⟩ := O.q_Plan_____init__ C_Plan zm_Plan
  obtain ⟨f__law_parts_right, fd__law_parts_right, o__law_parts_right, m__law_parts_right, k__law_parts_right, b__law_parts_right⟩ := O.q__law_parts_right
  refine fnD (N := N_law) Fn sc_law fun cd A out s H E Y => ?_
  exact (pbl_cons (pst_setO (i := 1) Y rfl (by first | exact Or.inl rfl | exact Or.inr rfl) (po_user o__law_pen (by decide) Y (by rfl) m__law_pen k__law_pen b__law_pen (pas_cons (pbv 0) pas_nil) [false]))
    (pbl_cons (pst_for Y (piv_rng1 (by rfl) T.z_range (pas_cons pb_int pas_nil)) (pgt_name (i := 2) Y.nd rfl (by first | exact Or.inl rfl | exact Or.inr rfl))
    (pbl_cons (pst_asg (pb_user o__law_parts (by decide) Y (by rfl) m__law_parts k__law_parts b__law_parts (pas_cons (pbv 1) (pas_cons pb_int pas_nil)) [true, false]) (pgt_tup Y.calm (pgts_cons (pgt_name (i := 6) Y.nd rfl (by first | exact Or.inl rfl | exact Or.inr rfl)) (pgts_cons (pgt_name (i := 7) Y.nd rfl (by first | exact Or.inl rfl | exact Or.inr rfl)) (pgts_cons (pgt_name (i := 8) Y.nd rfl (by first | exact Or.inl rfl | exact Or.inr rfl)) pgts_nil))) (gCo_ln (gCo_ln (gCo_ln gNo_len)))))
    (pbl_cons (pst_par (i := 9) (j := 10) Y rfl rfl (by decide) (by rfl) (by rfl) (pas_cons (pb_keep (po_make zk_Plan o_Plan_____init__ (by decide) Y (by rfl) zm_Plan b_Plan_____init__ (pas_cons (pbv 6) (pas_cons (pbv 7) (pas_cons (pbv 8) pas_nil))) [false, false, false])) (pas_cons (pb_add (pb_keep (po_lst (pas_cons pb_str pas_nil))) (pb_keep (po_callB (call_sortedD Y.calm) co_sortedD (by rfl) T.z_sorted (by decide +kernel) (pas_cons (pbv 7) pas_nil)))) pas_nil)) (by rfl))
    (pbl_cons (pst_set (i := 3) Y rfl (by first | exact Or.inl rfl | exact Or.inr rfl) (pb_user o__law_table (by decide) Y (by rfl) m__law_table k__law_table b__law_table (pas_cons (pbv 9) (pas_cons (pbv 10) pas_nil)) [false, false]))
    (pbl_cons (pst_setO (i := 4) Y rfl (by first | exact Or.inl rfl | exact Or.inr rfl) (po_callT (call_dictP Y.calm) co_dictP (by rfl) T.z_dict (by decide +kernel) (pas_cons (pb_keep (po_cmp Y (piv_any (pb_keep (po_callB (call_sortedD Y.calm) co_sortedD (by rfl) T.z_sorted (by decide +kernel) (pas_cons (pbv 7) pas_nil)))) (blkOk_by (own := [("name", 15)]) (N := N_law) (sc := defScope s_law) (by decide +kernel)) (fun s H C cl fp Y => (pgt_name (i := 15) Y.nd rfl (by first | exact Or.inl rfl | exact Or.inr rfl))) (fun s H C cl fp Y => ptq_nil) (fun s H C cl fp Y => (pb_tup (pas_cons (pbv 15) (pas_cons (pb_user o__law_draw (by decide) Y (by rfl) m__law_draw k__law_draw b__law_draw (pas_cons (pbv 1) (pas_cons (pb_add (pbv 6) pb_int) pas_nil)) [true, false]) pas_nil)))) (by decide))) pas_nil)))
    (pbl_cons (pst_if (pt_w (pw_o (pt_neT Y (pb_user o__law_table (by decide) Y (by rfl) m__law_table k__law_table b__law_table (pas_cons (pb_keep (po_make zk_Plan o_Plan_____init__ (by decide) Y (by rfl) zm_Plan b_Plan_____init__ (pas_cons (pbv 6) (pas_cons (pbv 4) (pas_cons (pbv 8) pas_nil))) [false, false, false])) (pas_cons (pbv 10) pas_nil)) [false, false]) (pbv 3)) (pw_o1 (pt_no (pt_tru (pb_user o__law_parts_right (by decide) Y (by rfl) m__law_parts_right k__law_parts_right b__law_parts_right (pas_cons (pbv 9) (pas_cons (pbv 10) (pas_cons (pbv 3) pas_nil))) [false, false, false]))))))
    (pbl_one (pst_ret pb_bl))
    pbl_nil)
    (pbl_cons (pst_par (i := 11) (j := 12) Y rfl rfl (by decide) (by rfl) (by rfl) (pas_cons (pb_ix Y (pbv 10) (pb_user o__law_draw (by decide) Y (by rfl) m__law_draw k__law_draw b__law_draw (pas_cons (pbv 1) (pas_cons (pb_callB call_lenX cd_lenX (by rfl) T.z_len PySem.boot_len (pas_cons (pbv 10) pas_nil)) pas_nil)) [true, false]) (fun _ _ => rfl)) (pas_cons (pb_ix Y (pbv 10) (pb_user o__law_draw (by decide) Y (by rfl) m__law_draw k__law_draw b__law_draw (pas_cons (pbv 1) (pas_cons (pb_callB call_lenX cd_lenX (by rfl) T.z_len PySem.boot_len (pas_cons (pbv 10) pas_nil)) pas_nil)) [true, false]) (fun _ _ => rfl)) pas_nil)) (by rfl))
    (pbl_cons (pst_set (i := 5) Y rfl (by first | exact Or.inl rfl | exact Or.inr rfl) (pb_add (pb_ix Y (pbv 3) (pb_tup (pas_cons (pbv 11) (pas_cons (pbv 12) pas_nil))) (fun _ _ => rfl)) (pb_ix Y (pb_keep (po_lst (pas_cons pb_int (pas_cons (pb_neg pb_int) (pas_cons pb_int (pas_cons pb_int pas_nil)))))) (pb_user o__law_draw (by decide) Y (by rfl) m__law_draw k__law_draw b__law_draw (pas_cons (pbv 1) (pas_cons pb_int pas_nil)) [true, false]) (fun _ _ => rfl))))
    (pbl_one (pst_if (pt_w (pw_a (pt_neT Y (pbv 11) (pbv 12)) (pw_a (ptt_chain or_le or_le od_ord od_ord (pb_neg (pb_pow pb_int pb_int)) (pbv 5) (pb_pow pb_int pb_int)) (pw_a1 (pt_le (pb_add (pbv 5) (pb_ix Y (pbv 3) (pb_tup (pas_cons (pbv 12) (pas_cons (pbv 11) pas_nil))) (fun _ _ => rfl))) pb_int)))))
    (pbl_cons (pst_set (i := 13) Y rfl (by first | exact Or.inl rfl | exact Or.inr rfl) (pb_user o__law_table (by decide) Y (by rfl) m__law_table k__law_table b__law_table (pas_cons (pb_keep (po_make zk_Plan o_Plan_____init__ (by decide) Y (by rfl) zm_Plan b_Plan_____init__ (pas_cons (pbv 6) (pas_cons (pbv 7) (pas_cons (pb_add (pbv 8) (pb_keep (po_lst (pas_cons (pb_tup (pas_cons (pbv 11) (pas_cons (pbv 12) (pas_cons (pbv 5) pas_nil)))) pas_nil)))) pas_nil))) [false, false, false])) (pas_cons (pbv 10) pas_nil)) [false, false]))
    (pbl_one (pst_for Y (piv_keysT (pbv 3)) (pgt_name (i := 14) Y.nd rfl (by first | exact Or.inl rfl | exact Or.inr rfl))
    (pbl_one (pst_if (pt_neT Y (pb_ix Y (pbv 13) (pbv 14) (fun _ _ => rfl)) (pb_callB (call_max2 Y.calm) cd_max2 (by rfl) T.z_max (by decide +kernel) (pas_cons (pb_ix Y (pbv 3) (pbv 14) (fun _ _ => rfl)) (pas_cons (pb_add (pb_add (pb_ix Y (pbv 3) (pb_tup (pas_cons (pb_ix Y (pbv 14) pb_int (fun _ _ => rfl)) (pas_cons (pbv 11) pas_nil))) (fun _ _ => rfl)) (pbv 5)) (pb_ix Y (pbv 3) (pb_tup (pas_cons (pbv 12) (pas_cons (pb_ix Y (pbv 14) pb_int (fun _ _ => rfl)) pas_nil))) (fun _ _ => rfl))) pas_nil))))
    (pbl_one (pst_ret pb_bl))
    pbl_nil)))))
    pbl_nil))))))))))
    (pbl_one (pst_ret pb_bl))))
end
theorem all_mk {P : Program} {w : World} {K : PySem.W.Frag} {h : Heap} {mg : Str → Option Value} {fa f1 f2 f3 f4 f5 f6 f7 f8 f9 f10 f11 f12 f13 f14 f15 f16 f17 f18 f19 f20 f21 f22 f23 f24 f25 f26 f27 f28 : Addr} (X : K.In h) (G : h.Ns mainGlobals mg) (hfa : mg "law" = some (.ref fa))
    {od1 an1 od2 an2 od3 an3 od4 an4 od5 an5 od6 an6 od7 an7 od8 an8 od9 an9 od10 an10 od11 an11 od12 an12 od13 an13 od14 an14 od15 an15 od16 an16 od17 an17 od18 an18 od19 an19 od20 an20 od21 an21 od22 an22 od23 an23 od24 an24 od25 an25 od26 an26 od27 an27 od28 an28 : Option Addr} {sl1 sl2 sl3 sl4 sl5 sl6 sl7 sl8 sl9 sl10 sl11 sl12 sl13 sl14 sl15 sl16 sl17 sl18 sl19 sl20 sl21 sl22 sl23 sl24 sl25 sl26 sl27 sl28 : Array (Option Value)} {oc1 kV1 dc1 pm1 cd1 ct1 oc2 kV2 dc2 pm2 cd2 ct2 oc3 kV3 dc3 pm3 cd3 ct3 oc4 kV4 dc4 pm4 cd4 ct4 oc5 kV5 dc5 pm5 cd5 ct5 oc6 kV6 dc6 pm6 cd6 ct6 oc7 kV7 dc7 pm7 cd7 ct7 oc8 kV8 dc8 pm8 cd8 ct8 oc9 kV9 dc9 pm9 cd9 ct9 oc10 kV10 dc10 pm10 cd10 ct10 oc11 kV11 dc11 pm11 cd11 ct11 oc12 kV12 dc12 pm12 cd12 ct12 oc13 kV13 dc13 pm13 cd13 ct13 oc14 kV14 dc14 pm14 cd14 ct14 oc15 kV15 dc15 pm15 cd15 ct15 oc16 kV16 dc16 pm16 cd16 ct16 oc17 kV17 dc17 pm17 cd17 ct17 oc18 kV18 dc18 pm18 cd18 ct18 oc19 kV19 dc19 pm19 cd19 ct19 oc20 kV20 dc20 pm20 cd20 ct20 oc21 kV21 dc21 pm21 cd21 ct21 oc22 kV22 dc22 pm22 cd22 ct22 oc23 kV23 dc23 pm23 cd23 ct23 oc24 kV24 dc24 pm24 cd24 ct24 oc25 kV25 dc25 pm25 cd25 ct25 oc26 kV26 dc26 pm26 cd26 ct26 oc27 kV27 dc27 pm27 cd27 ct27 oc28 kV28 dc28 pm28 cd28 ct28 : Value}
    {C_Plan : Addr}
    (n_Plan : PySem.W.nsIn K mainGlobals "Plan" = some (some (.ref C_Plan))) (ca_Plan : PySem.W.plainGet K C_Plan Str.empty = true) (cb_Plan : PySem.W.hasDictIn K C_Plan = true) (cc_Plan : PySem.W.plainOver K C_Plan = true) (cd_Plan : PySem.W.findIn K (.ref C_Plan) "__setattr__" = some (some (.builtin "object.__setattr__"))) (ce_Plan : PySem.W.makesIn K C_Plan = true) (ck_Plan : PySem.W.keepIn K (.ref C_Plan) = true) (cf_Plan__lags : PySem.W.findIn K (.ref C_Plan) "_lags" = some none) (cf_Plan__times : PySem.W.findIn K (.ref C_Plan) "_times" = some none) (cf_Plan_horizon : PySem.W.findIn K (.ref C_Plan) "horizon" = some none)
    (a1 : PySem.W.nsIn K mainGlobals "_law_pen" = some (some (.ref f1))) (l1 : K.lookup f1 = some ⟨oc1, od1, .func (PySem.W.fnOf "_law_pen" "_law_pen" (defArgs s__law_pen) (defBody s__law_pen) (defScope s__law_pen) .none kV1 dc1 pm1 an1 cd1 ct1), sl1⟩) (c1 : PySem.W.codeIn K cd1 "_law_pen" = true) (k1 : PySem.W.keepIn K (.ref f1) = true)
    (a2 : PySem.W.nsIn K mainGlobals "_law_next" = some (some (.ref f2))) (l2 : K.lookup f2 = some ⟨oc2, od2, .func (PySem.W.fnOf "_law_next" "_law_next" (defArgs s__law_next) (defBody s__law_next) (defScope s__law_next) .none kV2 dc2 pm2 an2 cd2 ct2), sl2⟩) (c2 : PySem.W.codeIn K cd2 "_law_next" = true) (k2 : PySem.W.keepIn K (.ref f2) = true)
    (a3 : PySem.W.nsIn K mainGlobals "_law_draw" = some (some (.ref f3))) (l3 : K.lookup f3 = some ⟨oc3, od3, .func (PySem.W.fnOf "_law_draw" "_law_draw" (defArgs s__law_draw) (defBody s__law_draw) (defScope s__law_draw) .none kV3 dc3 pm3 an3 cd3 ct3), sl3⟩) (c3 : PySem.W.codeIn K cd3 "_law_draw" = true) (k3 : PySem.W.keepIn K (.ref f3) = true)
    (a4 : PySem.W.nsIn K mainGlobals "_law_names" = some (some (.ref f4))) (l4 : K.lookup f4 = some ⟨oc4, od4, .func (PySem.W.fnOf "_law_names" "_law_names" (defArgs s__law_names) (defBody s__law_names) (defScope s__law_names) .none kV4 dc4 pm4 an4 cd4 ct4), sl4⟩) (c4 : PySem.W.codeIn K cd4 "_law_names" = true) (k4 : PySem.W.keepIn K (.ref f4) = true)
    (a5 : PySem.W.nsIn K mainGlobals "_law_starts" = some (some (.ref f5))) (l5 : K.lookup f5 = some ⟨oc5, od5, .func (PySem.W.fnOf "_law_starts" "_law_starts" (defArgs s__law_starts) (defBody s__law_starts) (defScope s__law_starts) .none kV5 dc5 pm5 an5 cd5 ct5), sl5⟩) (c5 : PySem.W.codeIn K cd5 "_law_starts" = true) (k5 : PySem.W.keepIn K (.ref f5) = true)
    (a6 : PySem.W.nsIn K mainGlobals "_law_far" = some (some (.ref f6))) (l6 : K.lookup f6 = some ⟨oc6, od6, .func (PySem.W.fnOf "_law_far" "_law_far" (defArgs s__law_far) (defBody s__law_far) (defScope s__law_far) .none kV6 dc6 pm6 an6 cd6 ct6), sl6⟩) (c6 : PySem.W.codeIn K cd6 "_law_far" = true) (k6 : PySem.W.keepIn K (.ref f6) = true)
    (a7 : PySem.W.nsIn K mainGlobals "_law_limits" = some (some (.ref f7))) (l7 : K.lookup f7 = some ⟨oc7, od7, .func (PySem.W.fnOf "_law_limits" "_law_limits" (defArgs s__law_limits) (defBody s__law_limits) (defScope s__law_limits) .none kV7 dc7 pm7 an7 cd7 ct7), sl7⟩) (c7 : PySem.W.codeIn K cd7 "_law_limits" = true) (k7 : PySem.W.keepIn K (.ref f7) = true)
    (a8 : PySem.W.nsIn K mainGlobals "_law_parts" = some (some (.ref f8))) (l8 : K.lookup f8 = some ⟨oc8, od8, .func (PySem.W.fnOf "_law_parts" "_law_parts" (defArgs s__law_parts) (defBody s__law_parts) (defScope s__law_parts) .none kV8 dc8 pm8 an8 cd8 ct8), sl8⟩) (c8 : PySem.W.codeIn K cd8 "_law_parts" = true) (k8 : PySem.W.keepIn K (.ref f8) = true)
    (a9 : PySem.W.nsIn K mainGlobals "is_task_of" = some (some (.ref f9))) (l9 : K.lookup f9 = some ⟨oc9, od9, .func (PySem.W.fnOf "is_task_of" "is_task_of" (defArgs s_is_task_of) (defBody s_is_task_of) (defScope s_is_task_of) .none kV9 dc9 pm9 an9 cd9 ct9), sl9⟩) (c9 : PySem.W.codeIn K cd9 "is_task_of" = true) (k9 : PySem.W.keepIn K (.ref f9) = true)
    (a10 : PySem.W.nsIn K mainGlobals "is_node_of" = some (some (.ref f10))) (l10 : K.lookup f10 = some ⟨oc10, od10, .func (PySem.W.fnOf "is_node_of" "is_node_of" (defArgs s_is_node_of) (defBody s_is_node_of) (defScope s_is_node_of) .none kV10 dc10 pm10 an10 cd10 ct10), sl10⟩) (c10 : PySem.W.codeIn K cd10 "is_node_of" = true) (k10 : PySem.W.keepIn K (.ref f10) = true)
    (a11 : PySem.W.findIn K (.ref C_Plan) "times" = some (some (.ref f11))) (fn11 : PySem.W.isFn K (.ref f11) = true) (l11 : K.lookup f11 = some ⟨oc11, od11, .func (PySem.W.fnOf "times" "Plan.times" (defArgs s_Plan___times) (defBody s_Plan___times) (defScope s_Plan___times) .none kV11 dc11 pm11 an11 cd11 ct11), sl11⟩) (c11 : PySem.W.codeIn K cd11 "Plan.times" = true) (k11 : PySem.W.keepIn K (.ref f11) = true)
    (a12 : PySem.W.nsIn K mainGlobals "check_node" = some (some (.ref f12))) (l12 : K.lookup f12 = some ⟨oc12, od12, .func (PySem.W.fnOf "check_node" "check_node" (defArgs s_check_node) (defBody s_check_node) (defScope s_check_node) .none kV12 dc12 pm12 an12 cd12 ct12), sl12⟩) (c12 : PySem.W.codeIn K cd12 "check_node" = true) (k12 : PySem.W.keepIn K (.ref f12) = true)
    (a13 : PySem.W.nsIn K mainGlobals "longest_chains" = some (some (.ref f13))) (l13 : K.lookup f13 = some ⟨oc13, od13, .func (PySem.W.fnOf "longest_chains" "longest_chains" (defArgs s_longest_chains) (defBody s_longest_chains) (defScope s_longest_chains) .none kV13 dc13 pm13 an13 cd13 ct13), sl13⟩) (c13 : PySem.W.codeIn K cd13 "longest_chains" = true) (k13 : PySem.W.keepIn K (.ref f13) = true)
    (a14 : PySem.W.nsIn K mainGlobals "greatest_gaps" = some (some (.ref f14))) (l14 : K.lookup f14 = some ⟨oc14, od14, .func (PySem.W.fnOf "greatest_gaps" "greatest_gaps" (defArgs s_greatest_gaps) (defBody s_greatest_gaps) (defScope s_greatest_gaps) .none kV14 dc14 pm14 an14 cd14 ct14), sl14⟩) (c14 : PySem.W.codeIn K cd14 "greatest_gaps" = true) (k14 : PySem.W.keepIn K (.ref f14) = true)
    (a15 : PySem.W.findIn K (.ref C_Plan) "lags" = some (some (.ref f15))) (fn15 : PySem.W.isFn K (.ref f15) = true) (l15 : K.lookup f15 = some ⟨oc15, od15, .func (PySem.W.fnOf "lags" "Plan.lags" (defArgs s_Plan___lags) (defBody s_Plan___lags) (defScope s_Plan___lags) .none kV15 dc15 pm15 an15 cd15 ct15), sl15⟩) (c15 : PySem.W.codeIn K cd15 "Plan.lags" = true) (k15 : PySem.W.keepIn K (.ref f15) = true)
    (a16 : PySem.W.nsIn K mainGlobals "gaps_of" = some (some (.ref f16))) (l16 : K.lookup f16 = some ⟨oc16, od16, .func (PySem.W.fnOf "gaps_of" "gaps_of" (defArgs s_gaps_of) (defBody s_gaps_of) (defScope s_gaps_of) .none kV16 dc16 pm16 an16 cd16 ct16), sl16⟩) (c16 : PySem.W.codeIn K cd16 "gaps_of" = true) (k16 : PySem.W.keepIn K (.ref f16) = true)
    (a17 : PySem.W.nsIn K mainGlobals "distance" = some (some (.ref f17))) (l17 : K.lookup f17 = some ⟨oc17, od17, .func (PySem.W.fnOf "distance" "distance" (defArgs s_distance) (defBody s_distance) (defScope s_distance) .none kV17 dc17 pm17 an17 cd17 ct17), sl17⟩) (c17 : PySem.W.codeIn K cd17 "distance" = true) (k17 : PySem.W.keepIn K (.ref f17) = true)
    (a18 : PySem.W.nsIn K mainGlobals "_law_table" = some (some (.ref f18))) (l18 : K.lookup f18 = some ⟨oc18, od18, .func (PySem.W.fnOf "_law_table" "_law_table" (defArgs s__law_table) (defBody s__law_table) (defScope s__law_table) .none kV18 dc18 pm18 an18 cd18 ct18), sl18⟩) (c18 : PySem.W.codeIn K cd18 "_law_table" = true) (k18 : PySem.W.keepIn K (.ref f18) = true)
    (a19 : PySem.W.nsIn K mainGlobals "positive_cycle" = some (some (.ref f19))) (l19 : K.lookup f19 = some ⟨oc19, od19, .func (PySem.W.fnOf "positive_cycle" "positive_cycle" (defArgs s_positive_cycle) (defBody s_positive_cycle) (defScope s_positive_cycle) .none kV19 dc19 pm19 an19 cd19 ct19), sl19⟩) (c19 : PySem.W.codeIn K cd19 "positive_cycle" = true) (k19 : PySem.W.keepIn K (.ref f19) = true)
    (a20 : PySem.W.nsIn K mainGlobals "is_integer_within" = some (some (.ref f20))) (l20 : K.lookup f20 = some ⟨oc20, od20, .func (PySem.W.fnOf "is_integer_within" "is_integer_within" (defArgs s_is_integer_within) (defBody s_is_integer_within) (defScope s_is_integer_within) .none kV20 dc20 pm20 an20 cd20 ct20), sl20⟩) (c20 : PySem.W.codeIn K cd20 "is_integer_within" = true) (k20 : PySem.W.keepIn K (.ref f20) = true)
    (a21 : PySem.W.nsIn K mainGlobals "is_name" = some (some (.ref f21))) (l21 : K.lookup f21 = some ⟨oc21, od21, .func (PySem.W.fnOf "is_name" "is_name" (defArgs s_is_name) (defBody s_is_name) (defScope s_is_name) .none kV21 dc21 pm21 an21 cd21 ct21), sl21⟩) (c21 : PySem.W.codeIn K cd21 "is_name" = true) (k21 : PySem.W.keepIn K (.ref f21) = true)
    (a22 : PySem.W.nsIn K mainGlobals "are_times" = some (some (.ref f22))) (l22 : K.lookup f22 = some ⟨oc22, od22, .func (PySem.W.fnOf "are_times" "are_times" (defArgs s_are_times) (defBody s_are_times) (defScope s_are_times) .none kV22 dc22 pm22 an22 cd22 ct22), sl22⟩) (c22 : PySem.W.codeIn K cd22 "are_times" = true) (k22 : PySem.W.keepIn K (.ref f22) = true)
    (a23 : PySem.W.nsIn K mainGlobals "is_lag" = some (some (.ref f23))) (l23 : K.lookup f23 = some ⟨oc23, od23, .func (PySem.W.fnOf "is_lag" "is_lag" (defArgs s_is_lag) (defBody s_is_lag) (defScope s_is_lag) .none kV23 dc23 pm23 an23 cd23 ct23), sl23⟩) (c23 : PySem.W.codeIn K cd23 "is_lag" = true) (k23 : PySem.W.keepIn K (.ref f23) = true)
    (a24 : PySem.W.nsIn K mainGlobals "form_plan" = some (some (.ref f24))) (l24 : K.lookup f24 = some ⟨oc24, od24, .func (PySem.W.fnOf "form_plan" "form_plan" (defArgs s_form_plan) (defBody s_form_plan) (defScope s_form_plan) .none kV24 dc24 pm24 an24 cd24 ct24), sl24⟩) (c24 : PySem.W.codeIn K cd24 "form_plan" = true) (k24 : PySem.W.keepIn K (.ref f24) = true)
    {dT25 tT25 : Addr} {dc25_ : Value} {dd25_ td25_ : Option Addr} {dn25_ tn25_ : Nat} {ds25_ ts25_ : Array (Option Value)} (dl25 : K.lookup dT25 = some ⟨dc25_, dd25_, .seq #[.ref tT25] dn25_, ds25_⟩) (tl25 : K.lookup tT25 = some ⟨.type "tuple", td25_, .seq #[] tn25_, ts25_⟩)
    (a25 : PySem.W.findIn K (.ref C_Plan) "__init__" = some (some (.ref f25))) (fn25 : PySem.W.isFn K (.ref f25) = true) (l25 : K.lookup f25 = some ⟨oc25, od25, .func (PySem.W.fnOf "__init__" "Plan.__init__" (defArgs s_Plan_____init__) (defBody s_Plan_____init__) (defScope s_Plan_____init__) (.ref dT25) kV25 dc25 pm25 an25 cd25 ct25), sl25⟩) (c25 : PySem.W.codeIn K cd25 "Plan.__init__" = true) (k25 : PySem.W.keepIn K (.ref f25) = true)
    (a26 : PySem.W.nsIn K mainGlobals "chain" = some (some (.ref f26))) (l26 : K.lookup f26 = some ⟨oc26, od26, .func (PySem.W.fnOf "chain" "chain" (defArgs s_chain) (defBody s_chain) (defScope s_chain) .none kV26 dc26 pm26 an26 cd26 ct26), sl26⟩) (c26 : PySem.W.codeIn K cd26 "chain" = true) (k26 : PySem.W.keepIn K (.ref f26) = true)
    (a27 : PySem.W.nsIn K mainGlobals "_law_parts_right" = some (some (.ref f27))) (l27 : K.lookup f27 = some ⟨oc27, od27, .func (PySem.W.fnOf "_law_parts_right" "_law_parts_right" (defArgs s__law_parts_right) (defBody s__law_parts_right) (defScope s__law_parts_right) .none kV27 dc27 pm27 an27 cd27 ct27), sl27⟩) (c27 : PySem.W.codeIn K cd27 "_law_parts_right" = true) (k27 : PySem.W.keepIn K (.ref f27) = true)
    (a28 : PySem.W.nsIn K mainGlobals "law" = some (some (.ref f28))) (l28 : K.lookup f28 = some ⟨oc28, od28, .func (PySem.W.fnOf "law" "law" (defArgs s_law) (defBody s_law) (defScope s_law) .none kV28 dc28 pm28 an28 cd28 ct28), sl28⟩) (c28 : PySem.W.codeIn K cd28 "law" = true) (k28 : PySem.W.keepIn K (.ref f28) = true)
    {tk_LARGEST tk_LETTERS tk_LONGEST_NAME : Tok}
    (g_LARGEST : PySem.W.nsIn K mainGlobals "LARGEST" = some (some (.int 1000000 tk_LARGEST)))
    (g_LETTERS : PySem.W.nsIn K mainGlobals "LETTERS" = some (some (.str c_LETTERS tk_LETTERS)))
    (g_LONGEST_NAME : PySem.W.nsIn K mainGlobals "LONGEST_NAME" = some (some (.int 8 tk_LONGEST_NAME)))
    (z_all : PySem.W.nsIn K mainGlobals "all" = some none)
    (z_any : PySem.W.nsIn K mainGlobals "any" = some none)
    (z_bool : PySem.W.nsIn K mainGlobals "bool" = some none)
    (z_dict : PySem.W.nsIn K mainGlobals "dict" = some none)
    (z_int : PySem.W.nsIn K mainGlobals "int" = some none)
    (z_isinstance : PySem.W.nsIn K mainGlobals "isinstance" = some none)
    (z_len : PySem.W.nsIn K mainGlobals "len" = some none)
    (z_list : PySem.W.nsIn K mainGlobals "list" = some none)
    (z_max : PySem.W.nsIn K mainGlobals "max" = some none)
    (z_min : PySem.W.nsIn K mainGlobals "min" = some none)
    (z_range : PySem.W.nsIn K mainGlobals "range" = some none)
    (z_reversed : PySem.W.nsIn K mainGlobals "reversed" = some none)
    (z_set : PySem.W.nsIn K mainGlobals "set" = some none)
    (z_sorted : PySem.W.nsIn K mainGlobals "sorted" = some none)
    (z_str : PySem.W.nsIn K mainGlobals "str" = some none)
    (z_tuple : PySem.W.nsIn K mainGlobals "tuple" = some none)
    : ∃ fd : FuncData, (∀ (s : Shared) (v : Value), BindsTo s fd ⟨[v], []⟩ [("script", v)]) ∧ ∀ base : Heap, K.In base → base.Ns mainGlobals mg → FnG P w K mg base 7 fa fd ["script"] (spD K mg g_law) := by
  have e := hfa.symm.trans (PySem.W.mg_of X G a28)
  cases e
  refine ⟨PySem.W.fnOf "law" "law" (defArgs s_law) (defBody s_law) (defScope s_law) .none kV28 dc28 pm28 an28 cd28 ct28, fun s v => .of_eq rfl, fun base _ _ => ?_⟩
  have mx_Plan := PySem.W.mg_of X G n_Plan
  have T : Txt P w K mg base := ⟨PySem.W.mg_none_of X G z_all, PySem.W.mg_none_of X G z_any, PySem.W.mg_none_of X G z_bool, PySem.W.mg_none_of X G z_dict, PySem.W.mg_none_of X G z_int, PySem.W.mg_none_of X G z_isinstance, PySem.W.mg_none_of X G z_len, PySem.W.mg_none_of X G z_list, PySem.W.mg_none_of X G z_max, PySem.W.mg_none_of X G z_min, PySem.W.mg_none_of X G z_range, PySem.W.mg_none_of X G z_reversed, PySem.W.mg_none_of X G z_set, PySem.W.mg_none_of X G z_sorted, PySem.W.mg_none_of X G z_str, PySem.W.mg_none_of X G z_tuple, ⟨_, PySem.W.mg_of X G g_LARGEST⟩, ⟨_, PySem.W.mg_of X G g_LETTERS⟩, ⟨_, PySem.W.mg_of X G g_LONGEST_NAME⟩, ⟨C_Plan, mx_Plan, ⟨ca_Plan, cb_Plan, cc_Plan, cd_Plan⟩, cf_Plan__lags, cf_Plan__times, cf_Plan_horizon⟩⟩
  have F1 := fun_mk (st := s__law_pen) l1 c1 k1
  have b1 := F1.binds (ps := ["script"]) fun _ _ _ _ _ _ us hl => match us, hl with | [_], _ => rfl
  have O1 : Of__law_pen P w K mg base := ⟨T⟩
  have F2 := fun_mk (st := s__law_next) l2 c2 k2
  have b2 := F2.binds (ps := ["pen"]) fun _ _ _ _ _ _ us hl => match us, hl with | [_], _ => rfl
  have O2 : Of__law_next P w K mg base := ⟨T⟩
  have F3 := fun_mk (st := s__law_draw) l3 c3 k3
  have b3 := F3.binds (ps := ["pen", "below"]) fun _ _ _ _ _ _ us hl => match us, hl with | [_, _], _ => rfl
  have O3 : Of__law_draw P w K mg base := ⟨T, (⟨_, _, ok__law_next F2 O2, PySem.W.mg_of X G a2, k2, b2⟩)⟩
  have F4 := fun_mk (st := s__law_names) l4 c4 k4
  have b4 := F4.binds (ps := ["pen", "tally"]) fun _ _ _ _ _ _ us hl => match us, hl with | [_, _], _ => rfl
  have O4 : Of__law_names P w K mg base := ⟨T, (⟨_, _, ok__law_draw F3 O3, PySem.W.mg_of X G a3, k3, b3⟩)⟩
  have F5 := fun_mk (st := s__law_starts) l5 c5 k5
  have b5 := F5.binds (ps := ["pen", "names", "wide"]) fun _ _ _ _ _ _ us hl => match us, hl with | [_, _, _], _ => rfl
  have O5 : Of__law_starts P w K mg base := ⟨T, (⟨_, _, ok__law_draw F3 O3, PySem.W.mg_of X G a3, k3, b3⟩)⟩
  have F6 := fun_mk (st := s__law_far) l6 c6 k6
  have b6 := F6.binds (ps := ["names", "wide", "limits"]) fun _ _ _ _ _ _ us hl => match us, hl with | [_, _, _], _ => rfl
  have O6 : Of__law_far P w K mg base := ⟨T⟩
  have F7 := fun_mk (st := s__law_limits) l7 c7 k7
  have b7 := F7.binds (ps := ["pen", "names", "starts", "wide", "tally"]) fun _ _ _ _ _ _ us hl => match us, hl with | [_, _, _, _, _], _ => rfl
  have O7 : Of__law_limits P w K mg base := ⟨T, (⟨_, _, ok__law_draw F3 O3, PySem.W.mg_of X G a3, k3, b3⟩), (⟨_, _, ok__law_far F6 O6, PySem.W.mg_of X G a6, k6, b6⟩)⟩
  have F8 := fun_mk (st := s__law_parts) l8 c8 k8
  have b8 := F8.binds (ps := ["pen", "most"]) fun _ _ _ _ _ _ us hl => match us, hl with | [_, _], _ => rfl
  have O8 : Of__law_parts P w K mg base := ⟨T, (⟨_, _, ok__law_draw F3 O3, PySem.W.mg_of X G a3, k3, b3⟩), (⟨_, _, ok__law_names F4 O4, PySem.W.mg_of X G a4, k4, b4⟩), (⟨_, _, ok__law_starts F5 O5, PySem.W.mg_of X G a5, k5, b5⟩), (⟨_, _, ok__law_limits F7 O7, PySem.W.mg_of X G a7, k7, b7⟩)⟩
  have F9 := fun_mk (st := s_is_task_of) l9 c9 k9
  have b9 := F9.binds (ps := ["thing", "tasks"]) fun _ _ _ _ _ _ us hl => match us, hl with | [_, _], _ => rfl
  have O9 : Of_is_task_of P w K mg base := ⟨T⟩
  have F10 := fun_mk (st := s_is_node_of) l10 c10 k10
  have b10 := F10.binds (ps := ["thing", "tasks"]) fun _ _ _ _ _ _ us hl => match us, hl with | [_, _], _ => rfl
  have O10 : Of_is_node_of P w K mg base := ⟨T, (⟨_, _, ok_is_task_of F9 O9, PySem.W.mg_of X G a9, k9, b9⟩)⟩
  have F11 := fun_mk (st := s_Plan___times) l11 c11 k11
  have b11 := F11.binds (ps := ["self"]) fun _ _ _ _ _ _ us hl => match us, hl with | [_], _ => rfl
  have O11 : Of_Plan___times P w K mg base := ⟨T⟩
  have F12 := fun_mk (st := s_check_node) l12 c12 k12
  have b12 := F12.binds (ps := ["plan", "thing"]) fun _ _ _ _ _ _ us hl => match us, hl with | [_, _], _ => rfl
  have O12 : Of_check_node P w K mg base := ⟨T, (⟨_, _, ok_is_node_of F10 O10, PySem.W.mg_of X G a10, k10, b10⟩), (fun C' e => by cases mx_Plan.symm.trans e; exact ⟨_, _, ok_Plan___times F11 O11, ⟨a11, fn11, k11⟩, b11⟩)⟩
  have F13 := fun_mk (st := s_longest_chains) l13 c13 k13
  have b13 := F13.binds (ps := ["gaps", "start"]) fun _ _ _ _ _ _ us hl => match us, hl with | [_, _], _ => rfl
  have O13 : Of_longest_chains P w K mg base := ⟨T⟩
  have F14 := fun_mk (st := s_greatest_gaps) l14 c14 k14
  have b14 := F14.binds (ps := ["horizon", "tasks", "lags"]) fun _ _ _ _ _ _ us hl => match us, hl with | [_, _, _], _ => rfl
  have O14 : Of_greatest_gaps P w K mg base := ⟨T⟩
  have F15 := fun_mk (st := s_Plan___lags) l15 c15 k15
  have b15 := F15.binds (ps := ["self"]) fun _ _ _ _ _ _ us hl => match us, hl with | [_], _ => rfl
  have O15 : Of_Plan___lags P w K mg base := ⟨T⟩
  have F16 := fun_mk (st := s_gaps_of) l16 c16 k16
  have b16 := F16.binds (ps := ["plan"]) fun _ _ _ _ _ _ us hl => match us, hl with | [_], _ => rfl
  have O16 : Of_gaps_of P w K mg base := ⟨T, (fun C' e => by cases mx_Plan.symm.trans e; exact ⟨_, _, ok_Plan___times F11 O11, ⟨a11, fn11, k11⟩, b11⟩), (⟨_, _, ok_greatest_gaps F14 O14, PySem.W.mg_of X G a14, k14, b14⟩), (fun C' e => by cases mx_Plan.symm.trans e; exact ⟨_, _, ok_Plan___lags F15 O15, ⟨a15, fn15, k15⟩, b15⟩)⟩
  have F17 := fun_mk (st := s_distance) l17 c17 k17
  have b17 := F17.binds (ps := ["plan", "first", "second"]) fun _ _ _ _ _ _ us hl => match us, hl with | [_, _, _], _ => rfl
  have O17 : Of_distance P w K mg base := ⟨T, (⟨_, _, ok_check_node F12 O12, PySem.W.mg_of X G a12, k12, b12⟩), (⟨_, _, ok_longest_chains F13 O13, PySem.W.mg_of X G a13, k13, b13⟩), (⟨_, _, ok_gaps_of F16 O16, PySem.W.mg_of X G a16, k16, b16⟩)⟩
  have F18 := fun_mk (st := s__law_table) l18 c18 k18
  have b18 := F18.binds (ps := ["plan", "nodes"]) fun _ _ _ _ _ _ us hl => match us, hl with | [_, _], _ => rfl
  have O18 : Of__law_table P w K mg base := ⟨T, (⟨_, _, ok_distance F17 O17, PySem.W.mg_of X G a17, k17, b17⟩)⟩
  have F19 := fun_mk (st := s_positive_cycle) l19 c19 k19
  have b19 := F19.binds (ps := ["horizon", "tasks", "lags"]) fun _ _ _ _ _ _ us hl => match us, hl with | [_, _, _], _ => rfl
  have O19 : Of_positive_cycle P w K mg base := ⟨T, (⟨_, _, ok_greatest_gaps F14 O14, PySem.W.mg_of X G a14, k14, b14⟩)⟩
  have F20 := fun_mk (st := s_is_integer_within) l20 c20 k20
  have b20 := F20.binds (ps := ["thing", "low", "high"]) fun _ _ _ _ _ _ us hl => match us, hl with | [_, _, _], _ => rfl
  have O20 : Of_is_integer_within P w K mg base := ⟨T⟩
  have F21 := fun_mk (st := s_is_name) l21 c21 k21
  have b21 := F21.binds (ps := ["thing"]) fun _ _ _ _ _ _ us hl => match us, hl with | [_], _ => rfl
  have O21 : Of_is_name P w K mg base := ⟨T⟩
  have F22 := fun_mk (st := s_are_times) l22 c22 k22
  have b22 := F22.binds (ps := ["thing", "horizon"]) fun _ _ _ _ _ _ us hl => match us, hl with | [_, _], _ => rfl
  have O22 : Of_are_times P w K mg base := ⟨T, (⟨_, _, ok_is_integer_within F20 O20, PySem.W.mg_of X G a20, k20, b20⟩), (⟨_, _, ok_is_name F21 O21, PySem.W.mg_of X G a21, k21, b21⟩)⟩
  have F23 := fun_mk (st := s_is_lag) l23 c23 k23
  have b23 := F23.binds (ps := ["thing", "tasks"]) fun _ _ _ _ _ _ us hl => match us, hl with | [_, _], _ => rfl
  have O23 : Of_is_lag P w K mg base := ⟨T, (⟨_, _, ok_is_node_of F10 O10, PySem.W.mg_of X G a10, k10, b10⟩), (⟨_, _, ok_is_integer_within F20 O20, PySem.W.mg_of X G a20, k20, b20⟩)⟩
  have F24 := fun_mk (st := s_form_plan) l24 c24 k24
  have b24 := F24.binds (ps := ["horizon", "times", "lags"]) fun _ _ _ _ _ _ us hl => match us, hl with | [_, _, _], _ => rfl
  have O24 : Of_form_plan P w K mg base := ⟨T, (⟨_, _, ok_is_integer_within F20 O20, PySem.W.mg_of X G a20, k20, b20⟩), (⟨_, _, ok_are_times F22 O22, PySem.W.mg_of X G a22, k22, b22⟩), (⟨_, _, ok_is_lag F23 O23, PySem.W.mg_of X G a23, k23, b23⟩)⟩
  have F25 : FunD K "__init__" "Plan.__init__" (defArgs s_Plan_____init__) (defBody s_Plan_____init__) (defScope s_Plan_____init__) [V.ref tT25] [] f25 _ := ⟨⟨_, _, _, _, _, _, _, _, _, _, rfl, l25, c25, .inr ⟨by simp, dT25, _, [.ref tT25], _, rfl, dl25, rfl, .cons rfl .nil⟩, .inl rfl⟩, k25⟩
  have t25 : T0 K tT25 := ⟨_, #[], _, tl25, rfl, rfl, Nat.zero_le _, .nil⟩
  obtain ⟨e25, v25, b25⟩ := F25.binds1 (ps := ["self", "horizon", "times", "lags"]) 4 1 (by simp) rfl fun _ _ _ _ _ _ _ us its h1 h2 => match us, its, h1, h2 with | [_, _, _, _], [_], _, _ => ⟨_, rfl, rfl⟩
  cases v25
  obtain ⟨ds25, w25, bd25⟩ := F25.binds1 (ps := ["self", "horizon", "times", "lags"]) 3 0 (by simp) rfl fun _ _ _ _ _ _ _ us its h1 h2 => match us, its, h1, h2 with | [_, _, _], [_], _, _ => ⟨_, rfl, rfl⟩
  have O25 : Of_Plan_____init__ P w K mg base := ⟨T, (⟨_, _, ok_positive_cycle F19 O19, PySem.W.mg_of X G a19, k19, b19⟩), (⟨_, _, ok_form_plan F24 O24, PySem.W.mg_of X G a24, k24, b24⟩)⟩
  have F26 := fun_mk (st := s_chain) l26 c26 k26
  have b26 := F26.binds (ps := ["plan", "first", "second"]) fun _ _ _ _ _ _ us hl => match us, hl with | [_, _, _], _ => rfl
  have O26 : Of_chain P w K mg base := ⟨T, (⟨_, _, ok_check_node F12 O12, PySem.W.mg_of X G a12, k12, b12⟩), (⟨_, _, ok_longest_chains F13 O13, PySem.W.mg_of X G a13, k13, b13⟩), (⟨_, _, ok_gaps_of F16 O16, PySem.W.mg_of X G a16, k16, b16⟩)⟩
  have F27 := fun_mk (st := s__law_parts_right) l27 c27 k27
  have b27 := F27.binds (ps := ["plan", "nodes", "far"]) fun _ _ _ _ _ _ us hl => match us, hl with | [_, _, _], _ => rfl
  have O27 : Of__law_parts_right P w K mg base := ⟨T, (⟨_, _, ok_chain F26 O26, PySem.W.mg_of X G a26, k26, b26⟩)⟩
  have F28 := fun_mk (st := s_law) l28 c28 k28
  have b28 := F28.binds (ps := ["script"]) fun _ _ _ _ _ _ us hl => match us, hl with | [_], _ => rfl
  have O28 : Of_law P w K mg base := ⟨T, (⟨_, _, ok__law_pen F1 O1, PySem.W.mg_of X G a1, k1, b1⟩), (⟨_, _, ok__law_draw F3 O3, PySem.W.mg_of X G a3, k3, b3⟩), (⟨_, _, ok__law_parts F8 O8, PySem.W.mg_of X G a8, k8, b8⟩), (⟨_, _, ok__law_table F18 O18, PySem.W.mg_of X G a18, k18, b18⟩), (fun C' e => by cases mx_Plan.symm.trans e; exact ⟨_, _, ok_Plan_____init__ F25 O25, ⟨ce_Plan, a25, fn25, ck_Plan⟩, b25, tT25, ds25, t25, w25, bd25⟩), (⟨_, _, ok__law_parts_right F27 O27, PySem.W.mg_of X G a27, k27, b27⟩)⟩
  exact ok_law F28 O28
section
variable {α : Type} [DecidableEq α]
theorem nd_len : ∀ {l r : List α}, l.Nodup → (∀ x ∈ l, x ∈ r) → l.length ≤ r.length
  | [], _, _, _ => Nat.zero_le _
  | x :: l, r, nd, h => by
    have hx := h x List.mem_cons_self
    obtain ⟨n1, n2⟩ := List.nodup_cons.mp nd
    have ih := nd_len (l := l) (r := r.erase x) n2 fun y m => (List.mem_erase_of_ne (fun e : y = x => n1 (by rw [← e]; exact m))).mpr (h y (List.mem_cons_of_mem _ m))
    rw [List.length_erase_of_mem hx] at ih
    have := List.length_pos_of_mem hx
    rw [List.length_cons]; omega
abbrev Eds (α : Type) := List (α × α × Int)
def stepF (R : α → Int) (v : α) : Eds α → Int → Int
  | [], m => m
  | (a, b, g) :: E, m => stepF R v E (if b = v ∧ m < R a + g then R a + g else m)
theorem stepF_ge (R : α → Int) (v : α) : ∀ (E : Eds α) (m : Int), m ≤ stepF R v E m
  | [], _ => Int.le_refl _
  | (a, b, g) :: E, m => by
    unfold stepF
    refine Int.le_trans ?_ (stepF_ge R v E _)
    split <;> omega
theorem stepF_mem (R : α → Int) (v : α) : ∀ (E : Eds α) (m : Int) (a : α) (g : Int), (a, v, g) ∈ E → R a + g ≤ stepF R v E m
  | [], _, _, _, h => absurd h List.not_mem_nil
  | (a', b, g') :: E, m, a, g, h => by
    unfold stepF
    rcases List.mem_cons.mp h with h | h
    · cases h
      refine Int.le_trans ?_ (stepF_ge R v E _)
      split <;> rename_i q
      · omega
      · have : ¬ m < R _ + _ := fun z => q ⟨rfl, z⟩
        omega
    · exact stepF_mem R v E _ a g h
theorem stepF_or (R : α → Int) (v : α) : ∀ (E : Eds α) (m : Int), stepF R v E m = m ∨ ∃ a g, (a, v, g) ∈ E ∧ stepF R v E m = R a + g
  | [], _ => .inl rfl
  | (a, b, g) :: E, m => by
    unfold stepF
    rcases stepF_or R v E (if b = v ∧ m < R a + g then R a + g else m) with h | ⟨a', g', m1, h⟩
    · rw [h]
      split <;> rename_i q
      · exact .inr ⟨_, _, by rw [← q.1]; exact List.mem_cons_self, rfl⟩
      · exact .inl rfl
    · exact .inr ⟨a', g', List.mem_cons_of_mem _ m1, h⟩
def Wk (R0 : α → Int) (E : Eds α) : Nat → α → Int
  | 0 => R0
  | k + 1 => fun v => stepF (Wk R0 E k) v E (Wk R0 E k v)
theorem Wk_up (R0 : α → Int) (E : Eds α) (v : α) (i : Nat) : ∀ j, Wk R0 E i v ≤ Wk R0 E (i + j) v
  | 0 => Int.le_refl _
  | j + 1 => Int.le_trans (Wk_up R0 E v i j) (stepF_ge _ _ _ _)
theorem Wk_le (R0 : α → Int) (E : Eds α) (v : α) {i j : Nat} (h : i ≤ j) : Wk R0 E i v ≤ Wk R0 E j v := by
  have := Wk_up R0 E v i (j - i)
  rwa [Nat.add_sub_cancel' h] at this
/-- what bounds every chain -/
structure Clo (nodes : List α) (E : Eds α) (f : α → α → Int) : Prop where
  ed : ∀ a b g, (a, b, g) ∈ E → a ∈ nodes ∧ b ∈ nodes ∧ g ≤ f a b
  dg : ∀ a ∈ nodes, f a a ≤ 0
  tri : ∀ a ∈ nodes, ∀ b ∈ nodes, ∀ c ∈ nodes, f a b + f b c ≤ f a c
theorem Wk_rank {nodes : List α} {E : Eds α} {f : α → α → Int} {R0 : α → Int} (C : Clo nodes E f) : ∀ (k : Nat) (v : α), v ∈ nodes → Wk R0 E k v < Wk R0 E (k + 1) v →
    ∃ l : List α, l.Nodup ∧ (∀ u ∈ l, u ∈ nodes) ∧ l.length = k + 1 ∧ (∀ u ∈ l, ∃ i, i ≤ k ∧ Wk R0 E (k + 1) v ≤ Wk R0 E i u + f u v) ∧ v ∉ l := by
  intro k
  induction k with
  | zero =>
    intro v hv lt
    rcases stepF_or (Wk R0 E 0) v E (Wk R0 E 0 v) with h | ⟨a, g, m, h⟩
    · have : Wk R0 E (0 + 1) v = Wk R0 E 0 v := h
      omega
    · have h : Wk R0 E 1 v = Wk R0 E 0 a + g := h
      obtain ⟨ma, _, le⟩ := C.ed a v g m
      refine ⟨[a], List.nodup_cons.mpr ⟨List.not_mem_nil, .nil⟩, fun u mu => ?_, rfl, fun u mu => ?_, fun mu => ?_⟩
      · cases List.mem_singleton.mp mu; exact ma
      · cases List.mem_singleton.mp mu
        have : Wk R0 E (0 + 1) v = Wk R0 E 1 v := rfl
        exact ⟨0, Nat.le_refl _, by omega⟩
      · cases List.mem_singleton.mp mu
        have := C.dg v hv
        have : Wk R0 E (0 + 1) v = Wk R0 E 1 v := rfl
        omega
  | succ k ih =>
    intro v hv lt
    rcases stepF_or (Wk R0 E (k + 1)) v E (Wk R0 E (k + 1) v) with h | ⟨a, g, m, h⟩
    · have : Wk R0 E (k + 1 + 1) v = Wk R0 E (k + 1) v := h
      omega
    · have h : Wk R0 E (k + 1 + 1) v = Wk R0 E (k + 1) a + g := h
      obtain ⟨ma, _, le⟩ := C.ed a v g m
      have up : Wk R0 E k a + g ≤ Wk R0 E (k + 1) v := stepF_mem (Wk R0 E k) v E (Wk R0 E k v) a g m
      obtain ⟨l, n1, n2, n3, n4, n5⟩ := ih a ma (by omega)
      have all : ∀ u ∈ a :: l, ∃ i, i ≤ k + 1 ∧ Wk R0 E (k + 1 + 1) v ≤ Wk R0 E i u + f u v := by
        intro u mu
        rcases List.mem_cons.mp mu with rfl | mu
        · exact ⟨k + 1, Nat.le_refl _, by omega⟩
        · obtain ⟨i, hi, q⟩ := n4 u mu
          have := C.tri u (n2 u mu) a ma v hv
          exact ⟨i, by omega, by omega⟩
      refine ⟨a :: l, List.nodup_cons.mpr ⟨n5, n1⟩, fun u mu => ?_, by rw [List.length_cons, n3], all, fun mu => ?_⟩
      · rcases List.mem_cons.mp mu with rfl | mu
        · exact ma
        · exact n2 u mu
      · obtain ⟨i, hi, q⟩ := all v mu
        have := C.dg v hv
        have := Wk_le R0 E v hi
        omega
/-- settled, when there have been as many rounds as nodes, less one -/
theorem Wk_fix {nodes : List α} {E : Eds α} {f : α → α → Int} {R0 : α → Int} (C : Clo nodes E f) {n : Nat} (hn : nodes.length = n + 1) {v : α} (hv : v ∈ nodes) : Wk R0 E (n + 1) v ≤ Wk R0 E n v := by
  refine Int.not_lt.mp fun lt => ?_
  obtain ⟨l, n1, n2, n3, n4, n5⟩ := Wk_rank C n v hv lt
  have := nd_len (l := v :: l) (r := nodes) (List.nodup_cons.mpr ⟨n5, n1⟩) fun x m => by
    rcases List.mem_cons.mp m with rfl | m
    · exact hv
    · exact n2 x m
  rw [List.length_cons] at this
  omega
theorem Wk_edge {nodes : List α} {E : Eds α} {f : α → α → Int} {R0 : α → Int} (C : Clo nodes E f) {n : Nat} (hn : nodes.length = n + 1) {a b : α} {g : Int} (m : (a, b, g) ∈ E) : Wk R0 E n a + g ≤ Wk R0 E n b :=
  Int.le_trans (stepF_mem (Wk R0 E n) b E (Wk R0 E n b) a g m) (Wk_fix C hn (C.ed a b g m).2.1)
/-- x has been between -/
structure Via (nodes : List α) (x : α) (f g : α → α → Int) : Prop where
  up : ∀ a ∈ nodes, ∀ c ∈ nodes, f a c ≤ g a c
  top : f x x ≤ 0 → ∀ a ∈ nodes, ∀ c ∈ nodes, g a c ≤ f a c ∨ g a c ≤ f a x + f x c
  thr : f x x ≤ 0 → ∀ a ∈ nodes, ∀ c ∈ nodes, f a x + f x c ≤ g a c
def TriAt (nodes : List α) (f : α → α → Int) (m : α) : Prop := ∀ a ∈ nodes, ∀ c ∈ nodes, f a m + f m c ≤ f a c
theorem Via.here {nodes : List α} {x : α} {f g : α → α → Int} (V : Via nodes x f g) (hx : x ∈ nodes) (d : f x x ≤ 0) : TriAt nodes g x := by
  intro a ha c hc
  have t1 := V.thr d a ha c hc
  have t2 := V.top d a ha x hx
  have t3 := V.top d x hx c hc
  rcases t2 with t2 | t2 <;> rcases t3 with t3 | t3 <;> omega
theorem Via.keep {nodes : List α} {x m : α} {f g : α → α → Int} (V : Via nodes x f g) (hx : x ∈ nodes) (hm : m ∈ nodes) (d : f x x ≤ 0) (T : TriAt nodes f m) : TriAt nodes g m := by
  intro a ha c hc
  have t1 := V.thr d a ha c hc
  have t2 := V.top d a ha m hm
  have t3 := V.top d m hm c hc
  have t4 := V.up a ha c hc
  have s1 := T a ha c hc
  have s2 := T x hx c hc
  have s3 := T a ha x hx
  have s4 := T x hx x hx
  rcases t2 with t2 | t2 <;> rcases t3 with t3 | t3 <;> omega
end
section
variable {α : Type} [DecidableEq α]
/-- steps back -/
inductive PR (p : α → Option α) : α → α → Prop
  | one {v u} : p v = some u → PR p v u
  | more {v w u} : p v = some w → PR p w u → PR p v u
theorem PR.trans {p : α → Option α} {x y z : α} (h : PR p x y) (k : PR p y z) : PR p x z := by
  induction h with
  | one e => exact .more e k
  | more e _ ih => exact .more e (ih k)
def updO {β : Type} (p : α → Option β) (b : α) (x : β) : α → Option β := fun v => if b = v then some x else p v
theorem updO_at {β : Type} (p : α → Option β) (b : α) (x : β) : updO p b x b = some x := if_pos rfl
theorem updO_ne {β : Type} (p : α → Option β) {b v : α} (x : β) (h : b ≠ v) : updO p b x v = p v := if_neg h
theorem PR.upd {p : α → Option α} {a b x y : α} (h : PR (updO p b a) x y) : PR p x y ∨ ((x = b ∨ PR p x b) ∧ (y = a ∨ PR p a y)) := by
  induction h with
  | one e =>
    rename_i x y
    by_cases q : b = x
    · subst q; rw [updO_at] at e; cases e; exact .inr ⟨.inl rfl, .inl rfl⟩
    · rw [updO_ne _ _ q] at e; exact .inl (.one e)
  | more e _ ih =>
    rename_i x w y _
    by_cases q : b = x
    · subst q; rw [updO_at] at e; cases e
      rcases ih with ih | ⟨_, ih⟩
      · exact .inr ⟨.inl rfl, .inr ih⟩
      · exact .inr ⟨.inl rfl, ih⟩
    · rw [updO_ne _ _ q] at e
      rcases ih with ih | ⟨ih1, ih2⟩
      · exact .inl (.more e ih)
      · refine .inr ⟨.inr ?_, ih2⟩
        rcases ih1 with rfl | ih1
        · exact .one e
        · exact .more e ih1
/-- totals T from s, the steps back p -/
structure Bf (nodes : List α) (E : Eds α) (f : α → α → Int) (s : α) (T : α → Option Int) (p : α → Option α) : Prop where
  s0 : T s = some 0
  ps : p s = none
  le : ∀ v t, T v = some t → v ∈ nodes ∧ t ≤ f s v
  pr : ∀ v u, p v = some u → ∃ g tv tu, (u, v, g) ∈ E ∧ T u = some tu ∧ T v = some tv ∧ tv ≤ tu + g
  pn : ∀ v t, T v = some t → v ≠ s → ∃ u, p v = some u
  ac : ∀ v, ¬ PR p v v
section
variable {nodes : List α} {E : Eds α} {f : α → α → Int} {s : α} {T : α → Option Int} {p : α → Option α}
theorem Bf.down (B : Bf nodes E f s T p) (C : Clo nodes E f) {v u : α} (h : PR p v u) : v ∈ nodes ∧ u ∈ nodes ∧ ∃ tv tu, T v = some tv ∧ T u = some tu ∧ tv ≤ tu + f u v := by
  induction h with
  | one e =>
    obtain ⟨g, tv, tu, m, e1, e2, le⟩ := B.pr _ _ e
    obtain ⟨m1, m2, l2⟩ := C.ed _ _ _ m
    exact ⟨m2, m1, tv, tu, e2, e1, by omega⟩
  | more e _ ih =>
    rename_i v w u _
    obtain ⟨h1, h2, tw, tu, e3, e4, le2⟩ := ih
    obtain ⟨g, tv, tw', m, e1, e2, le⟩ := B.pr _ _ e
    rw [e1] at e3; cases e3
    obtain ⟨m1, m2, l2⟩ := C.ed _ _ _ m
    have := C.tri u h2 w m1 v m2
    exact ⟨m2, h2, tv, tu, e2, e4, by omega⟩
theorem Bf.step (B : Bf nodes E f s T p) (C : Clo nodes E f) {a b : α} {g ta : Int} (m : (a, b, g) ∈ E) (ha : T a = some ta) (hb : ∀ tb, T b = some tb → tb < ta + g) : Bf nodes E f s (updO T b (ta + g)) (updO p b a) ∧ b ≠ s := by
  obtain ⟨m1, m2, l2⟩ := C.ed _ _ _ m
  obtain ⟨hs, les⟩ := B.le s 0 B.s0
  have la := (B.le a ta ha).2
  have tr := C.tri s hs a m1 b m2
  have ds := C.dg s hs
  have bs : b ≠ s := by
    rintro rfl
    have := hb 0 B.s0
    omega
  have ab : a ≠ b := by
    rintro rfl
    have := hb ta ha
    have := C.dg a m1
    omega
  refine ⟨⟨?_, ?_, ?_, ?_, ?_, ?_⟩, bs⟩
  · rw [updO_ne _ _ bs]; exact B.s0
  · rw [updO_ne _ _ bs]; exact B.ps
  · intro v t e
    by_cases q : b = v
    · subst q; rw [updO_at] at e; cases e; exact ⟨m2, by omega⟩
    · rw [updO_ne _ _ q] at e; exact B.le v t e
  · intro v u e
    by_cases q : b = v
    · subst q; rw [updO_at] at e; cases e
      exact ⟨g, ta + g, ta, m, by rw [updO_ne _ _ (Ne.symm ab)]; exact ha, updO_at .., Int.le_refl _⟩
    · rw [updO_ne _ _ q] at e
      obtain ⟨g', tv, tu, m', e1, e2, le⟩ := B.pr v u e
      by_cases q2 : b = u
      · subst q2
        have := hb tu e1
        exact ⟨g', tv, ta + g, m', updO_at .., by rw [updO_ne _ _ q]; exact e2, by omega⟩
      · exact ⟨g', tv, tu, m', by rw [updO_ne _ _ q2]; exact e1, by rw [updO_ne _ _ q]; exact e2, le⟩
  · intro v t e ne
    by_cases q : b = v
    · subst q; exact ⟨a, updO_at ..⟩
    · rw [updO_ne _ _ q] at e ⊢; exact B.pn v t e ne
  · intro v h
    rcases h.upd with h | ⟨h1, h2⟩
    · exact B.ac v h
    have key : a = b ∨ PR p a b := by
      rcases h1 with rfl | h1 <;> rcases h2 with rfl | h2
      · exact .inl rfl
      · exact .inr h2
      · exact .inr h1
      · exact .inr (h2.trans h1)
    rcases key with rfl | key
    · exact ab rfl
    obtain ⟨_, _, ta', tb, e1, e2, le⟩ := B.down C key
    rw [ha] at e1; cases e1
    have := hb tb e2
    have := C.tri b m2 a m1 b m2
    have := C.dg b m2
    omega
/-- when nothing can be raised any more -/
theorem Bf.tight (B : Bf nodes E f s T p) (cl : ∀ a b g ta, (a, b, g) ∈ E → T a = some ta → ∃ tb, T b = some tb ∧ ta + g ≤ tb) {v : α} {t : Int} (e : T v = some t) (ne : v ≠ s) : ∃ u g tu, p v = some u ∧ (u, v, g) ∈ E ∧ T u = some tu ∧ t = tu + g := by
  obtain ⟨u, hu⟩ := B.pn v t e ne
  obtain ⟨g, tv, tu, m, e1, e2, le⟩ := B.pr v u hu
  rw [e] at e2; cases e2
  obtain ⟨tb, e3, le3⟩ := cl u v g tu m e1
  rw [e] at e3; cases e3
  exact ⟨u, g, tu, hu, m, e1, by omega⟩
end
/-- a way back -/
def Back (p : α → Option α) : List α → Prop
  | x :: y :: l => p x = some y ∧ Back p (y :: l)
  | _ => True
theorem Back.pr {p : α → Option α} : ∀ {l : List α} {x : α}, Back p (x :: l) → ∀ y ∈ l, PR p x y
  | z :: l, x, h, y, m => by
    rcases List.mem_cons.mp m with rfl | m
    · exact .one h.1
    · exact .more h.1 (Back.pr h.2 y m)
theorem Back.nodup {p : α → Option α} (ac : ∀ v, ¬ PR p v v) : ∀ {l : List α}, Back p l → l.Nodup
  | [], _ => .nil
  | [x], _ => List.nodup_cons.mpr ⟨List.not_mem_nil, .nil⟩
  | x :: y :: l, h => List.nodup_cons.mpr ⟨fun m => ac x (Back.pr h x m), Back.nodup ac h.2⟩
theorem Back.snoc {p : α → Option α} : ∀ {l : List α} {x y : α}, Back p (l ++ [x]) → p x = some y → Back p (l ++ [x] ++ [y])
  | [], x, y, _, e => ⟨e, trivial⟩
  | [z], x, y, h, e => ⟨h.1, e, trivial⟩
  | z :: w :: l, x, y, h, e => ⟨h.1, Back.snoc (l := w :: l) h.2 e⟩
end
section
variable {α : Type} [DecidableEq α]
/-- a round's walk, behind the edges ys -/
structure Rnd (nodes : List α) (E : Eds α) (f : α → α → Int) (s : α) (cap : α → Int) (T : α → Option Int) (ys : Eds α) (T' : α → Option Int) (p' : α → Option α) (fl : Bool) : Prop where
  bf : Bf nodes E f s T' p'
  up : ∀ v t, T v = some t → ∃ t', T' v = some t' ∧ t ≤ t'
  dn : ∀ a b g ta, (a, b, g) ∈ ys → T a = some ta → ∃ tb, T' b = some tb ∧ ta + g ≤ tb
  cp : ∀ v t, T' v = some t → t ≤ cap v
  no : fl = false → T' = T
  ye : fl = true → ∃ b ∈ nodes, ∀ t, T b = some t → t < cap b
section
variable {nodes : List α} {E ys : Eds α} {f : α → α → Int} {s : α} {cap : α → Int} {T T' : α → Option Int} {p p' : α → Option α} {fl : Bool}
theorem Rnd.start (B : Bf nodes E f s T p) (h : ∀ v t, T v = some t → t ≤ cap v) : Rnd nodes E f s cap T [] T p false :=
  ⟨B, fun v t e => ⟨t, e, Int.le_refl _⟩, (fun _ _ _ _ m => absurd m List.not_mem_nil), h, fun _ => rfl, fun z => by cases z⟩
theorem Rnd.skip (R : Rnd nodes E f s cap T ys T' p' fl) {a b : α} {g : Int} (h : ∀ ta, T' a = some ta → ∃ tb, T' b = some tb ∧ ta + g ≤ tb) : Rnd nodes E f s cap T (ys ++ [(a, b, g)]) T' p' fl := by
  refine ⟨R.bf, R.up, fun a' b' g' ta m e => ?_, R.cp, R.no, R.ye⟩
  rcases List.mem_append.mp m with m | m
  · exact R.dn a' b' g' ta m e
  · cases List.mem_singleton.mp m
    obtain ⟨t', e', le⟩ := R.up _ _ e
    obtain ⟨tb, e2, le2⟩ := h _ e'
    exact ⟨tb, e2, by omega⟩
theorem Rnd.step (R : Rnd nodes E f s cap T ys T' p' fl) (C : Clo nodes E f) (cl : ∀ a b g, (a, b, g) ∈ E → cap a + g ≤ cap b) {a b : α} {g ta : Int} (m : (a, b, g) ∈ E) (ha : T' a = some ta) (hb : ∀ tb, T' b = some tb → tb < ta + g) :
    Rnd nodes E f s cap T (ys ++ [(a, b, g)]) (updO T' b (ta + g)) (updO p' b a) true := by
  have ca := R.cp a ta ha
  have cb := cl a b g m
  refine ⟨(R.bf.step C m ha hb).1, fun v t e => ?_, fun a' b' g' ta' m' e => ?_, fun v t e => ?_, (fun z => by cases z), fun _ => ⟨b, (C.ed _ _ _ m).2.1, fun t e => ?_⟩⟩
  · obtain ⟨t', e', le⟩ := R.up v t e
    by_cases q : b = v
    · subst q
      have := hb _ e'
      exact ⟨ta + g, updO_at .., by omega⟩
    · exact ⟨t', by rw [updO_ne _ _ q]; exact e', le⟩
  · have old : ∀ x tx, T' x = some tx → ∃ tb, updO T' b (ta + g) x = some tb ∧ tx ≤ tb := fun x tx e => by
      by_cases q : b = x
      · subst q
        have := hb _ e
        exact ⟨ta + g, updO_at .., by omega⟩
      · exact ⟨tx, by rw [updO_ne _ _ q]; exact e, Int.le_refl _⟩
    rcases List.mem_append.mp m' with m' | m'
    · obtain ⟨tb, e2, le⟩ := R.dn a' b' g' ta' m' e
      obtain ⟨tb', e3, le3⟩ := old _ _ e2
      exact ⟨tb', e3, by omega⟩
    · cases List.mem_singleton.mp m'
      obtain ⟨t', e', le⟩ := R.up _ _ e
      rw [ha] at e'; cases e'
      exact ⟨ta + g, updO_at .., by omega⟩
  · by_cases q : b = v
    · subst q; rw [updO_at] at e; cases e; omega
    · rw [updO_ne _ _ q] at e; exact R.cp v t e
  · obtain ⟨t', e', le⟩ := R.up b t e
    have := hb _ e'
    omega
/-- behind i rounds; z is joined with every node, both ways -/
structure Lc (nodes : List α) (E : Eds α) (f : α → α → Int) (s z : α) (n i : Nat) (T : α → Option Int) (p : α → Option α) (fl : Bool) : Prop where
  bf : Bf nodes E f s T p
  cl : fl = false → ∀ a b g ta, (a, b, g) ∈ E → T a = some ta → ∃ tb, T b = some tb ∧ ta + g ≤ tb
  hb : 1 ≤ i → ∃ t, T z = some t
  al : 2 ≤ i → ∃ R0, ∀ v ∈ nodes, ∃ t, T v = some t ∧ Wk R0 E (i - 2) v ≤ t ∧ t ≤ Wk R0 E n v
  nx : fl = true → i < n + 3
theorem Lc.start {z : α} {n : Nat} (B : Bf nodes E f s T p) : Lc nodes E f s z n 0 T p true :=
  ⟨B, (fun q => by cases q), (fun q => absurd q (by decide)), (fun q => absurd q (by decide)), fun _ => by omega⟩
theorem Lc.next {z : α} {n i : Nat} (L : Lc nodes E f s z n i T p fl) (C : Clo nodes E f) (hn : nodes.length = n + 1) (h1 : ∀ v ∈ nodes, v ≠ z → ∃ g, (v, z, g) ∈ E) (h2 : ∀ v ∈ nodes, v ≠ z → ∃ g, (z, v, g) ∈ E) :
    ∃ cap : α → Int, (∀ a b g, (a, b, g) ∈ E → cap a + g ≤ cap b) ∧ (∀ v t, T v = some t → t ≤ cap v) ∧ ∀ T' p' fl', Rnd nodes E f s cap T E T' p' fl' → Lc nodes E f s z n (i + 1) T' p' fl' := by
  obtain ⟨hs, _⟩ := L.bf.le s 0 L.bf.s0
  have cl' : ∀ {cap T' p' fl'}, Rnd nodes E f s cap T E T' p' fl' → fl' = false → ∀ a b g ta, (a, b, g) ∈ E → T' a = some ta → ∃ tb, T' b = some tb ∧ ta + g ≤ tb := fun R q a b g ta m e => by
    have e0 := R.no q
    rw [e0] at e
    exact R.dn a b g ta m e
  by_cases hi : i < 2
  · refine ⟨f s, fun a b g m => ?_, fun v t e => (L.bf.le v t e).2, fun T' p' fl' R => ?_⟩
    · obtain ⟨m1, m2, le⟩ := C.ed _ _ _ m
      have := C.tri s hs a m1 b m2
      omega
    refine ⟨R.bf, cl' R, fun _ => ?_, fun q => ?_, fun _ => by omega⟩
    · by_cases q : 1 ≤ i
      · obtain ⟨t, e⟩ := L.hb q
        obtain ⟨t', e', _⟩ := R.up _ _ e
        exact ⟨t', e'⟩
      · by_cases sz : s = z
        · subst sz; exact ⟨0, R.bf.s0⟩
        · obtain ⟨g, m⟩ := h1 s hs sz
          obtain ⟨tb, e, _⟩ := R.dn _ _ _ _ m L.bf.s0
          exact ⟨tb, e⟩
    · have i1 : i = 1 := by omega
      subst i1
      obtain ⟨tz, ez⟩ := L.hb (Nat.le_refl _)
      refine ⟨fun v => (T' v).getD 0, fun v hv => ?_⟩
      have : ∃ t, T' v = some t := by
        by_cases q : v = z
        · subst q; obtain ⟨t', e', _⟩ := R.up _ _ ez; exact ⟨t', e'⟩
        · obtain ⟨g, m⟩ := h2 v hv q
          obtain ⟨tb, e, _⟩ := R.dn _ _ _ _ m ez
          exact ⟨tb, e⟩
      obtain ⟨t, e⟩ := this
      have e0 : (T' v).getD 0 = t := by rw [e]; rfl
      refine ⟨t, e, ?_, ?_⟩
      · exact Int.le_of_eq e0
      · have := Wk_le (fun v => (T' v).getD 0) E v (Nat.zero_le n)
        have z0 : Wk (fun v => (T' v).getD 0) E 0 v = (T' v).getD 0 := rfl
        omega
  · have hi : 2 ≤ i := by omega
    obtain ⟨R0, al⟩ := L.al hi
    refine ⟨Wk R0 E n, fun a b g m => Wk_edge C hn m, fun v t e => ?_, fun T' p' fl' R => ?_⟩
    · obtain ⟨t', e', _, le⟩ := al v (L.bf.le v t e).1
      rw [e] at e'; cases e'; exact le
    refine ⟨R.bf, cl' R, fun _ => ?_, fun _ => ⟨R0, fun v hv => ?_⟩, fun q => ?_⟩
    · obtain ⟨t, e⟩ := L.hb (by omega)
      obtain ⟨t', e', _⟩ := R.up _ _ e
      exact ⟨t', e'⟩
    · obtain ⟨t, e, lo, hi'⟩ := al v hv
      obtain ⟨t', e', le⟩ := R.up v t e
      refine ⟨t', e', ?_, R.cp v t' e'⟩
      have ei : i + 1 - 2 = (i - 2) + 1 := by omega
      rw [ei]
      show stepF (Wk R0 E (i - 2)) v E (Wk R0 E (i - 2) v) ≤ t'
      rcases stepF_or (Wk R0 E (i - 2)) v E (Wk R0 E (i - 2) v) with q | ⟨a, g, m, q⟩
      · rw [q]; omega
      · rw [q]
        obtain ⟨ta, ea, loa, _⟩ := al a (C.ed _ _ _ m).1
        obtain ⟨tb, eb, leb⟩ := R.dn _ _ _ _ m ea
        rw [e'] at eb; cases eb
        omega
    · obtain ⟨b, hb, lt⟩ := R.ye q
      obtain ⟨t, e, lo, _⟩ := al b hb
      have := lt t e
      have : i - 2 < n := by
        refine Nat.lt_of_not_le fun le => ?_
        have := Wk_le R0 E b le
        omega
      omega
end
end
section
variable {e e1 e2 e3 e4 : En} {h h1 h2 h3 : Hd} {fa fb fc f fo fv fj fd fk fx : En → Rs (Hd × En)} {x y z d : D} {i : Nat} {b : Bool} {r : Rs (Hd × En)}
variable {P : Fl × En → Prop} {Z : Str → List (Str × D) → En → Prop}
theorem ev_if {t : En → Rs (Bool × En)} (a : t e = .ok (b, e1)) (k : (if b = true then fa e1 else fb e1) = r) : fIf t fa fb e = r := by
  simp only [fIf, a, Rs.ok_bind]; exact k
theorem w_stD (a : fv e = .ok (h, e1)) (p : h.esc e1 = .ok (d, e2)) (v : fVar i e2 = .ok (h3, e2)) (c : fj e2 = .ok (h2, e3)) (q : h2.get e3 = some x) (r : rootD e3 i = some y) (o : dPutD y x d = some z) (k : P (.nx, setRoot e3 i z)) : Wq (fStD i fj fv e) P Z := by
  refine ⟨?_⟩
  simp only [fStD, a, p, v, c, q, r, o, Rs.ok_bind, of_some]; exact k
theorem ev_getS {l : List (Key × D)} (a : fd e = .ok (h, e1)) (p : h.get e1 = some (.dct l)) (c : fk e1 = .ok (h1, e2)) (k : fx e2 = .ok (h2, e3)) (p2 : h.get e3 = some x) (q : h1.get e3 = some y) (o : dLook x y = some (some d)) : fGet fd fk fx e = .ok (.dat d, e3) := by
  simp only [fGet, a, p, c, k, p2, q, o, Rs.ok_bind, of_some]
theorem ev_getN {l : List (Key × D)} (a : fd e = .ok (h, e1)) (p : h.get e1 = some (.dct l)) (c : fk e1 = .ok (h1, e2)) (k : fx e2 = .ok (h2, e3)) (p2 : h.get e3 = some x) (q : h1.get e3 = some y) (o : dLook x y = some none) : fGet fd fk fx e = .ok (h2, e3) := by
  simp only [fGet, a, p, c, k, p2, q, o, Rs.ok_bind, of_some]
theorem ev_getTS {l : List (List Key × D)} (a : fd e = .ok (h, e1)) (p : h.get e1 = some (.dcT l)) (c : fk e1 = .ok (h1, e2)) (k : fx e2 = .ok (h2, e3)) (p2 : h.get e3 = some x) (q : h1.get e3 = some y) (o : dLook x y = some (some d)) : fGet fd fk fx e = .ok (.dat d, e3) := by
  simp only [fGet, a, p, c, k, p2, q, o, Rs.ok_bind, of_some]
theorem ev_getTN {l : List (List Key × D)} (a : fd e = .ok (h, e1)) (p : h.get e1 = some (.dcT l)) (c : fk e1 = .ok (h1, e2)) (k : fx e2 = .ok (h2, e3)) (p2 : h.get e3 = some x) (q : h1.get e3 = some y) (o : dLook x y = some none) : fGet fd fk fx e = .ok (h2, e3) := by
  simp only [fGet, a, p, c, k, p2, q, o, Rs.ok_bind, of_some]
theorem ev_items {l : List D} (a : f e = .ok (h, e1)) (p : h.esc e1 = .ok (d, e2)) (q : dItems d = some l) : fItms f e = .ok (l, true, e2) := by simp only [fItms, a, p, q, Rs.ok_bind, of_some]
theorem ev_fld {c g : Str} {fs : List (Str × D)} (a : f e = .ok (h, e1)) (p : h.get e1 = some (.obj c fs)) (q : fs.lookup g = some d) : fFld c g f e = .ok (.dat d, e1) := by simp only [fFld, a, p, q, Rs.ok_bind, of_some, if_true]
theorem ev_recv {c m : Str} {fs : List (Str × D)} {fA : En → Rs (List Hd × En)} {hs : List Hd} (a : f e = .ok (h, e1)) (p : h.get e1 = some (.obj c fs)) (q : fs.lookup m = none) (k : fA e1 = .ok (hs, e2)) : fRecv c m f fA e = .ok (h :: hs, e2) := by simp only [fRecv, a, p, q, k, Rs.ok_bind, of_some, and_self, if_true]
theorem ev_tss (a : f e = .ok (h, e1)) (p : h.get e1 = some x) (q : dTss x = some d) : fTss f e = .ok (.dat d, e1) := by simp only [fTss, a, p, q, Rs.ok_bind, of_some]
theorem ev_ss (a : f e = .ok (h, e1)) (p : h.get e1 = some x) (q : dSs x = some d) : fSs f e = .ok (.dat d, e1) := by simp only [fSs, a, p, q, Rs.ok_bind, of_some]
theorem ev_isi2 {S T : String} {b c : Bool} (a : f e = .ok (h, e1)) (p : h.get e1 = some d) (q : (d.tyn.bind fun t => kitB t S) = some b) (r : (d.tyn.bind fun t => kitB t T) = some c) : fIsi2 S T f e = .ok (.dat (.bl (b || c)), e1) := by simp only [fIsi2, a, p, q, r, Rs.ok_bind, of_some]
theorem w_stF {c g : Str} {fs : List (Str × D)} (a : fv e = .ok (h, e1)) (p : h.esc e1 = .ok (d, e2)) (r : rootD e2 i = some (.obj c fs)) (n : fs.length < 1000) (k : P (.nx, setRoot e2 i (.obj c (putFD g d fs)))) : Wq (fStF c g i fv e) P Z := by
  refine ⟨?_⟩
  simp only [fStF, a, p, r, Rs.ok_bind, true_and, if_pos n]; exact k
theorem ev_oVT (a : fa e = .ok (.dat (.bl true), e1)) : fOrV fa fb e = .ok (.dat (.bl true), e1) := by simp only [fOrV, a, Rs.ok_bind]
theorem ev_oVF {r} (a : fa e = .ok (.dat (.bl false), e1)) (c : fb e1 = r) : fOrV fa fb e = r := by simp only [fOrV, a, Rs.ok_bind, c]
/-- a loop that may end early -/
theorem w_forR {fi : En → Rs IR} {gt : D → En → Option En} {s : En → Rs (Fl × En)} {l : List D} {k : Bool} (I : List D → En → Prop) (P' : Fl × En → Prop) (a : fi e = .ok (l, k, e1)) (z : I l e1)
    (st : ∀ d ds e, I (d :: ds) e → ∃ e', gt d e = some e' ∧ Wq (s e') (fun r => ((r.1 = .nx ∨ r.1 = .ct) ∧ I ds r.2) ∨ (∃ v, r.1 = .rt v) ∧ P' r) (fun _ _ _ => False)) (fin : ∀ e, I [] e → P (.nx, e)) (fin2 : ∀ r, P' r → P r) : Wq (fFor fi gt s e) P Z := by
  refine ⟨?_⟩
  have lp : ∀ (l : List D) (e : En), I l e → (∃ e', fLoop gt s l e = .ok (.nx, e') ∧ I [] e') ∨ ∃ r, (∃ v, r.1 = .rt v) ∧ fLoop gt s l e = .ok r ∧ P' r := by
    intro l
    induction l with
    | nil => intro e q; exact .inl ⟨e, rfl, q⟩
    | cons d ds ih =>
      intro e q
      obtain ⟨e', g1, ⟨w⟩⟩ := st d ds e q
      unfold fLoop
      rw [g1]
      simp only [of_some, Rs.ok_bind]
      cases r : s e' with
      | bad => rw [r] at w; exact w.elim
      | exc c f e => rw [r] at w; exact w.elim
      | ok r1 =>
        rw [r] at w
        obtain ⟨fl, e2⟩ := r1
        rcases w with ⟨w1, w2⟩ | ⟨⟨v, w1⟩, w2⟩
        · simp only [Rs.ok_bind]
          rcases w1 with w1 | w1
          · simp only at w1; subst w1; exact ih e2 w2
          · simp only at w1; subst w1; exact ih e2 w2
        · simp only at w1; subst w1
          exact .inr ⟨(.rt v, e2), ⟨v, rfl⟩, rfl, w2⟩
  rcases lp l e1 z with ⟨e', q1, q2⟩ | ⟨r, ⟨v, hv⟩, q1, q2⟩
  · simp only [fFor, a, q1, Rs.ok_bind, Rs.muteIf]
    cases k
    · rw [if_neg Bool.false_ne_true]; exact fin e' q2
    · rw [if_pos rfl]; exact fin e' q2
  · obtain ⟨fl, e2⟩ := r
    simp only at hv; subst hv
    simp only [fFor, a, q1, Rs.ok_bind, Rs.muteIf]
    cases k
    · rw [if_neg Bool.false_ne_true]; exact fin2 _ q2
    · rw [if_pos rfl]; exact fin2 _ q2
end
section
variable {κ : Type} [DecidableEq κ]
theorem look_nil (k : κ) : look ([] : List (κ × D)) k = none := rfl
theorem look_cons (k k' : κ) (d : D) (l : List (κ × D)) : look ((k, d) :: l) k' = if k = k' then some d else look l k' := by
  unfold look
  rw [List.find?_cons]
  by_cases q : k = k'
  · simp [q]
  · simp [q]
theorem look_app (k k' : κ) (d : D) : ∀ l : List (κ × D), look (l ++ [(k, d)]) k' = match look l k' with | some x => some x | none => if k = k' then some d else none
  | [] => by rw [List.nil_append, look_cons]; rfl
  | (a, x) :: l => by
    rw [List.cons_append, look_cons, look_cons, look_app k k' d l]
    by_cases q : a = k'
    · simp [q]
    · simp [q]
theorem look_any (k : κ) : ∀ l : List (κ × D), (l.any fun p => decide (p.1 = k)) = (look l k).isSome
  | [] => rfl
  | (a, x) :: l => by
    rw [List.any_cons, look_cons, look_any k l]
    by_cases q : a = k
    · simp [q]
    · simp [q]
theorem look_map (k k' : κ) (d : D) : ∀ l : List (κ × D), look (l.map fun p => if p.1 = k then (p.1, d) else p) k' = if k = k' then (look l k').map (fun _ => d) else look l k'
  | [] => by simp [look]
  | (a, x) :: l => by
    rw [List.map_cons]
    by_cases q : a = k
    · subst q
      rw [if_pos rfl, look_cons, look_cons, look_map a k' d l]
      by_cases q : a = k'
      · simp [q]
      · simp [q]
    · rw [if_neg q, look_cons, look_cons, look_map k k' d l]
      by_cases q2 : k = k'
      · subst q2; simp [q]
      · simp [q2]
theorem look_put (l : List (κ × D)) (k k' : κ) (d : D) : look (putD l k d) k' = if k = k' then some d else look l k' := by
  unfold putD
  rw [look_any]
  cases q : look l k with
  | none =>
    rw [if_neg (by simp), look_app]
    by_cases q2 : k = k'
    · subst q2; simp [q]
    · rw [if_neg q2, if_neg q2]; cases look l k' <;> rfl
  | some x =>
    rw [if_pos (by simp), look_map]
    by_cases q2 : k = k'
    · subst q2; rw [q]; rfl
    · rw [if_neg q2, if_neg q2]
theorem put_len (l : List (κ × D)) (k : κ) (d : D) : (putD l k d).length ≤ l.length + 1 := by
  unfold putD
  split
  · rw [List.length_map]; omega
  · rw [List.length_append]; simp
theorem put_old {l : List (κ × D)} {k : κ} {x : D} (d : D) (h : look l k = some x) : putD l k d = l.map fun p => if p.1 = k then (p.1, d) else p := by
  unfold putD
  rw [look_any, h, if_pos (by simp)]
theorem put_new {l : List (κ × D)} {k : κ} (d : D) (h : look l k = none) : putD l k d = l ++ [(k, d)] := by
  unfold putD
  rw [look_any, h, if_neg (by simp)]
end
theorem ev_comp' {fi : En → Rs IR} {gt : D → En → Option En} {ft : En → Rs (Bool × En)} {fe : En → Rs (Hd × En)} {vs : List Nat} {l r : List D} {k : Bool} {e e1 e0 : En} (a : fi e = .ok (l, k, e1)) (p : plainS e1 vs = true) (q : cLoop gt ft fe vs l (wipeE e1 vs) [] = .ok (r, wipeE e1 vs)) (b : back e1 (wipeE e1 vs) vs = e0) : fComp fi gt ft fe vs e = .ok (.lst r, e0) := b ▸ ev_comp a p q
/-- a comprehension upon data -/
theorem cl_filt {α : Type} (p : α → Bool) (J F : α → D) {gt : D → En → Option En} {ft : En → Rs (Bool × En)} {fe : En → Rs (Hd × En)} {vs : List Nat} (e : En) : ∀ (xs : List α) (acc : List D), acc.length + xs.length ≤ 1000 →
    (∀ x ∈ xs, ∃ e' e1, gt (J x) e = some e' ∧ ft e' = .ok (p x, e1) ∧ (p x = false → wipeE e1 vs = e) ∧ (p x = true → ∃ h e2 e3, fe e1 = .ok (h, e2) ∧ h.esc e2 = .ok (F x, e3) ∧ wipeE e3 vs = e)) →
    cLoop gt ft fe vs (xs.map J) e acc = .ok (acc ++ (xs.filter p).map F, e)
  | [], acc, _, _ => by simp [cLoop]
  | x :: xs, acc, hz, st => by
    obtain ⟨e', e1, g1, g2, g3, g4⟩ := st x List.mem_cons_self
    rw [List.length_cons] at hz
    have hs : acc.length < sizeLine := by
      have : (1000 : Nat) < sizeLine := by decide
      omega
    rw [List.map_cons]
    unfold cLoop
    cases q : p x with
    | false =>
      have ih := cl_filt p J F (gt := gt) (ft := ft) (fe := fe) (vs := vs) e xs acc (by omega) fun y m => st y (List.mem_cons_of_mem _ m)
      rw [q] at g2
      simp only [g1, g2, of_some, Rs.ok_bind, Bool.false_eq_true, if_false, g3 q, ih, List.filter_cons, q]
    | true =>
      obtain ⟨h, e2, e3, g5, g6, g7⟩ := g4 q
      rw [q] at g2
      have ih := cl_filt p J F (gt := gt) (ft := ft) (fe := fe) (vs := vs) e xs (acc ++ [F x]) (by rw [List.length_append, List.length_singleton]; omega) fun y m => st y (List.mem_cons_of_mem _ m)
      simp only [g1, g2, g5, g6, of_some, Rs.ok_bind, if_true, if_pos hs, g7, ih, List.filter_cons, q, List.map_cons, List.append_assoc, List.singleton_append]
theorem cl_map {α : Type} (J F : α → D) {gt : D → En → Option En} {fe : En → Rs (Hd × En)} {vs : List Nat} (e : En) (xs : List α) (hz : xs.length ≤ 1000)
    (st : ∀ x ∈ xs, ∃ e' h e2 e3, gt (J x) e = some e' ∧ fe e' = .ok (h, e2) ∧ h.esc e2 = .ok (F x, e3) ∧ wipeE e3 vs = e) : cLoop gt fYes fe vs (xs.map J) e [] = .ok (xs.map F, e) := by
  have := cl_filt (fun _ => true) J F (gt := gt) (ft := fYes) (fe := fe) (vs := vs) e xs [] (by simpa using hz) (fun x m =>
    let ⟨e', h, e2, e3, a, b, c, d⟩ := st x m
    ⟨e', e', a, rfl, (fun z => by cases z), fun _ => ⟨h, e2, e3, b, c, d⟩⟩)
  rw [this, List.nil_append, List.filter_eq_self.mpr (fun _ _ => rfl)]
section
variable {α : Type} {e e1 : En} {P : Fl × En → Prop} {Z : Str → List (Str × D) → En → Prop} {fi : En → Rs IR} {gt : D → En → Option En} {s : En → Rs (Fl × En)} {c : En → Rs (Bool × En)} {k : Bool}
theorem w_forP (J : α → D) (xs : List α) (I : List α → En → Prop) (a : fi e = .ok (xs.map J, k, e1)) (z : I [] e1)
    (st : ∀ ys x zs e, xs = ys ++ x :: zs → I ys e → ∃ e', gt (J x) e = some e' ∧ Wq (s e') (fun r => (r.1 = .nx ∨ r.1 = .ct) ∧ I (ys ++ [x]) r.2) (fun _ _ _ => False)) (fin : ∀ e, I xs e → P (.nx, e)) : Wq (fFor fi gt s e) P Z := by
  refine w_for (l := xs.map J) (k := k) (e1 := e1) (fun ds e => ∃ ys zs, xs = ys ++ zs ∧ ds = zs.map J ∧ I ys e) a ⟨[], xs, rfl, rfl, z⟩ ?_ ?_
  · rintro d ds e ⟨ys, zs, hx, hd, hI⟩
    cases zs with
    | nil => cases hd
    | cons x zs =>
      rw [List.map_cons] at hd
      injection hd with h1 h2
      subst h1
      obtain ⟨e', g1, w⟩ := st ys x zs e hx hI
      refine ⟨e', g1, ⟨Rs.wp_mono w.run (fun r q => ⟨q.1, ys ++ [x], zs, by rw [hx, List.append_assoc]; rfl, h2, q.2⟩) fun _ _ _ z => z⟩⟩
  · rintro e ⟨ys, zs, hx, hd, hI⟩
    cases zs with
    | nil => rw [List.append_nil] at hx; subst hx; exact fin e hI
    | cons x zs => cases hd
/-- a while that ends within N turns -/
theorem w_while (I : Nat → En → Prop) (N n : Nat) (hN : N < n) (z : I 0 e) (st : ∀ i e, i ≤ N → I i e → ∃ b e', c e = .ok (b, e') ∧ (b = true → i < N ∧ Wq (s e') (fun r => (r.1 = .nx ∨ r.1 = .ct) ∧ I (i + 1) r.2) (fun _ _ _ => False)) ∧ (b = false → P (.nx, e'))) :
    Wq (fWhile c s n e) P Z := by
  refine ⟨?_⟩
  have lp : ∀ (m i : Nat) (e : En), N < i + m → i ≤ N → I i e → ∃ e', fWhile c s m e = .ok (.nx, e') ∧ P (.nx, e') := by
    intro m
    induction m with
    | zero => intro i e h1 h2 _; exact absurd h1 (by omega)
    | succ m ih =>
      intro i e h1 h2 hI
      obtain ⟨b, e', hc, ht, hf⟩ := st i e h2 hI
      cases b with
      | false => exact ⟨e', by simp only [fWhile, hc, Rs.ok_bind, Bool.false_eq_true, if_false], hf rfl⟩
      | true =>
        obtain ⟨lt, ⟨w⟩⟩ := ht rfl
        cases r : s e' with
        | bad => rw [r] at w; exact w.elim
        | exc c f e => rw [r] at w; exact w.elim
        | ok r1 =>
          rw [r] at w
          obtain ⟨fl, e2⟩ := r1
          obtain ⟨w1, w2⟩ := w
          obtain ⟨e3, q1, q2⟩ := ih (i + 1) e2 (by omega) (by omega) w2
          refine ⟨e3, ?_, q2⟩
          rcases w1 with w1 | w1
          · simp only at w1; subst w1; simp only [fWhile, hc, r, Rs.ok_bind, if_true]; exact q1
          · simp only at w1; subst w1; simp only [fWhile, hc, r, Rs.ok_bind, if_true]; exact q1
  obtain ⟨e', q1, q2⟩ := lp n 0 e (by omega) (Nat.zero_le _) z
  rw [q1]; exact q2
end
def penD (cs : List Int) (nth c : Int) : D := .lst [.lst (cs.map .int), .int nth, .int c]
theorem atI_0 {α : Type} (x : α) (l) : atI (x :: l) 0 = some x := by
  unfold atI ixN
  simp
theorem atI_1 {α : Type} (x y : α) (l) : atI (x :: y :: l) 1 = some y := by
  unfold atI ixN
  simp [show (1 : Int) < ((l.length : Int) + 1 + 1) from by omega]
theorem atI_2 {α : Type} (x y z : α) (l) : atI (x :: y :: z :: l) 2 = some z := by
  unfold atI ixN
  simp [show (2 : Int) < ((l.length : Int) + 1 + 1 + 1) from by omega]
theorem dIxL_0 {x : D} {l : List D} : dIx (.lst (x :: l)) (.int 0) = some x := atI_0 x l
theorem dIxL_1 {x y : D} {l : List D} : dIx (.lst (x :: y :: l)) (.int 1) = some y := atI_1 x y l
theorem dIxL_2 {x y z : D} {l : List D} : dIx (.lst (x :: y :: z :: l)) (.int 2) = some z := atI_2 x y z l
theorem atI_n {α : Type} (l : List α) (i : Int) (h0 : 0 ≤ i) (h1 : i < l.length) : ∃ x, x ∈ l ∧ atI l i = some x := by
  unfold atI ixN
  rw [if_pos h0, if_pos h1]
  have : i.toNat < l.length := by omega
  exact ⟨l[i.toNat], List.getElem_mem _, by simp [this]⟩
theorem ixN_1 {n : Nat} (h : 1 < n) : ixN n 1 = some 1 := by
  unfold ixN
  rw [if_pos (by decide), if_pos (by omega)]; rfl
theorem ixN_2 {n : Nat} (h : 2 < n) : ixN n 2 = some 2 := by
  unfold ixN
  rw [if_pos (by decide), if_pos (by omega)]; rfl
theorem dMod_i {i j : Int} (h : 0 < j) : dMod (.int i) (.int j) = some (.int (i % j)) := if_pos h
theorem dDiv_i {i j : Int} (h : 0 < j) (h2 : j < 1073741824) : dDiv (.int i) (.int j) = some (.int (i / j)) := if_pos ⟨h, h2⟩
theorem dMul_i {i j : Int} (h : (-18446744073709551616 < i ∧ i < 18446744073709551616) ∨ (-18446744073709551616 < j ∧ j < 18446744073709551616)) : dMul (.int i) (.int j) = some (.int (i * j)) := by
  refine if_pos ?_
  unfold smallI
  simp only [Bool.or_eq_true, Bool.and_eq_true, decide_eq_true_eq]
  exact h
theorem dPow_i {i j : Int} (h : 0 ≤ j) (h2 : j ≤ 1000000) (h3 : -18446744073709551616 < i ∧ i < 18446744073709551616) : dPow (.int i) (.int j) = some (.int (i ^ j.toNat)) := by
  refine if_pos ⟨h, h2, ?_⟩
  have : (2:Nat)^64 = 18446744073709551616 := by decide
  omega
local macro_rules | `(tactic| walk_at "ev") => `(tactic| first | with_reducible apply ev_op | with_reducible apply ev_tst | with_reducible apply ev_cons | with_reducible apply ev_call | with_reducible apply ev_callO | with_reducible apply ev_keep | with_reducible apply ev_lst | with_reducible apply ev_tup | with_reducible apply ev_user | with_reducible apply ev_userO | with_reducible apply ev_pt | with_reducible apply ev_sl | with_reducible apply ev_isi | with_reducible apply ev_m1 | with_reducible apply ev_m0 | with_reducible apply ev_neg | with_reducible apply ev_tru | with_reducible apply ev_notT | with_reducible apply ev_iter | with_reducible apply ev_rng1 | with_reducible apply ev_ch | with_reducible exact es_nil | with_reducible apply es_dat | with_reducible apply es_slot | with_reducible exact he_dat | with_reducible apply ev_disp | with_reducible exact ev_pnil | with_reducible apply ev_pcons | with_reducible exact em_nil | with_reducible apply em_val | with_reducible apply em_io | with_reducible apply ev_items | with_reducible apply ev_fld | with_reducible apply ev_recv | with_reducible apply ev_tss | with_reducible apply ev_ss | with_reducible apply ev_isi2)
local macro_rules | `(tactic| walk_at "lf") => `(tactic| first | with_reducible exact atI_0 _ _ | with_reducible exact atI_1 _ _ _ | with_reducible exact atI_2 _ _ _ _ | with_reducible refine dMod_i (by first | decide | omega) | with_reducible refine dDiv_i (by first | decide | omega) (by first | decide | omega) | with_reducible refine dMul_i (by first | exact Or.inl (by first | decide | omega) | exact Or.inr (by first | decide | omega)) | with_reducible refine dPow_i (by first | decide | omega) (by first | decide | omega) (by first | decide | omega) | with_reducible refine dIxL_0 | with_reducible refine dIxL_1 | with_reducible refine dIxL_2 | with_reducible rfl | rfl | exact Nat.zero_le _ | decide | (simp only [List.length_cons, List.length_nil]; decide))
local macro_rules | `(tactic| walk_at "evs") => `(tactic| (repeat' first | walk_at "ev" | with_reducible assumption | walk_at "lf"))
local macro_rules | `(tactic| walk_at "nrm") => `(tactic| try dsimp only [bindE, List.length_cons, List.length_nil, List.replicate, Nat.reduceAdd, Nat.reduceSub, List.cons_append, List.nil_append, List.set_cons_zero, List.set_cons_succ, setRoot, List.getElem?_cons_zero, List.getElem?_cons_succ, Option.getD, Sl.put, putM, outsAt, outAt, ioCount, back, wipeE])
theorem next_ok (cs : List Int) (nth c : Int) (h0 : 0 ≤ nth) (h1 : nth ≤ 100000) (hc : cs.length ≤ 60) : ∃ z, g__law_next [.io (penD cs nth c)] = .ok z ∧ ∃ v, z = ⟨false, .int v, [penD cs (nth + 1) c]⟩ := by
  refine run_def rfl ?_
  unfold b__law_next penD
  refine w_seq ?_; apply w_asg
  · walk_at "evs"
  · rfl
  walk_at "nrm"
  refine w_seq ?_; apply w_stL
  · walk_at "evs"
  · rfl
  · rfl
  · walk_at "evs"
  · rfl
  · rfl
  · exact ixN_1 (by simp)
  walk_at "nrm"
  refine w_seq ?_; apply w_asg
  · walk_at "evs"
  · rfl
  walk_at "nrm"
  refine w_cut (fun e => ∃ cell : Int, e = [.io 0 (.lst [.lst (cs.map .int), .int (nth + 1), .int c]), .val (.int nth), .val (.int cell), .no, .no, .no]) ?_ ?_
  · apply w_if
    · walk_at "evs"
    · intro hb
      simp only [decide_eq_true_eq] at hb
      obtain ⟨x, hx, ex⟩ := atI_n (cs.map D.int) (nth % ((cs.map D.int).length : Int)) (Int.emod_nonneg _ (by omega)) (Int.emod_lt_of_pos _ (by omega))
      obtain ⟨v, _, rfl⟩ := List.mem_map.mp hx
      have ex : dIx (.lst (cs.map D.int)) (.int (nth % ((cs.map D.int).length : Int))) = some (.int v) := ex
      apply w_asg
      · walk_at "evs"
      · rfl
      exact ⟨rfl, v, rfl⟩
    · intro _
      refine w_nx ?_
      exact ⟨rfl, _, rfl⟩
  rintro _ ⟨cell, rfl⟩
  refine w_seq ?_; apply w_if
  · apply ev_and
    · walk_at "evs"
    · walk_at "evs"
  · intro _
    apply w_retV
    · walk_at "evs"
    · rfl
    · exact ⟨_, rfl, _, rfl, cell, rfl⟩
  intro _
  refine w_nx ?_
  walk_at "nrm"
  have b1 : 0 ≤ cell % 1000000021 * (nth + 5) := Int.mul_nonneg (by omega) (by omega)
  have b2 : cell % 1000000021 * (nth + 5) ≤ 1000000021 * 100005 := Int.mul_le_mul (by omega) (by omega) (by omega) (by omega)
  refine w_seq ?_; apply w_asg
  · walk_at "evs"
  · rfl
  walk_at "nrm"
  generalize h1e : (cell % 1000000021 * (nth + 5) + 88001 * nth + 41) ^ Int.toNat 3 % 2147483587 = one
  have o1 : 0 ≤ one := h1e ▸ Int.emod_nonneg _ (by decide)
  have o2 : one < 2147483587 := h1e ▸ Int.emod_lt_of_pos _ (by decide)
  have c1 : 0 ≤ one * (nth + 9) := Int.mul_nonneg (by omega) (by omega)
  have c2 : one * (nth + 9) ≤ 2147483587 * 100009 := Int.mul_le_mul (by omega) (by omega) (by omega) (by omega)
  refine w_seq ?_; apply w_asg
  · walk_at "evs"
  · rfl
  walk_at "nrm"
  generalize h2e : (one * (nth + 9) + cell % 65537 + 3) ^ Int.toNat 5 % 2147483563 = two
  have t1 : 0 ≤ two := h2e ▸ Int.emod_nonneg _ (by decide)
  have t2 : two < 2147483563 := h2e ▸ Int.emod_lt_of_pos _ (by decide)
  refine w_seq ?_; apply w_asg
  · walk_at "evs"
  · rfl
  walk_at "nrm"
  apply w_retV
  · walk_at "evs"
  · rfl
  · exact ⟨_, rfl, _, rfl, _, rfl⟩
theorem next_g (cs : List Int) (nth c : Int) (h0 : 0 ≤ nth) (h1 : nth ≤ 100000) (hc : cs.length ≤ 60) : ∃ v, g__law_next [.io (penD cs nth c)] = .ok ⟨false, .int v, [penD cs (nth + 1) c]⟩ := by
  obtain ⟨z, e, v, rfl⟩ := next_ok cs nth c h0 h1 hc
  exact ⟨v, e⟩
/-- the pen, k numbers on at the most -/
def PenOk (k : Int) (d : D) : Prop := ∃ (cs : List Int) (nth c : Int), d = penD cs nth c ∧ 0 ≤ nth ∧ nth ≤ k ∧ cs.length ≤ 60
theorem draw_g (k : Int) (d : D) (b : Int) (hk : k ≤ 100000) (hb : 1 ≤ b ∧ b ≤ 100000000) (hp : PenOk k d) : ∃ (v : Int) (d' : D), g__law_draw [.io d, .val (.int b)] = .ok ⟨false, .int v, [d']⟩ ∧ 0 ≤ v ∧ v < b ∧ PenOk (k + 1) d' := by
  obtain ⟨cs, nth, c, rfl, h0, h1, hc⟩ := hp
  have key : ∃ z, g__law_draw [.io (penD cs nth c), .val (.int b)] = .ok z ∧ ∃ (v : Int) (d' : D), z = ⟨false, .int v, [d']⟩ ∧ 0 ≤ v ∧ v < b ∧ PenOk (k + 1) d' := by
    refine run_def rfl ?_
    unfold b__law_draw penD
    walk_at "nrm"
    refine w_cut (fun e => ∃ nth' c' : Int, 0 ≤ nth' ∧ nth' ≤ k + 1 ∧ e = [.io 0 (.lst [.lst (cs.map .int), .int nth', .int c']), .val (.int b), .no]) ?_ ?_
    · apply w_if
      · walk_at "evs"
      · intro _
        obtain ⟨v, hv⟩ := next_g cs nth c h0 (by omega) hc
        unfold penD at hv
        apply w_stL
        · walk_at "evs"
        · rfl
        · rfl
        · walk_at "evs"
        · rfl
        · rfl
        · exact ixN_2 (by simp)
        walk_at "nrm"
        exact ⟨rfl, nth + 1, v, by omega, by omega, rfl⟩
      · intro _
        refine w_nx ?_
        exact ⟨rfl, nth, c, by omega, by omega, rfl⟩
    rintro _ ⟨n2, c2, hn0, hn1, rfl⟩
    refine w_seq ?_; apply w_asg
    · walk_at "evs"
    · rfl
    walk_at "nrm"
    refine w_seq ?_; apply w_stL
    · walk_at "evs"
    · rfl
    · rfl
    · walk_at "evs"
    · rfl
    · rfl
    · exact ixN_2 (by simp)
    walk_at "nrm"
    apply w_retV
    · walk_at "evs"
    · rfl
    · exact ⟨_, rfl, _, rfl, _, _, rfl, Int.emod_nonneg _ (by omega), Int.emod_lt_of_pos _ (by omega), cs, n2, c2 / b, rfl, hn0, hn1, hc⟩
  obtain ⟨z, e, v, d', rfl, q⟩ := key
  exact ⟨v, d', e, q⟩
theorem PenOk.mono {k k' : Int} {d : D} (h : PenOk k d) (le : k ≤ k') : PenOk k' d := by
  obtain ⟨cs, n, c, e, h0, h1, h2⟩ := h
  exact ⟨cs, n, c, e, h0, by omega, h2⟩
theorem pen_g (ns : List Int) : ∃ cs : List Int, g__law_pen [.val (.scr ns)] = .ok ⟨true, penD cs 0 0, []⟩ ∧ cs.length ≤ 60 := by
  have key : ∃ z, g__law_pen [.val (.scr ns)] = .ok z ∧ ∃ cs : List Int, z = ⟨true, penD cs 0 0, []⟩ ∧ cs.length ≤ 60 := by
    refine run_def rfl ?_
    unfold b__law_pen
    walk_at "nrm"
    apply w_retO
    · repeat' first | walk_at "ev" | with_reducible assumption | walk_at "lf" | exact (by decide : (3 : Nat) ≤ sizeLine)
    · refine ⟨_, rfl, _, rfl, cutD ns none (some 60), rfl, ?_⟩
      unfold cutD
      rw [List.length_take]
      refine Nat.le_trans (Nat.min_le_left _ _) (Nat.le_trans (Nat.sub_le _ _) ?_)
      show (if (60 : Int) < 0 then ((60 : Int) + (ns.length : Int)).toNat else min (60 : Int).toNat ns.length) ≤ 60
      rw [if_neg (by decide)]
      exact Nat.min_le_left _ _
  obtain ⟨z, e, cs, rfl, h⟩ := key
  exact ⟨cs, e, h⟩
theorem putT_ok {l : List (List Key × D)} {a b : Str} {v : D} (h : l.length < sizeLine) : dPutD (.dcT l) (.tup [.str a, .str b]) v = some (.dcT (putD l [.inr a, .inr b] v)) := if_pos h
theorem ixT_ok {l : List (List Key × D)} {a b : Str} {x : D} (h : look l [.inr a, .inr b] = some x) : dIx (.dcT l) (.tup [.str a, .str b]) = some x := by
  show (some (look l [.inr a, .inr b])).bind id = _
  rw [h]; rfl
def TabD (nodes : List Str) (l : List (List Key × D)) (f : Str → Str → Int) : Prop := ∀ a ∈ nodes, ∀ b ∈ nodes, look l [.inr a, .inr b] = some (.int (f a b))
def upd2 (f : Str → Str → Int) (a b : Str) (v : Int) : Str → Str → Int := fun c d => if a = c ∧ b = d then v else f c d
theorem look_put2 (l : List (List Key × D)) (a b c d : Str) (v : D) : look (putD l [.inr a, .inr b] v) [.inr c, .inr d] = if a = c ∧ b = d then some v else look l [.inr c, .inr d] := by
  rw [look_put]
  simp
theorem TabD.put {nodes : List Str} {l : List (List Key × D)} {f : Str → Str → Int} (T : TabD nodes l f) (a b : Str) (v : Int) : TabD nodes (putD l [.inr a, .inr b] (.int v)) (upd2 f a b v) := by
  intro c hc d hd
  rw [look_put2]
  unfold upd2
  split
  · rfl
  · exact T c hc d hd
theorem TabD.len {nodes : List Str} {l : List (List Key × D)} {f : Str → Str → Int} (T : TabD nodes l f) {a b : Str} (ha : a ∈ nodes) (hb : b ∈ nodes) (v : D) : (putD l [.inr a, .inr b] v).length = l.length := by
  rw [put_old v (T a ha b hb), List.length_map]
abbrev mx (i j : Int) : Int := if j > i then j else i
theorem mx_1 (i j : Int) : i ≤ mx i j := by unfold mx; split <;> omega
theorem mx_2 (i j : Int) : j ≤ mx i j := by unfold mx; split <;> omega
theorem mx_3 (i j : Int) : mx i j = i ∨ mx i j = j := by unfold mx; split <;> simp
theorem upd2_at (f : Str → Str → Int) (a b : Str) (v : Int) : upd2 f a b v a b = v := if_pos ⟨rfl, rfl⟩
theorem upd2_or (f : Str → Str → Int) (a b : Str) (v : Int) (c d : Str) : (a = c ∧ b = d ∧ upd2 f a b v c d = v) ∨ upd2 f a b v c d = f c d := by
  unfold upd2
  by_cases q : a = c ∧ b = d
  · exact .inl ⟨q.1, q.2, if_pos q⟩
  · exact .inr (if_neg q)
theorem upd2_up {f : Str → Str → Int} {a b : Str} {v : Int} (h : f a b ≤ v) (c d : Str) : f c d ≤ upd2 f a b v c d := by
  rcases upd2_or f a b v c d with ⟨e1, e2, e⟩ | e
  · rw [e, ← e1, ← e2]; exact h
  · rw [e]; exact Int.le_refl _
def rowD (r : Str × Str × Int) : D := .tup [.str r.1, .str r.2.1, .int r.2.2]
def nodeD (ns : List Str) : List D := ns.map .str
abbrev iniB (a b : Str) : Bool := inV (.str a) [.str "", .str b]
def ini (wide : Int) (a b : Str) : Int := if iniB a b = true then 0 else -wide
theorem far_in {a b : Str} : dIn (.str a) (.tup [.str "", .str b]) = some (.bl (iniB a b)) := rfl
/-- the first loop -/
theorem far_1 {nodes : List Str} (hn : nodes.length ≤ 90) {wide : Int} {s0 s2 : Sl} {P : Fl × En → Prop} {Z}
    (k : ∀ l s5 s7, s5.root = false → TabD nodes l (ini wide) → l.length ≤ 10000 → P (.nx, [s0, .val (.int wide), s2, .val (.lst (nodeD nodes)), .own (.dcT l), s5, .no, s7, .no, .no])) :
    Wq ((fFor (fIter (fVar 3)) (gSet 5)
  (fFor (fIter (fVar 3)) (gSet 7)
  (fStD 4 (fTup (fCons (fVar 5) (fCons (fVar 7) fNil))) (fIf (fTst (fOp dIn (fVar 5) (fTup (fCons (fC (.str "")) (fCons (fVar 7) fNil))))) (fC (.int 0)) (fNeg (fVar 1)))))) [s0, .val (.int wide), s2, .val (.lst (nodeD nodes)), .own (.dcT []), .no, .no, .no, .no, .no]) P Z := by
  refine w_for (l := nodeD nodes) (k := false) (e1 := [s0, .val (.int wide), s2, .val (.lst (nodeD nodes)), .own (.dcT []), .no, .no, .no, .no, .no]) (fun ds e => ∃ l s5 s7, s5.root = false ∧ e = [s0, .val (.int wide), s2, .val (.lst (nodeD nodes)), .own (.dcT l), s5, .no, s7, .no, .no] ∧ l.length + 100 * ds.length ≤ 10000 ∧ (∀ d ∈ ds, ∃ a ∈ nodes, d = .str a) ∧ ∀ a ∈ nodes, D.str a ∈ ds ∨ ∀ b ∈ nodes, look l [.inr a, .inr b] = some (.int (ini wide a b))) ?_ ?_ ?_ ?_
  · exact ev_iter rfl rfl rfl
  · exact ⟨[], .no, .no, rfl, rfl, by simp [nodeD]; omega, (fun d m => (List.mem_map.mp m).imp fun a q => ⟨q.1, q.2.symm⟩), fun a m => .inl (List.mem_map.mpr ⟨a, m, rfl⟩)⟩
  · rintro x ds _ ⟨l, s5, s7, hs5, rfl, len, mem, T⟩
    refine ⟨_, rfl, ?_⟩
    obtain ⟨one, m1, rfl⟩ := mem x List.mem_cons_self
    walk_at "nrm"
    rw [List.length_cons] at len
    refine w_for (l := nodeD nodes) (k := false) (e1 := [s0, .val (.int wide), s2, .val (.lst (nodeD nodes)), .own (.dcT l), .val (.str one), .no, s7, .no, .no]) (fun cs e => ∃ l s7, e = [s0, .val (.int wide), s2, .val (.lst (nodeD nodes)), .own (.dcT l), .val (.str one), .no, s7, .no, .no] ∧ l.length + 100 * ds.length + cs.length ≤ 10000 ∧ (∀ d ∈ cs, ∃ a ∈ nodes, d = .str a) ∧ (∀ a ∈ nodes, D.str a ∈ D.str one :: ds ∨ ∀ b ∈ nodes, look l [.inr a, .inr b] = some (.int (ini wide a b))) ∧ ∀ b ∈ nodes, D.str b ∈ cs ∨ look l [.inr one, .inr b] = some (.int (ini wide one b))) ?_ ?_ ?_ ?_
    · exact ev_iter rfl rfl rfl
    · exact ⟨l, s7, rfl, by simp [nodeD]; omega, (fun d m => (List.mem_map.mp m).imp fun a q => ⟨q.1, q.2.symm⟩), T, fun a m => .inl (List.mem_map.mpr ⟨a, m, rfl⟩)⟩
    · rintro x cs _ ⟨l, s7, rfl, len, mem, T, R⟩
      refine ⟨_, rfl, ?_⟩
      obtain ⟨oth, m2, rfl⟩ := mem x List.mem_cons_self
      walk_at "nrm"
      rw [List.length_cons] at len
      have hs : (20000 : Nat) < sizeLine := by decide
      apply w_stD (d := .int (ini wide one oth)) (x := .tup [.str one, .str oth]) (y := .dcT l) (z := .dcT (putD l [.inr one, .inr oth] (.int (ini wide one oth))))
      · apply ev_if (b := iniB one oth)
        · apply ev_tst
          apply ev_op
          · rfl
          · apply ev_tup
            · rfl
            · rfl
            · exact (by decide : (2 : Nat) ≤ sizeLine)
          · rfl
          · rfl
          · exact far_in
        · show _ = Rs.ok (Hd.dat (.int (ini wide one oth)), _)
          unfold ini
          cases iniB one oth with
          | true => rfl
          | false => rfl
      · rfl
      · rfl
      · apply ev_tup
        · rfl
        · rfl
        · exact (by decide : (2 : Nat) ≤ sizeLine)
      · rfl
      · rfl
      · exact putT_ok (by omega)
      · refine ⟨.inl rfl, _, _, rfl, ?_, (fun d m => mem d (List.mem_cons_of_mem _ m)), fun a ma => ?_, fun b mb => ?_⟩
        · have := put_len l [.inr one, .inr oth] (.int (ini wide one oth))
          omega
        · refine (T a ma).imp id fun q b mb => ?_
          rw [look_put2]
          split
          · rename_i z; rw [z.1, z.2]
          · exact q b mb
        · rw [look_put2]
          by_cases z : one = one ∧ oth = b
          · rw [if_pos z, z.2]; exact .inr rfl
          · rw [if_neg z]
            refine (R b mb).imp (fun q => ?_) id
            rcases List.mem_cons.mp q with q | q
            · cases q; exact absurd ⟨rfl, rfl⟩ z
            · exact q
    · rintro _ ⟨l, s7, rfl, len, mem2, T, R⟩
      refine ⟨.inl rfl, l, _, _, rfl, rfl, by simpa using len, (fun d m => mem d (List.mem_cons_of_mem _ m)), fun a ma => ?_⟩
      rcases T a ma with q | q
      · rcases List.mem_cons.mp q with q | q
        · cases q
          exact .inr fun b mb => (R b mb).resolve_left List.not_mem_nil
        · exact .inl q
      · exact .inr q
  · rintro _ ⟨l, s5, s7, hs5, rfl, len, _, T⟩
    exact k l s5 s7 hs5 (fun a ma => (T a ma).resolve_left List.not_mem_nil) (by simpa using len)
abbrev farE (s0 : Sl) (wide : Int) (s2 : Sl) (nodes : List Str) (l : List (List Key × D)) (s5 s6 s7 s8 s9 : Sl) : En := [s0, .val (.int wide), s2, .val (.lst (nodeD nodes)), .own (.dcT l), s5, s6, s7, s8, s9]
/-- the second loop -/
theorem far_2 {nodes : List Str} {wide : Int} {s0 s5 s6 s7 s8 s9 : Sl} {E : List (Str × Str × Int)} (hE : ∀ r ∈ E, r.1 ∈ nodes ∧ r.2.1 ∈ nodes) {l : List (List Key × D)} {f : Str → Str → Int} (h5 : s5.root = false) (T : TabD nodes l f) (hl : l.length ≤ 10000) {P : Fl × En → Prop} {Z}
    (k : ∀ l g s5 s7 s8, s5.root = false → TabD nodes l g → l.length ≤ 10000 → (∀ a ∈ nodes, ∀ b ∈ nodes, f a b ≤ g a b) → (∀ r ∈ E, r.2.2 ≤ g r.1 r.2.1) → (∀ h : Str → Str → Int, (∀ a ∈ nodes, ∀ b ∈ nodes, f a b ≤ h a b) → (∀ r ∈ E, r.2.2 ≤ h r.1 r.2.1) → ∀ a ∈ nodes, ∀ b ∈ nodes, g a b ≤ h a b) → P (.nx, farE s0 wide (.val (.lst (E.map rowD))) nodes l s5 s6 s7 s8 s9)) :
    Wq ((fFor (fIter (fVar 2)) (gTu (gCo (gSet 5) (gCo (gSet 7) (gCo (gSet 8) gNo))))
  (fStD 4 (fTup (fCons (fVar 5) (fCons (fVar 7) fNil))) (fCall dMax2 (fCons (fOp dIx (fVar 4) (fTup (fCons (fVar 5) (fCons (fVar 7) fNil)))) (fCons (fVar 8) fNil))))) (farE s0 wide (.val (.lst (E.map rowD))) nodes l s5 s6 s7 s8 s9)) P Z := by
  refine w_for (l := E.map rowD) (k := false) (e1 := farE s0 wide (.val (.lst (E.map rowD))) nodes l s5 s6 s7 s8 s9) (fun ds e => ∃ l g s5 s7 s8, s5.root = false ∧ e = farE s0 wide (.val (.lst (E.map rowD))) nodes l s5 s6 s7 s8 s9 ∧ TabD nodes l g ∧ l.length ≤ 10000 ∧ (∀ a ∈ nodes, ∀ b ∈ nodes, f a b ≤ g a b) ∧ (∀ h : Str → Str → Int, (∀ a ∈ nodes, ∀ b ∈ nodes, f a b ≤ h a b) → (∀ r ∈ E, r.2.2 ≤ h r.1 r.2.1) → ∀ a ∈ nodes, ∀ b ∈ nodes, g a b ≤ h a b) ∧ (∀ d ∈ ds, ∃ r ∈ E, d = rowD r) ∧ ∀ r ∈ E, rowD r ∈ ds ∨ r.2.2 ≤ g r.1 r.2.1) ?_ ?_ ?_ ?_
  · exact ev_iter rfl rfl rfl
  · exact ⟨l, f, s5, s7, s8, h5, rfl, T, hl, fun _ _ _ _ => Int.le_refl _, (fun h q _ => q), (fun d m => (List.mem_map.mp m).imp fun a q => ⟨q.1, q.2.symm⟩), fun a m => .inl (List.mem_map.mpr ⟨a, m, rfl⟩)⟩
  · rintro x ds _ ⟨l, g, s5, s7, s8, h5, rfl, T, hl, up, lst, mem, R⟩
    obtain ⟨⟨a, b, gap⟩, mr, rfl⟩ := mem x List.mem_cons_self
    obtain ⟨ma, mb⟩ := hE _ mr
    refine ⟨farE s0 wide (.val (.lst (E.map rowD))) nodes l (.val (.str a)) s6 (.val (.str b)) (.val (.int gap)) s9, rfl, ?_⟩
    have hs : (20000 : Nat) < sizeLine := by decide
    have ix : dIx (.dcT l) (.tup [.str a, .str b]) = some (.int (g a b)) := ixT_ok (T a ma b mb)
    apply w_stD (d := .int (mx (g a b) gap)) (x := .tup [.str a, .str b]) (y := .dcT l) (z := .dcT (putD l [.inr a, .inr b] (.int (mx (g a b) gap))))
    · apply ev_call
      · apply ev_cons
        · apply ev_op
          · rfl
          · apply ev_tup
            · rfl
            · rfl
            · exact (by decide : (2 : Nat) ≤ sizeLine)
          · rfl
          · rfl
          · exact ix
        · rfl
      · rfl
      · rfl
    · rfl
    · rfl
    · apply ev_tup
      · rfl
      · rfl
      · exact (by decide : (2 : Nat) ≤ sizeLine)
    · rfl
    · rfl
    · exact putT_ok (by omega)
    · refine ⟨.inl rfl, _, upd2 g a b (mx (g a b) gap), _, _, _, rfl, rfl, T.put a b _, by rw [T.len ma mb]; exact hl, fun c hc d hd => Int.le_trans (up c hc d hd) (upd2_up (mx_1 _ _) c d), (fun h q1 q2 c hc d hd => ?_), (fun d m => mem d (List.mem_cons_of_mem _ m)), fun r hr => ?_⟩
      · rcases upd2_or g a b (mx (g a b) gap) c d with ⟨e1, e2, e⟩ | e
        · rw [e, ← e1, ← e2]
          have t1 := lst h q1 q2 a ma b mb
          have t2 : gap ≤ h a b := q2 _ mr
          rcases mx_3 (g a b) gap with z | z <;> rw [z] <;> assumption
        · rw [e]; exact lst h q1 q2 c hc d hd
      rcases R r hr with q | q
      · rcases List.mem_cons.mp q with q | q
        · refine .inr ?_
          have q : D.tup [.str r.1, .str r.2.1, .int r.2.2] = D.tup [.str a, .str b, .int gap] := q
          injection q with q
          injection q with q1 q
          injection q with q2 q
          injection q with q3 q
          injection q1 with q1; injection q2 with q2; injection q3 with q3
          rw [q1, q2, q3, upd2_at]
          exact mx_2 _ _
        · exact .inl q
      · exact .inr (Int.le_trans q (upd2_up (mx_1 _ _) _ _))
  · rintro _ ⟨l, g, s5, s7, s8, h5, rfl, T, hl, up, lst, mem, R⟩
    exact k l g s5 s7 s8 h5 T hl up (fun r hr => (R r hr).resolve_left List.not_mem_nil) lst
/-- one turn of the third loop -/
theorem far_3b {nodes : List Str} {wide : Int} {s0 s2 s5 s7 s8 s9 : Sl} {x : Str} (hx : x ∈ nodes) {l : List (List Key × D)} {f : Str → Str → Int} (h5 : s5.root = false) (T : TabD nodes l f) (hl : l.length ≤ 10000) {P : Fl × En → Prop} {Z}
    (k : ∀ l g s5 s7 s9, s5.root = false → TabD nodes l g → l.length ≤ 10000 → Via nodes x f g → (∀ h : Str → Str → Int, (∀ a ∈ nodes, ∀ b ∈ nodes, f a b ≤ h a b) → (∀ a ∈ nodes, TriAt nodes h a) → ∀ a ∈ nodes, ∀ b ∈ nodes, g a b ≤ h a b) → P (.nx, farE s0 wide s2 nodes l s5 (.val (.str x)) s7 s8 s9)) :
    Wq ((fFor (fIter (fVar 3)) (gSet 5)
  (fFor (fIter (fVar 3)) (gSet 7)
  (fSeq (fAsg (fOp dAdd (fOp dIx (fVar 4) (fTup (fCons (fVar 5) (fCons (fVar 6) fNil)))) (fOp dIx (fVar 4) (fTup (fCons (fVar 6) (fCons (fVar 7) fNil))))) (gSet 9))
  (fStD 4 (fTup (fCons (fVar 5) (fCons (fVar 7) fNil))) (fCall dMax2 (fCons (fOp dIx (fVar 4) (fTup (fCons (fVar 5) (fCons (fVar 7) fNil)))) (fCons (fVar 9) fNil))))))) (farE s0 wide s2 nodes l s5 (.val (.str x)) s7 s8 s9)) P Z := by
  refine w_for (l := nodeD nodes) (k := false) (e1 := farE s0 wide s2 nodes l s5 (.val (.str x)) s7 s8 s9) (fun ds e => ∃ l g s5 s7 s9, s5.root = false ∧ e = farE s0 wide s2 nodes l s5 (.val (.str x)) s7 s8 s9 ∧ TabD nodes l g ∧ l.length ≤ 10000 ∧ (∀ a ∈ nodes, ∀ b ∈ nodes, f a b ≤ g a b) ∧ (f x x ≤ 0 → ∀ a ∈ nodes, ∀ c ∈ nodes, g a c ≤ f a c ∨ g a c ≤ f a x + f x c) ∧ (∀ h : Str → Str → Int, (∀ a ∈ nodes, ∀ b ∈ nodes, f a b ≤ h a b) → (∀ a ∈ nodes, TriAt nodes h a) → ∀ a ∈ nodes, ∀ b ∈ nodes, g a b ≤ h a b) ∧ (∀ d ∈ ds, ∃ a ∈ nodes, d = .str a) ∧ (f x x ≤ 0 → ∀ a ∈ nodes, D.str a ∈ ds ∨ ∀ c ∈ nodes, f a x + f x c ≤ g a c)) ?_ ?_ ?_ ?_
  · exact ev_iter rfl rfl rfl
  · exact ⟨l, f, s5, s7, s9, h5, rfl, T, hl, fun _ _ _ _ => Int.le_refl _, fun _ _ _ _ _ => .inl (Int.le_refl _), (fun h q _ => q), (fun d m => (List.mem_map.mp m).imp fun a q => ⟨q.1, q.2.symm⟩), fun _ a m => .inl (List.mem_map.mpr ⟨a, m, rfl⟩)⟩
  · rintro y ds _ ⟨l, g, s5, s7, s9, h5, rfl, T, hl, up, top, lst, mem, R⟩
    obtain ⟨one, m1, rfl⟩ := mem y List.mem_cons_self
    refine ⟨farE s0 wide s2 nodes l (.val (.str one)) (.val (.str x)) s7 s8 s9, rfl, ?_⟩
    refine w_for (l := nodeD nodes) (k := false) (e1 := farE s0 wide s2 nodes l (.val (.str one)) (.val (.str x)) s7 s8 s9) (fun cs e => ∃ l g s7 s9, e = farE s0 wide s2 nodes l (.val (.str one)) (.val (.str x)) s7 s8 s9 ∧ TabD nodes l g ∧ l.length ≤ 10000 ∧ (∀ a ∈ nodes, ∀ b ∈ nodes, f a b ≤ g a b) ∧ (f x x ≤ 0 → ∀ a ∈ nodes, ∀ c ∈ nodes, g a c ≤ f a c ∨ g a c ≤ f a x + f x c) ∧ (∀ h : Str → Str → Int, (∀ a ∈ nodes, ∀ b ∈ nodes, f a b ≤ h a b) → (∀ a ∈ nodes, TriAt nodes h a) → ∀ a ∈ nodes, ∀ b ∈ nodes, g a b ≤ h a b) ∧ (∀ d ∈ cs, ∃ a ∈ nodes, d = .str a) ∧ (f x x ≤ 0 → ∀ a ∈ nodes, D.str a ∈ D.str one :: ds ∨ ∀ c ∈ nodes, f a x + f x c ≤ g a c) ∧ (f x x ≤ 0 → ∀ c ∈ nodes, D.str c ∈ cs ∨ f one x + f x c ≤ g one c)) ?_ ?_ ?_ ?_
    · exact ev_iter rfl rfl rfl
    · exact ⟨l, g, s7, s9, rfl, T, hl, up, top, lst, (fun d m => (List.mem_map.mp m).imp fun a q => ⟨q.1, q.2.symm⟩), R, fun _ a m => .inl (List.mem_map.mpr ⟨a, m, rfl⟩)⟩
    · rintro z cs _ ⟨l, g, s7, s9, rfl, T, hl, up, top, lst, mem2, R, R2⟩
      obtain ⟨oth, m2, rfl⟩ := mem2 z List.mem_cons_self
      refine ⟨farE s0 wide s2 nodes l (.val (.str one)) (.val (.str x)) (.val (.str oth)) s8 s9, rfl, ?_⟩
      have hs : (20000 : Nat) < sizeLine := by decide
      have i1 : dIx (.dcT l) (.tup [.str one, .str x]) = some (.int (g one x)) := ixT_ok (T one m1 x hx)
      have i2 : dIx (.dcT l) (.tup [.str x, .str oth]) = some (.int (g x oth)) := ixT_ok (T x hx oth m2)
      have i3 : dIx (.dcT l) (.tup [.str one, .str oth]) = some (.int (g one oth)) := ixT_ok (T one m1 oth m2)
      refine w_seq ?_; apply w_asg (d := .int (g one x + g x oth)) (h := .dat (.int (g one x + g x oth)))
      · apply ev_op
        · apply ev_op
          · rfl
          · apply ev_tup
            · rfl
            · rfl
            · exact (by decide : (2 : Nat) ≤ sizeLine)
          · rfl
          · rfl
          · exact i1
        · apply ev_op
          · rfl
          · apply ev_tup
            · rfl
            · rfl
            · exact (by decide : (2 : Nat) ≤ sizeLine)
          · rfl
          · rfl
          · exact i2
        · rfl
        · rfl
        · rfl
      · rfl
      apply w_stD (d := .int (mx (g one oth) (g one x + g x oth))) (x := .tup [.str one, .str oth]) (y := .dcT l) (z := .dcT (putD l [.inr one, .inr oth] (.int (mx (g one oth) (g one x + g x oth)))))
      · apply ev_call
        · apply ev_cons
          · apply ev_op
            · rfl
            · apply ev_tup
              · rfl
              · rfl
              · exact (by decide : (2 : Nat) ≤ sizeLine)
            · rfl
            · rfl
            · exact i3
          · rfl
        · rfl
        · rfl
      · rfl
      · rfl
      · apply ev_tup
        · rfl
        · rfl
        · exact (by decide : (2 : Nat) ≤ sizeLine)
      · rfl
      · rfl
      · exact putT_ok (by omega)
      · have u2 := @upd2_up g one oth (mx (g one oth) (g one x + g x oth)) (mx_1 _ _)
        refine ⟨.inl rfl, _, upd2 g one oth (mx (g one oth) (g one x + g x oth)), _, _, rfl, T.put one oth _, by rw [T.len m1 m2]; exact hl, fun c hc d hd => Int.le_trans (up c hc d hd) (u2 c d), fun dg a ha c hc => ?_, (fun h q1 q2 a ha c hc => ?_), (fun d m => mem2 d (List.mem_cons_of_mem _ m)), fun dg a ha => ?_, fun dg c hc => ?_⟩
        · rcases upd2_or g one oth (mx (g one oth) (g one x + g x oth)) a c with ⟨e1, e2, e⟩ | e
          · rw [e, ← e1, ← e2]
            have t1 := top dg one m1 x hx
            have t2 := top dg x hx oth m2
            have t3 := top dg one m1 oth m2
            rcases mx_3 (g one oth) (g one x + g x oth) with z | z <;> rw [z] <;> omega
          · rw [e]; exact top dg a ha c hc
        · rcases upd2_or g one oth (mx (g one oth) (g one x + g x oth)) a c with ⟨e1, e2, e⟩ | e
          · rw [e, ← e1, ← e2]
            have t1 := lst h q1 q2 one m1 x hx
            have t2 := lst h q1 q2 x hx oth m2
            have t3 := lst h q1 q2 one m1 oth m2
            have t4 := q2 x hx one m1 oth m2
            rcases mx_3 (g one oth) (g one x + g x oth) with z | z <;> rw [z] <;> omega
          · rw [e]; exact lst h q1 q2 a ha c hc
        · exact (R dg a ha).imp id fun q c hc => Int.le_trans (q c hc) (u2 a c)
        · rcases R2 dg c hc with q | q
          · rcases List.mem_cons.mp q with q | q
            · have qq : c = oth := by injection q
              refine .inr ?_
              rw [qq, upd2_at]
              have t1 := up one m1 x hx
              have t2 := up x hx oth m2
              have := mx_2 (g one oth) (g one x + g x oth)
              omega
            · exact .inl q
          · exact .inr (Int.le_trans q (u2 one c))
    · rintro _ ⟨l, g, s7, s9, rfl, T, hl, up, top, lst, mem2, R, R2⟩
      refine ⟨.inl rfl, l, g, _, _, _, rfl, rfl, T, hl, up, top, lst, (fun d m => mem d (List.mem_cons_of_mem _ m)), fun dg a ha => ?_⟩
      rcases R dg a ha with q | q
      · rcases List.mem_cons.mp q with q | q
        · cases q
          exact .inr fun c hc => (R2 dg c hc).resolve_left List.not_mem_nil
        · exact .inl q
      · exact .inr q
  · rintro _ ⟨l, g, s5, s7, s9, h5, rfl, T, hl, up, top, lst, mem, R⟩
    exact k l g s5 s7 s9 h5 T hl ⟨up, top, fun dg a ha c hc => (R dg a ha).resolve_left List.not_mem_nil c hc⟩ lst
/-- the third loop -/
theorem far_3 {nodes : List Str} {wide : Int} {s0 s2 s5 s6 s7 s8 s9 : Sl} {l : List (List Key × D)} {f : Str → Str → Int} (h5 : s5.root = false) (T : TabD nodes l f) (hl : l.length ≤ 10000) {P : Fl × En → Prop} {Z}
    (k : ∀ l g s5 s6 s7 s9, s5.root = false → TabD nodes l g → l.length ≤ 10000 → (∀ a ∈ nodes, ∀ b ∈ nodes, f a b ≤ g a b) → ((∀ a ∈ nodes, g a a ≤ 0) → ∀ a ∈ nodes, TriAt nodes g a) → (∀ h : Str → Str → Int, (∀ a ∈ nodes, ∀ b ∈ nodes, f a b ≤ h a b) → (∀ a ∈ nodes, TriAt nodes h a) → ∀ a ∈ nodes, ∀ b ∈ nodes, g a b ≤ h a b) → P (.nx, farE s0 wide s2 nodes l s5 s6 s7 s8 s9)) :
    Wq ((fFor (fIter (fVar 3)) (gSet 6)
  (fFor (fIter (fVar 3)) (gSet 5)
  (fFor (fIter (fVar 3)) (gSet 7)
  (fSeq (fAsg (fOp dAdd (fOp dIx (fVar 4) (fTup (fCons (fVar 5) (fCons (fVar 6) fNil)))) (fOp dIx (fVar 4) (fTup (fCons (fVar 6) (fCons (fVar 7) fNil))))) (gSet 9))
  (fStD 4 (fTup (fCons (fVar 5) (fCons (fVar 7) fNil))) (fCall dMax2 (fCons (fOp dIx (fVar 4) (fTup (fCons (fVar 5) (fCons (fVar 7) fNil)))) (fCons (fVar 9) fNil)))))))) (farE s0 wide s2 nodes l s5 s6 s7 s8 s9)) P Z := by
  refine w_for (l := nodeD nodes) (k := false) (e1 := farE s0 wide s2 nodes l s5 s6 s7 s8 s9) (fun ds e => ∃ l g s5 s6 s7 s9, s5.root = false ∧ e = farE s0 wide s2 nodes l s5 s6 s7 s8 s9 ∧ TabD nodes l g ∧ l.length ≤ 10000 ∧ (∀ a ∈ nodes, ∀ b ∈ nodes, f a b ≤ g a b) ∧ (∀ h : Str → Str → Int, (∀ a ∈ nodes, ∀ b ∈ nodes, f a b ≤ h a b) → (∀ a ∈ nodes, TriAt nodes h a) → ∀ a ∈ nodes, ∀ b ∈ nodes, g a b ≤ h a b) ∧ (∀ d ∈ ds, ∃ a ∈ nodes, d = .str a) ∧ ((∀ a ∈ nodes, g a a ≤ 0) → ∀ a ∈ nodes, D.str a ∈ ds ∨ TriAt nodes g a)) ?_ ?_ ?_ ?_
  · exact ev_iter rfl rfl rfl
  · exact ⟨l, f, s5, s6, s7, s9, h5, rfl, T, hl, fun _ _ _ _ => Int.le_refl _, (fun h q _ => q), (fun d m => (List.mem_map.mp m).imp fun a q => ⟨q.1, q.2.symm⟩), fun _ a m => .inl (List.mem_map.mpr ⟨a, m, rfl⟩)⟩
  · rintro y ds _ ⟨l, g, s5, s6, s7, s9, h5, rfl, T, hl, up, lst, mem, R⟩
    obtain ⟨x, mx, rfl⟩ := mem y List.mem_cons_self
    refine ⟨farE s0 wide s2 nodes l s5 (.val (.str x)) s7 s8 s9, rfl, ?_⟩
    refine far_3b mx h5 T hl fun l2 g2 s5 s7 s9 h5 T2 hl2 V lst2 => ⟨.inl rfl, l2, g2, s5, _, s7, s9, h5, rfl, T2, hl2, fun a ha b hb => Int.le_trans (up a ha b hb) (V.up a ha b hb), (fun h q1 q2 => lst2 h (lst h q1 q2) q2), (fun d m => mem d (List.mem_cons_of_mem _ m)), fun dg a ha => ?_⟩
    have dg0 : ∀ a ∈ nodes, g a a ≤ 0 := fun a ha => Int.le_trans (V.up a ha a ha) (dg a ha)
    rcases R dg0 a ha with q | q
    · rcases List.mem_cons.mp q with q | q
      · cases q
        exact .inr (V.here mx (dg0 x mx))
      · exact .inl q
    · exact .inr (V.keep mx ha (dg0 x mx) q)
  · rintro _ ⟨l, g, s5, s6, s7, s9, h5, rfl, T, hl, up, lst, mem, R⟩
    exact k l g s5 s6 s7 s9 h5 T hl up (fun dg a ha => (R dg a ha).resolve_left List.not_mem_nil) lst
abbrev nds (ns : List Str) : List Str := "" :: ns
/-- what the greatest totals say -/
structure FarOk (nodes : List Str) (wide : Int) (E : List (Str × Str × Int)) (f : Str → Str → Int) : Prop where
  ini : ∀ a ∈ nodes, ∀ b ∈ nodes, Rt.ini wide a b ≤ f a b
  lag : ∀ r ∈ E, r.2.2 ≤ f r.1 r.2.1
  dg : ∀ a ∈ nodes, f a a ≤ 0
  tri : ∀ a ∈ nodes, TriAt nodes f a
  lst : ∀ h : Str → Str → Int, (∀ a ∈ nodes, ∀ b ∈ nodes, Rt.ini wide a b ≤ h a b) → (∀ r ∈ E, r.2.2 ≤ h r.1 r.2.1) → (∀ a ∈ nodes, TriAt nodes h a) → ∀ a ∈ nodes, ∀ b ∈ nodes, f a b ≤ h a b
theorem dAny_bl : ∀ (bs : List Bool), dAny [.lst (bs.map .bl)] = some (.bl (bs.any id)) := by
  intro bs
  have : blsOf (bs.map D.bl) = some bs := by
    induction bs with
    | nil => rfl
    | cons b bs ih => rw [List.map_cons, blsOf, ih]; rfl
  show (blsOf (bs.map D.bl)).map _ = _
  rw [this]; rfl
theorem dAll_bl : ∀ (bs : List Bool), dAll [.lst (bs.map .bl)] = some (.bl (bs.all id)) := by
  intro bs
  have : blsOf (bs.map D.bl) = some bs := by
    induction bs with
    | nil => rfl
    | cons b bs ih => rw [List.map_cons, blsOf, ih]; rfl
  show (blsOf (bs.map D.bl)).map _ = _
  rw [this]; rfl
theorem far_g {ns : List Str} (hn : ns.length ≤ 80) (wide : Int) {E : List (Str × Str × Int)} (hE : ∀ r ∈ E, r.1 ∈ nds ns ∧ r.2.1 ∈ nds ns) :
    ∃ z, g__law_far [.val (.lst (nodeD ns)), .val (.int wide), .val (.lst (E.map rowD))] = .ok z ∧ z.outs = [] ∧ ((z.d = .non ∧ ∀ h : Str → Str → Int, (∀ a ∈ nds ns, ∀ b ∈ nds ns, Rt.ini wide a b ≤ h a b) → (∀ r ∈ E, r.2.2 ≤ h r.1 r.2.1) → (∀ a ∈ nds ns, TriAt (nds ns) h a) → ¬ ∀ a ∈ nds ns, h a a ≤ 0) ∨ ∃ l f, z.d = .dcT l ∧ TabD (nds ns) l f ∧ FarOk (nds ns) wide E f) := by
  refine run_def rfl ?_
  unfold b__law_far
  walk_at "nrm"
  refine w_seq ?_; apply w_asg (d := .lst (nodeD (nds ns))) (h := .dat (.lst (nodeD (nds ns))))
  · apply ev_op
    · rfl
    · rfl
    · rfl
    · rfl
    · show (if 1 + (nodeD ns).length ≤ sizeLine then some (D.lst ([.str ""] ++ nodeD ns)) else none) = _
      rw [if_pos (by have : (1000 : Nat) < sizeLine := by decide
                     unfold nodeD; rw [List.length_map]; omega)]
      rfl
  · rfl
  walk_at "nrm"
  refine w_seq ?_; apply w_setO (d := .dcT [])
  · rfl
  walk_at "nrm"
  refine w_seq ?_
  refine far_1 (nodes := nds ns) (by rw [List.length_cons]; omega) fun l s5 s7 h5 T hl => ?_
  refine w_seq ?_
  refine far_2 (nodes := nds ns) hE h5 T hl fun l g s5 s7 s8 h5 T2 hl2 up2 lag lst2 => ?_
  refine w_seq ?_
  refine far_3 (nodes := nds ns) h5 T2 hl2 fun l f s5 s6 s7 s9 h5 T3 hl3 up3 tri lst3 => ?_
  have cl : cLoop (gSet 5) fYes (fOp dGt (fOp dIx (fVar 4) (fTup (fCons (fVar 5) (fCons (fVar 5) fNil)))) (fC (.int 0))) [5] ((nds ns).map D.str) (farE (.val (.lst (nodeD ns))) wide (.val (.lst (E.map rowD))) (nds ns) l .no s6 s7 s8 s9) [] = .ok ((nds ns).map fun a => D.bl (decide (0 < f a a)), farE (.val (.lst (nodeD ns))) wide (.val (.lst (E.map rowD))) (nds ns) l .no s6 s7 s8 s9) := by
    refine cl_map .str (fun a => D.bl (decide (0 < f a a))) _ (nds ns) (by rw [List.length_cons]; omega) fun x hx => ?_
    have i1 : dIx (.dcT l) (.tup [.str x, .str x]) = some (.int (f x x)) := ixT_ok (T3 x hx x hx)
    refine ⟨farE (.val (.lst (nodeD ns))) wide (.val (.lst (E.map rowD))) (nds ns) l (.val (.str x)) s6 s7 s8 s9, .dat (.bl (decide (0 < f x x))), farE (.val (.lst (nodeD ns))) wide (.val (.lst (E.map rowD))) (nds ns) l (.val (.str x)) s6 s7 s8 s9, farE (.val (.lst (nodeD ns))) wide (.val (.lst (E.map rowD))) (nds ns) l (.val (.str x)) s6 s7 s8 s9, rfl, ?_, rfl, rfl⟩
    apply ev_op
    · apply ev_op
      · rfl
      · apply ev_tup
        · rfl
        · rfl
        · exact (by decide : (2 : Nat) ≤ sizeLine)
      · rfl
      · rfl
      · exact i1
    · rfl
    · rfl
    · rfl
    · rfl
  have any := dAny_bl ((nds ns).map fun a => decide (0 < f a a))
  rw [List.map_map] at any
  refine w_seq ?_; apply w_if (b := ((nds ns).map fun a => decide (0 < f a a)).any id) (e1 := farE (.val (.lst (nodeD ns))) wide (.val (.lst (E.map rowD))) (nds ns) l s5 s6 s7 s8 s9)
  · apply ev_tru
    · apply ev_call
      · apply ev_cons
        · apply ev_keep
          apply ev_comp'
          · exact ev_iter rfl rfl rfl
          · cases s5 <;> first | rfl | cases h5
          · exact cl
          · rfl
        · rfl
      · rfl
      · exact any
    · rfl
    · rfl
  · intro yes
    apply w_retV (d := .non)
    · rfl
    · rfl
    · refine ⟨_, rfl, _, rfl, rfl, .inl ⟨rfl, fun f0 F1 F2 F3 F4 => ?_⟩⟩
      obtain ⟨b, mb, hb⟩ := List.any_eq_true.mp yes
      obtain ⟨a, ha, rfl⟩ := List.mem_map.mp mb
      have hb : 0 < f a a := by simpa using hb
      have := lst3 f0 (lst2 f0 F1 F2) F3 a ha a ha
      have := F4 a ha
      omega
  · intro no
    refine w_nx ?_
    apply w_retS (i := 4) (d := .dcT l)
    · rfl
    · rfl
    · have dg : ∀ a ∈ nds ns, f a a ≤ 0 := by
        intro a ha
        rw [List.any_eq_false] at no
        have := no (decide (0 < f a a)) (List.mem_map.mpr ⟨a, ha, rfl⟩)
        simpa using this
      refine ⟨_, rfl, _, rfl, rfl, .inr ⟨l, f, rfl, T3, ?_, ?_, dg, tri dg, fun h q1 q2 q3 => lst3 h (lst2 h q1 q2) q3⟩⟩
      · exact fun a ha b hb => Int.le_trans (up2 a ha b hb) (up3 a ha b hb)
      · exact fun r hr => Int.le_trans (lag r hr) (up3 _ (hE r hr).1 _ (hE r hr).2)
abbrev Row := Str × Str × Int
def gJ (r : Row) : List Key × D := ([.inr r.1, .inr r.2.1], .int r.2.2)
def itD (r : Row) : D := .tup [.tup [.str r.1, .str r.2.1], .int r.2.2]
abbrev rKey (r : Row) : Str × Str := (r.1, r.2.1)
def putR (E : List Row) (a b : Str) (v : Int) : List Row := if (a, b) ∈ E.map rKey then E.map (fun r => if rKey r = (a, b) then (a, b, v) else r) else E ++ [(a, b, v)]
theorem gJ_key (r : Row) (a b : Str) : (gJ r).1 = [.inr a, .inr b] ↔ rKey r = (a, b) := by
  unfold gJ rKey
  simp only [List.cons.injEq, Sum.inr.injEq, and_true, Prod.mk.injEq]
theorem putR_ok (E : List Row) (a b : Str) (v : Int) : putD (E.map gJ) [.inr a, .inr b] (.int v) = (putR E a b v).map gJ := by
  unfold putD putR
  by_cases q : (a, b) ∈ E.map rKey
  · obtain ⟨r, mr, er⟩ := List.mem_map.mp q
    rw [if_pos (by rw [List.any_map]; exact List.any_eq_true.mpr ⟨r, mr, by simpa using (gJ_key r a b).mpr er⟩), if_pos q, List.map_map, List.map_map]
    apply List.map_congr_left
    intro r _
    show (if (gJ r).1 = [.inr a, .inr b] then ((gJ r).1, D.int v) else gJ r) = gJ (if rKey r = (a, b) then (a, b, v) else r)
    by_cases z : rKey r = (a, b)
    · rw [if_pos z, if_pos ((gJ_key r a b).mpr z), (gJ_key r a b).mpr z]; rfl
    · rw [if_neg z, if_neg fun h => z ((gJ_key r a b).mp h)]
  · rw [if_neg, if_neg q, List.map_append]
    · rfl
    · rw [List.any_map]
      intro h
      obtain ⟨r, mr, er⟩ := List.any_eq_true.mp h
      exact q (List.mem_map.mpr ⟨r, mr, (gJ_key r a b).mp (by simpa using er)⟩)
theorem putR_mem {E : List Row} {a b : Str} {v : Int} {r : Row} (h : r ∈ putR E a b v) : r = (a, b, v) ∨ (r ∈ E ∧ rKey r ≠ (a, b)) := by
  unfold putR at h
  split at h
  · obtain ⟨r0, m0, rfl⟩ := List.mem_map.mp h
    split
    · exact .inl rfl
    · rename_i q; exact .inr ⟨m0, q⟩
  · rename_i q
    rcases List.mem_append.mp h with m | m
    · exact .inr ⟨m, fun e => q (List.mem_map.mpr ⟨r, m, e⟩)⟩
    · exact .inl (List.mem_singleton.mp m)
theorem putR_new (E : List Row) (a b : Str) (v : Int) : (a, b, v) ∈ putR E a b v := by
  unfold putR
  split
  · rename_i q
    obtain ⟨r, mr, er⟩ := List.mem_map.mp q
    exact List.mem_map.mpr ⟨r, mr, if_pos er⟩
  · exact List.mem_append_right _ List.mem_cons_self
theorem putR_old {E : List Row} {a b : Str} (v : Int) {r : Row} (m : r ∈ E) (h : rKey r ≠ (a, b)) : r ∈ putR E a b v := by
  unfold putR
  split
  · exact List.mem_map.mpr ⟨r, m, if_neg h⟩
  · exact List.mem_append_left _ m
theorem putR_un {E : List Row} (a b : Str) (v : Int) (h : (E.map rKey).Nodup) : ((putR E a b v).map rKey).Nodup := by
  unfold putR
  split
  · rename_i q
    have e : (E.map fun r => if rKey r = (a, b) then (a, b, v) else r).map rKey = E.map rKey := by
      rw [List.map_map]
      apply List.map_congr_left
      intro r _
      show rKey (if rKey r = (a, b) then (a, b, v) else r) = rKey r
      split
      · rename_i z; exact z.symm
      · rfl
    rw [e]; exact h
  · rename_i q
    rw [List.map_append, List.nodup_append]
    refine ⟨h, List.nodup_cons.mpr ⟨List.not_mem_nil, .nil⟩, fun x mx y my e => ?_⟩
    cases List.mem_singleton.mp my
    subst e
    exact q mx
theorem putR_len (E : List Row) (a b : Str) (v : Int) : (putR E a b v).length ≤ E.length + 1 := by
  unfold putR
  split
  · rw [List.length_map]; omega
  · rw [List.length_append]; simp
theorem gaps_look {E : List Row} {a b : Str} : (look (E.map gJ) [.inr a, .inr b] = none ∧ ∀ g, (a, b, g) ∉ E) ∨ ∃ g, (a, b, g) ∈ E ∧ look (E.map gJ) [.inr a, .inr b] = some (.int g) := by
  induction E with
  | nil => exact .inl ⟨rfl, fun _ m => absurd m List.not_mem_nil⟩
  | cons r E ih =>
    rw [List.map_cons]
    show (look (([.inr r.1, .inr r.2.1], D.int r.2.2) :: E.map gJ) _ = none ∧ _) ∨ ∃ g, _ ∧ look (([.inr r.1, .inr r.2.1], D.int r.2.2) :: E.map gJ) _ = _
    rw [look_cons]
    by_cases q : r.1 = a ∧ r.2.1 = b
    · rw [if_pos (by rw [q.1, q.2])]
      exact .inr ⟨r.2.2, by rw [← q.1, ← q.2]; exact List.mem_cons_self, rfl⟩
    · rw [if_neg (by intro z; simp only [List.cons.injEq, Sum.inr.injEq, and_true] at z; exact q z)]
      refine ih.imp (fun ⟨h1, h2⟩ => ⟨h1, fun g m => ?_⟩) fun ⟨g, m, e⟩ => ⟨g, List.mem_cons_of_mem _ m, e⟩
      rcases List.mem_cons.mp m with m | m
      · exact q (by rw [← m]; exact ⟨rfl, rfl⟩)
      · exact h2 g m
theorem inj_nd {α β : Type} {f : α → β} : ∀ {l : List α} {x y : α}, (l.map f).Nodup → x ∈ l → y ∈ l → f x = f y → x = y
  | [], _, _, _, m, _, _ => absurd m List.not_mem_nil
  | a :: l, x, y, nd, mx, my, e => by
    rw [List.map_cons, List.nodup_cons] at nd
    rcases List.mem_cons.mp mx with h1 | h1 <;> rcases List.mem_cons.mp my with h2 | h2
    · rw [h1, h2]
    · exact absurd (List.mem_map.mpr ⟨y, h2, by rw [← e, h1]⟩) nd.1
    · exact absurd (List.mem_map.mpr ⟨x, h1, by rw [e, h2]⟩) nd.1
    · exact inj_nd nd.2 h1 h2 e
abbrev Tm := List (Str × Int)
def tmD (st : Tm) : D := .dct (st.map fun p => (.inr p.1, .int p.2))
/-- the implicit lags -/
def impL (ns : List Str) (wide : Int) : List Row := ns.flatMap fun t => [("", t, 0), (t, "", -wide)]
theorem mem_imp {ns : List Str} {wide : Int} {r : Row} : r ∈ impL ns wide ↔ ∃ t ∈ ns, r = (("" : Str), t, (0 : Int)) ∨ r = (t, ("" : Str), -wide) := by
  unfold impL
  simp only [List.mem_flatMap, List.mem_cons, List.not_mem_nil, or_false]
/-- the gaps that count, of ns' implicit lags and of L -/
structure GapE (ns : List Str) (wide : Int) (L : List Row) (E : List Row) : Prop where
  frm : ∀ r ∈ E, r ∈ impL ns wide ∨ r ∈ L
  all : ∀ r, r ∈ impL ns wide ∨ r ∈ L → ∃ g, r.2.2 ≤ g ∧ (r.1, r.2.1, g) ∈ E
  un : (E.map rKey).Nodup
theorem GapE.put {ns ns' : List Str} {wide : Int} {L L' E : List Row} (G : GapE ns wide L E) {a b : Str} {v : Int} (h1 : ∀ r, r ∈ impL ns wide ∨ r ∈ L → r ∈ impL ns' wide ∨ r ∈ L') (h2 : ((a, b, v) : Row) ∈ impL ns' wide ∨ (a, b, v) ∈ L')
    (h3 : ∀ r, r ∈ impL ns' wide ∨ r ∈ L' → (r ∈ impL ns wide ∨ r ∈ L) ∨ (rKey r = (a, b) ∧ r.2.2 ≤ v)) (h4 : ∀ g, (a, b, g) ∈ E → g ≤ v) : GapE ns' wide L' (putR E a b v) := by
  refine ⟨fun r m => ?_, fun r m => ?_, putR_un a b v G.un⟩
  · rcases putR_mem m with rfl | ⟨m, _⟩
    · exact h2
    · exact h1 r (G.frm r m)
  · by_cases q : rKey r = (a, b)
    · have e1 : r.1 = a := congrArg Prod.fst q
      have e2 : r.2.1 = b := congrArg Prod.snd q
      refine ⟨v, ?_, by rw [e1, e2]; exact putR_new ..⟩
      rcases h3 r m with m | m
      · obtain ⟨g, le, mg⟩ := G.all r m
        rw [e1, e2] at mg
        exact Int.le_trans le (h4 g mg)
      · exact m.2
    · rcases h3 r m with m | m
      · obtain ⟨g, le, mg⟩ := G.all r m
        exact ⟨g, le, putR_old v mg q⟩
      · exact absurd m.1 q
theorem GapE.nil (wide : Int) : GapE [] wide [] [] := ⟨(fun r m => absurd m List.not_mem_nil), (fun r m => by rcases m with m | m <;> exact absurd m List.not_mem_nil), .nil⟩
theorem imp_snoc {ns : List Str} {wide : Int} {t : Str} {r : Row} : r ∈ impL (ns ++ [t]) wide ↔ r ∈ impL ns wide ∨ r = (("" : Str), t, (0 : Int)) ∨ r = (t, ("" : Str), -wide) := by
  rw [mem_imp, mem_imp]
  constructor
  · rintro ⟨u, m, h⟩
    rcases List.mem_append.mp m with m | m
    · exact .inl ⟨u, m, h⟩
    · cases List.mem_singleton.mp m; exact .inr h
  · rintro (⟨u, m, h⟩ | h)
    · exact ⟨u, List.mem_append_left _ m, h⟩
    · exact ⟨t, List.mem_append_right _ List.mem_cons_self, h⟩
theorem GapE.two {ns : List Str} {wide : Int} {E : List Row} (G : GapE ns wide [] E) {t : Str} (hw : 0 ≤ wide) : GapE (ns ++ [t]) wide [] (putR (putR E "" t 0) t "" (-wide)) ∨ t ∈ ns ∨ t = "" ∨ ("" : Str) ∈ ns := by
  by_cases q1 : t ∈ ns
  · exact .inr (.inl q1)
  by_cases q2 : t = ""
  · exact .inr (.inr (.inl q2))
  by_cases q3 : ("" : Str) ∈ ns
  · exact .inr (.inr (.inr q3))
  refine .inl ?_
  have nokey : ∀ r ∈ E, rKey r ≠ (("" : Str), t) ∧ rKey r ≠ (t, ("" : Str)) := by
    intro r m
    rcases G.frm r m with m | m
    · obtain ⟨u, mu, rfl | rfl⟩ := mem_imp.mp m
      · refine ⟨fun e => ?_, fun e => ?_⟩
        · injection e with e1 e2; exact q1 (e2 ▸ mu)
        · injection e with e1 e2; exact q2 e1.symm
      · refine ⟨fun e => ?_, fun e => ?_⟩
        · injection e with e1 e2; exact q2 e2.symm
        · injection e with e1 e2; exact q1 (e1 ▸ mu)
    · exact absurd m List.not_mem_nil
  have un1 := putR_un "" t 0 G.un
  refine ⟨fun r m => ?_, fun r m => ?_, putR_un _ _ _ un1⟩
  · refine .inl (imp_snoc.mpr ?_)
    rcases putR_mem m with rfl | ⟨m, _⟩
    · exact .inr (.inr rfl)
    · rcases putR_mem m with rfl | ⟨m, _⟩
      · exact .inr (.inl rfl)
      · rcases G.frm r m with m | m
        · exact .inl m
        · exact absurd m List.not_mem_nil
  · rcases m with m | m
    · rcases imp_snoc.mp m with m | rfl | rfl
      · obtain ⟨g, le, mg⟩ := G.all r (.inl m)
        exact ⟨g, le, putR_old _ (putR_old _ mg (nokey _ mg).1) (nokey _ mg).2⟩
      · refine ⟨0, Int.le_refl _, putR_old _ (putR_new ..) fun e => ?_⟩
        injection e with e1 e2; exact q2 e1.symm
      · exact ⟨-wide, Int.le_refl _, putR_new ..⟩
    · exact absurd m List.not_mem_nil
theorem gaps_g {ns : List Str} {L : List Row} {wide : Int} (hw : 0 ≤ wide) (nd : (nds ns).Nodup) {td ld : D} (ht : dIter td = some (ns.map .str, true)) (hl : dIter ld = some (L.map rowD, false)) (n1 : ns.length ≤ 100) (n2 : L.length ≤ 300) :
    ∃ E, g_greatest_gaps [.val (.int wide), .val td, .val ld] = .ok ⟨true, .dcT (E.map gJ), []⟩ ∧ GapE ns wide L E ∧ E.length ≤ 1000 := by
  have key : ∃ z, g_greatest_gaps [.val (.int wide), .val td, .val ld] = .ok z ∧ ∃ E, z = ⟨true, .dcT (E.map gJ), []⟩ ∧ GapE ns wide L E ∧ E.length ≤ 1000 := by
    have hs : (20000 : Nat) < sizeLine := by decide
    refine run_def rfl ?_
    unfold b_greatest_gaps
    walk_at "nrm"
    refine w_seq ?_; apply w_setO (d := .dcT [])
    · rfl
    walk_at "nrm"
    refine w_seq ?_
    refine w_forP D.str ns (k := true) (e1 := [.val (.int wide), .val td, .val ld, .own (.dcT []), .no, .no, .no, .no, .no]) (fun ys e => ∃ E s4, e = [.val (.int wide), .val td, .val ld, .own (.dcT (E.map gJ)), s4, .no, .no, .no, .no] ∧ GapE ys wide [] E ∧ E.length ≤ 2 * ys.length) ?_ ?_ ?_ ?_
    · exact ev_iter rfl rfl ht
    · exact ⟨[], .no, rfl, GapE.nil wide, Nat.le_refl _⟩
    · rintro ys x zs _ hx ⟨E, s4, rfl, G, len⟩
      have ly : ys.length + 1 ≤ ns.length := by rw [hx, List.length_append, List.length_cons]; omega
      refine ⟨[.val (.int wide), .val td, .val ld, .own (.dcT (E.map gJ)), .val (.str x), .no, .no, .no, .no], rfl, ?_⟩
      have l1 := putR_len E "" x 0
      have l2 := putR_len (putR E "" x 0) x "" (-wide)
      refine w_seq ?_; apply w_stD (d := .int 0) (x := .tup [.str "", .str x]) (y := .dcT (E.map gJ)) (z := .dcT ((putR E "" x 0).map gJ))
      · rfl
      · rfl
      · rfl
      · exact ev_tup rfl rfl (by decide : (2 : Nat) ≤ sizeLine)
      · rfl
      · rfl
      · rw [putT_ok (by rw [List.length_map]; omega), putR_ok]
      apply w_stD (d := .int (-wide)) (x := .tup [.str x, .str ""]) (y := .dcT ((putR E "" x 0).map gJ)) (z := .dcT ((putR (putR E "" x 0) x "" (-wide)).map gJ))
      · rfl
      · rfl
      · rfl
      · exact ev_tup rfl rfl (by decide : (2 : Nat) ≤ sizeLine)
      · rfl
      · rfl
      · rw [putT_ok (by rw [List.length_map]; omega), putR_ok]
      · refine ⟨.inl rfl, _, _, rfl, ?_, by rw [List.length_append, List.length_singleton]; omega⟩
        obtain ⟨nd1, nd2⟩ := List.nodup_cons.mp nd
        rw [hx] at nd2 nd1
        rcases G.two (t := x) hw with h | h | h | h
        · exact h
        · exact absurd rfl ((List.nodup_append.mp nd2).2.2 _ h _ List.mem_cons_self)
        · exact absurd (List.mem_append_right _ (by rw [h]; exact List.mem_cons_self)) nd1
        · exact absurd (List.mem_append_left _ h) nd1
    rintro _ ⟨E, s4, rfl, G, len⟩
    refine w_seq ?_
    refine w_forP rowD L (k := false) (e1 := [.val (.int wide), .val td, .val ld, .own (.dcT (E.map gJ)), s4, .no, .no, .no, .no]) (fun ys e => ∃ E s5 s6 s7 s8, e = [.val (.int wide), .val td, .val ld, .own (.dcT (E.map gJ)), s4, s5, s6, s7, s8] ∧ GapE ns wide ys E ∧ E.length ≤ 200 + ys.length) ?_ ?_ ?_ ?_
    · exact ev_iter rfl rfl hl
    · exact ⟨E, _, _, _, _, rfl, G, by omega⟩
    · rintro ys ⟨a, b, gap⟩ zs _ hx ⟨E, s5, s6, s7, s8, rfl, G, len⟩
      have ly : ys.length + 1 ≤ L.length := by rw [hx, List.length_append, List.length_cons]; omega
      refine ⟨[.val (.int wide), .val td, .val ld, .own (.dcT (E.map gJ)), s4, .val (.str a), .val (.str b), .val (.int gap), s8], rfl, ?_⟩
      refine w_seq ?_; apply w_asg (d := .tup [.str a, .str b]) (h := .dat (.tup [.str a, .str b]))
      · exact ev_tup rfl rfl (by decide : (2 : Nat) ≤ sizeLine)
      · rfl
      walk_at "nrm"
      have lk : ∃ (h : Hd) (v : Int), fGet (fVar 3) (fVar 8) (fVar 7) [.val (.int wide), .val td, .val ld, .own (.dcT (E.map gJ)), s4, .val (.str a), .val (.str b), .val (.int gap), .val (.tup [.str a, .str b])] = .ok (h, [.val (.int wide), .val td, .val ld, .own (.dcT (E.map gJ)), s4, .val (.str a), .val (.str b), .val (.int gap), .val (.tup [.str a, .str b])]) ∧ h.get [.val (.int wide), .val td, .val ld, .own (.dcT (E.map gJ)), s4, .val (.str a), .val (.str b), .val (.int gap), .val (.tup [.str a, .str b])] = some (.int v) ∧ (v = gap ∨ (a, b, v) ∈ E) ∧ ∀ g, (a, b, g) ∈ E → g ≤ v := by
        rcases gaps_look (E := E) (a := a) (b := b) with ⟨q, no⟩ | ⟨g, mg, q⟩
        · refine ⟨_, gap, ev_getTN (h := .slot 3) (h1 := .slot 8) (h2 := .slot 7) (l := E.map gJ) (x := .dcT (E.map gJ)) (y := .tup [.str a, .str b]) rfl rfl rfl rfl rfl rfl ?_, rfl, .inl rfl, fun g m => absurd m (no g)⟩
          show some (look (E.map gJ) [.inr a, .inr b]) = _
          rw [q]
        · refine ⟨_, g, ev_getTS (h := .slot 3) (h1 := .slot 8) (h2 := .slot 7) (l := E.map gJ) (x := .dcT (E.map gJ)) (y := .tup [.str a, .str b]) (d := .int g) rfl rfl rfl rfl rfl rfl ?_, rfl, .inr mg, fun g' m' => ?_⟩
          · show some (look (E.map gJ) [.inr a, .inr b]) = _
            rw [q]
          · exact Int.le_of_eq (congrArg (fun r : Row => r.2.2) (inj_nd G.un m' mg rfl))
      obtain ⟨h, v, k1, k2, k3, k4⟩ := lk
      apply w_stD (d := .int (mx gap v)) (x := .tup [.str a, .str b]) (y := .dcT (E.map gJ)) (z := .dcT ((putR E a b (mx gap v)).map gJ))
      · apply ev_call (ds := [.int gap, .int v])
        · apply ev_cons
          · rfl
          · apply ev_cons
            · exact k1
            · rfl
        · show ((Hd.slot 7).get _).bind _ = _
          simp only [gets, k2]
          rfl
        · rfl
      · rfl
      · rfl
      · rfl
      · rfl
      · rfl
      · rw [putT_ok (by rw [List.length_map]; omega), putR_ok]
      · have l1 := putR_len E a b (mx gap v)
        refine ⟨.inl rfl, _, _, _, _, _, rfl, G.put (fun r m => m.imp id fun m => List.mem_append_left _ m) ?_ (fun r m => ?_) fun g m => Int.le_trans (k4 g m) (mx_2 _ _), by rw [List.length_append, List.length_singleton]; omega⟩
        · rcases mx_3 gap v with z | z
          · rw [z]; exact .inr (List.mem_append_right _ List.mem_cons_self)
          · rw [z]
            rcases k3 with rfl | k3
            · exact .inr (List.mem_append_right _ List.mem_cons_self)
            · exact (G.frm _ k3).imp id fun m => List.mem_append_left _ m
        · rcases m with m | m
          · exact .inl (.inl m)
          · rcases List.mem_append.mp m with m | m
            · exact .inl (.inr m)
            · cases List.mem_singleton.mp m
              exact .inr ⟨rfl, mx_1 _ _⟩
    rintro _ ⟨E, s5, s6, s7, s8, rfl, G, len⟩
    apply w_retS (i := 3) (d := .dcT (E.map gJ))
    · rfl
    · rfl
    · exact ⟨_, rfl, _, rfl, E, rfl, G, by omega⟩
  obtain ⟨z, e, E, rfl, q⟩ := key
  exact ⟨E, e, q⟩
def GOk (nodes : List Str) (f : Str → Str → Int) (E : List Row) : Prop := ∀ r ∈ E, r.1 ∈ nodes ∧ r.2.1 ∈ nodes ∧ r.2.2 ≤ f r.1 r.2.1
/-- what the gaps that count are bounded by -/
structure Bnd (ns : List Str) (wide : Int) (L : List Row) (f : Str → Str → Int) : Prop where
  z : ∀ b ∈ ns, 0 ≤ f "" b
  w : ∀ a ∈ ns, -wide ≤ f a ""
  lag : ∀ r ∈ L, r.1 ∈ nds ns ∧ r.2.1 ∈ nds ns ∧ r.2.2 ≤ f r.1 r.2.1
theorem GapE.ok {ns : List Str} {wide : Int} {L E : List Row} {f : Str → Str → Int} (G : GapE ns wide L E) (B : Bnd ns wide L f) : GOk (nds ns) f E := by
  intro r m
  rcases G.frm r m with m | m
  · obtain ⟨t, mt, rfl | rfl⟩ := mem_imp.mp m
    · exact ⟨List.mem_cons_self, List.mem_cons_of_mem _ mt, B.z t mt⟩
    · exact ⟨List.mem_cons_of_mem _ mt, List.mem_cons_self, B.w t mt⟩
  · exact B.lag r m
def RD (nodes : List Str) (l : List (Key × D)) (R : Str → Int) : Prop := ∀ v ∈ nodes, look l (.inr v) = some (.int (R v))
def upd1 (R : Str → Int) (a : Str) (v : Int) : Str → Int := fun c => if a = c then v else R c
theorem look_put1 (l : List (Key × D)) (a c : Str) (v : D) : look (putD l (.inr a) v) (.inr c) = if a = c then some v else look l (.inr c) := by
  rw [look_put]; simp
theorem RD.put {nodes : List Str} {l : List (Key × D)} {R : Str → Int} (T : RD nodes l R) (a : Str) (v : Int) : RD nodes (putD l (.inr a) (.int v)) (upd1 R a v) := by
  intro c hc
  rw [look_put1]
  unfold upd1
  split
  · rfl
  · exact T c hc
theorem RD.len {nodes : List Str} {l : List (Key × D)} {R : Str → Int} (T : RD nodes l R) {a : Str} (ha : a ∈ nodes) (v : D) : (putD l (.inr a) v).length = l.length := by
  rw [put_old v (T a ha), List.length_map]
theorem look_mem {κ : Type} [DecidableEq κ] : ∀ {l : List (κ × D)} {k : κ} {x : D}, look l k = some x → k ∈ l.map (·.1)
  | [], _, _, h => by cases h
  | (a, y) :: l, k, x, h => by
    rw [look_cons] at h
    by_cases q : a = k
    · subst q; exact List.mem_cons_self
    · rw [if_neg q] at h; exact List.mem_cons_of_mem _ (look_mem h)
theorem RD.many {nodes : List Str} {l : List (Key × D)} {R : Str → Int} (T : RD nodes l R) (nd : nodes.Nodup) : nodes.length ≤ l.length := by
  have h := nd_len (l := nodes.map Sum.inr) (r := l.map (·.1)) (List.pairwise_map.mpr (nd.imp fun h q => h (by injection q))) fun x m => by
    obtain ⟨a, ma, rfl⟩ := List.mem_map.mp m
    exact look_mem (T a ma)
  rwa [List.length_map, List.length_map] at h
theorem ixS_ok {l : List (Key × D)} {a : Str} {x : D} (h : look l (.inr a) = some x) : dIx (.dct l) (.str a) = some x := by
  show (some (look l (.inr a))).bind id = _
  rw [h]; rfl
theorem putS_ok {l : List (Key × D)} {a : Str} {v : D} (h : l.length < sizeLine) : dPutD (.dct l) (.str a) v = some (.dct (putD l (.inr a) v)) := if_pos h
abbrev pcE (s0 s1 s2 s3 : Sl) (l p : List (Key × D)) (s5 s7 s8 s9 s10 s11 : Sl) : En := [s0, s1, s2, s3, .own (.dct l), s5, .own (.dct p), s7, s8, s9, s10, s11]
/-- the text of a round's walk -/
abbrev rndF : En → Rs (Fl × En) := (fFor (fItms (fVar 3)) (gTu (gCo (gTu (gCo (gSet 10) (gCo (gSet 11) gNo))) (gCo (gSet 9) gNo)))
  (fIfS (fTst (fOp dGt (fOp dAdd (fOp dIx (fVar 4) (fVar 10)) (fVar 9)) (fOp dIx (fVar 4) (fVar 11))))
  (fSeq (fStD 4 (fVar 11) (fOp dAdd (fOp dIx (fVar 4) (fVar 10)) (fVar 9)))
  (fSeq (fStD 6 (fVar 11) (fVar 10))
  (fAsg (fVar 11) (gSet 8))))
  fNx))
theorem rnd_ok {nodes : List Str} {E : List Row} {n : Nat} {f : Str → Str → Int} (ok : GOk nodes f E) (C : Clo nodes E f) (hn : nodes.length = n + 1) {s0 s1 s2 s3 s5 s7 s9 s10 s11 : Sl} (h3 : s3 = .own (.dcT (E.map gJ)) ∨ s3 = .val (.dcT (E.map gJ))) {l p : List (Key × D)} {R : Str → Int} {i K : Nat} (T : RD nodes l R) (hl : l.length ≤ 200) (hp : p.length + E.length ≤ K) (hK : K ≤ 1000000)
    (lo : ∀ v ∈ nodes, Wk (fun _ => 0) E i v ≤ R v) (hi : ∀ v ∈ nodes, R v ≤ Wk (fun _ => 0) E n v) {P : Fl × En → Prop} {Z}
    (k : ∀ l' p' R' s8 s9 s10 s11, RD nodes l' R' → l'.length = l.length → p'.length ≤ K → (∀ v ∈ nodes, Wk (fun _ => 0) E (i + 1) v ≤ R' v) → (∀ v ∈ nodes, R' v ≤ Wk (fun _ => 0) E n v) → (s8 = .val .non ∨ ((∃ x, s8 = .val (.str x)) ∧ i < n)) → P (.nx, pcE s0 s1 s2 (.val (.dcT (E.map gJ))) l' p' s5 s7 s8 s9 s10 s11)) :
    Wq (rndF (pcE s0 s1 s2 s3 l p s5 s7 (.val .non) s9 s10 s11)) P Z := by
  refine w_for (l := E.map itD) (k := true) (e1 := pcE s0 s1 s2 (.val (.dcT (E.map gJ))) l p s5 s7 (.val .non) s9 s10 s11) (fun ds e => ∃ l' p' R' s8 s9 s10 s11, e = pcE s0 s1 s2 (.val (.dcT (E.map gJ))) l' p' s5 s7 s8 s9 s10 s11 ∧ RD nodes l' R' ∧ l'.length = l.length ∧ p'.length + ds.length ≤ K ∧ (∀ v ∈ nodes, R v ≤ R' v) ∧ (∀ v ∈ nodes, R' v ≤ Wk (fun _ => 0) E n v) ∧ (s8 = .val .non ∨ ((∃ x, s8 = .val (.str x)) ∧ i < n)) ∧ (∀ d ∈ ds, ∃ r ∈ E, d = itD r) ∧ ∀ r ∈ E, itD r ∈ ds ∨ R r.1 + r.2.2 ≤ R' r.2.1) ?_ ?_ ?_ ?_
  · apply ev_items (d := .dcT (E.map gJ)) (h := .slot 3) (e1 := pcE s0 s1 s2 s3 l p s5 s7 (.val .non) s9 s10 s11)
    · rcases h3 with rfl | rfl <;> rfl
    · rcases h3 with rfl | rfl <;> rfl
    · show some ((E.map gJ).map pairT) = _
      rw [List.map_map]; rfl
  · exact ⟨l, p, R, _, s9, s10, s11, rfl, T, rfl, by rw [List.length_map]; exact hp, fun _ _ => Int.le_refl _, hi, .inl rfl, (fun d m => (List.mem_map.mp m).imp fun a q => ⟨q.1, q.2.symm⟩), fun a m => .inl (List.mem_map.mpr ⟨a, m, rfl⟩)⟩
  · rintro x ds _ ⟨l', p', R', s8, s9, s10, s11, rfl, T', hl', hp', up, hi', h8, mem, D1⟩
    obtain ⟨⟨a, b, g⟩, mr, rfl⟩ := mem x List.mem_cons_self
    obtain ⟨ha, hb, _⟩ := ok _ mr
    have eb := Wk_edge (R0 := fun _ => 0) C hn mr
    rw [List.length_cons] at hp'
    have hs : (2000000 : Nat) < sizeLine := by decide
    have ia : dIx (.dct l') (.str a) = some (.int (R' a)) := ixS_ok (T' a ha)
    have ib : dIx (.dct l') (.str b) = some (.int (R' b)) := ixS_ok (T' b hb)
    refine ⟨pcE s0 s1 s2 (.val (.dcT (E.map gJ))) l' p' s5 s7 s8 (.val (.int g)) (.val (.str a)) (.val (.str b)), rfl, ?_⟩
    have nxt : ∀ (Rn : Str → Int), (∀ v ∈ nodes, R' v ≤ Rn v) → R' a + g ≤ Rn b → ∀ r ∈ E, itD r ∈ ds ∨ R r.1 + r.2.2 ≤ Rn r.2.1 := by
      intro Rn m1 m2 r hr
      have hrb := (ok r hr).2.1
      rcases D1 r hr with q | q
      · rcases List.mem_cons.mp q with q | q
        · have q : D.tup [.tup [.str r.1, .str r.2.1], .int r.2.2] = D.tup [.tup [.str a, .str b], .int g] := q
          injection q with q
          injection q with q1 q
          injection q with q3 q
          injection q1 with q1
          injection q1 with q1 q2
          injection q2 with q2 _
          injection q1 with q1; injection q2 with q2; injection q3 with q3
          refine .inr ?_
          rw [q1, q2, q3]
          have := up a ha
          omega
        · exact .inl q
      · exact .inr (Int.le_trans q (m1 _ hrb))
    apply w_if (b := decide (R' b < R' a + g)) (e1 := pcE s0 s1 s2 (.val (.dcT (E.map gJ))) l' p' s5 s7 s8 (.val (.int g)) (.val (.str a)) (.val (.str b)))
    · apply ev_tst
      apply ev_op
      · apply ev_op
        · apply ev_op
          · rfl
          · rfl
          · rfl
          · rfl
          · exact ia
        · rfl
        · rfl
        · rfl
        · rfl
      · apply ev_op
        · rfl
        · rfl
        · rfl
        · rfl
        · exact ib
      · rfl
      · rfl
      · rfl
    · intro lt
      have lt : R' b < R' a + g := by simpa using lt
      have ri : i < n := by
        refine Nat.lt_of_not_le fun ge => ?_
        have := Wk_le (fun _ => 0) E b ge
        have := lo b hb
        have := up b hb
        have := hi' a ha
        omega
      refine w_seq ?_; apply w_stD (d := .int (R' a + g)) (x := .str b) (y := .dct l') (z := .dct (putD l' (.inr b) (.int (R' a + g))))
      · apply ev_op
        · apply ev_op
          · rfl
          · rfl
          · rfl
          · rfl
          · exact ia
        · rfl
        · rfl
        · rfl
        · rfl
      · rfl
      · rfl
      · rfl
      · rfl
      · rfl
      · exact putS_ok (by omega)
      refine w_seq ?_; apply w_stD (d := .str a) (x := .str b) (y := .dct p') (z := .dct (putD p' (.inr b) (.str a)))
      · rfl
      · rfl
      · rfl
      · rfl
      · rfl
      · rfl
      · exact putS_ok (by omega)
      apply w_asg (d := .str b)
      · rfl
      · rfl
      have gr : ∀ v ∈ nodes, R' v ≤ upd1 R' b (R' a + g) v := by
        intro v _
        unfold upd1
        split
        · rename_i q; rw [← q]; omega
        · exact Int.le_refl _
      refine ⟨.inl rfl, _, _, upd1 R' b (R' a + g), _, _, _, _, rfl, T'.put b _, by rw [T'.len hb]; exact hl', ?_, fun v hv => Int.le_trans (up v hv) (gr v hv), fun v hv => ?_, .inr ⟨⟨b, rfl⟩, ri⟩, (fun d m => mem d (List.mem_cons_of_mem _ m)), nxt _ gr (by unfold upd1; rw [if_pos rfl]; exact Int.le_refl _)⟩
      · have := put_len p' (.inr b) (.str a)
        omega
      · unfold upd1
        split
        · rename_i q; rw [← q]
          have := hi' a ha
          omega
        · exact hi' v hv
    · intro nl
      have nl : ¬ R' b < R' a + g := by simpa using nl
      refine w_nx ?_
      exact ⟨.inl rfl, l', p', R', s8, _, _, _, rfl, T', hl', by omega, up, hi', h8, (fun d m => mem d (List.mem_cons_of_mem _ m)), nxt _ (fun _ _ => Int.le_refl _) (by omega)⟩
  · rintro _ ⟨l', p', R', s8, s9, s10, s11, rfl, T', hl', hp', up, hi', h8, _, D1⟩
    refine k l' p' R' s8 s9 s10 s11 T' hl' (by simpa using hp') (fun v hv => ?_) hi' h8
    show stepF (Wk (fun _ => 0) E i) v E (Wk (fun _ => 0) E i v) ≤ R' v
    rcases stepF_or (Wk (fun _ => 0) E i) v E (Wk (fun _ => 0) E i v) with q | ⟨a, g, m, q⟩
    · rw [q]; exact Int.le_trans (lo v hv) (up v hv)
    · rw [q]
      have := (D1 _ m).resolve_left List.not_mem_nil
      have := lo a (ok _ m).1
      simp only at *
      omega
theorem pcyc_g {ns : List Str} {L : List Row} {wide : Int} (hw : 0 ≤ wide) {f : Str → Str → Int} (B : Bnd ns wide L f) (dg : ∀ a ∈ nds ns, f a a ≤ 0) (tri : ∀ a ∈ nds ns, TriAt (nds ns) f a) (nd : (nds ns).Nodup)
    {td ld : D} (ht : dIter td = some (ns.map .str, true)) (hl : dIter ld = some (L.map rowD, false)) (n1 : ns.length ≤ 100) (n2 : L.length ≤ 300) :
    g_positive_cycle [.val (.int wide), .val td, .val ld] = .ok ⟨false, .non, []⟩ := by
  have key : ∃ z, g_positive_cycle [.val (.int wide), .val td, .val ld] = .ok z ∧ z = ⟨false, .non, []⟩ := by
    have hs : (2000000 : Nat) < sizeLine := by decide
    obtain ⟨E, hg, G, le⟩ := gaps_g hw nd ht hl n1 n2
    have ok := G.ok B
    have C : Clo (nds ns) E f := ⟨fun a b g m => ok _ m, dg, fun a ha b hb c hc => tri b hb a ha c hc⟩
    have hn : (nds ns).length = ns.length + 1 := List.length_cons
    refine run_def rfl ?_
    unfold b_positive_cycle
    walk_at "nrm"
    refine w_seq ?_; apply w_setO (d := .dcT (E.map gJ))
    · apply ev_userO (z := ⟨true, .dcT (E.map gJ), []⟩)
      · rfl
      · rfl
      · rfl
      · exact hg
      · rfl
      · rfl
    walk_at "nrm"
    refine w_seq ?_; apply w_setO (d := .dct [(.inr "", .int 0)])
    · rfl
    walk_at "nrm"
    refine w_seq ?_
    refine w_for (l := ns.map .str) (k := true) (e1 := [.val (.int wide), .val td, .val ld, .own (.dcT (E.map gJ)), .own (.dct [(.inr "", .int 0)]), .no, .no, .no, .no, .no, .no, .no]) (fun ds e => ∃ l s5, e = [.val (.int wide), .val td, .val ld, .own (.dcT (E.map gJ)), .own (.dct l), s5, .no, .no, .no, .no, .no, .no] ∧ l.length + ds.length ≤ 200 ∧ (∀ d ∈ ds, ∃ a ∈ nds ns, d = .str a) ∧ ∀ v ∈ nds ns, D.str v ∈ ds ∨ look l (.inr v) = some (.int 0)) ?_ ?_ ?_ ?_
    · apply ev_iter
      · rfl
      · rfl
      · exact ht
    · refine ⟨_, .no, rfl, by rw [List.length_map]; simp; omega, fun d m => ?_, fun v hv => ?_⟩
      · obtain ⟨p, mp, rfl⟩ := List.mem_map.mp m
        exact ⟨p, List.mem_cons_of_mem _ mp, rfl⟩
      · rcases List.mem_cons.mp hv with rfl | hv
        · exact .inr rfl
        · exact .inl (List.mem_map.mpr ⟨v, hv, rfl⟩)
    · rintro x ds _ ⟨l, s5, rfl, len, mem, T⟩
      obtain ⟨t, mt, rfl⟩ := mem x List.mem_cons_self
      rw [List.length_cons] at len
      refine ⟨[.val (.int wide), .val td, .val ld, .own (.dcT (E.map gJ)), .own (.dct l), .val (.str t), .no, .no, .no, .no, .no, .no], rfl, ?_⟩
      apply w_stD (d := .int 0) (x := .str t) (y := .dct l) (z := .dct (putD l (.inr t) (.int 0)))
      · rfl
      · rfl
      · rfl
      · rfl
      · rfl
      · rfl
      · exact putS_ok (by omega)
      · refine ⟨.inl rfl, _, _, rfl, ?_, (fun d m => mem d (List.mem_cons_of_mem _ m)), fun v hv => ?_⟩
        · have := put_len l (.inr t) (.int 0)
          omega
        · rw [look_put1]
          by_cases q : t = v
          · rw [if_pos q]; exact .inr rfl
          · rw [if_neg q]
            refine (T v hv).imp (fun m => ?_) id
            rcases List.mem_cons.mp m with m | m
            · injection m with m; exact absurd m.symm q
            · exact m
    rintro _ ⟨l, s5, rfl, len, _, T⟩
    have T0 : RD (nds ns) l fun _ => 0 := fun v hv => (T v hv).resolve_left List.not_mem_nil
    have many := T0.many nd
    have len : l.length ≤ 200 := by simpa using len
    refine w_seq ?_; apply w_setO (d := .dct [])
    · rfl
    walk_at "nrm"
    refine w_seq ?_
    refine w_forR (l := (List.range ((l.length : Int)).toNat).map fun (i : Nat) => .int i) (k := false) (e1 := pcE (.val (.int wide)) (.val td) (.val ld) (.own (.dcT (E.map gJ))) l [] s5 .no .no .no .no .no)
      (fun ds e => ∃ i l' p R s3 s7 s8 s9 s10 s11, e = pcE (.val (.int wide)) (.val td) (.val ld) s3 l' p s5 s7 s8 s9 s10 s11 ∧ (s3 = .own (.dcT (E.map gJ)) ∨ s3 = .val (.dcT (E.map gJ))) ∧ RD (nds ns) l' R ∧ l'.length = l.length ∧ p.length + 1000 * ds.length ≤ 500000 ∧ (∀ v ∈ nds ns, Wk (fun _ => 0) E i v ≤ R v) ∧ (∀ v ∈ nds ns, R v ≤ Wk (fun _ => 0) E ns.length v) ∧ i ≤ ns.length ∧ i + ds.length = l.length)
      (fun r => r.1 = .rt .non) ?_ ?_ ?_ ?_ ?_
    · apply ev_rng1
      · apply ev_cons
        · apply ev_call (ds := [.dct l]) (d := .int l.length)
          · rfl
          · rfl
          · rfl
        · rfl
      · rfl
      · constructor <;> omega
    · refine ⟨0, l, [], fun _ => 0, _, _, _, _, _, _, rfl, .inl rfl, T0, rfl, by rw [List.length_map, List.length_range]; simp; omega, fun _ _ => Int.le_refl _, fun v _ => Wk_le _ E v (Nat.zero_le _), Nat.zero_le _, by rw [List.length_map, List.length_range]; omega⟩
    · rintro x ds _ ⟨i, l', p, R, s3, s7, s8, s9, s10, s11, rfl, h3, T', hl', hp, lo, hi, hi2, cnt⟩
      rw [List.length_cons] at hp cnt
      refine ⟨pcE (.val (.int wide)) (.val td) (.val ld) s3 l' p s5 (.val x) s8 s9 s10 s11, rfl, ?_⟩
      refine w_seq ?_; apply w_asg (d := .non)
      · rfl
      · rfl
      refine w_seq ?_
      refine rnd_ok (K := p.length + E.length) (i := i) ok C hn h3 T' (by omega) (Nat.le_refl _) (by omega) lo hi fun l2 p2 R2 s8 s9 s10 s11 T2 hl2 hp2 lo2 hi2' h8 => ?_
      rcases h8 with rfl | ⟨⟨y, rfl⟩, lt⟩
      · apply w_if (b := true)
        · rfl
        · intro _
          apply w_retV (d := .non)
          · rfl
          · rfl
          · exact .inr ⟨⟨_, rfl⟩, rfl⟩
        · intro q; cases q
      · apply w_if (b := false)
        · rfl
        · intro q; cases q
        · intro _
          refine w_nx ?_
          exact .inl ⟨.inl rfl, i + 1, l2, p2, R2, _, _, _, _, _, _, rfl, .inr rfl, T2, by omega, by omega, lo2, hi2', by omega, by omega⟩
    · rintro e ⟨i, l', p, R, s3, s7, s8, s9, s10, s11, rfl, h3, T', hl', hp, lo, hi, hi2, cnt⟩
      rw [List.length_nil] at cnt
      exfalso; omega
    · rintro ⟨fl, e⟩ q
      have q : fl = .rt .non := q
      subst q
      exact ⟨_, rfl, _, rfl, rfl⟩
  obtain ⟨z, e, rfl⟩ := key
  exact e
theorem w_asgG {gt : D → En → Option En} {e e1 e2 e3 : En} {h : Hd} {d : D} {f : En → Rs (Hd × En)} {P : Fl × En → Prop} {Z} (a : f e = .ok (h, e1)) (p : h.esc e1 = .ok (d, e2)) (g : gt d e2 = some e3) (k : P (.nx, e3)) : Wq (fAsg f gt e) P Z := by
  refine ⟨?_⟩
  simp only [fAsg, a, p, g, Rs.ok_bind, of_some]; exact k
theorem run_eq {g : List Ar → Rs Rz} {as : List Ar} {z : Rz} (h : ∃ r, g as = .ok r ∧ r = z) : g as = .ok z := by
  obtain ⟨r, e, rfl⟩ := h; exact e
theorem intw_g {i lo hi : Int} (h1 : lo ≤ i) (h2 : i ≤ hi) : g_is_integer_within [.val (.int i), .val (.int lo), .val (.int hi)] = .ok ⟨false, .bl true, []⟩ := by
  refine run_eq (run_def rfl ?_)
  unfold b_is_integer_within
  walk_at "nrm"
  refine w_seq ?_; apply w_if (b := false)
  · rfl
  · intro q; cases q
  intro _
  refine w_nx ?_
  apply w_retV (d := .bl true) (h := .dat (.bl true))
  · refine ev_chT (d := .bl true) (h1 := .slot 1) (h2 := .slot 0) (h3 := .slot 2) (x := .int lo) (y := .int i) (z := .int hi) rfl rfl rfl rfl ?_ rfl rfl rfl ?_
    · show some (D.bl (decide (lo ≤ i))) = _
      rw [decide_eq_true h1]
    · show some (D.bl (decide (i ≤ hi))) = _
      rw [decide_eq_true h2]
  · rfl
  · exact ⟨_, rfl, _, rfl, rfl⟩
def okT : Rs Rz → Bool
  | .ok ⟨false, .bl true, []⟩ => true
  | _ => false
theorem okT_eq {r : Rs Rz} (h : okT r = true) : r = .ok ⟨false, .bl true, []⟩ := by
  unfold okT at h
  split at h
  · rfl
  · cases h
/-- a name that is one -/
def nmB (s : Str) : Bool := okT (g_is_name [.val (.str s)]) && !decide (s = "") && (PyData.str s).leavesShort 20 && decide (s.cps.size ≤ 8) && (PyData.str s).canLay0
def Nm (s : Str) : Prop := nmB s = true
theorem Nm.g {s : Str} (h : Nm s) : g_is_name [.val (.str s)] = .ok ⟨false, .bl true, []⟩ := by
  unfold Nm nmB at h
  simp only [Bool.and_eq_true] at h
  exact okT_eq h.1.1.1.1
theorem Nm.ne {s : Str} (h : Nm s) : s ≠ "" := by
  unfold Nm nmB at h
  simp only [Bool.and_eq_true, Bool.not_eq_true', decide_eq_false_iff_not] at h
  exact h.1.1.1.2
theorem Nm.sz {s : Str} (h : Nm s) : (PyData.str s).leavesShort 20 = true ∧ s.cps.size ≤ 8 := by
  unfold Nm nmB at h
  simp only [Bool.and_eq_true, decide_eq_true_eq] at h
  exact ⟨h.1.1.2, h.1.2⟩
theorem Nm.lay {s : Str} (h : Nm s) : (PyData.str s).canLay0 = true := by
  unfold Nm nmB at h
  simp only [Bool.and_eq_true] at h
  exact h.2
theorem tm_look : ∀ {st : Tm}, (st.map (·.1)).Nodup → ∀ p ∈ st, look (st.map fun p => ((.inr p.1 : Key), D.int p.2)) (.inr p.1) = some (.int p.2)
  | [], _, p, m => absurd m List.not_mem_nil
  | q :: st, nd, p, m => by
    rw [List.map_cons, look_cons]
    obtain ⟨n1, n2⟩ := List.nodup_cons.mp nd
    rcases List.mem_cons.mp m with rfl | m
    · rw [if_pos rfl]
    · rw [if_neg (by intro z; injection z with z; exact n1 (List.mem_map.mpr ⟨p, m, z.symm⟩))]
      exact tm_look n2 p m
theorem tm_none : ∀ {st : Tm} {a : Str}, a ∉ st.map (·.1) → look (st.map fun p => ((.inr p.1 : Key), D.int p.2)) (.inr a) = none
  | [], _, _ => rfl
  | q :: st, a, h => by
    rw [List.map_cons, look_cons, if_neg (by intro z; injection z with z; exact h (by rw [← z]; exact List.mem_cons_self))]
    exact tm_none fun m => h (List.mem_cons_of_mem _ m)
structure TmOk (st : Tm) (wide : Int) : Prop where
  nd : (st.map (·.1)).Nodup
  nm : ∀ p ∈ st, Nm p.1
  tm : ∀ p ∈ st, 0 ≤ p.2 ∧ p.2 ≤ wide
  len : st.length ≤ 50
theorem TmOk.nds {st : Tm} {wide : Int} (h : TmOk st wide) : (nds (st.map (·.1))).Nodup := by
  refine List.nodup_cons.mpr ⟨fun m => ?_, h.nd⟩
  obtain ⟨p, mp, e⟩ := List.mem_map.mp m
  exact (h.nm p mp).ne e
theorem times_g {st : Tm} {wide : Int} (h : TmOk st wide) : g_are_times [.val (tmD st), .val (.int wide)] = .ok ⟨false, .bl true, []⟩ := by
  refine run_eq (run_def rfl ?_)
  unfold b_are_times
  walk_at "nrm"
  refine w_seq ?_; apply w_if (b := false)
  · rfl
  · intro q; cases q
  intro _
  refine w_nx ?_
  apply w_retV (d := .bl true) (h := .dat (.bl true))
  · apply ev_call (ds := [.lst (st.map fun _ => .bl true)])
    · apply ev_cons
      · apply ev_keep
        apply ev_comp' (l := st.map fun p => .str p.1) (k := true) (e1 := [.val (tmD st), .val (.int wide), .no]) (e0 := [.val (tmD st), .val (.int wide), .no])
        · apply ev_iter
          · rfl
          · rfl
          · show some (List.map _ (List.map _ st), true) = _
            rw [List.map_map]; rfl
        · rfl
        · refine cl_map (fun p : Str × Int => .str p.1) (fun _ => .bl true) _ st (by have := h.len; omega) fun p mp => ?_
          refine ⟨[.val (tmD st), .val (.int wide), .val (.str p.1)], .dat (.bl true), [.val (tmD st), .val (.int wide), .val (.str p.1)], [.val (tmD st), .val (.int wide), .val (.str p.1)], rfl, ?_, rfl, rfl⟩
          apply ev_aVT
          · apply ev_user (z := ⟨false, .bl true, []⟩)
            · rfl
            · rfl
            · rfl
            · exact (h.nm p mp).g
            · rfl
          · apply ev_user (z := ⟨false, .bl true, []⟩)
            · apply ev_cons
              · apply ev_op
                · rfl
                · rfl
                · rfl
                · rfl
                · exact ixS_ok (tm_look h.nd p mp)
              · rfl
            · rfl
            · rfl
            · exact intw_g (h.tm p mp).1 (h.tm p mp).2
            · rfl
        · rfl
      · rfl
    · rfl
    · have := dAll_bl (st.map fun _ => true)
      rw [List.map_map] at this
      refine this.trans ?_
      rw [List.all_eq_true.mpr]
      intro x m
      obtain ⟨_, _, rfl⟩ := List.mem_map.mp m
      rfl
  · rfl
  · exact ⟨_, rfl, _, rfl, rfl⟩
theorem tm_is {st : Tm} (nd : (st.map (·.1)).Nodup) (a : Str) : (look (st.map fun p => ((.inr p.1 : Key), D.int p.2)) (.inr a)).isSome = decide (a ∈ st.map (·.1)) := by
  by_cases q : a ∈ st.map (·.1)
  · obtain ⟨p, mp, rfl⟩ := List.mem_map.mp q
    rw [tm_look nd p mp, decide_eq_true q]; rfl
  · rw [tm_none q, decide_eq_false q]; rfl
theorem taskof_g {st : Tm} (nd : (st.map (·.1)).Nodup) (a : Str) : g_is_task_of [.val (.str a), .val (tmD st)] = .ok ⟨false, .bl (decide (a ∈ st.map (·.1))), []⟩ := by
  refine run_eq (run_def rfl ?_)
  unfold b_is_task_of
  walk_at "nrm"
  apply w_retV (d := .bl (decide (a ∈ st.map (·.1)))) (h := .dat (.bl (decide (a ∈ st.map (·.1))))) (e1 := [.val (.str a), .val (tmD st)])
  · apply ev_aVT
    · rfl
    · refine ev_op (h1 := .slot 0) (h2 := .slot 1) (x := .str a) (y := tmD st) rfl rfl rfl rfl ?_
      show ((some (look (st.map fun p => ((.inr p.1 : Key), D.int p.2)) (.inr a))).map Option.isSome).map D.bl = _
      rw [← tm_is nd]; rfl
  · rfl
  · exact ⟨_, rfl, _, rfl, rfl⟩
theorem nodeof_s {st : Tm} (nd : (st.map (·.1)).Nodup) (a : Str) : g_is_node_of [.val (.str a), .val (tmD st)] = .ok ⟨false, .bl (decide (a ∈ nds (st.map (·.1)))), []⟩ := by
  refine run_eq (run_def rfl ?_)
  unfold b_is_node_of
  walk_at "nrm"
  apply w_retV (d := .bl (decide (a ∈ nds (st.map (·.1))))) (h := .dat (.bl (decide (a ∈ nds (st.map (·.1)))))) (e1 := [.val (.str a), .val (tmD st)])
  · have q1 : fOp dEq (fVar 0) (fC (.str "")) [.val (.str a), .val (tmD st)] = .ok (.dat (.bl (decide (a = ""))), [.val (.str a), .val (tmD st)]) := ev_op (h1 := .slot 0) (h2 := .dat (.str "")) (x := .str a) (y := .str "") rfl rfl rfl rfl rfl
    by_cases q : a = ""
    · rw [decide_eq_true q] at q1
      refine (ev_oVT q1).trans ?_
      rw [decide_eq_true (by rw [q]; exact List.mem_cons_self)]
    · rw [decide_eq_false q] at q1
      refine ev_oVF q1 ?_
      have e : decide (a ∈ nds (st.map (·.1))) = decide (a ∈ st.map (·.1)) := by
        have : a ∈ nds (st.map (·.1)) ↔ a ∈ st.map (·.1) := ⟨fun m => (List.mem_cons.mp m).resolve_left q, List.mem_cons_of_mem _⟩
        simp only [this]
      rw [e]
      apply ev_user (z := ⟨false, .bl (decide (a ∈ st.map (·.1))), []⟩)
      · rfl
      · rfl
      · rfl
      · exact taskof_g nd a
      · rfl
  · rfl
  · exact ⟨_, rfl, _, rfl, rfl⟩
theorem nodeof_g {st : Tm} {wide : Int} (h : TmOk st wide) {a : Str} (ha : a ∈ nds (st.map (·.1))) : g_is_node_of [.val (.str a), .val (tmD st)] = .ok ⟨false, .bl true, []⟩ := by
  rw [nodeof_s h.nd, decide_eq_true ha]
theorem lag_g {st : Tm} {wide : Int} (h : TmOk st wide) {r : Row} (ha : r.1 ∈ nds (st.map (·.1))) (hb : r.2.1 ∈ nds (st.map (·.1))) (ne : r.1 ≠ r.2.1) (g1 : -1000000 ≤ r.2.2) (g2 : r.2.2 ≤ 1000000) :
    g_is_lag [.val (rowD r), .val (tmD st)] = .ok ⟨false, .bl true, []⟩ := by
  refine run_eq (run_def rfl ?_)
  unfold b_is_lag
  walk_at "nrm"
  refine w_seq ?_; apply w_if (b := false)
  · rfl
  · intro q; cases q
  intro _
  refine w_nx ?_
  refine w_seq ?_; apply w_asgG (e3 := [.val (rowD r), .val (tmD st), .val (.str r.1), .val (.str r.2.1), .val (.int r.2.2)])
  · rfl
  · rfl
  · rfl
  refine w_seq ?_; apply w_if (b := false)
  · apply ev_or (b := false) (c := false)
    · apply ev_notT (b := true)
      apply ev_tru
      · apply ev_user (z := ⟨false, .bl true, []⟩)
        · rfl
        · rfl
        · rfl
        · exact nodeof_g h ha
        · rfl
      · rfl
      · rfl
    · apply ev_notT (b := true)
      apply ev_tru
      · apply ev_user (z := ⟨false, .bl true, []⟩)
        · rfl
        · rfl
        · rfl
        · exact nodeof_g h hb
        · rfl
      · rfl
      · rfl
  · intro q; cases q
  intro _
  refine w_nx ?_
  apply w_retV (d := .bl true) (h := .dat (.bl true))
  · apply ev_aVT
    · apply ev_op
      · rfl
      · rfl
      · rfl
      · rfl
      · show (some (D.bl (decide (r.1 = r.2.1)))).bind dNot = _
        rw [decide_eq_false ne]; rfl
    · apply ev_user (z := ⟨false, .bl true, []⟩)
      · rfl
      · rfl
      · rfl
      · exact intw_g g1 g2
      · rfl
  · rfl
  · exact ⟨_, rfl, _, rfl, rfl⟩
structure LagsOk (ns : List Str) (L : List Row) : Prop where
  a : ∀ r ∈ L, r.1 ∈ nds ns ∧ r.2.1 ∈ nds ns ∧ r.1 ≠ r.2.1 ∧ -1000000 ≤ r.2.2 ∧ r.2.2 ≤ 1000000
  len : L.length ≤ 150
theorem form_g {st : Tm} {wide : Int} (hw : 0 ≤ wide ∧ wide ≤ 1000000) (h : TmOk st wide) {L : List Row} (hL : LagsOk (st.map (·.1)) L) {ld : D} (hl : dIter ld = some (L.map rowD, false)) (ht : ld.tyn = some "list" ∨ ld.tyn = some "tuple") :
    g_form_plan [.val (.int wide), .val (tmD st), .val ld] = .ok ⟨false, .bl true, []⟩ := by
  refine run_eq (run_def rfl ?_)
  unfold b_form_plan
  walk_at "nrm"
  refine w_seq ?_; apply w_if (b := false)
  · apply ev_or (b := false) (c := false)
    · apply ev_notT (b := true)
      apply ev_tru
      · apply ev_user (z := ⟨false, .bl true, []⟩)
        · rfl
        · rfl
        · rfl
        · exact intw_g hw.1 hw.2
        · rfl
      · rfl
      · rfl
    · apply ev_notT (b := true)
      apply ev_tru
      · apply ev_user (z := ⟨false, .bl true, []⟩)
        · rfl
        · rfl
        · rfl
        · exact times_g h
        · rfl
      · rfl
      · rfl
  · intro q; cases q
  intro _
  refine w_nx ?_
  refine w_seq ?_; apply w_if (b := false)
  · apply ev_notT (b := true)
    apply ev_tru (d := .bl true)
    · rcases ht with ht | ht
      · refine ev_isi2 (h := .slot 2) (d := ld) (b := true) (c := false) rfl rfl ?_ ?_ <;> rw [ht] <;> rfl
      · refine ev_isi2 (h := .slot 2) (d := ld) (b := false) (c := true) rfl rfl ?_ ?_ <;> rw [ht] <;> rfl
    · rfl
    · rfl
  · intro q; cases q
  intro _
  refine w_nx ?_
  apply w_retV (d := .bl true) (h := .dat (.bl true))
  · apply ev_call (ds := [.lst (L.map fun _ => .bl true)])
    · apply ev_cons
      · apply ev_keep
        apply ev_comp' (l := L.map rowD) (k := false) (e1 := [.val (.int wide), .val (tmD st), .val ld, .no]) (e0 := [.val (.int wide), .val (tmD st), .val ld, .no])
        · exact ev_iter rfl rfl hl
        · rfl
        · refine cl_map rowD (fun _ => .bl true) _ L (by have := hL.len; omega) fun r mr => ?_
          refine ⟨[.val (.int wide), .val (tmD st), .val ld, .val (rowD r)], .dat (.bl true), [.val (.int wide), .val (tmD st), .val ld, .val (rowD r)], [.val (.int wide), .val (tmD st), .val ld, .val (rowD r)], rfl, ?_, rfl, rfl⟩
          obtain ⟨q1, q2, q3, q4, q5⟩ := hL.a r mr
          apply ev_user (z := ⟨false, .bl true, []⟩)
          · rfl
          · rfl
          · rfl
          · exact lag_g h q1 q2 q3 q4 q5
          · rfl
        · rfl
      · rfl
    · rfl
    · have := dAll_bl (L.map fun _ => true)
      rw [List.map_map] at this
      refine this.trans ?_
      rw [List.all_eq_true.mpr]
      intro x m
      obtain ⟨_, _, rfl⟩ := List.mem_map.mp m
      rfl
  · rfl
  · exact ⟨_, rfl, _, rfl, rfl⟩
def Nm0 (s : Str) : Prop := s = "" ∨ Nm s
theorem nm_fact : ∀ a : Str, Nm0 a → (PyData.str a).leavesShort 20 = true ∧ a.cps.size ≤ 8 := by
  intro a h
  rcases h with rfl | h
  · decide +kernel
  · exact h.sz
def rk (r : Row) : TKey := [.inr r.1, .inr r.2.1, .inl r.2.2]
theorem lagKs_rows : ∀ L : List Row, lagKs (L.map rowD) = some (L.map rk)
  | [] => rfl
  | r :: L => by
    rw [List.map_cons, lagKs, lagKs_rows L]; rfl
theorem mem_sortLg {k : TKey} {ks : List TKey} : k ∈ sortLg ks ↔ k ∈ ks := by
  unfold sortLg
  rw [List.Perm.mem_iff (List.mergeSort_perm _ leK)]
  exact mem_dd
theorem sortLg_same {ks ks' : List TKey} (h : ∀ k, k ∈ ks ↔ k ∈ ks') : sortLg ks = sortLg ks' := by
  refine sortLg_eq ?_ (fun k => mem_sortLg.trans (h k)) (List.pairwise_mergeSort leK_trans leK_total _)
  exact (List.Perm.nodup_iff (List.mergeSort_perm _ leK)).mpr (dd_nodup ks)
theorem rows_of : ∀ (S : List TKey) (L : List Row), (∀ k ∈ S, k ∈ L.map rk) → ∃ Ls : List Row, S = Ls.map rk ∧ ∀ r ∈ Ls, r ∈ L
  | [], _, _ => ⟨[], rfl, fun _ m => absurd m List.not_mem_nil⟩
  | k :: S, L, h => by
    obtain ⟨Ls, e, m⟩ := rows_of S L fun k m => h k (List.mem_cons_of_mem _ m)
    obtain ⟨r, mr, er⟩ := List.mem_map.mp (h k List.mem_cons_self)
    refine ⟨r :: Ls, by rw [List.map_cons, e, er], fun x mx => ?_⟩
    rcases List.mem_cons.mp mx with rfl | mx
    · exact mr
    · exact m x mx
/-- the lags in order, each once -/
theorem srt (L : List Row) : ∃ Ls : List Row, sortLg (L.map rk) = Ls.map rk ∧ (∀ r ∈ Ls, r ∈ L) ∧ Ls.length ≤ L.length := by
  obtain ⟨Ls, e, m⟩ := rows_of (sortLg (L.map rk)) L fun k mk => mem_sortLg.mp mk
  refine ⟨Ls, e, m, ?_⟩
  have nd : (sortLg (L.map rk)).Nodup := (List.Perm.nodup_iff (List.mergeSort_perm _ leK)).mpr (dd_nodup _)
  have := nd_len nd fun k mk => mem_sortLg.mp mk
  rw [e, List.length_map, List.length_map] at this
  exact this
def tOf (st : Tm) (a : Str) : Int := ((st.find? fun p => decide (p.1 = a)).map (·.2)).getD 0
theorem tOf_look : ∀ (st : Tm) (a : Str), (a ∈ st.map (·.1) ∧ look (st.map fun p => ((.inr p.1 : Key), D.int p.2)) (.inr a) = some (.int (tOf st a))) ∨ (a ∉ st.map (·.1) ∧ look (st.map fun p => ((.inr p.1 : Key), D.int p.2)) (.inr a) = none ∧ tOf st a = 0)
  | [], a => .inr ⟨List.not_mem_nil, rfl, rfl⟩
  | p :: st, a => by
    rw [List.map_cons, List.map_cons, look_cons]
    unfold tOf
    rw [List.find?_cons]
    by_cases q : p.1 = a
    · rw [if_pos (by rw [q]), decide_eq_true q]
      exact .inl ⟨by rw [q]; exact List.mem_cons_self, rfl⟩
    · rw [if_neg (by intro z; injection z with z; exact q z), decide_eq_false q]
      rcases tOf_look st a with ⟨h1, h2⟩ | ⟨h1, h2, h3⟩
      · exact .inl ⟨List.mem_cons_of_mem _ h1, h2⟩
      · refine .inr ⟨fun m => ?_, h2, h3⟩
        rcases List.mem_cons.mp m with m | m
        · exact q m.symm
        · exact h1 m
def tsD (st : Tm) : List (Key × D) := (sortStr (st.map (·.1))).map fun a => (.inr a, .int (tOf st a))
def planD (wide : Int) (st : Tm) (S : List Row) : D := .obj "Plan" [("horizon", .int wide), ("_times", .dct (tsD st)), ("_lags", .tup (S.map rowD))]
theorem tm_keys : ∀ st : Tm, strKeys (st.map fun p => ((.inr p.1 : Key), D.int p.2)) = some (st.map (·.1))
  | [] => rfl
  | p :: st => by rw [List.map_cons, strKeys, tm_keys st]; rfl
/-- a dict comprehension over names that differ -/
theorem cd_map (F : Str → D) {gt : D → En → Option En} {fk fv : En → Rs (Hd × En)} {vs : List Nat} (e : En) : ∀ (xs ys : List Str), (ys ++ xs).Nodup → (ys ++ xs).length ≤ 1000 →
    (∀ x ∈ xs, ∃ e' h e1 h2 e2 e3, gt (.str x) e = some e' ∧ fk e' = .ok (h, e1) ∧ h.get e1 = some (.str x) ∧ fv e1 = .ok (h2, e2) ∧ h2.esc e2 = .ok (F x, e3) ∧ wipeE e3 vs = e) →
    cdLoop gt fYes fk fv vs (xs.map .str) e (ys.map fun a => (.inr a, F a)) = .ok ((ys ++ xs).map fun a => (.inr a, F a), e)
  | [], ys, _, _, _ => by rw [List.append_nil]; rfl
  | x :: xs, ys, nd, len, st => by
    obtain ⟨e', h, e1, h2, e2, e3, g1, g2, g3, g4, g5, g6⟩ := st x List.mem_cons_self
    have hs : (1000 : Nat) < sizeLine := by decide
    have hy : (ys.map fun a => ((.inr a : Key), F a)).length < sizeLine := by
      rw [List.length_append] at len
      rw [List.length_map]; omega
    have nx : look (ys.map fun a => ((.inr a : Key), F a)) (.inr x) = none := by
      cases q : look (ys.map fun a => ((.inr a : Key), F a)) (.inr x) with
      | none => rfl
      | some d =>
        have := look_mem q
        rw [List.map_map] at this
        obtain ⟨a, ma, ea⟩ := List.mem_map.mp this
        have ea : (Sum.inr a : Key) = .inr x := ea
        injection ea with ea
        subst ea
        exact absurd rfl ((List.nodup_append.mp nd).2.2 a ma a List.mem_cons_self)
    have ih := cd_map F (gt := gt) (fk := fk) (fv := fv) (vs := vs) e xs (ys ++ [x]) (by rw [List.append_assoc]; exact nd) (by rw [List.append_assoc]; exact len) fun y m => st y (List.mem_cons_of_mem _ m)
    rw [List.map_append] at ih
    rw [List.map_cons]
    unfold cdLoop
    have yes : fYes e' = .ok (true, e') := rfl
    have ky : keyOf (.str x) = some (.inr x) := rfl
    simp only [g1, yes, g2, g3, g4, g5, ky, of_some, Rs.ok_bind, if_true, if_pos hy, g6, put_new _ nx]
    refine ih.trans ?_
    rw [List.append_assoc]; rfl
theorem ev_dcomp {fi : En → Rs IR} {gt : D → En → Option En} {ft : En → Rs (Bool × En)} {fk fv : En → Rs (Hd × En)} {vs : List Nat} {l : List D} {r : List (Key × D)} {k : Bool} {e e1 e0 : En} (a : fi e = .ok (l, k, e1)) (p : plainS e1 vs = true) (q : cdLoop gt ft fk fv vs l (wipeE e1 vs) [] = .ok (r, wipeE e1 vs)) (b : back e1 (wipeE e1 vs) vs = e0) : fDComp fi gt ft fk fv vs e = .ok (.dct r, e0) := by
  subst b
  simp only [fDComp, a, p, q, Rs.ok_bind, if_true, Rs.mute]
/-- the times in order -/
def srtT (st : Tm) : Tm := (sortStr (st.map (·.1))).map fun a => (a, tOf st a)
theorem tsD_eq (st : Tm) : D.dct (tsD st) = tmD (srtT st) := by
  unfold tsD tmD srtT
  rw [List.map_map]; rfl
theorem srtT_names (st : Tm) : (srtT st).map (·.1) = sortStr (st.map (·.1)) := by
  unfold srtT
  rw [List.map_map]
  exact List.map_id _
theorem srt_mem (ns : List Str) (a : Str) : a ∈ sortStr ns ↔ a ∈ ns := List.Perm.mem_iff (sortStr_perm _)
theorem srt_nds (ns : List Str) (a : Str) : a ∈ nds (sortStr ns) ↔ a ∈ nds ns := by
  rw [List.mem_cons, List.mem_cons, srt_mem]
theorem srt_nd {ns : List Str} (h : ns.Nodup) : (sortStr ns).Nodup := (List.Perm.nodup_iff (sortStr_perm _)).mpr h
theorem srt_nds_nd {ns : List Str} (h : (nds ns).Nodup) : (nds (sortStr ns)).Nodup := by
  obtain ⟨h1, h2⟩ := List.nodup_cons.mp h
  exact List.nodup_cons.mpr ⟨fun m => h1 ((srt_mem ns _).mp m), srt_nd h2⟩
theorem srt_len (ns : List Str) : (sortStr ns).length = ns.length := List.Perm.length_eq (sortStr_perm _)
theorem iter_tm (st : Tm) : dIter (tmD st) = some ((st.map (·.1)).map .str, true) := by
  show some (List.map _ (List.map _ st), true) = _
  rw [List.map_map, List.map_map]; rfl
theorem iter_ts (st : Tm) : dIter (.dct (tsD st)) = some ((sortStr (st.map (·.1))).map .str, true) := by
  rw [tsD_eq, iter_tm, srtT_names]
theorem init_g {st : Tm} {wide : Int} (hw : 0 ≤ wide ∧ wide ≤ 1000000) (h : TmOk st wide) {L : List Row} (hL : LagsOk (st.map (·.1)) L) {f : Str → Str → Int} (B : Bnd (st.map (·.1)) wide L f) (dg : ∀ a ∈ nds (st.map (·.1)), f a a ≤ 0) (tri : ∀ a ∈ nds (st.map (·.1)), TriAt (nds (st.map (·.1))) f a)
    {ld : D} (hl : dIter ld = some (L.map rowD, false)) (ht : ld.tyn = some "list" ∨ ld.tyn = some "tuple") {S : List Row} (hS : dTss ld = some (.tup (S.map rowD))) :
    g_Plan_____init__ [.io (.obj "Plan" []), .val (.int wide), .val (tmD st), .val ld] = .ok ⟨false, .non, [planD wide st S]⟩ := by
  refine run_eq (run_def rfl ?_)
  unfold b_Plan_____init__
  walk_at "nrm"
  refine w_seq ?_; apply w_if (b := false)
  · apply ev_notT (b := true)
    apply ev_tru
    · apply ev_user (z := ⟨false, .bl true, []⟩)
      · rfl
      · rfl
      · rfl
      · exact form_g hw h hL hl ht
      · rfl
    · rfl
    · rfl
  · intro q; cases q
  intro _
  refine w_nx ?_
  refine w_seq ?_; apply w_asg (d := .non)
  · apply ev_user (z := ⟨false, .non, []⟩)
    · rfl
    · rfl
    · rfl
    · exact pcyc_g hw.1 B dg tri h.nds (iter_tm st) hl (by rw [List.length_map]; have := h.len; omega) (by have := hL.len; omega)
    · rfl
  · rfl
  refine w_seq ?_; apply w_if (b := false)
  · rfl
  · intro q; cases q
  intro _
  refine w_nx ?_
  refine w_seq ?_; apply w_stF (fs := []) (d := .int wide)
  · rfl
  · rfl
  · rfl
  · exact (by decide : (0 : Nat) < 1000)
  refine w_seq ?_; apply w_stF (fs := [("horizon", .int wide)]) (d := .dct (tsD st)) (h := .dat (.dct (tsD st))) (e1 := [.io 0 (.obj "Plan" [("horizon", .int wide)]), .val (.int wide), .val (tmD st), .val ld, .val .non, .no]) (e2 := [.io 0 (.obj "Plan" [("horizon", .int wide)]), .val (.int wide), .val (tmD st), .val ld, .val .non, .no])
  · apply ev_keep
    apply ev_dcomp (l := (sortStr (st.map (·.1))).map .str) (k := false) (e1 := [.io 0 (.obj "Plan" [("horizon", .int wide)]), .val (.int wide), .val (tmD st), .val ld, .val .non, .no])
    · apply ev_iter (d := .lst ((sortStr (st.map (·.1))).map .str)) (h := .dat (.lst ((sortStr (st.map (·.1))).map .str)))
      · apply ev_keep
        apply ev_callO (ds := [tmD st])
        · rfl
        · rfl
        · show (strKeys (st.map fun p => ((.inr p.1 : Key), D.int p.2))).bind (fun xs => if xs.length < 64 then some (D.lst ((sortStr xs).map .str)) else none) = _
          rw [tm_keys]
          exact if_pos (by rw [List.length_map]; have := h.len; omega)
      · rfl
      · rfl
    · rfl
    · refine cd_map (fun a => .int (tOf st a)) _ (sortStr (st.map (·.1))) [] ?_ ?_ fun x mx => ?_
      · exact (List.Perm.nodup_iff (sortStr_perm _)).mpr h.nd
      · rw [List.nil_append, List.Perm.length_eq (sortStr_perm _), List.length_map]; have := h.len; omega
      · have mx : x ∈ st.map (·.1) := (List.Perm.mem_iff (sortStr_perm _)).mp mx
        refine ⟨[.io 0 (.obj "Plan" [("horizon", .int wide)]), .val (.int wide), .val (tmD st), .val ld, .val .non, .val (.str x)], .slot 5, [.io 0 (.obj "Plan" [("horizon", .int wide)]), .val (.int wide), .val (tmD st), .val ld, .val .non, .val (.str x)], .dat (.int (tOf st x)), [.io 0 (.obj "Plan" [("horizon", .int wide)]), .val (.int wide), .val (tmD st), .val ld, .val .non, .val (.str x)], [.io 0 (.obj "Plan" [("horizon", .int wide)]), .val (.int wide), .val (tmD st), .val ld, .val .non, .val (.str x)], rfl, rfl, rfl, ?_, rfl, rfl⟩
        refine ev_op (h1 := .slot 2) (h2 := .slot 5) (x := tmD st) (y := .str x) rfl rfl rfl rfl ?_
        refine ixS_ok ?_
        rcases tOf_look st x with ⟨_, q⟩ | ⟨q, _⟩
        · exact q
        · exact absurd mx q
    · rfl
  · rfl
  · rfl
  · exact (by decide : (1 : Nat) < 1000)
  apply w_stF (fs := [("horizon", .int wide), ("_times", .dct (tsD st))]) (d := .tup (S.map rowD)) (h := .dat (.tup (S.map rowD)))
  · refine ev_tss (h := .slot 3) (x := ld) rfl rfl hS
  · rfl
  · rfl
  · exact (by decide : (2 : Nat) < 1000)
  exact ⟨_, rfl, _, rfl, rfl⟩
theorem mk_g {as : List Ar} {d : D} (h : g_Plan_____init__ (.io (.obj "Plan" []) :: as) = .ok ⟨false, .non, [d]⟩) : mkD "Plan" g_Plan_____init__ as = .ok ⟨true, d, []⟩ := by
  unfold mkD; rw [h]
theorem times_p (wide : Int) (st : Tm) (S : List Row) : g_Plan___times [.val (planD wide st S)] = .ok ⟨true, .dct (tsD st), []⟩ := by
  refine run_eq (run_def rfl ?_)
  unfold b_Plan___times
  walk_at "nrm"
  apply w_retO (d := .dct (tsD st))
  · apply ev_callO (ds := [.dct (tsD st)])
    · apply ev_cons
      · exact ev_fld (h := .slot 0) (fs := [("horizon", .int wide), ("_times", .dct (tsD st)), ("_lags", .tup (S.map rowD))]) rfl rfl rfl
      · rfl
    · rfl
    · rfl
  · exact ⟨_, rfl, _, rfl, rfl⟩
theorem lags_p (wide : Int) (st : Tm) (S : List Row) : g_Plan___lags [.val (planD wide st S)] = .ok ⟨false, .tup (S.map rowD), []⟩ := by
  refine run_eq (run_def rfl ?_)
  unfold b_Plan___lags
  walk_at "nrm"
  apply w_retV (d := .tup (S.map rowD)) (h := .dat (.tup (S.map rowD)))
  · exact ev_fld (h := .slot 0) (fs := [("horizon", .int wide), ("_times", .dct (tsD st)), ("_lags", .tup (S.map rowD))]) rfl rfl rfl
  · rfl
  · exact ⟨_, rfl, _, rfl, rfl⟩
theorem ev_pop {e e1 : En} {h : Hd} {i m : Nat} {n : Int} {fj : En → Rs (Hd × En)} {l0 l : List D} {d : D} (r0 : rootD e i = some (.lst l0)) (a : fj e = .ok (h, e1)) (p : h.get e1 = some (.int n)) (r1 : rootD e1 i = some (.lst l)) (b : -(2 ^ 63) ≤ n ∧ n < 2 ^ 63) (c : seqIndex? n l.length = some m) (q : l[m]? = some d) : fPop i fj e = .ok (.dat d, setRoot e1 i (.lst (l.eraseIdx m))) := by
  unfold fPop
  simp only [r0, a, p, r1, Rs.ok_bind, if_pos b, c, q]
theorem erase_map {α β : Type} (f : α → β) : ∀ (l : List α) (i : Nat), (l.map f).eraseIdx i = (l.eraseIdx i).map f
  | [], _ => rfl
  | _ :: _, 0 => rfl
  | x :: l, i + 1 => by
    show f x :: (l.map f).eraseIdx i = f x :: (l.eraseIdx i).map f
    rw [erase_map f l i]
theorem erase_perm {α : Type} : ∀ (l : List α) (i : Nat) (x : α), l[i]? = some x → (x :: l.eraseIdx i).Perm l
  | [], _, _, h => by simp at h
  | y :: l, 0, x, h => by
    simp at h; subst h; exact List.Perm.refl _
  | y :: l, i + 1, x, h => by
    have h : l[i]? = some x := by simpa using h
    exact (List.Perm.swap y x (l.eraseIdx i)).trans (List.Perm.cons y (erase_perm l i x h))
def pool : List Str := ["a", "b", "c", "d", "e", "f", "ab", "aa", "zz", "abcdefgh", "m"]
theorem pool_nm : ∀ s ∈ pool, Nm s := by
  show ∀ s ∈ pool, nmB s = true
  decide +kernel
theorem names_g {k : Int} (hk : k ≤ 10000) {d : D} (hd : PenOk k d) {t : Int} (h0 : 0 ≤ t) (h1 : t ≤ 8) : ∃ (ns : List Str) (d' : D), g__law_names [.io d, .val (.int t)] = .ok ⟨true, .lst (nodeD ns), [d']⟩ ∧ PenOk (k + 8) d' ∧ ns.Nodup ∧ (∀ x ∈ ns, Nm x) ∧ (ns.length : Int) = t := by
  have key : ∃ z, g__law_names [.io d, .val (.int t)] = .ok z ∧ ∃ (ns : List Str) (d' : D), z = ⟨true, .lst (nodeD ns), [d']⟩ ∧ PenOk (k + 8) d' ∧ ns.Nodup ∧ (∀ x ∈ ns, Nm x) ∧ (ns.length : Int) = t := by
    refine run_def rfl ?_
    unfold b__law_names
    walk_at "nrm"
    refine w_seq ?_; apply w_setO (d := .lst (nodeD pool))
    · exact ev_lst rfl rfl (by decide : (11 : Nat) ≤ sizeLine)
    walk_at "nrm"
    have hs : (2000000 : Nat) < sizeLine := by decide
    obtain ⟨r, e', hq, d', pl, ns, rfl, pen, rfl, perm, _, nl⟩ := w_comp (gt := gSet 3) (ft := fYes) (fe := fPop 2 (fUser [true, false] g__law_draw (fCons (fVar 0) (fCons (fCall dLenX (fCons (fVar 2) fNil)) fNil)))) (vs := [3])
      (fun ds e acc => ∃ (d' : D) (pl ns : List Str), e = [.io 0 d', .val (.int t), .own (.lst (nodeD pl)), .no] ∧ PenOk (k + 8 - ds.length) d' ∧ acc = nodeD ns ∧ (ns ++ pl).Perm pool ∧ ds.length + 3 ≤ pl.length ∧ ns.length + ds.length = t.toNat) (by
        rintro x ds e acc ⟨d', pl, ns, rfl, pen, rfl, perm, hpl, hnl⟩
        rw [List.length_cons] at pen hpl hnl
        have pll : pl.length ≤ 11 := by
          have := List.Perm.length_eq perm
          rw [List.length_append] at this
          have e : pool.length = 11 := rfl
          omega
        refine ⟨by unfold nodeD; rw [List.length_map]; omega, ?_⟩
        obtain ⟨v, d2, hv, v0, v1, p2⟩ := draw_g (k + 8 - ((ds.length + 1 : Nat) : Int)) d' (pl.length : Int) (by omega) (by omega) pen
        have hm : v.toNat < pl.length := by omega
        obtain ⟨y, hy⟩ : ∃ y, pl[v.toNat]? = some y := ⟨pl[v.toNat], by simp [hm]⟩
        refine ⟨[.io 0 d', .val (.int t), .own (.lst (nodeD pl)), .val x], [.io 0 d', .val (.int t), .own (.lst (nodeD pl)), .val x], .dat (.str y), [.io 0 d2, .val (.int t), .own (.lst ((nodeD pl).eraseIdx v.toNat)), .val x], .str y, [.io 0 d2, .val (.int t), .own (.lst ((nodeD pl).eraseIdx v.toNat)), .val x], rfl, rfl, ?_, rfl, d2, pl.eraseIdx v.toNat, ns ++ [y], ?_, p2.mono (by omega), ?_, ?_, ?_, ?_⟩
        · refine ev_pop (h := .dat (.int v)) (l0 := nodeD pl) (l := nodeD pl) (n := v) (m := v.toNat) (e1 := [.io 0 d2, .val (.int t), .own (.lst (nodeD pl)), .val x]) rfl ?_ rfl rfl (by omega) ?_ ?_
          · apply ev_user (z := ⟨false, .int v, [d2]⟩) (as := [.io d', .val (.int pl.length)])
            · apply ev_cons
              · rfl
              · apply ev_cons
                · apply ev_call (ds := [.lst (nodeD pl)]) (d := .int pl.length)
                  · rfl
                  · rfl
                  · show some (D.int (nodeD pl).length) = _
                    unfold nodeD; rw [List.length_map]
                · rfl
            · rfl
            · rfl
            · exact hv
            · rfl
          · unfold seqIndex?
            have l : (nodeD pl).length = pl.length := by unfold nodeD; rw [List.length_map]
            simp only [l, if_neg (show ¬ v < 0 by omega), decide_eq_true v0, decide_eq_true v1, Bool.and_self, if_true]
          · unfold nodeD; rw [List.getElem?_map, hy]; rfl
        · show [_, _, Sl.own (.lst ((pl.map D.str).eraseIdx v.toNat)), _] = _
          rw [erase_map]; rfl
        · unfold nodeD; rw [List.map_append]; rfl
        · refine List.Perm.trans ?_ perm
          rw [List.append_assoc]
          exact List.Perm.append_left ns (erase_perm pl v.toNat y hy)
        · rw [List.length_eraseIdx, if_pos hm]; omega
        · rw [List.length_append, List.length_singleton]; omega) ((List.range t.toNat).map fun (i : Nat) => D.int i) [.io 0 d, .val (.int t), .own (.lst (nodeD pool)), .no] [] ⟨d, pool, [], rfl, by rw [List.length_map, List.length_range]; exact hd.mono (by omega), rfl, List.Perm.refl _, by rw [List.length_map, List.length_range]; have e : pool.length = 11 := rfl; omega, by rw [List.length_map, List.length_range, List.length_nil]; omega⟩
    apply w_retO (d := .lst (nodeD ns))
    · apply ev_comp
      · exact ev_rng1 (j := t) (hs := [.slot 1]) rfl rfl (by omega)
      · rfl
      · exact hq
    · refine ⟨_, rfl, _, rfl, ns, d', rfl, pen.mono (by omega), ?_, ?_, ?_⟩
      · have := (List.Perm.nodup_iff perm).mpr (by decide : pool.Nodup)
        exact (List.nodup_append.mp this).1
      · exact fun x m => pool_nm x ((List.Perm.mem_iff perm).mp (List.mem_append_left _ m))
      · rw [List.length_nil] at nl; omega
  obtain ⟨z, e, ns, d', rfl, q⟩ := key
  exact ⟨ns, d', e, q⟩
theorem merge_nd : ∀ (more l : List (Key × D)), ((l ++ more).map (·.1)).Nodup → mergeD l more = l ++ more
  | [], l, _ => by rw [List.append_nil]; rfl
  | p :: more, l, nd => by
    have e : mergeD l (p :: more) = mergeD (putD l p.1 p.2) more := rfl
    have no : look l p.1 = none := by
      cases q : look l p.1 with
      | none => rfl
      | some d =>
        have m := look_mem q
        rw [List.map_append] at nd
        exact absurd rfl ((List.nodup_append.mp nd).2.2 _ m p.1 List.mem_cons_self)
    rw [e, put_new _ no, merge_nd more (l ++ [(p.1, p.2)]) (by rw [List.append_assoc]; exact nd), List.append_assoc]
    rfl
abbrev pD (p : Str × Int) : D := .tup [.str p.1, .int p.2]
theorem pairs_tm : ∀ st : Tm, pairsD (st.map pD) = some (st.map fun p => ((.inr p.1 : Key), D.int p.2))
  | [] => rfl
  | p :: st => by rw [List.map_cons, pairsD, pairs_tm st]; rfl
theorem dictP_tm {st : Tm} (nd : (st.map (·.1)).Nodup) : dDictP [.lst (st.map pD)] = some (tmD st) := by
  show (pairsD (st.map pD)).map (fun ps => D.dct (mergeD [] ps)) = _
  rw [pairs_tm]
  show some (D.dct (mergeD [] _)) = _
  rw [merge_nd _ [] ?_]
  · rfl
  · rw [List.nil_append, List.map_map]
    have := List.pairwise_map.mpr ((List.pairwise_map.mp nd).imp (S := fun (a b : Str × Int) => ((.inr a.1 : Key)) ≠ .inr b.1) fun h q => h (by injection q))
    exact this
theorem starts_g {k : Int} (hk : k ≤ 10000) {d : D} (hd : PenOk k d) {ns : List Str} (nd : ns.Nodup) (nm : ∀ x ∈ ns, Nm x) (nl : ns.length ≤ 8) {w : Int} (h0 : 0 ≤ w) (h1 : w ≤ 1000000) :
    ∃ (st : Tm) (d' : D), g__law_starts [.io d, .val (.lst (nodeD ns)), .val (.int w)] = .ok ⟨true, tmD st, [d']⟩ ∧ PenOk (k + 8) d' ∧ st.map (·.1) = ns ∧ TmOk st w := by
  have key : ∃ z, g__law_starts [.io d, .val (.lst (nodeD ns)), .val (.int w)] = .ok z ∧ ∃ (st : Tm) (d' : D), z = ⟨true, tmD st, [d']⟩ ∧ PenOk (k + 8) d' ∧ st.map (·.1) = ns ∧ TmOk st w := by
    refine run_def rfl ?_
    unfold b__law_starts
    walk_at "nrm"
    have hs : (2000000 : Nat) < sizeLine := by decide
    obtain ⟨r, e', hq, d', st, rest, rfl, pen, rfl, hr, cat, tm, nl2⟩ := w_comp (gt := gSet 3) (ft := fYes) (fe := fTup (fCons (fVar 3) (fCons (fUser [true, false] g__law_draw (fCons (fVar 0) (fCons (fOp dAdd (fVar 2) (fC (.int 1))) fNil))) fNil))) (vs := [3])
      (fun ds e acc => ∃ (d' : D) (st : Tm) (rest : List Str), e = [.io 0 d', .val (.lst (nodeD ns)), .val (.int w), .no] ∧ PenOk (k + 8 - ds.length) d' ∧ acc = st.map pD ∧ ds = nodeD rest ∧ st.map (·.1) ++ rest = ns ∧ (∀ p ∈ st, 0 ≤ p.2 ∧ p.2 ≤ w) ∧ st.length + ds.length ≤ 8) (by
        rintro x ds e acc ⟨d', st, rest, rfl, pen, rfl, hr, cat, tm, nl2⟩
        rw [List.length_cons] at pen nl2
        refine ⟨by rw [List.length_map]; omega, ?_⟩
        cases rest with
        | nil => cases hr
        | cons a rest =>
          have hr : x :: ds = .str a :: nodeD rest := hr
          injection hr with hx hr2
          subst hx
          obtain ⟨v, d2, hv, v0, v1, p2⟩ := draw_g (k + 8 - ((ds.length + 1 : Nat) : Int)) d' (w + 1) (by omega) (by omega) pen
          refine ⟨[.io 0 d', .val (.lst (nodeD ns)), .val (.int w), .val (.str a)], [.io 0 d', .val (.lst (nodeD ns)), .val (.int w), .val (.str a)], .dat (pD (a, v)), [.io 0 d2, .val (.lst (nodeD ns)), .val (.int w), .val (.str a)], pD (a, v), [.io 0 d2, .val (.lst (nodeD ns)), .val (.int w), .val (.str a)], rfl, rfl, ?_, rfl, d2, st ++ [(a, v)], rest, rfl, p2.mono (by omega), by rw [List.map_append]; rfl, hr2, by rw [List.map_append, List.append_assoc]; exact cat, ?_, by rw [List.length_append, List.length_singleton]; omega⟩
          · refine ev_tup (hs := [.slot 3, .dat (.int v)]) (e1 := [.io 0 d2, .val (.lst (nodeD ns)), .val (.int w), .val (.str a)]) ?_ rfl (by decide : (2 : Nat) ≤ sizeLine)
            apply ev_cons
            · rfl
            · apply ev_cons
              · apply ev_user (z := ⟨false, .int v, [d2]⟩) (as := [.io d', .val (.int (w + 1))])
                · rfl
                · rfl
                · rfl
                · exact hv
                · rfl
              · rfl
          · intro p mp
            rcases List.mem_append.mp mp with m | m
            · exact tm p m
            · cases List.mem_singleton.mp m
              exact ⟨v0, by show v ≤ w; omega⟩) (nodeD ns) [.io 0 d, .val (.lst (nodeD ns)), .val (.int w), .no] [] ⟨d, [], ns, rfl, by unfold nodeD; rw [List.length_map]; exact hd.mono (by omega), rfl, rfl, rfl, (fun _ m => absurd m List.not_mem_nil), by unfold nodeD; rw [List.length_map, List.length_nil]; omega⟩
    have rn : rest = [] := by
      cases rest with
      | nil => rfl
      | cons a b => cases hr
    subst rn
    rw [List.append_nil] at cat
    have ok : TmOk st w := ⟨by rw [cat]; exact nd, fun p mp => nm _ (by rw [← cat]; exact List.mem_map.mpr ⟨p, mp, rfl⟩), tm, by simp at nl2; omega⟩
    apply w_retO (d := tmD st)
    · apply ev_callO (ds := [.lst (st.map pD)])
      · apply ev_cons
        · apply ev_keep
          apply ev_comp
          · exact ev_iter (h := .slot 1) (d := .lst (nodeD ns)) rfl rfl rfl
          · rfl
          · exact hq
        · rfl
      · rfl
      · exact dictP_tm ok.nd
    · exact ⟨_, rfl, _, rfl, st, d', rfl, pen.mono (by simp), cat, ok⟩
  obtain ⟨z, e, st, d', rfl, q⟩ := key
  exact ⟨st, d', e, q⟩
theorem ev_app {e e1 e2 : En} {h : Hd} {f : En → Rs (Hd × En)} {d : D} {i : Nat} {l0 l : List D} (r0 : rootD e i = some (.lst l0)) (a : f e = .ok (h, e1)) (p : h.esc e1 = .ok (d, e2)) (r : rootD e2 i = some (.lst l)) (q : l.length < sizeLine) : fApp i f e = .ok (.dat .non, setRoot e2 i (.lst (l ++ [d]))) := by
  unfold fApp
  rw [r0]
  simp only [a, p, r, Rs.ok_bind, if_pos q]
theorem get_g (st : Tm) {e : En} {i j : Nat} {a : Str} (hi : fVar i e = .ok (.slot i, e)) (gi : (Hd.slot i).get e = some (tmD st)) (hj : fVar j e = .ok (.slot j, e)) (gj : (Hd.slot j).get e = some (.str a)) : fGet (fVar i) (fVar j) (fC (.int 0)) e = .ok (.dat (.int (tOf st a)), e) := by
  have g2 : (Hd.slot i).get e = some (.dct (st.map fun p : Str × Int => ((.inr p.1 : Key), D.int p.2))) := gi
  rcases tOf_look st a with ⟨_, q⟩ | ⟨_, q, z⟩
  · refine ev_getS (l := st.map fun p : Str × Int => ((.inr p.1 : Key), D.int p.2)) (x := tmD st) (y := .str a) (h2 := .dat (.int 0)) hi g2 hj rfl gi gj ?_
    show some (look (st.map fun p => ((.inr p.1 : Key), D.int p.2)) (.inr a)) = _
    rw [q]
  · rw [z]
    refine ev_getN (l := st.map fun p : Str × Int => ((.inr p.1 : Key), D.int p.2)) (x := tmD st) (y := .str a) hi g2 hj rfl gi gj ?_
    show some (look (st.map fun p => ((.inr p.1 : Key), D.int p.2)) (.inr a)) = _
    rw [q]
theorem inB_self (b : Str) : iniB "" b = true := by
  unfold iniB inV
  rw [List.any_cons]
  have : eqV (.str "") (.str "") = true := by decide
  rw [this]; rfl
theorem ini_eq (wide : Int) (a b : Str) : ini wide a b = if a = "" ∨ a = b then 0 else -wide := by
  unfold ini iniB inV
  rw [List.any_cons, List.any_cons, List.any_nil]
  have e1 : eqV (.str "") (.str a) = decide ("" = a) := rfl
  have e2 : eqV (.str b) (.str a) = decide (b = a) := rfl
  rw [e1, e2]
  by_cases q1 : a = "" <;> by_cases q2 : a = b <;> simp [q1, q2, eq_comm] <;> simp_all [eq_comm]
theorem ini_tri {wide : Int} (hw : 0 ≤ wide) (a m b : Str) : ini wide a m + ini wide m b ≤ ini wide a b := by
  have bd : ∀ x y, -wide ≤ ini wide x y ∧ ini wide x y ≤ 0 := fun x y => by
    rw [ini_eq]; split <;> omega
  have w : ∀ x y : Str, x ≠ "" → x ≠ y → ini wide x y = -wide := fun x y h1 h2 => by
    rw [ini_eq, if_neg]
    rintro (z | z)
    · exact h1 z
    · exact h2 z
  have b1 := bd a m
  have b2 := bd m b
  by_cases q1 : a = ""
  · have : ini wide a b = 0 := by rw [ini_eq, if_pos (.inl q1)]
    omega
  · by_cases q2 : a = b
    · have : ini wide a b = 0 := by rw [ini_eq, if_pos (.inr q2)]
      omega
    · rw [w a b q1 q2]
      by_cases q3 : a = m
      · subst q3
        rw [w a b q1 q2]; omega
      · rw [w a m q1 q3]; omega
theorem far_0 (nodes : List Str) {wide : Int} (hw : 0 ≤ wide) : FarOk nodes wide [] (ini wide) := by
  refine ⟨fun a _ b _ => Int.le_refl _, (fun r m => absurd m List.not_mem_nil), fun a _ => ?_, fun m _ a _ b _ => ini_tri hw a m b, fun h q _ _ => q⟩
  rw [ini_eq, if_pos (.inr rfl)]
  exact Int.le_refl _
theorem far_bnd {ns : List Str} {wide : Int} (hw : 0 ≤ wide) {E : List Row} {f : Str → Str → Int} (F : FarOk (nds ns) wide E f) (hE : ∀ r ∈ E, r.1 ∈ nds ns ∧ r.2.1 ∈ nds ns) : Bnd ns wide E f ∧ ∀ r ∈ E, r.2.2 ≤ wide := by
  have z0 : ∀ b ∈ nds ns, 0 ≤ f "" b := fun b hb => by
    have := F.ini "" List.mem_cons_self b hb
    unfold ini at this
    rw [inB_self] at this
    exact this
  have w0 : ∀ a ∈ nds ns, -wide ≤ f a "" := fun a ha => by
    have := F.ini a ha "" List.mem_cons_self
    unfold ini at this
    split at this <;> omega
  refine ⟨⟨fun b hb => z0 b (List.mem_cons_of_mem _ hb), fun a ha => w0 a (List.mem_cons_of_mem _ ha), fun r hr => ⟨(hE r hr).1, (hE r hr).2, F.lag r hr⟩⟩, fun r hr => ?_⟩
  obtain ⟨h1, h2⟩ := hE r hr
  have t1 := F.tri _ h2 _ h1 "" List.mem_cons_self
  have t2 := F.tri "" List.mem_cons_self _ h1 _ h1
  have := z0 _ h1
  have := w0 _ h2
  have := F.dg _ h1
  have := F.lag r hr
  omega
/-- lags drawn -/
structure GapsOk (ns : List Str) (wide : Int) (E : List Row) : Prop where
  a : ∀ r ∈ E, r.1 ∈ nds ns ∧ r.2.1 ∈ nds ns ∧ r.1 ≠ r.2.1 ∧ -1000000 ≤ r.2.2
  f : ∃ f, FarOk (nds ns) wide E f
theorem rows_app (E : List Row) (r : Row) : (E ++ [r]).map rowD = E.map rowD ++ [rowD r] := by rw [List.map_append]; rfl
abbrev liE (d : D) (ns : List Str) (st : Tm) (wide tally : Int) (E : List Row) (s7 s8 s9 s10 : Sl) : En := [.io 0 d, .val (.lst (nodeD ns)), .val (tmD st), .val (.int wide), .val (.int tally), .val (.lst (nodeD (nds ns))), .own (.lst (E.map rowD)), s7, s8, s9, s10]
theorem pick_g {k : Int} (hk : k ≤ 90000) {d : D} (hd : PenOk k d) {ns : List Str} (nl : ns.length ≤ 8) {st : Tm} {wide tally : Int} {E : List Row} {s7 s8 s9 s10 : Sl} : ∃ (a : Str) (d' : D), a ∈ nds ns ∧ PenOk (k + 1) d' ∧ fOp dIx (fVar 5) (fUser [true, false] g__law_draw (fCons (fVar 0) (fCons (fCall dLenX (fCons (fVar 5) fNil)) fNil))) (liE d ns st wide tally E s7 s8 s9 s10) = .ok (.dat (.str a), liE d' ns st wide tally E s7 s8 s9 s10) := by
  have l : (nodeD (nds ns)).length = ns.length + 1 := by unfold nodeD; rw [List.length_map, List.length_cons]
  obtain ⟨v, d2, hv, v0, v1, p2⟩ := draw_g k d ((ns.length + 1 : Nat) : Int) (by omega) (by omega) hd
  obtain ⟨x, mx, hx⟩ := atI_n (nodeD (nds ns)) v v0 (by rw [l]; exact v1)
  obtain ⟨a, ma, rfl⟩ := List.mem_map.mp mx
  refine ⟨a, d2, ma, p2, ?_⟩
  refine ev_op (h1 := .slot 5) (h2 := .dat (.int v)) (x := .lst (nodeD (nds ns))) (y := .int v) rfl ?_ rfl rfl hx
  apply ev_user (z := ⟨false, .int v, [d2]⟩) (as := [.io d, .val (.int ((ns.length + 1 : Nat) : Int))])
  · apply ev_cons
    · rfl
    · apply ev_cons
      · refine ev_call (ds := [.lst (nodeD (nds ns))]) (d := .int ((ns.length + 1 : Nat) : Int)) rfl rfl ?_
        show some (D.int (nodeD (nds ns)).length) = _
        rw [l]
      · rfl
  · rfl
  · rfl
  · exact hv
  · rfl
theorem TmOk.up {st : Tm} {w wide : Int} (h : TmOk st w) (le : w ≤ wide) : TmOk st wide := ⟨h.nd, h.nm, fun p m => ⟨(h.tm p m).1, Int.le_trans (h.tm p m).2 le⟩, h.len⟩
theorem atI_6 (v : Int) (h0 : 0 ≤ v) (h1 : v < 6) : ∃ w : Int, dIx (.lst [.int 6, .int 12, .int 30, .int 1000000, .int 0, .int 3]) (.int v) = some (.int w) ∧ 0 ≤ w ∧ w ≤ 1000000 := by
  have : v = 0 ∨ v = 1 ∨ v = 2 ∨ v = 3 ∨ v = 4 ∨ v = 5 := by omega
  rcases this with rfl | rfl | rfl | rfl | rfl | rfl
  · exact ⟨6, rfl, by decide, by decide⟩
  · exact ⟨12, rfl, by decide, by decide⟩
  · exact ⟨30, rfl, by decide, by decide⟩
  · exact ⟨1000000, rfl, by decide, by decide⟩
  · exact ⟨0, rfl, by decide, by decide⟩
  · exact ⟨3, rfl, by decide, by decide⟩
theorem atI_t (a b v : Int) (h0 : 0 ≤ v) (h1 : v < 2) : ∃ w : Int, dIx (.lst [.int a, .int b]) (.int v) = some (.int w) ∧ (w = a ∨ w = b) := by
  have : v = 0 ∨ v = 1 := by omega
  rcases this with rfl | rfl
  · exact ⟨a, rfl, .inl rfl⟩
  · exact ⟨b, rfl, .inr rfl⟩
/-- what the parts of a plan are -/
structure PartOkN (n : Nat) (wide : Int) (st : Tm) (E : List Row) : Prop where
  w : 0 ≤ wide ∧ wide ≤ 1000000
  t : TmOk st wide
  g : GapsOk (st.map (·.1)) wide E
  l : E.length ≤ n
abbrev PartOk (wide : Int) (st : Tm) (E : List Row) : Prop := PartOkN 20 wide st E
theorem PartOkN.up {n m : Nat} {wide : Int} {st : Tm} {E : List Row} (P : PartOkN n wide st E) (h : n ≤ m) : PartOkN m wide st E := ⟨P.w, P.t, P.g, Nat.le_trans P.l h⟩
theorem tss_rows {L : List Row} {S : List Row} (len : L.length < 64) (h : sortLg (L.map rk) = S.map rk) : dTss (.lst (L.map rowD)) = some (.tup (S.map rowD)) := by
  show (some (L.map rowD)).bind (fun l => (lagKs l).bind fun ks => if ks.length < 64 then some (D.tup ((sortLg ks).map lagD)) else none) = _
  show (lagKs (L.map rowD)).bind (fun ks => if ks.length < 64 then some (D.tup ((sortLg ks).map lagD)) else none) = _
  rw [lagKs_rows]
  show (if (L.map rk).length < 64 then some (D.tup ((sortLg (L.map rk)).map lagD)) else none) = _
  rw [if_pos (by rw [List.length_map]; exact len), h, List.map_map]
  rfl
/-- the plan of the parts, some lags twice -/
theorem plan_g {n : Nat} {wide : Int} {st : Tm} {E L : List Row} (P : PartOkN n wide st E) (hn : n ≤ 25 := by decide) (hL : ∀ r ∈ L, r ∈ E) (hl : L.length ≤ E.length) {S : List Row} (hS : sortLg (E.map rk) = S.map rk) :
    mkD "Plan" g_Plan_____init__ [.val (.int wide), .val (tmD st), .val (.lst ((E ++ L).map rowD))] = .ok ⟨true, planD wide st S, []⟩ := by
  obtain ⟨f, F⟩ := P.g.f
  obtain ⟨B, up⟩ := far_bnd P.w.1 F fun r hr => ⟨(P.g.a r hr).1, (P.g.a r hr).2.1⟩
  have inE : ∀ r ∈ E ++ L, r ∈ E := fun r hr => (List.mem_append.mp hr).elim id (hL r)
  have el := P.l
  have len : (E ++ L).length ≤ 50 := by rw [List.length_append]; omega
  refine mk_g (init_g P.w P.t (L := E ++ L) (f := f) ⟨fun r hr => ?_, by omega⟩ ⟨B.z, B.w, fun r hr => B.lag r (inE r hr)⟩ F.dg F.tri rfl (.inl rfl) (tss_rows (by omega) ?_))
  · obtain ⟨q1, q2, q3, q4⟩ := P.g.a r (inE r hr)
    have := up r (inE r hr)
    have := P.w.2
    exact ⟨q1, q2, q3, q4, by omega⟩
  · rw [← hS]
    refine sortLg_same fun k => ?_
    rw [List.map_append, List.mem_append]
    refine ⟨fun h => h.elim id fun m => ?_, .inl⟩
    obtain ⟨r, mr, e⟩ := List.mem_map.mp m
    exact List.mem_map.mpr ⟨r, hL r mr, e⟩
def RT {β : Type} (J : β → D) (l : List (Key × D)) (T : Str → Option β) : Prop := ∀ v, look l (.inr v) = (T v).map J
theorem RT.put {β : Type} {J : β → D} {l : List (Key × D)} {T : Str → Option β} (h : RT J l T) (b : Str) (x : β) : RT J (putD l (.inr b) (J x)) (updO T b x) := by
  intro v
  rw [look_put1]
  unfold updO
  by_cases q : b = v
  · rw [if_pos q, if_pos q]; rfl
  · rw [if_neg q, if_neg q]; exact h v
theorem inS_ok {l : List (Key × D)} {a : Str} {b : Bool} (h : (look l (.inr a)).isSome = b) : dIn (.str a) (.dct l) = some (.bl b) := by
  show ((some (look l (.inr a))).map Option.isSome).map D.bl = _
  rw [← h]; rfl
theorem ninS_ok {l : List (Key × D)} {a : Str} {b : Bool} (h : (look l (.inr a)).isSome = b) : dNin (.str a) (.dct l) = some (.bl (!b)) := by
  show ((some (look l (.inr a))).map Option.isSome).map (fun b => D.bl (!b)) = _
  rw [← h]; rfl
abbrev lcE (E : List Row) (a : Str) (l p : List (Key × D)) (fl : Bool) (s5 s6 s7 : Sl) : En := [.val (.dcT (E.map gJ)), .val (.str a), .own (.dct l), .own (.dct p), .val (.bl fl), s5, s6, s7]
theorem edges_items (E : List Row) : dItems (.dcT (E.map gJ)) = some (E.map itD) := by
  show some ((E.map gJ).map pairT) = _
  rw [List.map_map]; rfl
theorem round_g {nodes : List Str} {E : List Row} {f : Str → Str → Int} (C : Clo nodes E f) {a : Str} {cap : Str → Int} (cl : ∀ a b g, (a, b, g) ∈ E → cap a + g ≤ cap b) {T : Str → Option Int} {p : Str → Option Str} (B : Bf nodes E f a T p) (hc : ∀ v t, T v = some t → t ≤ cap v)
    {l q : List (Key × D)} (hl : RT .int l T) (hq : RT .str q p) {N : Nat} (l1 : l.length + E.length ≤ N) (l2 : q.length + E.length ≤ N) (hN : N ≤ 2000000) {s5 s6 s7 : Sl} {P : Fl × En → Prop} {Z}
    (k : ∀ l' q' T' p' fl' s5 s6 s7, RT .int l' T' → RT .str q' p' → l'.length ≤ N → q'.length ≤ N → Rnd nodes E f a cap T E T' p' fl' → P (.nx, lcE E a l' q' fl' s5 s6 s7)) :
    Wq ((fFor (fItms (fVar 0)) (gTu (gCo (gTu (gCo (gSet 6) (gCo (gSet 7) gNo))) (gCo (gSet 5) gNo)))
  (fIfS (fAnd (fTst (fOp dIn (fVar 6) (fVar 2))) (fOr (fTst (fOp dNin (fVar 7) (fVar 2))) (fTst (fOp dGt (fOp dAdd (fOp dIx (fVar 2) (fVar 6)) (fVar 5)) (fOp dIx (fVar 2) (fVar 7))))))
  (fSeq (fStD 2 (fVar 7) (fOp dAdd (fOp dIx (fVar 2) (fVar 6)) (fVar 5)))
  (fSeq (fStD 3 (fVar 7) (fVar 6))
  (fAsg (fC (.bl true)) (gSet 4))))
  fNx)) (lcE E a l q false s5 s6 s7)) P Z := by
  have hs : (2000000 : Nat) < sizeLine := by decide
  refine w_forP itD E (k := true) (e1 := lcE E a l q false s5 s6 s7) (fun ys e => ∃ l' q' T' p' fl' s5 s6 s7, e = lcE E a l' q' fl' s5 s6 s7 ∧ RT .int l' T' ∧ RT .str q' p' ∧ l'.length ≤ l.length + ys.length ∧ q'.length ≤ q.length + ys.length ∧ Rnd nodes E f a cap T ys T' p' fl') ?_ ?_ ?_ ?_
  · exact ev_items (h := .slot 0) (d := .dcT (E.map gJ)) rfl rfl (edges_items E)
  · exact ⟨l, q, T, p, false, _, _, _, rfl, hl, hq, Nat.le_refl _, Nat.le_refl _, Rnd.start B hc⟩
  · rintro ys ⟨x, y, g⟩ zs _ hx ⟨l', q', T', p', fl', s5, s6, s7, rfl, hl, hq, n1, n2, R⟩
    have mE : (x, y, g) ∈ E := by rw [hx]; exact List.mem_append_right _ List.mem_cons_self
    have ly : ys.length + 1 ≤ E.length := by rw [hx, List.length_append, List.length_cons]; omega
    refine ⟨lcE E a l' q' fl' (.val (.int g)) (.val (.str x)) (.val (.str y)), rfl, ?_⟩
    have lx := hl x
    have lyy := hl y
    have len1 : (ys ++ [(x, y, g)]).length = ys.length + 1 := by rw [List.length_append]; rfl
    have skip : (∀ ta, T' x = some ta → ∃ tb, T' y = some tb ∧ ta + g ≤ tb) → (fAnd (fTst (fOp dIn (fVar 6) (fVar 2))) (fOr (fTst (fOp dNin (fVar 7) (fVar 2))) (fTst (fOp dGt (fOp dAdd (fOp dIx (fVar 2) (fVar 6)) (fVar 5)) (fOp dIx (fVar 2) (fVar 7)))))) (lcE E a l' q' fl' (.val (.int g)) (.val (.str x)) (.val (.str y))) = .ok (false, lcE E a l' q' fl' (.val (.int g)) (.val (.str x)) (.val (.str y))) := fun h => by
      cases ex : T' x with
      | none =>
        rw [ex] at lx
        exact ev_aF (ev_tst (ev_op (h1 := .slot 6) (h2 := .slot 2) (x := .str x) (y := .dct l') rfl rfl rfl rfl (inS_ok (by rw [lx]; rfl))))
      | some ta =>
        obtain ⟨tb, ey, le⟩ := h ta ex
        rw [ex] at lx; rw [ey] at lyy
        refine ev_aT (ev_tst (ev_op (h1 := .slot 6) (h2 := .slot 2) (x := .str x) (y := .dct l') rfl rfl rfl rfl (inS_ok (by rw [lx]; rfl)))) ?_
        refine ev_oF (ev_tst (ev_op (h1 := .slot 7) (h2 := .slot 2) (x := .str y) (y := .dct l') rfl rfl rfl rfl (ninS_ok (b := true) (by rw [lyy]; rfl)))) ?_
        refine ev_tst (ev_op (h1 := .dat (.int (ta + g))) (h2 := .dat (.int tb)) (x := .int (ta + g)) (y := .int tb) (ev_op (h1 := .dat (.int ta)) (h2 := .slot 5) (x := .int ta) (y := .int g) (ev_op (h1 := .slot 2) (h2 := .slot 6) (x := .dct l') (y := .str x) rfl rfl rfl rfl (ixS_ok lx)) rfl rfl rfl rfl) (ev_op (h1 := .slot 2) (h2 := .slot 7) (x := .dct l') (y := .str y) rfl rfl rfl rfl (ixS_ok lyy)) rfl rfl ?_)
        show some (D.bl (decide (tb < ta + g))) = _
        rw [decide_eq_false (by omega)]
    have go : ∀ ta, T' x = some ta → (∀ tb, T' y = some tb → tb < ta + g) → (fAnd (fTst (fOp dIn (fVar 6) (fVar 2))) (fOr (fTst (fOp dNin (fVar 7) (fVar 2))) (fTst (fOp dGt (fOp dAdd (fOp dIx (fVar 2) (fVar 6)) (fVar 5)) (fOp dIx (fVar 2) (fVar 7)))))) (lcE E a l' q' fl' (.val (.int g)) (.val (.str x)) (.val (.str y))) = .ok (true, lcE E a l' q' fl' (.val (.int g)) (.val (.str x)) (.val (.str y))) := fun ta ex h => by
      rw [ex] at lx
      refine ev_aT (ev_tst (ev_op (h1 := .slot 6) (h2 := .slot 2) (x := .str x) (y := .dct l') rfl rfl rfl rfl (inS_ok (by rw [lx]; rfl)))) ?_
      cases ey : T' y with
      | none =>
        rw [ey] at lyy
        exact ev_oT (ev_tst (ev_op (h1 := .slot 7) (h2 := .slot 2) (x := .str y) (y := .dct l') rfl rfl rfl rfl (ninS_ok (b := false) (by rw [lyy]; rfl))))
      | some tb =>
        rw [ey] at lyy
        refine ev_oF (ev_tst (ev_op (h1 := .slot 7) (h2 := .slot 2) (x := .str y) (y := .dct l') rfl rfl rfl rfl (ninS_ok (b := true) (by rw [lyy]; rfl)))) ?_
        refine ev_tst (ev_op (h1 := .dat (.int (ta + g))) (h2 := .dat (.int tb)) (x := .int (ta + g)) (y := .int tb) (ev_op (h1 := .dat (.int ta)) (h2 := .slot 5) (x := .int ta) (y := .int g) (ev_op (h1 := .slot 2) (h2 := .slot 6) (x := .dct l') (y := .str x) rfl rfl rfl rfl (ixS_ok lx)) rfl rfl rfl rfl) (ev_op (h1 := .slot 2) (h2 := .slot 7) (x := .dct l') (y := .str y) rfl rfl rfl rfl (ixS_ok lyy)) rfl rfl ?_)
        show some (D.bl (decide (tb < ta + g))) = _
        rw [decide_eq_true (h tb ey)]
    by_cases c : ∃ ta, T' x = some ta ∧ ∀ tb, T' y = some tb → tb < ta + g
    · obtain ⟨ta, ex, h⟩ := c
      have lx' := hl x
      rw [ex] at lx'
      apply w_if (b := true)
      · exact go ta ex h
      · intro _
        refine w_seq ?_; apply w_stD (d := .int (ta + g)) (x := .str y) (y := .dct l') (z := .dct (putD l' (.inr y) (.int (ta + g))))
        · exact ev_op (h1 := .dat (.int ta)) (h2 := .slot 5) (x := .int ta) (y := .int g) (ev_op (h1 := .slot 2) (h2 := .slot 6) (x := .dct l') (y := .str x) rfl rfl rfl rfl (ixS_ok lx')) rfl rfl rfl rfl
        · rfl
        · rfl
        · rfl
        · rfl
        · rfl
        · exact putS_ok (by omega)
        refine w_seq ?_; apply w_stD (d := .str x) (x := .str y) (y := .dct q') (z := .dct (putD q' (.inr y) (.str x)))
        · rfl
        · rfl
        · rfl
        · rfl
        · rfl
        · rfl
        · exact putS_ok (by omega)
        apply w_asg (d := .bl true)
        · rfl
        · rfl
        have c1 := put_len l' (.inr y) (.int (ta + g))
        have c2 := put_len q' (.inr y) (.str x)
        exact ⟨.inl rfl, _, _, _, _, _, _, _, _, rfl, hl.put y (ta + g), hq.put y x, by omega, by omega, R.step C cl mE ex h⟩
      · intro q; cases q
    · have c : ∀ ta, T' x = some ta → ∃ tb, T' y = some tb ∧ ta + g ≤ tb := fun ta e => by
        cases ey : T' y with
        | none => exact absurd ⟨ta, e, fun tb z => by rw [ey] at z; cases z⟩ c
        | some tb =>
          by_cases z : ta + g ≤ tb
          · exact ⟨tb, rfl, z⟩
          · exact absurd ⟨ta, e, fun tb' z' => by rw [ey] at z'; cases z'; omega⟩ c
      apply w_if (b := false)
      · exact skip c
      · intro q; cases q
      · intro _
        refine w_nx ?_
        exact ⟨.inl rfl, l', q', T', p', fl', _, _, _, rfl, hl, hq, by omega, by omega, R.skip c⟩
  · rintro _ ⟨l', q', T', p', fl', s5, s6, s7, rfl, hl, hq, n1, n2, R⟩
    exact k l' q' T' p' fl' s5 s6 s7 hl hq (by omega) (by omega) R
theorem longest_g {nodes : List Str} {E : List Row} {f : Str → Str → Int} (C : Clo nodes E f) (h1 : ∀ v ∈ nodes, v ≠ "" → ∃ g, (v, ("" : Str), g) ∈ E) (h2 : ∀ v ∈ nodes, v ≠ "" → ∃ g, (("" : Str), v, g) ∈ E) {n : Nat} (hn : nodes.length = n + 1) (hn1 : n ≤ 100) (hE : E.length ≤ 1000) {a : Str} (ha : a ∈ nodes) (fa : 0 ≤ f a a) :
    ∃ l q T p, g_longest_chains [.val (.dcT (E.map gJ)), .val (.str a)] = .ok ⟨false, .tup [.dct l, .dct q], []⟩ ∧ RT .int l T ∧ RT .str q p ∧ Bf nodes E f a T p ∧ ∀ x y g tx, (x, y, g) ∈ E → T x = some tx → ∃ ty, T y = some ty ∧ tx + g ≤ ty := by
  have key : ∃ z, g_longest_chains [.val (.dcT (E.map gJ)), .val (.str a)] = .ok z ∧ ∃ l q T p, z = ⟨false, .tup [.dct l, .dct q], []⟩ ∧ RT .int l T ∧ RT .str q p ∧ Bf nodes E f a T p ∧ ∀ x y g tx, (x, y, g) ∈ E → T x = some tx → ∃ ty, T y = some ty ∧ tx + g ≤ ty := by
    refine run_def rfl ?_
    unfold b_longest_chains
    walk_at "nrm"
    refine w_seq ?_; apply w_setO (d := .dct [(.inr a, .int 0)])
    · rfl
    walk_at "nrm"
    refine w_seq ?_; apply w_setO (d := .dct [])
    · rfl
    walk_at "nrm"
    refine w_seq ?_; apply w_asg (d := .bl true)
    · rfl
    · rfl
    walk_at "nrm"
    have B0 : Bf nodes E f a (updO (fun _ => none) a 0) (fun _ => none) := by
      refine ⟨updO_at .., rfl, fun v t e => ?_, (fun v u e => by cases e), fun v t e ne => ?_, fun v h => ?_⟩
      · by_cases q : a = v
        · subst q; rw [updO_at] at e; cases e; exact ⟨ha, fa⟩
        · rw [updO_ne _ _ q] at e; cases e
      · by_cases q : a = v
        · exact absurd q.symm ne
        · rw [updO_ne _ _ q] at e; cases e
      · cases h with
        | one e => cases e
        | more e _ => cases e
    have T0 : RT .int [(.inr a, .int 0)] (updO (fun _ => none) a 0) := by
      intro v
      rw [look_cons, look_nil]
      unfold updO
      by_cases q : a = v
      · rw [if_pos (by rw [q]), if_pos q]; rfl
      · rw [if_neg (by intro z; injection z with z; exact q z), if_neg q]; rfl
    refine w_seq ?_
    refine w_while (fun i e => ∃ l q T p fl s5 s6 s7, e = lcE E a l q fl s5 s6 s7 ∧ RT .int l T ∧ RT .str q p ∧ l.length ≤ 1 + 1000 * i ∧ q.length ≤ 1 + 1000 * i ∧ Lc nodes E f a "" n i T p fl) (n + 3) 100000 (by omega) ⟨_, _, _, _, true, _, _, _, rfl, T0, fun v => rfl, Nat.le_refl _, Nat.zero_le _, Lc.start B0⟩ ?_
    rintro i _ hi ⟨l, q, T, p, fl, s5, s6, s7, rfl, hl, hq, n1, n2, L⟩
    refine ⟨fl, lcE E a l q fl s5 s6 s7, rfl, fun et => ⟨L.nx et, ?_⟩, fun ef => ?_⟩
    · refine w_seq ?_; apply w_asg (d := .bl false)
      · rfl
      · rfl
      obtain ⟨cap, cl, hc, nxt⟩ := L.next C hn h1 h2
      refine round_g C cl L.bf hc hl hq (N := 1 + 1000 * (i + 1)) (by omega) (by omega) (by omega) fun l' q' T' p' fl' s5 s6 s7 hl' hq' n1' n2' R => ?_
      refine ⟨.inl rfl, l', q', T', p', fl', _, _, _, rfl, hl', hq', by omega, by omega, nxt _ _ _ R⟩
    · apply w_retV (d := .tup [.dct l, .dct q]) (h := .dat (.tup [.dct l, .dct q]))
      · exact ev_tup (hs := [.slot 2, .slot 3]) rfl rfl (by decide : (2 : Nat) ≤ sizeLine)
      · rfl
      · exact ⟨_, rfl, _, rfl, l, q, T, p, rfl, hl, hq, L.bf, L.cl ef⟩
  obtain ⟨z, e, l, q, T, p, rfl, r⟩ := key
  exact ⟨l, q, T, p, e, r⟩
structure PlanOk (wide : Int) (st : Tm) (S : List Row) (f : Str → Str → Int) : Prop where
  w : 0 ≤ wide ∧ wide ≤ 1000000
  t : TmOk st wide
  s : ∀ r ∈ S, r.1 ∈ nds (st.map (·.1)) ∧ r.2.1 ∈ nds (st.map (·.1))
  len : S.length ≤ 300
  F : FarOk (nds (st.map (·.1))) wide S f
section
variable {wide : Int} {st : Tm} {S : List Row} {f : Str → Str → Int}
theorem PlanOk.bnd (P : PlanOk wide st S f) : Bnd (st.map (·.1)) wide S f := (far_bnd P.w.1 P.F P.s).1
theorem PlanOk.dg0 (P : PlanOk wide st S f) {a : Str} (ha : a ∈ nds (st.map (·.1))) : f a a = 0 := by
  have h1 := P.F.ini a ha a ha
  rw [ini_eq, if_pos (.inr rfl)] at h1
  have h2 := P.F.dg a ha
  omega
theorem PlanOk.tri (P : PlanOk wide st S f) {a b c : Str} (ha : a ∈ nds (st.map (·.1))) (hb : b ∈ nds (st.map (·.1))) (hc : c ∈ nds (st.map (·.1))) : f a b + f b c ≤ f a c := P.F.tri b hb a ha c hc
theorem PlanOk.sz (P : PlanOk wide st S f) {a b : Str} (ha : a ∈ nds (st.map (·.1))) (hb : b ∈ nds (st.map (·.1))) : -wide ≤ f a b ∧ f a b ≤ wide := by
  have lo : ∀ x ∈ nds (st.map (·.1)), ∀ y ∈ nds (st.map (·.1)), -wide ≤ f x y := fun x hx y hy => by
    have h1 := P.F.ini x hx y hy
    have := P.w.1
    rw [ini_eq] at h1
    split at h1 <;> omega
  have := lo a ha b hb
  have := lo b hb a ha
  have := P.tri ha hb ha
  have := P.dg0 ha
  omega
theorem PlanOk.clo (P : PlanOk wide st S f) {E : List Row} (G : GapE (sortStr (st.map (·.1))) wide S E) : Clo (nds (st.map (·.1))) E f := by
  refine ⟨fun a b g m => ?_, P.F.dg, fun a ha b hb c hc => P.tri ha hb hc⟩
  have B := P.bnd
  obtain ⟨h1, h2, h3⟩ := G.ok (f := f) ⟨fun b hb => B.z b ((srt_mem _ _).mp hb), fun b hb => B.w b ((srt_mem _ _).mp hb), fun r hr => ⟨(srt_nds _ _).mpr (P.s r hr).1, (srt_nds _ _).mpr (P.s r hr).2, P.F.lag r hr⟩⟩ _ m
  exact ⟨(srt_nds _ _).mp h1, (srt_nds _ _).mp h2, h3⟩
theorem gapsof_g (P : PlanOk wide st S f) : ∃ E, g_gaps_of [.val (planD wide st S)] = .ok ⟨true, .dcT (E.map gJ), []⟩ ∧ GapE (sortStr (st.map (·.1))) wide S E ∧ E.length ≤ 1000 := by
  have tl := P.t.len
  obtain ⟨E, hg, G, le⟩ := gaps_g (td := .dct (tsD st)) (ld := .tup (S.map rowD)) P.w.1 (srt_nds_nd P.t.nds) (iter_ts st) rfl (by rw [srt_len, List.length_map]; omega) P.len
  refine ⟨E, run_eq (run_def rfl ?_), G, le⟩
  unfold b_gaps_of
  walk_at "nrm"
  apply w_retO (d := .dcT (E.map gJ))
  · apply ev_userO (z := ⟨true, .dcT (E.map gJ), []⟩) (as := [.val (.int wide), .val (.dct (tsD st)), .val (.tup (S.map rowD))])
    · apply ev_cons
      · exact ev_fld (h := .slot 0) (fs := [("horizon", .int wide), ("_times", .dct (tsD st)), ("_lags", .tup (S.map rowD))]) rfl rfl rfl
      · apply ev_cons
        · apply ev_user (z := ⟨true, .dct (tsD st), []⟩)
          · exact ev_recv (h := .slot 0) (fs := [("horizon", .int wide), ("_times", .dct (tsD st)), ("_lags", .tup (S.map rowD))]) rfl rfl rfl rfl
          · rfl
          · rfl
          · exact times_p wide st S
          · rfl
        · apply ev_cons
          · apply ev_user (z := ⟨false, .tup (S.map rowD), []⟩)
            · exact ev_recv (h := .slot 0) (fs := [("horizon", .int wide), ("_times", .dct (tsD st)), ("_lags", .tup (S.map rowD))]) rfl rfl rfl rfl
            · rfl
            · rfl
            · exact lags_p wide st S
            · rfl
          · rfl
    · rfl
    · rfl
    · exact hg
    · rfl
    · rfl
  · exact ⟨_, rfl, _, rfl, rfl⟩
/-- settled totals are the distances -/
theorem PlanOk.tot (P : PlanOk wide st S f) {E : List Row} (G : GapE (sortStr (st.map (·.1))) wide S E) {a : Str} (ha : a ∈ nds (st.map (·.1))) {T : Str → Option Int} {p : Str → Option Str} (B : Bf (nds (st.map (·.1))) E f a T p)
    (cl : ∀ x y g tx, (x, y, g) ∈ E → T x = some tx → ∃ ty, T y = some ty ∧ tx + g ≤ ty) : ∀ v ∈ nds (st.map (·.1)), T v = some (f a v) := by
  have to0 : ∀ v ∈ st.map (·.1), ∃ g, -wide ≤ g ∧ (v, ("" : Str), g) ∈ E := fun v hv => G.all (v, "", -wide) (.inl (mem_imp.mpr ⟨v, (srt_mem _ _).mpr hv, .inr rfl⟩))
  have of0 : ∀ v ∈ st.map (·.1), ∃ g, 0 ≤ g ∧ (("" : Str), v, g) ∈ E := fun v hv => G.all ("", v, 0) (.inl (mem_imp.mpr ⟨v, (srt_mem _ _).mpr hv, .inl rfl⟩))
  have r0 : ∃ t, T "" = some t := by
    rcases List.mem_cons.mp ha with rfl | h
    · exact ⟨0, B.s0⟩
    · obtain ⟨g, _, m⟩ := to0 a h
      obtain ⟨t, e, _⟩ := cl _ _ _ _ m B.s0
      exact ⟨t, e⟩
  obtain ⟨t0, e0⟩ := r0
  have rc : ∀ v ∈ nds (st.map (·.1)), ∃ t, T v = some t := fun v hv => by
    rcases List.mem_cons.mp hv with rfl | h
    · exact ⟨t0, e0⟩
    · obtain ⟨g, _, m⟩ := of0 v h
      obtain ⟨t, e, _⟩ := cl _ _ _ _ m e0
      exact ⟨t, e⟩
  let R : Str → Int := fun v => (T v).getD 0
  have eR : ∀ v ∈ nds (st.map (·.1)), T v = some (R v) := fun v hv => by
    obtain ⟨t, e⟩ := rc v hv
    show T v = some ((T v).getD 0)
    rw [e]; rfl
  have m0 : ("" : Str) ∈ nds (st.map (·.1)) := List.mem_cons_self
  have ed : ∀ x ∈ nds (st.map (·.1)), ∀ y ∈ nds (st.map (·.1)), ∀ g, (x, y, g) ∈ E → R x + g ≤ R y := fun x hx y hy g m => by
    obtain ⟨ty, e, le⟩ := cl x y g (R x) m (eR x hx)
    rw [eR y hy] at e; cases e; exact le
  have up0 : ∀ y ∈ nds (st.map (·.1)), R "" ≤ R y := fun y hy => by
    rcases List.mem_cons.mp hy with rfl | h
    · exact Int.le_refl _
    · obtain ⟨g, le, m⟩ := of0 y h
      have := ed _ m0 y hy g m
      omega
  have dn0 : ∀ x ∈ nds (st.map (·.1)), R x - wide ≤ R "" := fun x hx => by
    rcases List.mem_cons.mp hx with rfl | h
    · have := P.w.1; omega
    · obtain ⟨g, le, m⟩ := to0 x h
      have := ed x hx _ m0 g m
      omega
  have ea : R a = 0 := by
    have := eR a ha
    rw [B.s0] at this; injection this with this; exact this.symm
  intro v hv
  have hi := (B.le v _ (eR v hv)).2
  have lo := P.F.lst (fun x y => R y - R x) (fun x hx y hy => by
    rw [ini_eq]
    have := up0 y hy
    have := dn0 x hx
    split
    · rename_i q
      rcases q with rfl | rfl
      · omega
      · omega
    · omega) (fun r hr => by
    obtain ⟨g, le, m⟩ := G.all r (.inr hr)
    have := ed _ (P.s r hr).1 _ (P.s r hr).2 g m
    omega) (fun b _ x _ y _ => by show R b - R x + (R y - R b) ≤ R y - R x; omega) a ha v hv
  have lo : f a v ≤ R v - R a := lo
  rw [eR v hv]
  congr 1
  omega
theorem PlanOk.long (P : PlanOk wide st S f) {E : List Row} (G : GapE (sortStr (st.map (·.1))) wide S E) (le : E.length ≤ 1000) {a : Str} (ha : a ∈ nds (st.map (·.1))) :
    ∃ l q p, g_longest_chains [.val (.dcT (E.map gJ)), .val (.str a)] = .ok ⟨false, .tup [.dct l, .dct q], []⟩ ∧ (∀ v ∈ nds (st.map (·.1)), look l (.inr v) = some (.int (f a v))) ∧ RT .str q p ∧
      (∀ v ∈ nds (st.map (·.1)), v ≠ a → ∃ u g, p v = some u ∧ u ∈ nds (st.map (·.1)) ∧ (u, v, g) ∈ E ∧ f a v = f a u + g) ∧ (∀ v, ¬ PR p v v) := by
  have C := P.clo G
  have tl := P.t.len
  have nz : ∀ v ∈ nds (st.map (·.1)), v ≠ "" → v ∈ st.map (·.1) := fun v hv ne => (List.mem_cons.mp hv).resolve_left ne
  obtain ⟨l, q, T, p, e, h1, h2, B, cl⟩ := longest_g C (fun v hv ne => by
    obtain ⟨g, _, m⟩ := G.all (v, "", -wide) (.inl (mem_imp.mpr ⟨v, (srt_mem _ _).mpr (nz v hv ne), .inr rfl⟩))
    exact ⟨g, m⟩) (fun v hv ne => by
    obtain ⟨g, _, m⟩ := G.all ("", v, 0) (.inl (mem_imp.mpr ⟨v, (srt_mem _ _).mpr (nz v hv ne), .inl rfl⟩))
    exact ⟨g, m⟩) (n := st.length) (by rw [List.length_cons, List.length_map]) (by omega) le ha (by rw [P.dg0 ha]; exact Int.le_refl _)
  have tot := P.tot G ha B cl
  refine ⟨l, q, p, e, fun v hv => by rw [h1 v, tot v hv]; rfl, h2, fun v hv ne => ?_, B.ac⟩
  obtain ⟨u, g, tu, e1, m, e2, e3⟩ := B.tight cl (tot v hv) ne
  have hu := (C.ed _ _ _ m).1
  rw [tot u hu] at e2; cases e2
  exact ⟨u, g, e1, hu, m, e3⟩
end
section
variable {e e0 e1 : En} {fa fb fc f fo fd fk fx : En → Rs (Hd × En)} {x y z d : D} {gl : En → Rs (List Hd × En)} {ds : List D} {i : Nat} {b b2 : Bool} {o1 o2 : D → D → Option D} {ms : List Bool}
def Evd (f : En → Rs (Hd × En)) (e : En) (d : D) : Prop := f e = .ok (.dat d, e)
def Evg (f : En → Rs (Hd × En)) (e : En) (d : D) : Prop := ∃ h, f e = .ok (h, e) ∧ h.get e = some d
def Ev (f : En → Rs (Hd × En)) (e : En) (d : D) : Prop := ∃ h, f e = .ok (h, e) ∧ h.get e = some d ∧ h.esc e = .ok (d, e) ∧ lendH e h = false
def EvL (g : En → Rs (List Hd × En)) (e : En) (ds : List D) : Prop := ∃ hs, g e = .ok (hs, e) ∧ escs e hs = .ok (ds, e) ∧ gets e hs = some ds ∧ ∀ ms : List Bool, ms.length = ds.length → escM ms hs e = .ok (ds.map .inl, e)
def EvgL (g : En → Rs (List Hd × En)) (e : En) (ds : List D) : Prop := ∃ hs, g e = .ok (hs, e) ∧ gets e hs = some ds
def Evt (t : En → Rs (Bool × En)) (e : En) (b : Bool) : Prop := t e = .ok (b, e)
def EvI (fi : En → Rs IR) (e : En) (l : List D) (k : Bool) : Prop := fi e = .ok (l, k, e)
theorem Evd.g (h : Evd f e d) : Evg f e d := ⟨_, h, rfl⟩
theorem Evd.v (h : Evd f e d) : Ev f e d := ⟨_, h, rfl, rfl, rfl⟩
theorem Ev.g (h : Ev f e d) : Evg f e d := h.imp fun _ q => ⟨q.1, q.2.1⟩
theorem Ev.var (h : e[i]? = some (.val d)) : Ev (fVar i) e d := ⟨.slot i, by simp only [fVar, h], by simp only [Hd.get, h, Option.bind_some, Sl.get], by simp only [Hd.esc, h], by simp only [lendH, rootD, h]; rfl⟩
theorem Evg.val (h : e[i]? = some (.val d)) : Evg (fVar i) e d := (Ev.var h).g
theorem Evg.own (h : e[i]? = some (.own d)) : Evg (fVar i) e d := ⟨.slot i, by simp only [fVar, h], by simp only [Hd.get, h, Option.bind_some, Sl.get]⟩
theorem Evg.io {k : Nat} (h : e[i]? = some (.io k d)) : Evg (fVar i) e d := ⟨.slot i, by simp only [fVar, h], by simp only [Hd.get, h, Option.bind_some, Sl.get]⟩
theorem Evd.c : Evd (fC d) e d := rfl
theorem Evd.op (a : Evg fa e x) (b' : Evg fb e y) (o : o1 x y = some d) : Evd (fOp o1 fa fb) e d := by
  obtain ⟨h1, a1, a2⟩ := a
  obtain ⟨h2, b1, b2⟩ := b'
  exact ev_op a1 b1 a2 b2 o
theorem Evd.chain (a : Evg fa e x) (b' : Evg fb e y) (c' : Evg fc e z) (o : o1 x y = some (.bl b)) (o' : o2 y z = some (.bl b2)) : Evd (fChain o1 o2 fa fb fc) e (.bl (b && b2)) := by
  obtain ⟨h1, a1, a2⟩ := a
  obtain ⟨h2, b1, b2⟩ := b'
  obtain ⟨h3, c1, c2⟩ := c'
  exact ev_ch a1 b1 a2 b2 o c1 c2 o'
theorem Evd.neg {n : Int} (a : Evg f e (.int n)) : Evd (fNeg f) e (.int (-n)) := by
  obtain ⟨h, a1, a2⟩ := a
  exact ev_neg a1 a2
theorem Evd.keep {f : En → Rs (D × En)} (a : f e = .ok (d, e)) : Evd (fKeep f) e d := ev_keep a
theorem EvL.nil : EvL fNil e [] := ⟨[], rfl, rfl, rfl, fun ms h => by cases ms with | nil => rfl | cons _ _ => cases h⟩
theorem EvL.cons (a : Ev f e d) (k : EvL gl e ds) : EvL (fCons f gl) e (d :: ds) := by
  obtain ⟨h, a1, a2, a3, a4⟩ := a
  obtain ⟨hs, k1, k2, k3, k4⟩ := k
  refine ⟨h :: hs, ev_cons a1 k1, ?_, by unfold gets; rw [a2, k3]; rfl, fun ms hm => ?_⟩
  · show (h.esc e >>= fun r => escs r.2 hs >>= fun q => .ok (r.1 :: q.1, q.2)) = _
    simp only [a3, Rs.ok_bind, k2]
  · cases ms with
    | nil => cases hm
    | cons m ms =>
      exact em_no (by rw [a4, Bool.and_false]) a3 (k4 ms (by simpa using hm))
theorem EvgL.nil : EvgL fNil e [] := ⟨[], rfl, rfl⟩
theorem EvgL.cons (a : Evg f e d) (k : EvgL gl e ds) : EvgL (fCons f gl) e (d :: ds) := by
  obtain ⟨h, a1, a2⟩ := a
  obtain ⟨hs, k1, k2⟩ := k
  exact ⟨h :: hs, ev_cons a1 k1, by unfold gets; rw [a2, k2]; rfl⟩
theorem Evd.call {o : List D → Option D} (a : EvgL gl e ds) (q : o ds = some d) : Evd (fCall o gl) e d := by
  obtain ⟨hs, a1, a2⟩ := a
  exact ev_call a1 a2 q
theorem Evk.callO {o : List D → Option D} (a : EvgL gl e ds) (q : o ds = some d) : fCallO o gl e = .ok (d, e) := by
  obtain ⟨hs, a1, a2⟩ := a
  exact ev_callO a1 a2 q
theorem Evd.tup (a : EvL gl e ds) (q : ds.length ≤ sizeLine) : Evd (fTup gl) e (.tup ds) := by
  obtain ⟨hs, a1, a2, _, _⟩ := a
  exact ev_tup a1 a2 q
theorem Evk.lst (a : EvL gl e ds) (q : ds.length ≤ sizeLine) : fLst gl e = .ok (.lst ds, e) := by
  obtain ⟨hs, a1, a2, _, _⟩ := a
  exact ev_lst a1 a2 q
theorem readM_vals (e : En) : ∀ ds : List D, readM e (ds.map .inl) = some (ds.map .val, [])
  | [] => rfl
  | d :: ds => by rw [List.map_cons, readM, readM_vals e ds]; rfl
theorem Evd.user {u : List Ar → Rs Rz} {w : Bool} (a : EvL gl e ds) (hm : ms.length = ds.length) (k : u (ds.map .val) = .ok ⟨w, d, []⟩) : Evd (fUser ms u gl) e d := by
  obtain ⟨hs, a1, _, _, a4⟩ := a
  exact ev_user a1 (a4 ms hm) (readM_vals e ds) k (by unfold putM; rfl)
theorem EvL.recv {cl m : Str} {fs : List (Str × D)} {fA : En → Rs (List Hd × En)} (a : Ev f e (.obj cl fs)) (q : fs.lookup m = none) (k : EvL fA e ds) : EvL (fRecv cl m f fA) e (.obj cl fs :: ds) := by
  obtain ⟨h, a1, a2, a3, a4⟩ := a
  obtain ⟨hs, k1, k2, k3, k4⟩ := k
  refine ⟨h :: hs, ev_recv a1 a2 q k1, ?_, by unfold gets; rw [a2, k3]; rfl, fun ms hm => ?_⟩
  · show (h.esc e >>= fun r => escs r.2 hs >>= fun q => .ok (r.1 :: q.1, q.2)) = _
    simp only [a3, Rs.ok_bind, k2]
  · cases ms with
    | nil => cases hm
    | cons m ms => exact em_no (by rw [a4, Bool.and_false]) a3 (k4 ms (by simpa using hm))
theorem Evd.fld {cl fl : Str} {fs : List (Str × D)} (a : Evg f e (.obj cl fs)) (q : fs.lookup fl = some d) : Evd (fFld cl fl f) e d := by
  obtain ⟨h, a1, a2⟩ := a
  exact ev_fld a1 a2 q
theorem Evd.getS {l : List (Key × D)} (a : Evg fd e (.dct l)) (c : Evg fk e y) (k : Evg fx e z) (o : dLook (.dct l) y = some (some d)) : Evd (fGet fd fk fx) e d := by
  obtain ⟨h1, a1, a2⟩ := a
  obtain ⟨h2, c1, c2⟩ := c
  obtain ⟨h3, k1, k2⟩ := k
  exact ev_getS a1 a2 c1 k1 a2 c2 o
theorem Evp.some {n : Int} (a : Evg f e (.int n)) : fPt (some f) e = .ok (some n, e) := by
  obtain ⟨h, a1, a2⟩ := a
  exact ev_pt a1 a2
theorem Evd.isi {T : String} (a : Evg f e d) (q : (d.tyn.bind fun t => kitB t T) = some b) : Evd (fIsi T f) e (.bl b) := by
  obtain ⟨h, a1, a2⟩ := a
  exact ev_isi a1 a2 q
theorem Evd.isi2 {S T : String} (a : Evg f e d) (q : (d.tyn.bind fun t => kitB t S) = some b) (r : (d.tyn.bind fun t => kitB t T) = some b2) : Evd (fIsi2 S T f) e (.bl (b || b2)) := by
  obtain ⟨h, a1, a2⟩ := a
  exact ev_isi2 a1 a2 q r
theorem Evd.tss (a : Evg f e x) (q : dTss x = some d) : Evd (fTss f) e d := by
  obtain ⟨h, a1, a2⟩ := a
  exact ev_tss a1 a2 q
theorem Evd.ss (a : Evg f e x) (q : dSs x = some d) : Evd (fSs f) e d := by
  obtain ⟨h, a1, a2⟩ := a
  exact ev_ss a1 a2 q
theorem Evd.and2 (a : Evd fa e (.bl b)) (k : Evd fb e (.bl b2)) : Evd (fAndV fa fb) e (.bl (b && b2)) := by
  cases b with
  | true => exact ev_aVT a k
  | false => exact ev_aVF a
theorem Evd.or2 (a : Evd fa e (.bl b)) (k : Evd fb e (.bl b2)) : Evd (fOrV fa fb) e (.bl (b || b2)) := by
  cases b with
  | true => exact ev_oVT a
  | false => exact ev_oVF a k
theorem Evt.tst (a : Evd f e (.bl b)) : Evt (fTst f) e b := ev_tst a
theorem Evt.tru (a : Evg f e d) (q : dTru d = some b) : Evt (fTru f) e b := by
  obtain ⟨h, a1, a2⟩ := a
  exact ev_tru a1 a2 q
theorem Evt.no {t : En → Rs (Bool × En)} (a : Evt t e b) : Evt (fNotT t) e (!b) := ev_notT a
theorem Evt.and2 {t u : En → Rs (Bool × En)} (p : Evt t e b) (q : Evt u e b2) : Evt (fAnd t u) e (b && b2) := ev_and p q
theorem Evt.or2 {t u : En → Rs (Bool × En)} (p : Evt t e b) (q : Evt u e b2) : Evt (fOr t u) e (b || b2) := ev_or p q
theorem Evt.yes : Evt fYes e true := rfl
theorem EvI.it {l : List D} {k : Bool} (a : Ev f e d) (q : dIter d = some (l, k)) : EvI (fIter f) e l k := by
  obtain ⟨h, a1, _, a3, _⟩ := a
  exact ev_iter a1 a3 q
theorem EvI.items {l : List D} (a : Ev f e d) (q : dItems d = some l) : EvI (fItms f) e l true := by
  obtain ⟨h, a1, _, a3, _⟩ := a
  exact ev_items a1 a3 q
theorem EvI.rng {j : Int} (a : EvgL gl e [.int j]) (q : -(2 ^ 62) ≤ j ∧ j < 2 ^ 62) : EvI (fRng1 gl) e ((List.range j.toNat).map fun (i : Nat) => .int i) false := by
  obtain ⟨hs, a1, a2⟩ := a
  exact ev_rng1 a1 a2 q
/-- a pure comprehension -/
theorem Evk.comp {α : Type} {fi : En → Rs IR} {gt : D → En → Option En} {ft : En → Rs (Bool × En)} {fe : En → Rs (Hd × En)} {vs : List Nat} {k : Bool} (J F : α → D) (p : α → Bool) (xs : List α) (a : EvI fi e (xs.map J) k) (hp : plainS e vs = true) (hw : wipeE e vs = e0) (hb : back e e0 vs = e) (len : xs.length ≤ 1000)
    (st : ∀ x ∈ xs, ∃ e', gt (J x) e0 = some e' ∧ Evt ft e' (p x) ∧ wipeE e' vs = e0 ∧ (p x = true → Ev fe e' (F x))) : fComp fi gt ft fe vs e = .ok (.lst ((xs.filter p).map F), e) := by
  refine ev_comp' (e0 := e) a hp ?_ (by rw [hw]; exact hb)
  rw [hw]
  have := cl_filt p J F (gt := gt) (ft := ft) (fe := fe) (vs := vs) e0 xs [] (by simpa using len) fun x mx => by
    obtain ⟨e', g1, g2, g3, g4⟩ := st x mx
    refine ⟨e', e', g1, g2, fun _ => g3, fun q => ?_⟩
    obtain ⟨h, a1, _, a3, _⟩ := g4 q
    exact ⟨h, e', e', a1, a3, g3⟩
  rw [List.nil_append] at this
  exact this
theorem Evk.map {α : Type} {fi : En → Rs IR} {gt : D → En → Option En} {fe : En → Rs (Hd × En)} {vs : List Nat} {k : Bool} (J F : α → D) (xs : List α) (a : EvI fi e (xs.map J) k) (hp : plainS e vs = true) (hw : wipeE e vs = e0) (hb : back e e0 vs = e) (len : xs.length ≤ 1000)
    (st : ∀ x ∈ xs, ∃ e', gt (J x) e0 = some e' ∧ wipeE e' vs = e0 ∧ Ev fe e' (F x)) : fComp fi gt fYes fe vs e = .ok (.lst (xs.map F), e) := by
  have := Evk.comp (ft := fYes) J F (fun _ => true) xs a hp hw hb len fun x mx => by
    obtain ⟨e', g1, g2, g3⟩ := st x mx
    exact ⟨e', g1, rfl, g2, fun _ => g3⟩
  rwa [List.filter_eq_self.mpr (fun _ _ => rfl)] at this
variable {P : Fl × En → Prop} {Z : Str → List (Str × D) → En → Prop} {s t : En → Rs (Fl × En)} {cc : En → Rs (Bool × En)}
theorem x_ret (a : Ev f e d) (k : P (.rt d, e)) : Wq (fRet f e) P Z := by
  obtain ⟨h, a1, _, a3, _⟩ := a
  exact w_retV a1 a3 k
theorem x_stD {fv fj : En → Rs (Hd × En)} (a : Ev fv e d) (v : ∃ h, fVar i e = .ok (h, e)) (c : Evg fj e x) (r : rootD e i = some y) (o : dPutD y x d = some z) (k : P (.nx, setRoot e i z)) : Wq (fStD i fj fv e) P Z := by
  obtain ⟨h, a1, _, a3, _⟩ := a
  obtain ⟨h2, c1, c2⟩ := c
  obtain ⟨h3, v1⟩ := v
  have v1' : fVar i e = .ok (h3, e) := v1
  exact w_stD a1 a3 v1' c1 c2 r o k
theorem x_app {l : List D} (a : Ev f e d) (r : rootD e i = some (.lst l)) (q : l.length < sizeLine) (k : P (.nx, setRoot e i (.lst (l ++ [d])))) : Wq (fDrop (fApp i f) e) P Z := by
  obtain ⟨h, a1, _, a3, _⟩ := a
  have : fApp i f e = .ok (.dat .non, setRoot e i (.lst (l ++ [d]))) := by
    unfold fApp
    rw [r]
    simp only [a1, a3, r, Rs.ok_bind, if_pos q]
  exact w_drop this k
theorem x_for {α : Type} {fi : En → Rs IR} {gt : D → En → Option En} {k : Bool} (J : α → D) (xs : List α) (I : List α → En → Prop) (a : EvI fi e (xs.map J) k) (z : I [] e)
    (st : ∀ ys x zs e, xs = ys ++ x :: zs → I ys e → ∃ e', gt (J x) e = some e' ∧ Wq (s e') (fun r => (r.1 = .nx ∨ r.1 = .ct) ∧ I (ys ++ [x]) r.2) (fun _ _ _ => False)) (fin : ∀ e, I xs e → P (.nx, e)) : Wq (fFor fi gt s e) P Z := w_forP J xs I a z st fin
end
local macro_rules | `(tactic| walk_at "pu") => `(tactic| (repeat' first | (with_reducible assumption) | (with_reducible exact Ev.var rfl) | (with_reducible exact Evg.val rfl) | (with_reducible exact Evg.own rfl) | (with_reducible exact Evg.io rfl) | (with_reducible exact Evd.c) | (with_reducible exact Evd.v Evd.c) | (with_reducible exact Evd.g Evd.c) | (with_reducible exact EvL.nil) | (with_reducible exact EvgL.nil) | (with_reducible apply EvL.cons) | (with_reducible apply EvgL.cons) | (with_reducible apply Evt.tst) | (with_reducible apply Evt.no) | (with_reducible apply EvL.recv) | (with_reducible apply Evd.op) | (with_reducible apply Evd.v; with_reducible apply Evd.op) | (with_reducible apply Evd.g; with_reducible apply Evd.op) | (with_reducible apply Evd.neg) | (with_reducible apply Evd.v; with_reducible apply Evd.neg) | (with_reducible apply Evd.g; with_reducible apply Evd.neg) | (with_reducible apply Evd.call) | (with_reducible apply Evd.v; with_reducible apply Evd.call) | (with_reducible apply Evd.g; with_reducible apply Evd.call) | (with_reducible apply Evd.tup) | (with_reducible apply Evd.v; with_reducible apply Evd.tup) | (with_reducible apply Evd.g; with_reducible apply Evd.tup) | (with_reducible apply Evd.fld) | (with_reducible apply Evd.v; with_reducible apply Evd.fld) | (with_reducible apply Evd.g; with_reducible apply Evd.fld) | (with_reducible apply Evd.user) | (with_reducible apply Evd.v; with_reducible apply Evd.user) | (with_reducible apply Evd.g; with_reducible apply Evd.user) | (with_reducible apply EvI.it) | (with_reducible apply EvI.items) | (with_reducible apply Evt.tru) | (with_reducible apply Evt.and2) | (with_reducible apply Evt.or2) | (with_reducible apply Evd.chain) | (with_reducible apply Evd.v; with_reducible apply Evd.chain) | (with_reducible apply Evd.g; with_reducible apply Evd.chain) | (with_reducible apply Evd.isi) | (with_reducible apply Evd.v; with_reducible apply Evd.isi) | (with_reducible apply Evd.g; with_reducible apply Evd.isi) | (with_reducible apply Evd.isi2) | (with_reducible apply Evd.v; with_reducible apply Evd.isi2) | (with_reducible apply Evd.g; with_reducible apply Evd.isi2) | (with_reducible apply Evd.tss) | (with_reducible apply Evd.v; with_reducible apply Evd.tss) | (with_reducible apply Evd.g; with_reducible apply Evd.tss) | (with_reducible apply Evd.ss) | (with_reducible apply Evd.v; with_reducible apply Evd.ss) | (with_reducible apply Evd.g; with_reducible apply Evd.ss) | (with_reducible apply Evd.and2) | (with_reducible apply Evd.v; with_reducible apply Evd.and2) | (with_reducible apply Evd.g; with_reducible apply Evd.and2) | (with_reducible apply Evd.or2) | (with_reducible apply Evd.v; with_reducible apply Evd.or2) | (with_reducible apply Evd.g; with_reducible apply Evd.or2) | (with_reducible apply Evd.getS) | (with_reducible apply Evd.v; with_reducible apply Evd.getS) | (with_reducible apply Evd.g; with_reducible apply Evd.getS) | with_reducible rfl | rfl | (simp only [List.map_cons, List.map_nil]; with_reducible assumption) | exact Nat.zero_le _ | exact (by decide : (1 : Nat) ≤ sizeLine) | exact (by decide : (2 : Nat) ≤ sizeLine) | exact (by decide : (3 : Nat) ≤ sizeLine)))
section
variable {wide : Int} {st : Tm} {S : List Row} {f : Str → Str → Int}
abbrev srtN (st : Tm) : List Str := sortStr (st.map (·.1))
end
section
variable {e e1 e2 : En} {d d2 : D} {i j : Nat} {fa fb : En → Rs (D × En)} {g : En → Rs (List Hd × En)} {hs : List Hd} {P : Fl × En → Prop} {Z : Str → List (Str × D) → En → Prop}
theorem w_par (a : g e = .ok (hs, e1)) (b : escs e1 hs = .ok ([d, d2], e2)) (k : P (.nx, (e2.set i (.val d)).set j (.val d2))) : Wq (fPar i j g e) P Z := by
  refine ⟨?_⟩
  simp only [fPar, fItems, a, b, Rs.ok_bind]; exact k
theorem x_if1 {b : Bool} {s : En → Rs (Fl × En)} {cc : En → Rs (Bool × En)} (a : Evt cc e b) (k : b = true → Wq (s e) P Z) (l : b = false → P (.nx, e)) : Wq (fIfS cc s fNx e) P Z := w_if a k fun q => w_nx (l q)
end
section
variable {wide : Int} {st : Tm} {S : List Row} {f : Str → Str → Int}
abbrev nm (st : Tm) : List Str := st.map (·.1)
end
theorem w_if1F {e e1 : En} {P : Fl × En → Prop} {Z : Str → List (Str × D) → En → Prop} {s : En → Rs (Fl × En)} {c : En → Rs (Bool × En)} (a : c e = .ok (false, e1)) (k : P (.nx, e1)) : Wq (fIfS c s fNx e) P Z := w_if a (fun q => absurd q (by decide)) fun _ => w_nx k
local macro_rules | `(tactic| walk_at "go") => `(tactic| (repeat' first | with_reducible assumption | ((with_reducible show putM _ _ _ = _); walk_at "nrm"; first | done | rfl) | walk_at "ev" | with_reducible apply get_g | walk_at "lf"))
local macro_rules | `(tactic| walk_at "asg") => `(tactic| (apply w_asg; (· walk_at "go"); (· rfl); walk_at "nrm"))
local macro_rules | `(tactic| walk_at "asgG") => `(tactic| (apply w_asgG; (· walk_at "go"); (· rfl); (· rfl); walk_at "nrm"))
local macro_rules | `(tactic| walk_at "par") => `(tactic| (apply w_par; (· walk_at "go"); (· rfl); walk_at "nrm"))
local macro_rules | `(tactic| walk_at "setO") => `(tactic| (apply w_setO; (· walk_at "go"); walk_at "nrm"))
local macro_rules | `(tactic| walk_at "sasg") => `(tactic| (refine w_seq ?_; walk_at "asg"))
local macro_rules | `(tactic| walk_at "sasgG") => `(tactic| (refine w_seq ?_; walk_at "asgG"))
local macro_rules | `(tactic| walk_at "spar") => `(tactic| (refine w_seq ?_; walk_at "par"))
local macro_rules | `(tactic| walk_at "ssetO") => `(tactic| (refine w_seq ?_; walk_at "setO"))
theorem len_nodeD (xs : List Str) : dLenX [.lst (nodeD xs)] = some (.int xs.length) := by
  show some (D.int (nodeD xs).length) = _
  unfold nodeD; rw [List.length_map]
theorem pickN {k : Int} (hk : k ≤ 100000) {d : D} (hd : PenOk k d) {xs : List Str} (ne : 1 ≤ xs.length) (len : xs.length ≤ 1000) : ∃ (v : Int) (d' : D), g__law_draw [.io d, .val (.int xs.length)] = .ok ⟨false, .int v, [d']⟩ ∧ PenOk (k + 1) d' ∧ ∃ a ∈ xs, dIx (.lst (nodeD xs)) (.int v) = some (.str a) := by
  obtain ⟨v, d2, hv, v0, v1, p2⟩ := draw_g k d (xs.length : Int) hk (by omega) hd
  obtain ⟨x, mx, hx⟩ := atI_n (nodeD xs) v v0 (by unfold nodeD; rw [List.length_map]; exact v1)
  obtain ⟨a, ma, rfl⟩ := List.mem_map.mp mx
  exact ⟨v, d2, hv, p2, a, ma, hx⟩
theorem cat0 (ns : List Str) (h : ns.length ≤ 1000) : dAdd (.lst [.str ""]) (.lst (nodeD ns)) = some (.lst (nodeD (nds ns))) := by
  show (if 1 + (nodeD ns).length ≤ sizeLine then some (D.lst ([.str ""] ++ nodeD ns)) else none) = _
  rw [if_pos (by have : (2000000 : Nat) < sizeLine := by decide
                 unfold nodeD; rw [List.length_map]; omega)]
  rfl
theorem sortedTm {st : Tm} (h : st.length < 64) : dSortedD [tmD st] = some (.lst (nodeD (srtN st))) := by
  show (strKeys (st.map fun p => ((.inr p.1 : Key), D.int p.2))).bind (fun xs => if xs.length < 64 then some (D.lst ((sortStr xs).map .str)) else none) = _
  have : ∀ st : Tm, strKeys (st.map fun p => ((.inr p.1 : Key), D.int p.2)) = some (nm st) := by
    intro st
    induction st with
    | nil => rfl
    | cons p st ih => rw [List.map_cons, strKeys, ih]; rfl
  rw [this]
  show (if (nm st).length < 64 then some (D.lst ((sortStr (nm st)).map .str)) else none) = _
  rw [if_pos (by rw [List.length_map]; exact h)]
  rfl
theorem dNe_s (a b : Str) : dNe (.str a) (.str b) = some (.bl (!decide (a = b))) := rfl
structure Sm (d : D) (b k : Nat) : Prop where
  w : d.shw = true
  s : d.py.showable = true
  l : d.py.leavesShort 20 = true
  u : d.py.bulk ≤ b
  q : d.py.depth ≤ k
theorem Sm.mono {d : D} {b k b' k' : Nat} (h : Sm d b k) (hb : b ≤ b') (hk : k ≤ k') : Sm d b' k' := ⟨h.w, h.s, h.l, Nat.le_trans h.u hb, Nat.le_trans h.q hk⟩
theorem Sm.non : Sm .non 0 0 := ⟨rfl, rfl, rfl, Nat.le_refl _, Nat.le_refl _⟩
theorem Sm.bl (b : Bool) : Sm (.bl b) 0 0 := ⟨rfl, rfl, rfl, Nat.le_refl _, Nat.le_refl _⟩
theorem int_fact9 {n : Int} (h0 : -1000000000 < n) (h1 : n < 1000000000) : n.natAbs.log2 < 1920 ∧ (PyData.shown (.int n)).length ≤ 20 := by
  have l9 : n.natAbs < 10 ^ 9 := by omega
  refine ⟨?_, ?_⟩
  · rcases Nat.eq_zero_or_pos n.natAbs with z | z
    · rw [z]; decide
    · exact Nat.lt_of_lt_of_le ((Nat.log2_lt (k := 30) (by omega)).mpr (Nat.lt_of_lt_of_le l9 (by decide))) (by decide)
  · have e := int_text_length_le10 (k := 9) (by decide) l9
    have e2 := PySem.ofString_length (toString n)
    have e3 : PyData.shown (.int n) = Str.ofString (toString n) := rfl
    rw [e3]
    omega
theorem Sm.int {n : Int} (h0 : -1000000000 < n) (h1 : n < 1000000000) : Sm (.int n) 0 0 :=
  ⟨rfl, decide_eq_true (int_fact9 h0 h1).1, decide_eq_true (int_fact9 h0 h1).2, Nat.le_refl _, Nat.le_refl _⟩
theorem Sm.nm {a : Str} (h : Nm0 a) : Sm (.str a) 8 0 := ⟨rfl, rfl, (nm_fact a h).1, (nm_fact a h).2, Nat.le_refl _⟩
theorem Sm.all {b k : Nat} : ∀ {l : List D}, (∀ x ∈ l, Sm x b k) → D.shwA l = true ∧ PyData.showableAll (D.pys l) = true ∧ PyData.leavesShortAll 20 (D.pys l) = true ∧ PyData.bulkAll (D.pys l) ≤ (b + 1) * l.length ∧ PyData.depthAll (D.pys l) ≤ k
  | [], _ => ⟨rfl, rfl, rfl, Nat.zero_le _, Nat.zero_le _⟩
  | d :: l, h => by
    obtain ⟨i1, i2, i3, i4, i5⟩ := Sm.all (l := l) fun x m => h x (List.mem_cons_of_mem _ m)
    obtain ⟨a1, a2, a3, a4, a5⟩ := h d List.mem_cons_self
    refine ⟨?_, ?_, ?_, ?_, ?_⟩
    · show (d.shw && D.shwA l) = true
      rw [a1, i1]; rfl
    · show (d.py.showable && PyData.showableAll (D.pys l)) = true
      rw [a2, i2]; rfl
    · show (d.py.leavesShort 20 && PyData.leavesShortAll 20 (D.pys l)) = true
      rw [a3, i3]; rfl
    · show d.py.bulk + 1 + PyData.bulkAll (D.pys l) ≤ (b + 1) * (l.length + 1)
      rw [Nat.mul_add]; omega
    · show max d.py.depth (PyData.depthAll (D.pys l)) ≤ k
      omega
theorem Sm.tup {b k : Nat} {l : List D} (h : ∀ x ∈ l, Sm x b k) : Sm (.tup l) ((b + 1) * l.length) (k + 1) := by
  obtain ⟨i1, i2, i3, i4, i5⟩ := Sm.all h
  exact ⟨i1, i2, i3, i4, Nat.succ_le_succ i5⟩
theorem Sm.lst {b k : Nat} {l : List D} (h : ∀ x ∈ l, Sm x b k) : Sm (.lst l) ((b + 1) * l.length) (k + 1) := by
  obtain ⟨i1, i2, i3, i4, i5⟩ := Sm.all h
  exact ⟨i1, i2, i3, i4, Nat.succ_le_succ i5⟩
theorem Sm.kv {b k : Nat} : ∀ {l : List (Key × D)}, (∀ p ∈ l, (∃ a, p.1 = .inr a ∧ Nm0 a) ∧ Sm p.2 b k) → D.shwK l = true ∧ PyData.showableKv (D.pyk l) = true ∧ PyData.leavesShortKv 20 (D.pyk l) = true ∧ PyData.bulkKv (D.pyk l) ≤ (b + 10) * l.length ∧ PyData.depthKv (D.pyk l) ≤ k
  | [], _ => ⟨rfl, rfl, rfl, Nat.zero_le _, Nat.zero_le _⟩
  | (key, d) :: l, h => by
    obtain ⟨i1, i2, i3, i4, i5⟩ := Sm.kv (l := l) fun x m => h x (List.mem_cons_of_mem _ m)
    obtain ⟨⟨a, ea, na⟩, a1, a2, a3, a4, a5⟩ := h (key, d) List.mem_cons_self
    simp only at ea a1 a2 a3 a4 a5
    subst ea
    obtain ⟨n1, n2⟩ := nm_fact a na
    refine ⟨?_, ?_, ?_, ?_, ?_⟩
    · show (d.shw && D.shwK l) = true
      rw [a1, i1]; rfl
    · show (true && d.py.showable && PyData.showableKv (D.pyk l)) = true
      rw [a2, i2]; rfl
    · show ((PyData.str a).leavesShort 20 && d.py.leavesShort 20 && PyData.leavesShortKv 20 (D.pyk l)) = true
      rw [n1, a3, i3]; rfl
    · show a.cps.size + d.py.bulk + 2 + PyData.bulkKv (D.pyk l) ≤ (b + 10) * (l.length + 1)
      rw [Nat.mul_add]; omega
    · show max (max 0 d.py.depth) (PyData.depthKv (D.pyk l)) ≤ k
      omega
theorem Sm.dct {b k : Nat} {l : List (Key × D)} (h : ∀ p ∈ l, (∃ a, p.1 = .inr a ∧ Nm0 a) ∧ Sm p.2 b k) : Sm (.dct l) ((b + 10) * l.length) (k + 1) := by
  obtain ⟨i1, i2, i3, i4, i5⟩ := Sm.kv h
  exact ⟨i1, i2, i3, i4, Nat.succ_le_succ i5⟩
theorem Sm.names {ns : List Str} (h : ∀ a ∈ ns, Nm0 a) (len : ns.length ≤ 1000) : Sm (.tup (nodeD ns)) 9000 1 :=
  (Sm.tup (b := 8) (k := 0) fun x m => by
    obtain ⟨a, ma, rfl⟩ := List.mem_map.mp m
    exact Sm.nm (h a ma)).mono (by unfold nodeD; rw [List.length_map]; omega) (Nat.le_refl _)
theorem FarOk.mem {nodes : List Str} {wide : Int} {E S : List Row} {f : Str → Str → Int} (h : ∀ r, r ∈ S ↔ r ∈ E) (F : FarOk nodes wide E f) : FarOk nodes wide S f :=
  ⟨F.ini, fun r m => F.lag r ((h r).mp m), F.dg, F.tri, fun g i l t => F.lst g i (fun r m => l r ((h r).mpr m)) t⟩
theorem rk_inj {r s : Row} (h : rk r = rk s) : r = s := by
  obtain ⟨a, b, g⟩ := r
  obtain ⟨a', b', g'⟩ := s
  simp [rk] at h
  obtain ⟨rfl, rfl, rfl⟩ := h
  rfl
theorem srt2 (L : List Row) : ∃ S : List Row, sortLg (L.map rk) = S.map rk ∧ (∀ r, r ∈ S ↔ r ∈ L) ∧ S.length ≤ L.length := by
  obtain ⟨S, e, m, l⟩ := srt L
  refine ⟨S, e, fun r => ⟨m r, fun h => ?_⟩, l⟩
  have : rk r ∈ sortLg (L.map rk) := mem_sortLg.mpr (List.mem_map.mpr ⟨r, h, rfl⟩)
  rw [e] at this
  obtain ⟨r', m', e'⟩ := List.mem_map.mp this
  exact rk_inj e' ▸ m'
section
variable {n : Nat} {wide : Int} {st : Tm} {E S : List Row} {f : Str → Str → Int}
theorem PartOkN.plan (P : PartOkN n wide st E) (hn : n ≤ 25) (F : FarOk (nds (st.map (·.1))) wide E f) : ∃ S, sortLg (E.map rk) = S.map rk ∧ (∀ r, r ∈ S ↔ r ∈ E) ∧ PlanOk wide st S f ∧ mkD "Plan" g_Plan_____init__ [.val (.int wide), .val (tmD st), .val (.lst (E.map rowD))] = .ok ⟨true, planD wide st S, []⟩ := by
  obtain ⟨S, e, m, l⟩ := srt2 E
  have hp := plan_g P hn (L := []) (fun r m => absurd m List.not_mem_nil) (Nat.zero_le _) e
  rw [List.append_nil] at hp
  have := P.l
  exact ⟨S, e, m, ⟨P.w, P.t, fun r hr => ⟨(P.g.a r ((m r).mp hr)).1, (P.g.a r ((m r).mp hr)).2.1⟩, by omega, F.mem m⟩, hp⟩
end
mutual
def D.nb : D → Bool
  | .non => true
  | .int _ => true
  | .str _ => true
  | .lst l => D.nbA l
  | .tup l => D.nbA l
  | _ => false
def D.nbA : List D → Bool
  | [] => true
  | d :: l => d.nb && D.nbA l
end
mutual
theorem nb_seqs : ∀ d : D, d.nb = true → d.seqs = true
  | .non, _ => rfl
  | .int _, _ => rfl
  | .str _, _ => rfl
  | .lst l, h => nbA_seqs l h
  | .tup l, h => nbA_seqs l h
  | .bl _, h => by cases h
  | .dct _, h => by cases h
  | .dcT _, h => by cases h
  | .obj _ _, h => by cases h
  | .exc _ _, h => by cases h
  | .scr _, h => by cases h
  | .tup0, h => by cases h
theorem nbA_seqs : ∀ l : List D, D.nbA l = true → D.seqsA l = true
  | [], _ => rfl
  | d :: l, h => by
    have h : (d.nb && D.nbA l) = true := h
    rw [Bool.and_eq_true] at h
    show (d.seqs && D.seqsA l) = true
    rw [nb_seqs d h.1, nbA_seqs l h.2]; rfl
end
mutual
theorem eqv_iff : ∀ x y : D, x.nb = true → y.nb = true → (PyData.eqv x.py y.py = true ↔ x = y)
  | .non, .non, _, _ => ⟨fun _ => rfl, fun _ => rfl⟩
  | .non, .int _, _, _ => ⟨fun h => (by cases h), fun h => (by cases h)⟩
  | .non, .str _, _, _ => ⟨fun h => (by cases h), fun h => (by cases h)⟩
  | .non, .lst _, _, _ => ⟨fun h => (by cases h), fun h => (by cases h)⟩
  | .non, .tup _, _, _ => ⟨fun h => (by cases h), fun h => (by cases h)⟩
  | .int _, .non, _, _ => ⟨fun h => (by cases h), fun h => (by cases h)⟩
  | .int i, .int j, _, _ => ⟨fun h => by have h : (i == j) = true := h; rw [beq_iff_eq] at h; rw [h], fun h => by cases h; show (i == i) = true; exact beq_self_eq_true i⟩
  | .int _, .str _, _, _ => ⟨fun h => (by cases h), fun h => (by cases h)⟩
  | .int _, .lst _, _, _ => ⟨fun h => (by cases h), fun h => (by cases h)⟩
  | .int _, .tup _, _, _ => ⟨fun h => (by cases h), fun h => (by cases h)⟩
  | .str _, .non, _, _ => ⟨fun h => (by cases h), fun h => (by cases h)⟩
  | .str _, .int _, _, _ => ⟨fun h => (by cases h), fun h => (by cases h)⟩
  | .str i, .str j, _, _ => ⟨fun h => by have h : (i == j) = true := h; rw [beq_iff_eq] at h; rw [h], fun h => by cases h; show (i == i) = true; exact beq_self_eq_true i⟩
  | .str _, .lst _, _, _ => ⟨fun h => (by cases h), fun h => (by cases h)⟩
  | .str _, .tup _, _, _ => ⟨fun h => (by cases h), fun h => (by cases h)⟩
  | .lst _, .non, _, _ => ⟨fun h => (by cases h), fun h => (by cases h)⟩
  | .lst _, .int _, _, _ => ⟨fun h => (by cases h), fun h => (by cases h)⟩
  | .lst _, .str _, _, _ => ⟨fun h => (by cases h), fun h => (by cases h)⟩
  | .lst l, .lst m, h, k => by
    have := eqvA_iff l m h k
    exact ⟨fun q => by rw [this.mp q], fun q => this.mpr (by cases q; rfl)⟩
  | .lst _, .tup _, _, _ => ⟨fun h => (by cases h), fun h => (by cases h)⟩
  | .tup _, .non, _, _ => ⟨fun h => (by cases h), fun h => (by cases h)⟩
  | .tup _, .int _, _, _ => ⟨fun h => (by cases h), fun h => (by cases h)⟩
  | .tup _, .str _, _, _ => ⟨fun h => (by cases h), fun h => (by cases h)⟩
  | .tup _, .lst _, _, _ => ⟨fun h => (by cases h), fun h => (by cases h)⟩
  | .tup l, .tup m, h, k => by
    have := eqvA_iff l m h k
    exact ⟨fun q => by rw [this.mp q], fun q => this.mpr (by cases q; rfl)⟩
  | .bl _, _, h, _ => by cases h
  | .dct _, _, h, _ => by cases h
  | .dcT _, _, h, _ => by cases h
  | .obj _ _, _, h, _ => by cases h
  | .exc _ _, _, h, _ => by cases h
  | .scr _, _, h, _ => by cases h
  | .tup0, _, h, _ => by cases h
  | _, .bl _, _, h => by cases h
  | _, .dct _, _, h => by cases h
  | _, .dcT _, _, h => by cases h
  | _, .obj _ _, _, h => by cases h
  | _, .exc _ _, _, h => by cases h
  | _, .scr _, _, h => by cases h
  | _, .tup0, _, h => by cases h
theorem eqvA_iff : ∀ l m : List D, D.nbA l = true → D.nbA m = true → (PyData.eqvAll (D.pys l) (D.pys m) = true ↔ l = m)
  | [], [], _, _ => ⟨fun _ => rfl, fun _ => rfl⟩
  | [], _ :: _, _, _ => ⟨fun h => (by cases h), fun h => (by cases h)⟩
  | _ :: _, [], _, _ => ⟨fun h => (by cases h), fun h => (by cases h)⟩
  | x :: l, y :: m, h, k => by
    have h : (x.nb && D.nbA l) = true := h
    have k : (y.nb && D.nbA m) = true := k
    rw [Bool.and_eq_true] at h k
    have h1 := eqv_iff x y h.1 k.1
    have h2 := eqvA_iff l m h.2 k.2
    show (PyData.eqv x.py y.py && PyData.eqvAll (D.pys l) (D.pys m)) = true ↔ _
    rw [Bool.and_eq_true, h1, h2]
    exact ⟨fun q => by rw [q.1, q.2], fun q => by injection q with q1 q2; exact ⟨q1, q2⟩⟩
end
structure Sq (d : D) (k : Nat) : Prop where
  n : d.nb = true
  c : d.py.canLay0 = true
  p : d.py.depth ≤ k
theorem Sq.mono {d : D} {k k' : Nat} (h : Sq d k) (le : k ≤ k') : Sq d k' := ⟨h.n, h.c, Nat.le_trans h.p le⟩
theorem Sq.non : Sq .non 0 := ⟨rfl, rfl, Nat.le_refl _⟩
theorem Sq.int (n : Int) : Sq (.int n) 0 := ⟨rfl, rfl, Nat.le_refl _⟩
theorem Sq.all {k : Nat} : ∀ {l : List D}, (∀ x ∈ l, Sq x k) → D.nbA l = true ∧ PyData.canLayAll0 (D.pys l) = true ∧ PyData.depthAll (D.pys l) ≤ k
  | [], _ => ⟨rfl, rfl, Nat.zero_le _⟩
  | d :: l, h => by
    obtain ⟨i1, i2, i3⟩ := Sq.all (l := l) fun x m => h x (List.mem_cons_of_mem _ m)
    obtain ⟨a1, a2, a3⟩ := h d List.mem_cons_self
    refine ⟨?_, ?_, ?_⟩
    · show (d.nb && D.nbA l) = true
      rw [a1, i1]; rfl
    · show (d.py.canLay0 && PyData.canLayAll0 (D.pys l)) = true
      rw [a2, i2]; rfl
    · show max d.py.depth (PyData.depthAll (D.pys l)) ≤ k
      omega
theorem Sq.tup {k : Nat} {l : List D} (h : ∀ x ∈ l, Sq x k) : Sq (.tup l) (k + 1) := by
  obtain ⟨i1, i2, i3⟩ := Sq.all h
  exact ⟨i1, i2, Nat.succ_le_succ i3⟩
theorem Sq.lst {k : Nat} {l : List D} (h : ∀ x ∈ l, Sq x k) : Sq (.lst l) (k + 1) := by
  obtain ⟨i1, i2, i3⟩ := Sq.all h
  exact ⟨i1, i2, Nat.succ_le_succ i3⟩
theorem dEq_sq {x y : D} {k j : Nat} (hx : Sq x k) (hy : Sq y j) (hk : k ≤ 64) (hj : j ≤ 64) : ∃ b, dEq x y = some (.bl b) ∧ (b = true ↔ x = y) := by
  have gen : (x.seqs && y.seqs && SeqAt.shaped x.py && SeqAt.shaped y.py) = true := by
    have e1 : SeqAt.shaped x.py = true := by
      show (x.py.canLay0 && decide (x.py.depth ≤ 64)) = true
      rw [hx.c, decide_eq_true (Nat.le_trans hx.p hk)]; rfl
    have e2 : SeqAt.shaped y.py = true := by
      show (y.py.canLay0 && decide (y.py.depth ≤ 64)) = true
      rw [hy.c, decide_eq_true (Nat.le_trans hy.p hj)]; rfl
    rw [nb_seqs x hx.n, nb_seqs y hy.n, e1, e2]; rfl
  unfold dEq
  split
  · exact ⟨_, rfl, by rw [decide_eq_true_eq]; exact ⟨fun q => by rw [q], fun q => by cases q; rfl⟩⟩
  · exact ⟨_, rfl, by rw [decide_eq_true_eq]; exact ⟨fun q => by rw [q], fun q => by cases q; rfl⟩⟩
  · exact ⟨_, rfl, by rw [decide_eq_true_eq]; exact ⟨fun q => by rw [q], fun q => by cases q; rfl⟩⟩
  · rw [if_pos gen]
    exact ⟨_, rfl, eqv_iff x y hx.n hy.n⟩
theorem dEq_refl {x : D} {k : Nat} (hx : Sq x k) (hk : k ≤ 64) : dEq x x = some (.bl true) := by
  obtain ⟨b, h1, h2⟩ := dEq_sq hx hx hk hk
  rw [h1, h2.mpr rfl]
theorem dNe_refl {x : D} {k : Nat} (hx : Sq x k) (hk : k ≤ 64) : dNe x x = some (.bl false) := by
  unfold dNe; rw [dEq_refl hx hk]; rfl
theorem Sq.nm {a : Str} (h : Nm0 a) : Sq (.str a) 0 := ⟨rfl, h.elim (fun e => by rw [e]; decide +kernel) fun h => h.lay, Nat.le_refl _⟩
theorem Sq.names {ns : List Str} (h : ∀ a ∈ ns, Nm0 a) : Sq (.tup (nodeD ns)) 1 := Sq.tup fun x m => by
  obtain ⟨a, ma, rfl⟩ := List.mem_map.mp m
  exact Sq.nm (h a ma)
section
variable {wide : Int} {st : Tm} {S : List Row} {f : Str → Str → Int}
theorem PlanOk.tOf (P : PlanOk wide st S f) (x : Str) : 0 ≤ tOf st x ∧ tOf st x ≤ wide := by
  have := P.w
  rcases tOf_look st x with ⟨m, q⟩ | ⟨_, _, z⟩
  · obtain ⟨p, mp, rfl⟩ := List.mem_map.mp m
    have h := tm_look P.t.nd p mp
    rw [q] at h
    injection h with h
    injection h with h
    rw [h]
    exact P.t.tm p mp
  · rw [z]; omega
end
/-- for i in range(n) -/
theorem w_rng {n : Int} {e : En} {gt : D → En → Option En} {s : En → Rs (Fl × En)} {P : Fl × En → Prop} {Z : Str → List (Str × D) → En → Prop} (I : Nat → En → Prop) (hn : 0 ≤ n ∧ n ≤ 1000) (z : I 0 e)
    (st : ∀ (i : Nat) e, (i : Int) < n → I i e → ∃ e', gt (.int i) e = some e' ∧ Wq (s e') (fun r => (r.1 = .nx ∨ r.1 = .ct) ∧ I (i + 1) r.2) (fun _ _ _ => False)) (fin : ∀ e, I n.toNat e → P (.nx, e)) : Wq (fFor (fRng1 (fCons (fC (.int n)) fNil)) gt s e) P Z := by
  refine x_for (k := false) (fun i : Nat => D.int i) (List.range n.toNat) (fun ys e => ys = List.range ys.length ∧ I ys.length e) (EvI.rng (EvgL.cons (Evd.g Evd.c) EvgL.nil) (by omega)) ⟨rfl, z⟩ ?_ ?_
  · rintro ys x zs e hx ⟨_, hI⟩
    have l := congrArg List.length hx
    rw [List.length_range, List.length_append, List.length_cons] at l
    have q : (List.range n.toNat)[ys.length]? = some x := by rw [hx]; simp
    rw [List.getElem?_range (by omega)] at q
    injection q with q
    subst q
    obtain ⟨e', h1, h2⟩ := st ys.length e (by omega) hI
    refine ⟨e', h1, ⟨Rs.wp_mono h2.run (fun r q => ⟨q.1, ?_, by rw [List.length_append, List.length_singleton]; exact q.2⟩) fun _ _ _ z => z⟩⟩
    have h3 : ys = List.range ys.length := by assumption
    rw [List.length_append, List.length_singleton, List.range_succ, ← h3]
  · rintro e ⟨_, hI⟩
    rw [List.length_range] at hI
    exact fin e hI
theorem nodeD_len (xs : List Str) : dLenX [.lst (nodeD xs)] = some (.int xs.length) := by
  show some (D.int (nodeD xs).length) = _
  unfold nodeD; rw [List.length_map]
theorem dMin_i (a b : Int) : dMin2 [.int a, .int b] = some (.int (if b < a then b else a)) := rfl
section
variable {wide : Int} {st : Tm} {S : List Row} {f : Str → Str → Int}
theorem nodeofT (nd : (nm st).Nodup) (x : Str) : g_is_node_of [.val (.str x), .val (.dct (tsD st))] = .ok ⟨false, .bl (decide (x ∈ nds (nm st))), []⟩ := by
  rw [tsD_eq, nodeof_s (st := srtT st) (by rw [srtT_names]; exact srt_nd nd)]
  have : (x ∈ nds ((srtT st).map (·.1))) ↔ x ∈ nds (nm st) := by rw [srtT_names]; exact srt_nds _ _
  rw [decide_eq_decide.mpr this]
theorem checknode_g (nd : (nm st).Nodup) {x : Str} (h : x ∈ nds (nm st)) : g_check_node [.val (planD wide st S), .val (.str x)] = .ok ⟨false, .non, []⟩ := by
  have i := nodeofT nd x
  rw [decide_eq_true h] at i
  have t := times_p wide st S
  refine run_eq (run_def rfl ?_)
  unfold b_check_node
  walk_at "nrm"
  apply w_if1F
  · apply ev_notT (b := true)
    apply ev_tru
    · walk_at "go"
    · rfl
    · rfl
  · exact ⟨_, rfl, _, rfl, rfl⟩
end
section
variable {wide : Int} {st : Tm} {S : List Row} {f : Str → Str → Int}
theorem distance_g (P : PlanOk wide st S f) {a b : Str} (ha : a ∈ nds (nm st)) (hb : b ∈ nds (nm st)) : g_distance [.val (planD wide st S), .val (.str a), .val (.str b)] = .ok ⟨false, .int (f a b), []⟩ := by
  have c1 := checknode_g (wide := wide) (S := S) P.t.nd ha
  have c2 := checknode_g (wide := wide) (S := S) P.t.nd hb
  obtain ⟨E, hg, G, le⟩ := gapsof_g P
  obtain ⟨l, q, p, e, h, _⟩ := P.long G le ha
  have i := ixS_ok (h b hb)
  refine run_eq (run_def rfl ?_)
  unfold b_distance
  walk_at "nrm"
  refine w_seq ?_; apply w_drop
  · walk_at "go"
  walk_at "nrm"
  refine w_seq ?_; apply w_drop
  · walk_at "go"
  walk_at "nrm"
  walk_at "sasgG"
  apply w_retV
  · walk_at "go"
  · rfl
  · exact ⟨_, rfl, _, rfl, rfl⟩
end
section
variable {wide : Int} {st : Tm} {S : List Row} {f : Str → Str → Int}
/-- a way back from b -/
def WB (E : List Row) (f : Str → Str → Int) (a : Str) : List Str → Prop
  | v :: u :: l => (∃ g, (u, v, g) ∈ E ∧ f a v = f a u + g) ∧ WB E f a (u :: l)
  | _ => True
theorem WB.snoc {E : List Row} {a : Str} : ∀ {l : List Str} {x y : Str}, WB E f a (l ++ [x]) → (∃ g, (y, x, g) ∈ E ∧ f a x = f a y + g) → WB E f a (l ++ [x] ++ [y])
  | [], x, y, _, e => ⟨e, trivial⟩
  | [z], x, y, h, e => ⟨h.1, e, trivial⟩
  | z :: w :: l, x, y, h, e => ⟨h.1, WB.snoc (l := w :: l) h.2 e⟩
theorem last_ix (l : List Str) (x : Str) (hl : l.length ≤ 1000) : dIx (.lst (nodeD (l ++ [x]))) (.int (-1)) = some (.str x) := by
  have len : (nodeD (l ++ [x])).length = l.length + 1 := by unfold nodeD; rw [List.length_map, List.length_append]; rfl
  show atI (nodeD (l ++ [x])) (-1) = _
  unfold atI ixN
  rw [len, if_neg (by decide), if_pos (by omega)]
  have e : (-1 + ((l.length + 1 : Nat) : Int)).toNat = l.length := by omega
  rw [e, Option.bind_some]
  unfold nodeD
  rw [List.getElem?_map, List.getElem?_append_right (Nat.le_refl _), Nat.sub_self]
  rfl
theorem nodeD_rev (l : List Str) : (nodeD l).reverse = nodeD l.reverse := by unfold nodeD; rw [List.map_reverse]
theorem nodeD_app (l : List Str) (x : Str) : nodeD (l ++ [x]) = nodeD l ++ [.str x] := by unfold nodeD; rw [List.map_append]; rfl
/-- a chain, told backwards -/
structure Way (E : List Row) (f : Str → Str → Int) (nodes : List Str) (a b : Str) (l : List Str) : Prop where
  wb : WB E f a l
  hd : l.head? = some b
  la : l.getLast? = some a
  nd : l.Nodup
  mem : ∀ x ∈ l, x ∈ nodes
theorem WB.up (P : PlanOk wide st S f) {E : List Row} (G : GapE (sortStr (nm st)) wide S E) {a : Str} (ha : a ∈ nds (nm st)) : ∀ {l : List Str} {v : Str}, WB E f a (v :: l) → (∀ x ∈ v :: l, x ∈ nds (nm st)) → ∀ u ∈ v :: l, f a v ≤ f a u + f u v
  | [], v, _, m, u, hu => by
    rw [List.mem_singleton.mp hu, P.dg0 (m v List.mem_cons_self)]; omega
  | w :: l, v, h, m, u, hu => by
    rcases List.mem_cons.mp hu with rfl | hu
    · rw [P.dg0 (m u List.mem_cons_self)]; omega
    · obtain ⟨⟨g, me, e⟩, h2⟩ := h
      have ih := WB.up P G ha h2 (fun x mx => m x (List.mem_cons_of_mem _ mx)) u hu
      have mu := m u (List.mem_cons_of_mem _ hu)
      have mw := m w (List.mem_cons_of_mem _ List.mem_cons_self)
      have mv := m v List.mem_cons_self
      have := P.tri mu mw mv
      have := ((P.clo G).ed _ _ _ me).2.2
      omega
theorem Way.mid (P : PlanOk wide st S f) {E : List Row} (G : GapE (sortStr (nm st)) wide S E) {a b : Str} {l : List Str} (W : Way E f (nds (nm st)) a b l) {u : Str} (hu : u ∈ l) : f a u + f u b = f a b := by
  cases l with
  | nil => exact absurd hu List.not_mem_nil
  | cons v l =>
    have e : v = b := by have := W.hd; simpa using this
    subst e
    have ha : a ∈ nds (nm st) := W.mem a (List.mem_of_getLast? W.la)
    have := WB.up P G ha W.wb W.mem u hu
    have := P.tri ha (W.mem u hu) (W.mem v List.mem_cons_self)
    omega
end
section
variable {wide : Int} {st : Tm} {S : List Row} {f : Str → Str → Int}
theorem chain_g (P : PlanOk wide st S f) {a b : Str} (ha : a ∈ nds (nm st)) (hb : b ∈ nds (nm st)) : ∃ E l, GapE (sortStr (nm st)) wide S E ∧ g_chain [.val (planD wide st S), .val (.str a), .val (.str b)] = .ok ⟨false, .tup (nodeD l.reverse), []⟩ ∧ Way E f (nds (nm st)) a b l := by
  have hs : (2000000 : Nat) < sizeLine := by decide
  have c1 := checknode_g (wide := wide) (S := S) P.t.nd ha
  have c2 := checknode_g (wide := wide) (S := S) P.t.nd hb
  obtain ⟨E, hg, G, le⟩ := gapsof_g P
  obtain ⟨l, q, p, e, h, rt, bk, ac⟩ := P.long G le ha
  have tl := P.t.len
  have key : ∃ z, g_chain [.val (planD wide st S), .val (.str a), .val (.str b)] = .ok z ∧ ∃ l, z = ⟨false, .tup (nodeD l.reverse), []⟩ ∧ Way E f (nds (nm st)) a b l := by
    refine run_def rfl ?_
    unfold b_chain
    walk_at "nrm"
    refine w_seq ?_; apply w_drop
    · walk_at "go"
    walk_at "nrm"
    refine w_seq ?_; apply w_drop
    · walk_at "go"
    walk_at "nrm"
    walk_at "sasgG"
    refine w_seq ?_; apply w_setO (d := .lst (nodeD ([] ++ [b])))
    · exact Evk.lst (EvL.cons (Ev.var rfl) EvL.nil) (by decide : (1 : Nat) ≤ sizeLine)
    walk_at "nrm"
    refine w_seq ?_
    refine w_while (fun i e => ∃ ys x, ys.length = i ∧ e = [.val (planD wide st S), .val (.str a), .val (.str b), .own (.lst (nodeD (ys ++ [x]))), .val (.dct l), .val (.dct q)] ∧ WB E f a (ys ++ [x]) ∧ Back p (ys ++ [x]) ∧ (ys ++ [x]).head? = some b ∧ (∀ y ∈ ys ++ [x], y ∈ nds (nm st))) (st.length + 1) 100000 (by omega) ⟨[], b, rfl, rfl, trivial, trivial, rfl, fun y m => by rw [List.mem_singleton.mp m]; exact hb⟩ ?_
    rintro i _ hi ⟨ys, x, ly, rfl, wb, bp, hd, mem⟩
    have nd := Back.nodup ac bp
    have ln := nd_len nd mem
    rw [List.length_append, List.length_singleton, List.length_cons, List.length_map] at ln
    have i1 := last_ix ys x (by omega)
    refine ⟨!decide (x = a), [.val (planD wide st S), .val (.str a), .val (.str b), .own (.lst (nodeD (ys ++ [x]))), .val (.dct l), .val (.dct q)], ?_, fun q1 => ⟨?_, ?_⟩, fun q1 => ?_⟩
    · have := dNe_s x a
      walk_at "go"
    · omega
    · have ne : x ≠ a := by simpa using q1
      obtain ⟨u, g, hp, mu, me, ef⟩ := bk x (mem x (List.mem_append_right _ List.mem_cons_self)) ne
      have i2 : dIx (.dct q) (.str x) = some (.str u) := ixS_ok (by rw [rt x, hp]; rfl)
      apply x_app (l := nodeD (ys ++ [x])) (d := .str u)
      · walk_at "pu"
      · rfl
      · unfold nodeD; rw [List.length_map, List.length_append, List.length_singleton]; omega
      refine ⟨.inl rfl, ys ++ [x], u, by rw [List.length_append, List.length_singleton, ly], ?_, wb.snoc ⟨g, me, ef⟩, bp.snoc hp, ?_, ?_⟩
      · rw [nodeD_app (ys ++ [x]) u]; rfl
      · rw [List.append_assoc, List.head?_append, ← hd, List.head?_append]; cases ys <;> rfl
      · intro y m
        rcases List.mem_append.mp m with m | m
        · exact mem y m
        · rw [List.mem_singleton.mp m]; exact mu
    · have eq : x = a := by simpa using q1
      subst eq
      apply w_retV (d := .tup (nodeD (ys ++ [x]).reverse)) (h := .dat (.tup (nodeD (ys ++ [x]).reverse))) (e1 := [.val (planD wide st S), .val (.str x), .val (.str b), .own (.lst (nodeD (ys ++ [x]))), .val (.dct l), .val (.dct q)])
      · rw [← nodeD_rev]; rfl
      · rfl
      · exact ⟨_, rfl, _, rfl, ys ++ [x], rfl, wb, hd, by simp, nd, mem⟩
  obtain ⟨z, e1, l1, rfl, w⟩ := key
  exact ⟨E, l1, G, e1, w⟩
end
abbrev prD (p : Str × Str) : D := .tup [.str p.1, .str p.2]
section
variable {wide : Int} {st : Tm} {S : List Row} {f : Str → Str → Int}
abbrev nodesS (st : Tm) : List Str := nds (srtN st)
def cfB (st : Tm) (f : Str → Str → Int) (x y : Str) : Bool := decide (tOf st y - tOf st x < f x y)
def prs (st : Tm) (f : Str → Str → Int) : List (Str × Str) := (nodesS st).flatMap fun x => ((nodesS st).filter (cfB st f x)).map fun y => (x, y)
theorem prs_mem {x y : Str} : (x, y) ∈ prs st f ↔ x ∈ nds (nm st) ∧ y ∈ nds (nm st) ∧ tOf st y - tOf st x < f x y := by
  unfold prs
  rw [List.mem_flatMap]
  constructor
  · rintro ⟨a, ma, h⟩
    obtain ⟨b, mb, e⟩ := List.mem_map.mp h
    injection e with e1 e2
    subst e1; subst e2
    obtain ⟨m1, m2⟩ := List.mem_filter.mp mb
    exact ⟨(srt_nds _ _).mp ma, (srt_nds _ _).mp m1, of_decide_eq_true m2⟩
  · rintro ⟨h1, h2, h3⟩
    exact ⟨x, (srt_nds _ _).mpr h1, List.mem_map.mpr ⟨y, List.mem_filter.mpr ⟨(srt_nds _ _).mpr h2, decide_eq_true h3⟩, rfl⟩⟩
end
theorem Sq.pr {p : Str × Str} (h1 : Nm0 p.1) (h2 : Nm0 p.2) : Sq (prD p) 1 := Sq.tup fun x m => by
  rcases List.mem_cons.mp m with rfl | m
  · exact Sq.nm h1
  rw [List.mem_singleton.mp m]
  exact Sq.nm h2
/-- a chain told forwards -/
structure WF (E : List Row) (f : Str → Str → Int) (nodes : List Str) (a b : Str) (W : List Str) : Prop where
  fst : W[0]? = some a
  lst : W[W.length - 1]? = some b
  pos : 1 ≤ W.length
  stp : ∀ k u v, W[k]? = some u → W[k + 1]? = some v → ∃ g, (u, v, g) ∈ E ∧ f a v = f a u + g
  nd : W.Nodup
  mem : ∀ x ∈ W, x ∈ nodes
section
variable {wide : Int} {st : Tm} {S : List Row} {f : Str → Str → Int} {E : List Row} {nodes : List Str} {a b : Str}
theorem WB.at : ∀ {l : List Str}, WB E f a l → ∀ (j : Nat) (u v : Str), l[j + 1]? = some u → l[j]? = some v → ∃ g, (u, v, g) ∈ E ∧ f a v = f a u + g
  | [], _, j, u, v, h, _ => by simp at h
  | [x], _, j, u, v, h, _ => by simp at h
  | x :: y :: l, w, 0, u, v, h1, h2 => by
    simp at h1 h2
    subst h1; subst h2
    exact w.1
  | x :: y :: l, w, j + 1, u, v, h1, h2 => WB.at (l := y :: l) w.2 j u v (by simpa using h1) (by simpa using h2)
theorem Way.fwd {l : List Str} (W : Way E f nodes a b l) : WF E f nodes a b l.reverse := by
  have ne : l ≠ [] := fun e => by have := W.hd; rw [e] at this; cases this
  have pos : 1 ≤ l.length := List.length_pos_iff.mpr ne
  refine ⟨?_, ?_, by rw [List.length_reverse]; exact pos, fun k u v h1 h2 => ?_, (List.Perm.nodup_iff (List.reverse_perm l)).mpr W.nd, fun x m => W.mem x (List.mem_reverse.mp m)⟩
  · rw [List.getElem?_reverse (by omega)]
    have := W.la
    rw [List.getLast?_eq_getElem?] at this
    rw [← this]
    congr 1
  · rw [List.length_reverse, List.getElem?_reverse (by omega)]
    have := W.hd
    rw [List.head?_eq_getElem?] at this
    rw [← this]
    congr 1
    omega
  · have k2 : k + 1 < l.length := by
      have := (List.getElem?_eq_some_iff.mp h2).1
      rw [List.length_reverse] at this
      exact this
    rw [List.getElem?_reverse (by omega)] at h1 h2
    exact WB.at W.wb (l.length - 1 - (k + 1)) u v (by rw [← h1]; congr 1; omega) h2
theorem ixW {W : List Str} {k : Nat} {u : Str} (h : W[k]? = some u) (len : W.length ≤ 1000) : dIx (.tup (nodeD W)) (.int k) = some (.str u) := by
  have hk := (List.getElem?_eq_some_iff.mp h).1
  show atI (nodeD W) k = _
  unfold atI ixN
  have l : (nodeD W).length = W.length := by unfold nodeD; rw [List.length_map]
  rw [l, if_pos (by omega), if_pos (by omega), Option.bind_some]
  unfold nodeD
  rw [List.getElem?_map, Int.toNat_natCast, h]; rfl
theorem WF.len {W : List Str} (w : WF E f nodes a b W) : W.length ≤ nodes.length := nd_len w.nd w.mem
/-- a way between two nodes in conflict has a step in conflict -/
theorem WF.step (P : PlanOk wide st S f) (G : GapE (sortStr (nm st)) wide S E) {W : List Str} (w : WF E f (nds (nm st)) a b W) (h : ∀ (k : Nat) (u v : Str), W[k]? = some u → W[k + 1]? = some v → (u, v) ∉ prs st f) : (a, b) ∉ prs st f := by
  have ha : a ∈ nds (nm st) := w.mem a (List.mem_of_getElem? w.fst)
  have key : ∀ (k : Nat) (u : Str), W[k]? = some u → f a u ≤ tOf st u - tOf st a := by
    intro k
    induction k with
    | zero =>
      intro u hu
      have := w.fst
      rw [hu] at this
      injection this with this
      subst this
      rw [P.dg0 ha]; omega
    | succ k ih =>
      intro v hv
      have hk := (List.getElem?_eq_some_iff.mp hv).1
      obtain ⟨u, hu⟩ : ∃ u, W[k]? = some u := ⟨W[k], by simp [show k < W.length by omega]⟩
      obtain ⟨g, me, e⟩ := w.stp k u v hu hv
      have h1 := ih u hu
      have h2 := h k u v hu hv
      have mu := w.mem u (List.mem_of_getElem? hu)
      have mv := w.mem v (List.mem_of_getElem? hv)
      rw [prs_mem] at h2
      have h3 := ((P.clo G).ed _ _ _ me).2.2
      have h4 : ¬ (tOf st v - tOf st u < f u v) := fun z => h2 ⟨mu, mv, z⟩
      omega
  have := key _ b w.lst
  rw [prs_mem]
  rintro ⟨_, _, h3⟩
  omega
end
theorem len_mid {α : Type} {xs ys zs : List α} {x : α} (h : xs = ys ++ x :: zs) : ys.length + zs.length + 1 = xs.length := by
  rw [h, List.length_append, List.length_cons]; omega
theorem look_none {κ : Type} [DecidableEq κ] {l : List (κ × D)} {k : κ} (h : ∀ p ∈ l, p.1 ≠ k) : look l k = none := by
  induction l with
  | nil => rfl
  | cons p l ih =>
    obtain ⟨a, x⟩ := p
    rw [look_cons, if_neg (h (a, x) List.mem_cons_self)]
    exact ih fun q m => h q (List.mem_cons_of_mem _ m)
theorem look_fun {κ : Type} [DecidableEq κ] {l : List (κ × D)} {k : κ} {v : D} (h : ∀ p ∈ l, p.1 = k → p.2 = v) (m : ∃ p ∈ l, p.1 = k) : look l k = some v := by
  induction l with
  | nil => obtain ⟨p, mp, _⟩ := m; exact absurd mp List.not_mem_nil
  | cons p l ih =>
    obtain ⟨a, x⟩ := p
    rw [look_cons]
    by_cases q : a = k
    · rw [if_pos q]
      have := h (a, x) List.mem_cons_self q
      simp only at this
      rw [this]
    · rw [if_neg q]
      refine ih (fun q m => h q (List.mem_cons_of_mem _ m)) ?_
      obtain ⟨p, mp, e⟩ := m
      rcases List.mem_cons.mp mp with rfl | mp
      · exact absurd e q
      · exact ⟨p, mp, e⟩
def tabR (xs ns : List Str) (f : Str → Str → Int) : List (List Key × D) := xs.flatMap fun a => ns.map fun b => ([.inr a, .inr b], .int (f a b))
theorem tabR_mem {xs ns : List Str} {f : Str → Str → Int} {p : List Key × D} : p ∈ tabR xs ns f ↔ ∃ a ∈ xs, ∃ b ∈ ns, p = ([.inr a, .inr b], .int (f a b)) := by
  unfold tabR
  rw [List.mem_flatMap]
  constructor
  · rintro ⟨a, ma, h⟩
    obtain ⟨b, mb, e⟩ := List.mem_map.mp h
    exact ⟨a, ma, b, mb, e.symm⟩
  · rintro ⟨a, ma, b, mb, rfl⟩
    exact ⟨a, ma, List.mem_map.mpr ⟨b, mb, rfl⟩⟩
theorem tabR_tab {ns : List Str} {f : Str → Str → Int} : TabD ns (tabR ns ns f) f := fun a ma b mb => by
  refine look_fun (fun p mp e => ?_) ⟨([.inr a, .inr b], .int (f a b)), tabR_mem.mpr ⟨a, ma, b, mb, rfl⟩, rfl⟩
  obtain ⟨c, _, d, _, rfl⟩ := tabR_mem.mp mp
  simp only [List.cons.injEq, Sum.inr.injEq, and_true] at e
  rw [e.1, e.2]
theorem tabR_len (ns : List Str) (f : Str → Str → Int) : ∀ xs : List Str, (tabR xs ns f).length = xs.length * ns.length
  | [] => by simp [tabR]
  | x :: xs => by
    have ih := tabR_len ns f xs
    unfold tabR at ih ⊢
    rw [List.flatMap_cons, List.length_append, List.length_map, ih, List.length_cons, Nat.add_mul, Nat.one_mul, Nat.add_comm]
theorem dLen_tup (l : List D) : dLenX [.tup l] = some (.int l.length) := rfl
section
variable {E : List Row} {nodes : List Str} {a b : Str} {f : Str → Str → Int}
theorem WF.two {W : List Str} (w : WF E f nodes a b W) {k : Nat} (h : k + 1 < W.length) : ∃ u v, W[k]? = some u ∧ W[k + 1]? = some v ∧ u ∈ nodes ∧ v ∈ nodes := by
  have h1 : W[k]? = some W[k] := by simp [show k < W.length by omega]
  have h2 : W[k + 1]? = some W[k + 1] := by simp [h]
  exact ⟨W[k], W[k + 1], h1, h2, w.mem _ (List.mem_of_getElem? h1), w.mem _ (List.mem_of_getElem? h2)⟩
end
section
variable {wide : Int} {st : Tm} {S : List Row} {f : Str → Str → Int}
theorem tab_loop (P : PlanOk wide st S f) (len : st.length ≤ 30) {s3 s4 : Sl} {rest : List Sl} {Pp : Fl × En → Prop} {Z : Str → List (Str × D) → En → Prop}
    (k : ∀ s3 s4, Pp (.nx, .val (planD wide st S) :: .val (.lst (nodeD (nodesS st))) :: .own (.dcT (tabR (nodesS st) (nodesS st) f)) :: s3 :: s4 :: rest)) :
    Wq (fFor (fIter (fVar 1)) (gSet 3)
      (fFor (fIter (fVar 1)) (gSet 4)
      (fStD 2 (fTup (fCons (fVar 3) (fCons (fVar 4) fNil))) (fUser [false, false, false] g_distance (fCons (fVar 0) (fCons (fVar 3) (fCons (fVar 4) fNil)))))) (.val (planD wide st S) :: .val (.lst (nodeD (nodesS st))) :: .own (.dcT []) :: s3 :: s4 :: rest)) Pp Z := by
  have hs : (2000000 : Nat) < sizeLine := by decide
  have ln : (nodesS st).length ≤ 31 := by rw [List.length_cons, srt_len, List.length_map]; omega
  have nd : (nodesS st).Nodup := srt_nds_nd P.t.nds
  refine x_for (k := false) .str (nodesS st) (fun ys e => ∃ s3 s4, e = .val (planD wide st S) :: .val (.lst (nodeD (nodesS st))) :: .own (.dcT (tabR ys (nodesS st) f)) :: s3 :: s4 :: rest) ?_ ?_ ?_ ?_
  · exact EvI.it (Ev.var rfl) rfl
  · exact ⟨_, _, rfl⟩
  · rintro ys a zs _ hx ⟨s3, s4, rfl⟩
    have ma : a ∈ nodesS st := by rw [hx]; exact List.mem_append_right _ List.mem_cons_self
    have na : a ∉ ys := by
      rw [hx] at nd
      exact fun m => absurd rfl ((List.nodup_append.mp nd).2.2 _ m _ List.mem_cons_self)
    have ly := len_mid hx
    refine ⟨_, rfl, ?_⟩
    refine x_for (k := false) .str (nodesS st) (fun zs e => ∃ s4, e = .val (planD wide st S) :: .val (.lst (nodeD (nodesS st))) :: .own (.dcT (tabR ys (nodesS st) f ++ zs.map fun b => ([.inr a, .inr b], .int (f a b)))) :: .val (.str a) :: s4 :: rest) ?_ ?_ ?_ ?_
    · exact EvI.it (Ev.var rfl) rfl
    · exact ⟨s4, by rw [List.map_nil, List.append_nil]; rfl⟩
    · rintro ws b vs _ hw ⟨s4, rfl⟩
      have mb : b ∈ nodesS st := by rw [hw]; exact List.mem_append_right _ List.mem_cons_self
      have nb : b ∉ ws := by
        rw [hw] at nd
        exact fun m => absurd rfl ((List.nodup_append.mp nd).2.2 _ m _ List.mem_cons_self)
      have lw := len_mid hw
      have hd := distance_g P ((srt_nds _ _).mp ma) ((srt_nds _ _).mp mb)
      have ll : (tabR ys (nodesS st) f ++ ws.map fun b => (([.inr a, .inr b] : List Key), D.int (f a b))).length < sizeLine := by
        rw [List.length_append, tabR_len, List.length_map]
        have : ys.length * (nodesS st).length ≤ 31 * 31 := Nat.mul_le_mul (by omega) ln
        omega
      have nw : look (tabR ys (nodesS st) f ++ ws.map fun b => (([.inr a, .inr b] : List Key), D.int (f a b))) [.inr a, .inr b] = none := look_none fun p mp e => by
        rcases List.mem_append.mp mp with m | m
        · obtain ⟨c, mc, d, _, rfl⟩ := tabR_mem.mp m
          simp only [List.cons.injEq, Sum.inr.injEq, and_true] at e
          exact na (e.1 ▸ mc)
        · obtain ⟨d, md, rfl⟩ := List.mem_map.mp m
          simp only [List.cons.injEq, Sum.inr.injEq, and_true, true_and] at e
          exact nb (e ▸ md)
      refine ⟨_, rfl, ?_⟩
      apply x_stD (d := .int (f a b)) (x := .tup [.str a, .str b]) (y := .dcT (tabR ys (nodesS st) f ++ ws.map fun b => ([.inr a, .inr b], .int (f a b)))) (z := .dcT (tabR ys (nodesS st) f ++ (ws ++ [b]).map fun b => ([.inr a, .inr b], .int (f a b))))
      · refine Evd.v (Evd.user (ds := [planD wide st S, .str a, .str b]) (w := false) ?_ rfl hd)
        exact EvL.cons (Ev.var rfl) (EvL.cons (Ev.var rfl) (EvL.cons (Ev.var rfl) EvL.nil))
      · exact ⟨_, rfl⟩
      · exact Evd.g (Evd.tup (EvL.cons (Ev.var rfl) (EvL.cons (Ev.var rfl) EvL.nil)) (by decide : (2 : Nat) ≤ sizeLine))
      · rfl
      · rw [putT_ok ll, put_new _ nw, List.map_append, List.append_assoc]; rfl
      · exact ⟨.inl rfl, .val (.str b), rfl⟩
    · rintro _ ⟨s4, rfl⟩
      refine ⟨.inl rfl, .val (.str a), s4, ?_⟩
      unfold tabR
      rw [List.flatMap_append, List.flatMap_cons, List.flatMap_nil, List.append_nil]
  · rintro _ ⟨s3, s4, rfl⟩
    exact k s3 s4
end
structure PcOk (l : List (Key × D)) (n : Nat) : Prop where
  ent : ∀ p ∈ l, ∃ a v, p = (.inr a, .int v) ∧ Nm a ∧ 1 ≤ v ∧ v ≤ 999
  nd : (l.map (·.1)).Nodup
  len : l.length ≤ n
def kS : Key → Str
  | .inr a => a
  | .inl _ => ""
def pcK (l : List (Key × D)) : List Str := l.map fun p => kS p.1
theorem PcOk.nil : PcOk [] 0 := ⟨(fun p m => absurd m List.not_mem_nil), .nil, Nat.zero_le _⟩
theorem PcOk.up {l : List (Key × D)} {n m : Nat} (h : PcOk l n) (le : n ≤ m) : PcOk l m := ⟨h.ent, h.nd, Nat.le_trans h.len le⟩
theorem put_keys {κ : Type} [DecidableEq κ] (l : List (κ × D)) (k : κ) (d : D) : (putD l k d).map (·.1) = if k ∈ l.map (·.1) then l.map (·.1) else l.map (·.1) ++ [k] := by
  unfold putD
  by_cases q : (l.any fun p => decide (p.1 = k)) = true
  · rw [if_pos q, if_pos (by
      obtain ⟨p, mp, e⟩ := List.any_eq_true.mp q
      exact List.mem_map.mpr ⟨p, mp, of_decide_eq_true e⟩), List.map_map]
    refine List.map_congr_left fun p _ => ?_
    show (if p.1 = k then (p.1, d) else p).1 = p.1
    split <;> rfl
  · rw [if_neg q, if_neg (fun m => q (by
      obtain ⟨p, mp, e⟩ := List.mem_map.mp m
      exact List.any_eq_true.mpr ⟨p, mp, decide_eq_true e⟩)), List.map_append]; rfl
theorem put_mem {κ : Type} [DecidableEq κ] {l : List (κ × D)} {k : κ} {d : D} {p : κ × D} (h : p ∈ putD l k d) : p = (k, d) ∨ p ∈ l := by
  unfold putD at h
  split at h
  · obtain ⟨q, mq, e⟩ := List.mem_map.mp h
    split at e
    · rename_i z; subst e; exact .inl (by rw [z])
    · subst e; exact .inr mq
  · rcases List.mem_append.mp h with h | h
    · exact .inr h
    · exact .inl (List.mem_singleton.mp h)
theorem PcOk.put {l : List (Key × D)} {n : Nat} (h : PcOk l n) {a : Str} (ha : Nm a) {v : Int} (h1 : 1 ≤ v) (h2 : v ≤ 999) : PcOk (putD l (.inr a) (.int v)) (n + 1) := by
  refine ⟨fun p m => ?_, ?_, Nat.le_trans (put_len _ _ _) (Nat.succ_le_succ h.len)⟩
  · rcases put_mem m with rfl | m
    · exact ⟨a, v, rfl, ha, h1, h2⟩
    · exact h.ent p m
  · rw [put_keys]
    split
    · exact h.nd
    · rename_i q
      refine List.nodup_append.mpr ⟨h.nd, by simp, fun x mx y my => ?_⟩
      rw [List.mem_singleton.mp my]
      exact fun e => q (e ▸ mx)
theorem key_uniq {κ β : Type} : ∀ {l : List (κ × β)}, (l.map (·.1)).Nodup → ∀ p ∈ l, ∀ q ∈ l, p.1 = q.1 → p = q
  | [], _, p, m, _, _, _ => absurd m List.not_mem_nil
  | x :: l, nd, p, mp, q, mq, e => by
    rw [List.map_cons, List.nodup_cons] at nd
    rcases List.mem_cons.mp mp with e1 | mp <;> rcases List.mem_cons.mp mq with e2 | mq
    · rw [e1, e2]
    · exact absurd (List.mem_map.mpr ⟨q, mq, by rw [← e, e1]⟩) nd.1
    · exact absurd (List.mem_map.mpr ⟨p, mp, by rw [e, e2]⟩) nd.1
    · exact key_uniq nd.2 p mp q mq e
section
variable {l : List (Key × D)} {n : Nat}
theorem PcOk.at (h : PcOk l n) {a : Str} (m : a ∈ pcK l) : ∃ v, look l (.inr a) = some (.int v) ∧ Nm a ∧ 1 ≤ v ∧ v ≤ 999 := by
  obtain ⟨p, mp, e⟩ := List.mem_map.mp m
  obtain ⟨b, v, rfl, nb, h1, h2⟩ := h.ent p mp
  have e : b = a := e
  subst e
  refine ⟨v, look_fun (fun q mq e => ?_) ⟨_, mp, rfl⟩, nb, h1, h2⟩
  have : q = (.inr b, .int v) := key_uniq h.nd q mq _ mp e
  rw [this]
theorem PcOk.no (h : PcOk l n) {a : Str} (m : a ∉ pcK l) : look l (.inr a) = none := look_none fun p mp e => m (List.mem_map.mpr ⟨p, mp, by rw [e]; rfl⟩)
theorem PcOk.isS (h : PcOk l n) (a : Str) : (look l (.inr a)).isSome = decide (a ∈ pcK l) := by
  by_cases q : a ∈ pcK l
  · obtain ⟨v, e, _⟩ := h.at q
    rw [e, decide_eq_true q]; rfl
  · rw [h.no q, decide_eq_false q]; rfl
theorem PcOk.dIn (h : PcOk l n) (a : Str) : Rt.dIn (.str a) (.dct l) = some (.bl (decide (a ∈ pcK l))) := by
  rw [← h.isS a]; rfl
theorem PcOk.dNin (h : PcOk l n) (a : Str) : Rt.dNin (.str a) (.dct l) = some (.bl (!decide (a ∈ pcK l))) := by
  rw [← h.isS a]; rfl
end
theorem w_compP {α : Type} {gt : D → En → Option En} {fe : En → Rs (Hd × En)} {vs : List Nat} (J : α → D) (xs : List α) (I : List α → En → List D → Prop) {e : En} (z : I [] e [])
    (st : ∀ ys x zs e acc, xs = ys ++ x :: zs → I ys e acc → acc.length < sizeLine ∧ ∃ e' h e2 d e3, gt (J x) e = some e' ∧ fe e' = .ok (h, e2) ∧ h.esc e2 = .ok (d, e3) ∧ I (ys ++ [x]) (wipeE e3 vs) (acc ++ [d])) :
    ∃ r e', cLoop gt fYes fe vs (xs.map J) e [] = .ok (r, e') ∧ I xs e' r := by
  obtain ⟨r, e', h1, ys, zs, h2, h3, h4⟩ := w_comp (gt := gt) (ft := fYes) (fe := fe) (vs := vs) (fun ds e acc => ∃ ys zs, xs = ys ++ zs ∧ ds = zs.map J ∧ I ys e acc) (by
    rintro d ds e acc ⟨ys, zs, h1, h2, h3⟩
    cases zs with
    | nil => cases h2
    | cons x zs =>
      rw [List.map_cons] at h2
      injection h2 with e1 e2
      subst e1
      obtain ⟨l, e', h, e2', d, e3, g1, g2, g3, g4⟩ := st ys x zs e acc h1 h3
      exact ⟨l, e', e', h, e2', d, e3, g1, rfl, g2, g3, ys ++ [x], zs, by rw [h1, List.append_assoc]; rfl, e2, g4⟩) (xs.map J) e [] ⟨[], xs, rfl, rfl, z⟩
  have : zs = [] := by
    cases zs with
    | nil => rfl
    | cons x zs => cases h3
  subst this
  rw [List.append_nil] at h2
  subst h2
  exact ⟨r, e', h1, h4⟩
theorem FarOk.congr {n m : List Str} {w : Int} {E : List Row} {f : Str → Str → Int} (h : ∀ a, a ∈ n ↔ a ∈ m) (F : FarOk n w E f) : FarOk m w E f :=
  ⟨fun a ha b hb => F.ini a ((h a).mpr ha) b ((h b).mpr hb), F.lag, fun a ha => F.dg a ((h a).mpr ha), fun a ha x hx y hy => F.tri a ((h a).mpr ha) x ((h x).mpr hx) y ((h y).mpr hy),
    fun g i l t a ha b hb => F.lst g (fun x hx y hy => i x ((h x).mp hx) y ((h y).mp hy)) l (fun x hx y hy z hz => t x ((h x).mp hx) y ((h y).mp hy) z ((h z).mp hz)) a ((h a).mpr ha) b ((h b).mpr hb)⟩
theorem srt_idem (ns : List Str) : sortStr (sortStr ns) = sortStr ns := perm_sorted_eq (r := fun a b => leS a b = true) leS_anti (sortStr_perm _) (sortStr_pw _) (sortStr_pw _)
theorem PartOkN.other {n : Nat} {wide : Int} {st st' : Tm} {E : List Row} (P : PartOkN n wide st E) (T : TmOk st' wide) (h : ∀ a, a ∈ nm st' ↔ a ∈ nm st) : PartOkN n wide st' E := by
  have hn : ∀ a, a ∈ nds (nm st) ↔ a ∈ nds (nm st') := fun a => by rw [List.mem_cons, List.mem_cons, h a]
  refine ⟨P.w, T, ⟨fun r m => ?_, ?_⟩, P.l⟩
  · obtain ⟨h1, h2, h3⟩ := P.g.a r m
    exact ⟨(hn _).mp h1, (hn _).mp h2, h3⟩
  · obtain ⟨f, F⟩ := P.g.f
    exact ⟨f, F.congr hn⟩
/-- one more lag -/
def mxI (x y : Int) : Int := if y > x then y else x
theorem mxI_1 (x y : Int) : x ≤ mxI x y := by unfold mxI; split <;> omega
theorem mxI_2 (x y : Int) : y ≤ mxI x y := by unfold mxI; split <;> omega
theorem mxI_le {x y z : Int} (h1 : x ≤ z) (h2 : y ≤ z) : mxI x y ≤ z := by unfold mxI; split <;> assumption
def more (f : Str → Str → Int) (a b : Str) (g : Int) : Str → Str → Int := fun x y => mxI (f x y) (f x a + g + f b y)
theorem FarOk.more {n : List Str} {w : Int} {E : List Row} {f : Str → Str → Int} (F : FarOk n w E f) {a b : Str} {g : Int} (ha : a ∈ n) (hb : b ∈ n) (hE : ∀ r ∈ E, r.1 ∈ n ∧ r.2.1 ∈ n) (h0 : ∀ x ∈ n, f x x = 0) (hg : g + f b a ≤ 0) : FarOk n w (E ++ [(a, b, g)]) (Rt.more f a b g) := by
  have t : ∀ x ∈ n, ∀ m ∈ n, ∀ y ∈ n, f x m + f m y ≤ f x y := fun x hx m hm y hy => F.tri m hm x hx y hy
  refine ⟨fun x hx y hy => Int.le_trans (F.ini x hx y hy) (mxI_1 _ _), fun r m => ?_, fun x hx => ?_, fun m hm x hx y hy => ?_, fun h i l tr x hx y hy => ?_⟩
  · rcases List.mem_append.mp m with m | m
    · exact Int.le_trans (F.lag r m) (mxI_1 _ _)
    · rw [List.mem_singleton.mp m]
      have := mxI_2 (f a b) (f a a + g + f b b)
      have := h0 a ha
      have := h0 b hb
      show g ≤ Rt.more f a b g a b
      unfold Rt.more
      omega
  · have := t b hb x hx a ha
    exact mxI_le (F.dg x hx) (by omega)
  · have e1 : Rt.more f a b g x m = f x m ∨ Rt.more f a b g x m = f x a + g + f b m := by unfold Rt.more mxI; split <;> simp
    have e2 : Rt.more f a b g m y = f m y ∨ Rt.more f a b g m y = f m a + g + f b y := by unfold Rt.more mxI; split <;> simp
    have k1 := mxI_1 (f x y) (f x a + g + f b y)
    have k2 := mxI_2 (f x y) (f x a + g + f b y)
    have q1 := t x hx m hm y hy
    have q2 := t x hx m hm a ha
    have q3 := t b hb m hm y hy
    have q4 := t b hb m hm a ha
    show Rt.more f a b g x m + Rt.more f a b g m y ≤ mxI (f x y) (f x a + g + f b y)
    rcases e1 with e1 | e1 <;> rcases e2 with e2 | e2 <;> omega
  · have lo := F.lst h i (fun r m => l r (List.mem_append_left _ m)) tr
    have la : g ≤ h a b := l (a, b, g) (List.mem_append_right _ List.mem_cons_self)
    have q1 := tr a ha x hx b hb
    have q2 := tr b hb x hx y hy
    have := lo x hx a ha
    have := lo b hb y hy
    exact mxI_le (lo x hx y hy) (by omega)
theorem limits_g {k : Int} (hk : k ≤ 10000) {d : D} (hd : PenOk k d) {ns : List Str} (nl : ns.length ≤ 8) (st : Tm) {wide : Int} (hw : 0 ≤ wide ∧ wide ≤ 1000000) {tally : Int} (h0 : 0 ≤ tally) (h1 : tally ≤ 20) :
    ∃ (E : List Row) (d' : D), g__law_limits [.io d, .val (.lst (nodeD ns)), .val (tmD st), .val (.int wide), .val (.int tally)] = .ok ⟨true, .lst (E.map rowD), [d']⟩ ∧ PenOk (k + 80) d' ∧ GapsOk ns wide E ∧ E.length ≤ 20 := by
  have key : ∃ z, g__law_limits [.io d, .val (.lst (nodeD ns)), .val (tmD st), .val (.int wide), .val (.int tally)] = .ok z ∧ ∃ (E : List Row) (d' : D), z = ⟨true, .lst (E.map rowD), [d']⟩ ∧ PenOk (k + 80) d' ∧ GapsOk ns wide E ∧ E.length ≤ 20 := by
    have hs : (2000000 : Nat) < sizeLine := by decide
    refine run_def rfl ?_
    unfold b__law_limits
    walk_at "nrm"
    refine w_seq ?_; apply w_asg (d := .lst (nodeD (nds ns))) (h := .dat (.lst (nodeD (nds ns))))
    · apply ev_op
      · rfl
      · rfl
      · rfl
      · rfl
      · show (if 1 + (nodeD ns).length ≤ sizeLine then some (D.lst ([.str ""] ++ nodeD ns)) else none) = _
        rw [if_pos (by unfold nodeD; rw [List.length_map]; omega)]
        rfl
    · rfl
    walk_at "nrm"
    refine w_seq ?_; apply w_setO (d := .lst [])
    · exact ev_lst rfl rfl (Nat.zero_le _)
    walk_at "nrm"
    refine w_seq ?_
    refine w_for (l := (List.range tally.toNat).map fun (i : Nat) => .int i) (k := false) (e1 := liE d ns st wide tally [] .no .no .no .no) (fun ds e => ∃ d' E s7 s8 s9 s10, e = liE d' ns st wide tally E s7 s8 s9 s10 ∧ PenOk (k + 80 - 4 * ds.length) d' ∧ GapsOk ns wide E ∧ E.length + ds.length ≤ 20) ?_ ?_ ?_ ?_
    · exact ev_rng1 (j := tally) (hs := [.slot 4]) rfl rfl (by omega)
    · exact ⟨d, [], _, _, _, _, rfl, by rw [List.length_map, List.length_range]; exact hd.mono (by omega), ⟨(fun r m => absurd m List.not_mem_nil), _, far_0 _ hw.1⟩, by rw [List.length_map, List.length_range, List.length_nil]; omega⟩
    · rintro x ds _ ⟨d0, E, s7, s8, s9, s10, rfl, pen, ok, len⟩
      rw [List.length_cons] at pen len
      refine ⟨liE d0 ns st wide tally E (.val x) s8 s9 s10, rfl, ?_⟩
      obtain ⟨a, d1, ma, p1, e1⟩ := pick_g (by omega) pen nl (st := st) (wide := wide) (tally := tally) (E := E) (s7 := .val x) (s8 := s8) (s9 := s9) (s10 := s10)
      refine w_seq ?_; apply w_asg (d := .str a) (h := .dat (.str a))
      · exact e1
      · rfl
      obtain ⟨b, d2, mb, p2, e2⟩ := pick_g (by omega) p1 nl (st := st) (wide := wide) (tally := tally) (E := E) (s7 := .val x) (s8 := .val (.str a)) (s9 := s9) (s10 := s10)
      refine w_seq ?_; apply w_asg (d := .str b) (h := .dat (.str b))
      · exact e2
      · rfl
      obtain ⟨v, d3, hv, v0, v1, p3⟩ := draw_g _ d2 9 (by omega) (by decide) p2
      refine w_seq ?_; apply w_asg (d := .int (tOf st b - tOf st a + v - 5)) (h := .dat (.int (tOf st b - tOf st a + v - 5))) (e1 := liE d3 ns st wide tally E (.val x) (.val (.str a)) (.val (.str b)) s10)
      · apply ev_op
        · apply ev_op
          · apply ev_op
            · exact get_g st rfl rfl rfl rfl
            · exact get_g st rfl rfl rfl rfl
            · rfl
            · rfl
            · rfl
          · apply ev_user (z := ⟨false, .int v, [d3]⟩) (as := [.io d2, .val (.int 9)])
            · rfl
            · rfl
            · rfl
            · exact hv
            · rfl
          · rfl
          · rfl
          · rfl
        · rfl
        · rfl
        · rfl
        · rfl
      · rfl
      generalize tOf st b - tOf st a + v - 5 = g0
      have p6 : dPow (.int 10) (.int 6) = some (.int 1000000) := dPow_i (by decide) (by decide) (by decide)
      refine w_seq ?_; apply w_asg (d := .int (mx g0 (0 - 1000000))) (h := .dat (.int (mx g0 (0 - 1000000)))) (e1 := liE d3 ns st wide tally E (.val x) (.val (.str a)) (.val (.str b)) (.val (.int g0)))
      · apply ev_call (ds := [.int g0, .int (0 - 1000000)])
        · apply ev_cons
          · rfl
          · apply ev_cons
            · apply ev_op
              · rfl
              · exact ev_op (x := .int 10) (y := .int 6) rfl rfl rfl rfl p6
              · rfl
              · rfl
              · rfl
            · rfl
        · rfl
        · rfl
      · rfl
      have g1 := mx_2 g0 (0 - 1000000)
      generalize mx g0 (0 - 1000000) = gap at g1 ⊢
      by_cases ne : a = b
      · apply w_if (b := false) (e1 := liE d3 ns st wide tally E (.val x) (.val (.str a)) (.val (.str b)) (.val (.int gap)))
        · apply ev_aF
          apply ev_tst
          refine ev_op (h1 := .slot 8) (h2 := .slot 9) (x := .str a) (y := .str b) rfl rfl rfl rfl ?_
          show (some (D.bl (decide (a = b)))).bind dNot = _
          rw [decide_eq_true ne]; rfl
        · intro q; cases q
        · intro _
          refine w_nx ?_
          exact ⟨.inl rfl, d3, E, _, _, _, _, rfl, p3.mono (by omega), ok, by omega⟩
      · obtain ⟨z, hz, zo, zd⟩ := far_g (ns := ns) (by omega) wide (E := E ++ [(a, b, gap)]) (fun r hr => by
          rcases List.mem_append.mp hr with m | m
          · exact ⟨(ok.a r m).1, (ok.a r m).2.1⟩
          · cases List.mem_singleton.mp m; exact ⟨ma, mb⟩)
        have q1 : fTst (fOp dNe (fVar 8) (fVar 9)) (liE d3 ns st wide tally E (.val x) (.val (.str a)) (.val (.str b)) (.val (.int gap))) = .ok (true, liE d3 ns st wide tally E (.val x) (.val (.str a)) (.val (.str b)) (.val (.int gap))) := by
          apply ev_tst
          refine ev_op (h1 := .slot 8) (h2 := .slot 9) (x := .str a) (y := .str b) rfl rfl rfl rfl ?_
          show (some (D.bl (decide (a = b)))).bind dNot = _
          rw [decide_eq_false ne]; rfl
        have q2 : fUser [false, false, false] g__law_far (fCons (fVar 1) (fCons (fVar 3) (fCons (fOp dAdd (fVar 6) (fKeep (fLst (fCons (fTup (fCons (fVar 8) (fCons (fVar 9) (fCons (fVar 10) fNil)))) fNil)))) fNil))) (liE d3 ns st wide tally E (.val x) (.val (.str a)) (.val (.str b)) (.val (.int gap))) = .ok (.dat z.d, liE d3 ns st wide tally E (.val x) (.val (.str a)) (.val (.str b)) (.val (.int gap))) := by
          apply ev_user (z := z) (as := [.val (.lst (nodeD ns)), .val (.int wide), .val (.lst ((E ++ [(a, b, gap)]).map rowD))])
          · apply ev_cons
            · rfl
            · apply ev_cons
              · rfl
              · apply ev_cons
                · refine ev_op (h1 := .slot 6) (h2 := .dat (.lst [rowD (a, b, gap)])) (x := .lst (E.map rowD)) (y := .lst [rowD (a, b, gap)]) (d := .lst ((E ++ [(a, b, gap)]).map rowD)) (e1 := liE d3 ns st wide tally E (.val x) (.val (.str a)) (.val (.str b)) (.val (.int gap))) (e2 := liE d3 ns st wide tally E (.val x) (.val (.str a)) (.val (.str b)) (.val (.int gap))) rfl ?_ rfl rfl ?_
                  · apply ev_keep
                    refine ev_lst (hs := [.dat (rowD (a, b, gap))]) ?_ rfl (by decide : (1 : Nat) ≤ sizeLine)
                    apply ev_cons
                    · exact ev_tup rfl rfl (by decide : (3 : Nat) ≤ sizeLine)
                    · rfl
                  · rw [rows_app]
                    exact if_pos (by rw [List.length_map, List.length_singleton]; omega)
                · rfl
          · rfl
          · rfl
          · exact hz
          · rw [zo]; rfl
        rcases zd with ⟨zd, _⟩ | ⟨l, f, zl, _, F⟩
        · apply w_if (b := false) (e1 := liE d3 ns st wide tally E (.val x) (.val (.str a)) (.val (.str b)) (.val (.int gap)))
          · refine ev_aT q1 ?_
            apply ev_tst
            refine ev_op (h2 := .dat .non) (x := .non) (y := .non) q2 rfl (by rw [zd]; rfl) rfl rfl
          · intro q; cases q
          · intro _
            refine w_nx ?_
            exact ⟨.inl rfl, d3, E, _, _, _, _, rfl, p3.mono (by omega), ok, by omega⟩
        · apply w_if (b := true) (e1 := liE d3 ns st wide tally E (.val x) (.val (.str a)) (.val (.str b)) (.val (.int gap)))
          · refine ev_aT q1 ?_
            apply ev_tst
            refine ev_op (h2 := .dat .non) (x := .dcT l) (y := .non) q2 rfl (by rw [zl]; rfl) rfl rfl
          · intro _
            apply w_drop (h := .dat .non) (e1 := liE d3 ns st wide tally (E ++ [(a, b, gap)]) (.val x) (.val (.str a)) (.val (.str b)) (.val (.int gap)))
            · refine (ev_app (h := .dat (rowD (a, b, gap))) (l0 := E.map rowD) (l := E.map rowD) (d := rowD (a, b, gap)) (e1 := liE d3 ns st wide tally E (.val x) (.val (.str a)) (.val (.str b)) (.val (.int gap))) (e2 := liE d3 ns st wide tally E (.val x) (.val (.str a)) (.val (.str b)) (.val (.int gap))) rfl (ev_tup rfl rfl (by decide : (3 : Nat) ≤ sizeLine)) rfl rfl (by rw [List.length_map]; omega)).trans ?_
              unfold liE
              rw [rows_app]; rfl
            · refine ⟨.inl rfl, d3, E ++ [(a, b, gap)], _, _, _, _, rfl, p3.mono (by omega), ⟨fun r hr => ?_, f, F⟩, by rw [List.length_append, List.length_singleton]; omega⟩
              · rcases List.mem_append.mp hr with m | m
                · exact ok.a r m
                · cases List.mem_singleton.mp m
                  exact ⟨ma, mb, ne, by show -1000000 ≤ gap; omega⟩
          · intro q; cases q
    · rintro _ ⟨d1, E, s7, s8, s9, s10, rfl, pen, ok, len⟩
      apply w_retS (i := 6) (d := .lst (E.map rowD))
      · rfl
      · rfl
      · exact ⟨_, rfl, _, rfl, E, d1, rfl, pen.mono (by simp), ok, by omega⟩
  obtain ⟨z, e, E, d', rfl, q⟩ := key
  exact ⟨E, d', e, q⟩
theorem parts_m {k : Int} (hk : k ≤ 5000) {d : D} (hd : PenOk k d) {m : Int} (m1 : 1 ≤ m) (m8 : m ≤ 8) : ∃ (wide : Int) (st : Tm) (E : List Row) (d' : D), g__law_parts [.io d, .val (.int m)] = .ok ⟨false, .tup [.int wide, tmD st, .lst (E.map rowD)], [d']⟩ ∧ PenOk (k + 110) d' ∧ PartOk wide st E ∧ (st.length : Int) ≤ m := by
  have key : ∃ z, g__law_parts [.io d, .val (.int m)] = .ok z ∧ ∃ (wide : Int) (st : Tm) (E : List Row) (d' : D), z = ⟨false, .tup [.int wide, tmD st, .lst (E.map rowD)], [d']⟩ ∧ PenOk (k + 110) d' ∧ PartOk wide st E ∧ (st.length : Int) ≤ m := by
    have hs : (2000000 : Nat) < sizeLine := by decide
    obtain ⟨v1, d1, h1, a1, b1, p1⟩ := draw_g _ d m (by omega) (by omega) hd
    obtain ⟨ns, d2, h2, p2, nnd, nnm, nl⟩ := names_g (t := 1 + v1) (by omega) p1 (by omega) (by omega)
    obtain ⟨v3, d3, h3, a3, b3, p3⟩ := draw_g _ d2 6 (by omega) (by decide) p2
    obtain ⟨wide, ew, w0, w1⟩ := atI_6 v3 a3 b3
    have p6 : dPow (.int 10) (.int 6) = some (.int 1000000) := dPow_i (by decide) (by decide) (by decide)
    obtain ⟨v4, d4, h4, a4, b4, p4⟩ := draw_g _ d3 4 (by omega) (by decide) p3
    obtain ⟨w, eww, hw⟩ := atI_t (if (15 : Int) < wide then 15 else wide) wide (v4 / 3) (by omega) (by omega)
    have hw2 : 0 ≤ w ∧ w ≤ wide := by
      rcases hw with rfl | rfl
      · split <;> omega
      · omega
    have mn := dMin_i wide 15
    have nl8 : ns.length ≤ 8 := by omega
    obtain ⟨st, d5, h5, p5, cat, tok⟩ := starts_g (by omega) p4 nnd nnm nl8 hw2.1 (by omega)
    obtain ⟨v6, d6, h6, a6, b6, p6'⟩ := draw_g _ d5 (2 * (ns.length : Int) + 1) (by omega) (by omega) p5
    obtain ⟨E, d7, h7, p7, gok, gl⟩ := limits_g (by omega) p6' nl8 st ⟨w0, w1⟩ (tally := v6) a6 (by omega)
    have ln := nodeD_len ns
    refine run_def rfl ?_
    unfold b__law_parts
    walk_at "nrm"
    walk_at "sasg"
    walk_at "sasg"
    walk_at "sasg"
    apply w_retV
    · walk_at "go"
    · rfl
    · exact ⟨_, rfl, _, rfl, wide, st, E, d7, rfl, p7.mono (by omega), ⟨⟨w0, w1⟩, tok.up hw2.2, by rw [cat]; exact gok, by omega⟩, by rw [← List.length_map (as := st) (f := (·.1)), cat]; omega⟩
  obtain ⟨z, e, wide, st, E, d', rfl, q⟩ := key
  exact ⟨wide, st, E, d', e, q⟩
section
variable {wide : Int} {st : Tm} {S : List Row} {f : Str → Str → Int}
theorem table_g (P : PlanOk wide st S f) (len : st.length ≤ 30) : g__law_table [.val (planD wide st S), .val (.lst (nodeD (nodesS st)))] = .ok ⟨true, .dcT (tabR (nodesS st) (nodesS st) f), []⟩ := by
  refine run_eq (run_def rfl ?_)
  unfold b__law_table
  walk_at "nrm"
  refine w_seq ?_; apply w_setO (d := .dcT [])
  · rfl
  walk_at "nrm"
  refine w_seq ?_
  refine tab_loop P len (rest := []) fun s3 s4 => ?_
  apply w_retS (i := 2) (d := .dcT (tabR (nodesS st) (nodesS st) f))
  · rfl
  · rfl
  · exact ⟨_, rfl, _, rfl, rfl⟩
theorem agr_tab (N : List Str) : dNeT (.dcT (tabR N N f)) (.dcT (tabR N N f)) = some (.bl false) := by
  refine if_pos ?_
  rw [beq_self_eq_true, Bool.true_and, agr_iff]
  intro p mp
  obtain ⟨a, ma, b, mb, rfl⟩ := tabR_mem.mp mp
  exact ⟨f a b, rfl, tabR_tab a ma b mb⟩
theorem partsr_g (P : PlanOk wide st S f) (len : st.length ≤ 30) : g__law_parts_right [.val (planD wide st S), .val (.lst (nodeD (nodesS st))), .val (.dcT (tabR (nodesS st) (nodesS st) f))] = .ok ⟨false, .bl true, []⟩ := by
  have T := tabR_tab (ns := nodesS st) (f := f)
  refine run_eq (run_def rfl ?_)
  unfold b__law_parts_right
  walk_at "nrm"
  refine w_seq ?_
  refine x_for (k := false) .str (nodesS st) (fun _ e => ∃ s3 s4 s5 s6, e = [.val (planD wide st S), .val (.lst (nodeD (nodesS st))), .val (.dcT (tabR (nodesS st) (nodesS st) f)), s3, s4, s5, s6]) ?_ ?_ ?_ ?_
  · exact EvI.it (Ev.var rfl) rfl
  · exact ⟨_, _, _, _, rfl⟩
  · rintro ys a zs _ hx ⟨s3, s4, s5, s6, rfl⟩
    have ma : a ∈ nodesS st := by rw [hx]; exact List.mem_append_right _ List.mem_cons_self
    have ma' := (srt_nds _ _).mp ma
    refine ⟨_, rfl, ?_⟩
    walk_at "nrm"
    refine x_for (k := false) .str (nodesS st) (fun _ e => ∃ s4 s5 s6, e = [.val (planD wide st S), .val (.lst (nodeD (nodesS st))), .val (.dcT (tabR (nodesS st) (nodesS st) f)), .val (.str a), s4, s5, s6]) ?_ ?_ ?_ ?_
    · exact EvI.it (Ev.var rfl) rfl
    · exact ⟨_, _, _, rfl⟩
    · rintro ws b vs _ hw ⟨s4, s5, s6, rfl⟩
      have mb : b ∈ nodesS st := by rw [hw]; exact List.mem_append_right _ List.mem_cons_self
      have mb' := (srt_nds _ _).mp mb
      obtain ⟨E, l, G, hch, Wy⟩ := chain_g P ma' mb'
      have w := Wy.fwd
      have mid : ∀ u ∈ l.reverse, f a u + f u b = f a b := fun u hu => Wy.mid P G (List.mem_reverse.mp hu)
      obtain ⟨W, hW⟩ : ∃ W, l.reverse = W := ⟨_, rfl⟩
      rw [hW] at hch w mid
      have wl : W.length ≤ 31 := by
        have := w.len
        rw [List.length_cons, List.length_map] at this
        omega
      refine ⟨_, rfl, ?_⟩
      walk_at "nrm"
      walk_at "sasg"
      have d1 := dLen_tup (nodeD W)
      have ll : (nodeD W).length = W.length := by unfold nodeD; rw [List.length_map]
      refine x_for (k := false) (fun i : Nat => D.int i) (List.range W.length) (fun _ e => ∃ s6, e = [.val (planD wide st S), .val (.lst (nodeD (nodesS st))), .val (.dcT (tabR (nodesS st) (nodesS st) f)), .val (.str a), .val (.str b), .val (.tup (nodeD W)), s6]) ?_ ?_ ?_ ?_
      · have := EvI.rng (e := [.val (planD wide st S), .val (.lst (nodeD (nodesS st))), .val (.dcT (tabR (nodesS st) (nodesS st) f)), .val (.str a), .val (.str b), .val (.tup (nodeD W)), s6]) (j := ((nodeD W).length : Int)) (gl := fCons (fCall dLenX (fCons (fVar 5) fNil)) fNil) (by apply EvgL.cons _ EvgL.nil; walk_at "pu") (by omega)
        rw [ll, Int.toNat_natCast] at this
        exact this
      · exact ⟨_, rfl⟩
      · rintro is k js _ hk ⟨s6, rfl⟩
        have mk : k < W.length := List.mem_range.mp (by rw [hk]; exact List.mem_append_right _ List.mem_cons_self)
        obtain ⟨u, hu⟩ : ∃ u, W[k]? = some u := ⟨W[k], by simp [mk]⟩
        have mu := List.mem_of_getElem? hu
        have mu' : u ∈ nodesS st := (srt_nds _ _).mpr (w.mem u mu)
        have i1 := ixW hu (by omega)
        have i2 := ixT_ok (T a ma u mu')
        have i3 := ixT_ok (T u mu' b mb)
        have i4 := ixT_ok (T a ma b mb)
        have e := mid u mu
        have ne : dNe (.int (f a u + f u b)) (.int (f a b)) = some (.bl false) := by
          rw [e]; exact dNe_refl (Sq.int _) (by decide)
        refine ⟨_, rfl, ?_⟩
        walk_at "nrm"
        apply w_if1F
        · apply Evt.tst
          walk_at "pu"
        · exact ⟨.inl rfl, _, rfl⟩
      · rintro _ ⟨s6, rfl⟩
        exact ⟨.inl rfl, _, _, _, rfl⟩
    · rintro _ ⟨s4, s5, s6, rfl⟩
      exact ⟨.inl rfl, _, _, _, _, rfl⟩
  rintro _ ⟨s3, s4, s5, s6, rfl⟩
  apply x_ret (d := .bl true)
  · exact Evd.v Evd.c
  · exact ⟨_, rfl, _, rfl, rfl⟩
end
theorem draw4 (v : Int) (h0 : 0 ≤ v) (h1 : v < 4) : ∃ w : Int, dIx (.lst [.int 0, .int (-1), .int 1, .int 2]) (.int v) = some (.int w) ∧ -1 ≤ w ∧ w ≤ 2 := by
  have : v = 0 ∨ v = 1 ∨ v = 2 ∨ v = 3 := by omega
  rcases this with rfl | rfl | rfl | rfl
  · exact ⟨0, rfl, by decide, by decide⟩
  · exact ⟨-1, rfl, by decide, by decide⟩
  · exact ⟨1, rfl, by decide, by decide⟩
  · exact ⟨2, rfl, by decide, by decide⟩
theorem good (ns : List Int) : Good g_law ns := by
  have key : ∃ z, g_law [.val (.scr ns)] = .ok z ∧ z.d = .bl true ∧ z.own = false := by
    have hs : (2000000 : Nat) < sizeLine := by decide
    obtain ⟨cs, hpen, hcs⟩ := pen_g ns
    refine run_def rfl ?_
    unfold b_law
    walk_at "nrm"
    walk_at "ssetO"
    refine w_seq ?_
    refine w_rng (fun i e => ∃ d s2 s3 s4 s5 s6 s7 s8 s9 s10 s11 s12 s13 s14, e = [.val (.scr ns), .own d, s2, s3, s4, s5, s6, s7, s8, s9, s10, s11, s12, s13, s14, .no] ∧ PenOk (200 * i) d) (by decide) ?_ ?_ ?_
    · exact ⟨_, _, _, _, _, _, _, _, _, _, _, _, _, _, rfl, cs, 0, 0, rfl, by decide, by decide, hcs⟩
    · rintro i _ hi ⟨d, s2, s3, s4, s5, s6, s7, s8, s9, s10, s11, s12, s13, s14, rfl, pen⟩
      refine ⟨_, rfl, ?_⟩
      walk_at "nrm"
      obtain ⟨wide, st, E, d1, h1, p1, P, sl⟩ := parts_m (m := 5) (by omega) pen (by decide) (by decide)
      obtain ⟨f, F⟩ := P.g.f
      obtain ⟨S, eS, mS, Q, hp⟩ := P.plan (by decide) F
      have pw := P.w
      have tl := P.t.len
      have pl := P.l
      have s0 := sortedTm (st := st) (by omega)
      have c0 := cat0 (srtN st) (by rw [srt_len, List.length_map]; omega)
      have ln : (nodesS st).length ≤ 31 := by rw [List.length_cons, srt_len, List.length_map]; omega
      have ht := table_g Q (by omega)
      have hpr := partsr_g Q (by omega)
      have T := tabR_tab (ns := nodesS st) (f := f)
      walk_at "sasgG"
      walk_at "spar"
      walk_at "sasg"
      -- other times
      obtain ⟨r, e', hq, d2, st2, rfl, pen2, rfl, cat, tm⟩ := w_compP (gt := gSet 15) (fe := fTup (fCons (fVar 15) (fCons (fUser [true, false] g__law_draw (fCons (fVar 1) (fCons (fOp dAdd (fVar 6) (fC (.int 1))) fNil))) fNil))) (vs := [15]) D.str (srtN st)
        (fun ys e acc => ∃ (d' : D) (st' : Tm), e = [.val (.scr ns), .own d', .val (.int i), .val (.dcT (tabR (nodesS st) (nodesS st) f)), s4, s5, .val (.int wide), .val (tmD st), .val (.lst (E.map rowD)), .val (planD wide st S), .val (.lst (nodeD (nodesS st))), s11, s12, s13, s14, .no] ∧ PenOk (200 * i + 110 + ys.length) d' ∧ acc = st'.map pD ∧ st'.map (·.1) = ys ∧ ∀ p ∈ st', 0 ≤ p.2 ∧ p.2 ≤ wide)
        (e := [.val (.scr ns), .own d1, .val (.int i), .val (.dcT (tabR (nodesS st) (nodesS st) f)), s4, s5, .val (.int wide), .val (tmD st), .val (.lst (E.map rowD)), .val (planD wide st S), .val (.lst (nodeD (nodesS st))), s11, s12, s13, s14, .no])
        ⟨d1, [], rfl, p1.mono (by simp), rfl, rfl, fun p m => absurd m List.not_mem_nil⟩ (by
          rintro ys a zs _ _ hx ⟨d', st', rfl, pen', rfl, cat, tm⟩
          have ly := len_mid hx
          rw [srt_len, List.length_map] at ly
          have lst : st'.length = ys.length := by rw [← cat, List.length_map]
          obtain ⟨v, d3, hv, v0, v1, p3⟩ := draw_g _ d' (wide + 1) (by omega) (by omega) pen'
          refine ⟨by rw [List.length_map]; omega, [.val (.scr ns), .own d', .val (.int i), .val (.dcT (tabR (nodesS st) (nodesS st) f)), s4, s5, .val (.int wide), .val (tmD st), .val (.lst (E.map rowD)), .val (planD wide st S), .val (.lst (nodeD (nodesS st))), s11, s12, s13, s14, .val (.str a)], .dat (pD (a, v)), [.val (.scr ns), .own d3, .val (.int i), .val (.dcT (tabR (nodesS st) (nodesS st) f)), s4, s5, .val (.int wide), .val (tmD st), .val (.lst (E.map rowD)), .val (planD wide st S), .val (.lst (nodeD (nodesS st))), s11, s12, s13, s14, .val (.str a)], pD (a, v), [.val (.scr ns), .own d3, .val (.int i), .val (.dcT (tabR (nodesS st) (nodesS st) f)), s4, s5, .val (.int wide), .val (tmD st), .val (.lst (E.map rowD)), .val (planD wide st S), .val (.lst (nodeD (nodesS st))), s11, s12, s13, s14, .val (.str a)], rfl, ?_, rfl, d3, st' ++ [(a, v)], rfl, p3.mono (by rw [List.length_append, List.length_singleton]; omega), by rw [List.map_append]; rfl, by rw [List.map_append, cat]; rfl, ?_⟩
          · refine ev_tup (hs := [.slot 15, .dat (.int v)]) (ds := [.str a, .int v]) (e1 := [.val (.scr ns), .own d3, .val (.int i), .val (.dcT (tabR (nodesS st) (nodesS st) f)), s4, s5, .val (.int wide), .val (tmD st), .val (.lst (E.map rowD)), .val (planD wide st S), .val (.lst (nodeD (nodesS st))), s11, s12, s13, s14, .val (.str a)]) ?_ rfl (by decide : (2 : Nat) ≤ sizeLine)
            apply ev_cons
            · rfl
            · apply ev_cons
              · apply ev_user (z := ⟨false, .int v, [d3]⟩) (as := [.io d', .val (.int (wide + 1))]) (hs := [.slot 1, .dat (.int (wide + 1))]) (e1 := [.val (.scr ns), .own d', .val (.int i), .val (.dcT (tabR (nodesS st) (nodesS st) f)), s4, s5, .val (.int wide), .val (tmD st), .val (.lst (E.map rowD)), .val (planD wide st S), .val (.lst (nodeD (nodesS st))), s11, s12, s13, s14, .val (.str a)])
                · apply ev_cons
                  · rfl
                  apply ev_cons
                  · exact ev_op (h1 := .slot 6) (h2 := .dat (.int 1)) (x := .int wide) (y := .int 1) rfl rfl rfl rfl rfl
                  · rfl
                · rfl
                · rfl
                · exact hv
                · rfl
              · rfl
          · intro p mp
            rcases List.mem_append.mp mp with m | m
            · exact tm p m
            · cases List.mem_singleton.mp m
              exact ⟨v0, by show v ≤ wide; omega⟩)
      have n2 : ∀ a, a ∈ nm st2 ↔ a ∈ nm st := fun a => by rw [show nm st2 = srtN st from cat]; exact srt_mem _ _
      have l2 : st2.length = st.length := by rw [← List.length_map (as := st2) (f := (·.1)), cat, srt_len, List.length_map]
      have T2 : TmOk st2 wide := ⟨by rw [cat]; exact srt_nd P.t.nd, fun p m => by
        obtain ⟨q, mq, e⟩ := List.mem_map.mp ((n2 p.1).mp (List.mem_map.mpr ⟨p, m, rfl⟩))
        rw [← e]; exact P.t.nm q mq, tm, by omega⟩
      have P2 := P.other T2 n2
      have F2 : FarOk (nds (nm st2)) wide E f := F.congr fun a => by rw [List.mem_cons, List.mem_cons, n2 a]
      obtain ⟨S2, eS2, mS2, Q2, hp2⟩ := P2.plan (by decide) F2
      have ns2 : nodesS st2 = nodesS st := by
        show nds (sortStr (nm st2)) = nds (sortStr (nm st))
        rw [show nm st2 = srtN st from cat, srt_idem]
      have ht2 := table_g Q2 (by omega)
      rw [ns2] at ht2
      have dp := dictP_tm (st := st2) T2.nd
      refine w_seq ?_; apply w_setO (d := tmD st2)
      · refine ev_callO (ds := [.lst (st2.map pD)]) (ev_cons (ev_keep (ev_comp (e2 := [.val (.scr ns), .own d2, .val (.int i), .val (.dcT (tabR (nodesS st) (nodesS st) f)), s4, s5, .val (.int wide), .val (tmD st), .val (.lst (E.map rowD)), .val (planD wide st S), .val (.lst (nodeD (nodesS st))), s11, s12, s13, s14, .no]) (k := false) (l := nodeD (srtN st)) (e1 := [.val (.scr ns), .own d1, .val (.int i), .val (.dcT (tabR (nodesS st) (nodesS st) f)), s4, s5, .val (.int wide), .val (tmD st), .val (.lst (E.map rowD)), .val (planD wide st S), .val (.lst (nodeD (nodesS st))), s11, s12, s13, s14, .no]) (r := st2.map pD) ?_ rfl hq)) rfl) rfl dp
        exact EvI.it (Evd.v (Evd.keep (Evk.callO (EvgL.cons (Evg.val rfl) EvgL.nil) s0))) rfl
      walk_at "nrm"
      have nt := agr_tab (f := f) (nodesS st)
      refine w_seq ?_; apply w_if1F
      · apply ev_oF
        · walk_at "go"
        · apply ev_notT (b := true)
          apply ev_tru
          · walk_at "go"
          · rfl
          · rfl
      walk_at "nrm"
      have l1 := len_nodeD (nodesS st)
      rw [srt_len, List.length_map] at pen2
      obtain ⟨v1, d3, h3, p3, a, ma, ia⟩ := pickN (by omega) pen2 (xs := nodesS st) (by rw [List.length_cons]; omega) (by omega)
      obtain ⟨v2, d4, h4, p4, b, mb, ib⟩ := pickN (by omega) p3 (xs := nodesS st) (by rw [List.length_cons]; omega) (by omega)
      obtain ⟨v5, d5, h5, a5, b5, p5⟩ := draw_g _ d4 4 (by omega) (by decide) p4
      obtain ⟨w5, i5, w5l, w5h⟩ := draw4 v5 a5 b5
      have p5' : PenOk (200 * (i + 1 : Nat)) d5 := p5.mono (by omega)
      have i1 := ixT_ok (T a ma b mb)
      have i2 := ixT_ok (T b mb a ma)
      walk_at "spar"
      walk_at "sasg"
      have p6 : dPow (.int 10) (.int 6) = some (.int 1000000) := dPow_i (by decide) (by decide) (by decide)
      obtain ⟨g, hg⟩ : ∃ g, f a b + w5 = g := ⟨_, rfl⟩
      rw [hg]
      have ma' := (srt_nds _ _).mp ma
      have mb' := (srt_nds _ _).mp mb
      have cond : Evt (fAnd (fTst (fOp dNe (fVar 11) (fVar 12))) (fAnd (fTst (fChain dLe dLe (fNeg (fOp dPow (fC (.int 10)) (fC (.int 6)))) (fVar 5) (fOp dPow (fC (.int 10)) (fC (.int 6))))) (fTst (fOp dLe (fOp dAdd (fVar 5) (fOp dIx (fVar 3) (fTup (fCons (fVar 12) (fCons (fVar 11) fNil))))) (fC (.int 0)))))) [.val (.scr ns), .own d5, .val (.int i), .val (.dcT (tabR (nodesS st) (nodesS st) f)), .val (tmD st2), .val (.int g), .val (.int wide), .val (tmD st), .val (.lst (E.map rowD)), .val (planD wide st S), .val (.lst (nodeD (nodesS st))), .val (.str a), .val (.str b), s13, s14, .no] (!decide (a = b) && ((decide (-1000000 ≤ g) && decide (g ≤ 1000000)) && decide (g + f b a ≤ 0))) := by
        have := dNe_s a b
        apply Evt.and2
        · walk_at "pu"
        · apply Evt.and2
          · walk_at "pu"
          · walk_at "pu"
      apply x_if1 cond
      · intro q
        simp only [Bool.and_eq_true, Bool.not_eq_true', decide_eq_true_eq, decide_eq_false_iff_not] at q
        obtain ⟨ne, ⟨g1, g2⟩, g3⟩ := q
        have hE : ∀ r ∈ E, r.1 ∈ nds (nm st) ∧ r.2.1 ∈ nds (nm st) := fun r hr => ⟨(P.g.a r hr).1, (P.g.a r hr).2.1⟩
        have F3 := F.more ma' mb' hE (fun x hx => Q.dg0 hx) g3
        have P3 : PartOkN 21 wide st (E ++ [(a, b, g)]) := ⟨P.w, P.t, ⟨fun r m => by
          rcases List.mem_append.mp m with m | m
          · exact P.g.a r m
          · rw [List.mem_singleton.mp m]; exact ⟨ma', mb', ne, g1⟩, _, F3⟩, by rw [List.length_append, List.length_singleton]; omega⟩
        obtain ⟨S3, eS3, mS3, Q3, hp3⟩ := P3.plan (by decide) F3
        have ht3 := table_g Q3 (by omega)
        have T3 := tabR_tab (ns := nodesS st) (f := more f a b g)
        have ap : dAdd (.lst (E.map rowD)) (.lst [.tup [.str a, .str b, .int g]]) = some (.lst ((E ++ [(a, b, g)]).map rowD)) := by
          rw [List.map_append]
          exact if_pos (by rw [List.length_map, List.length_singleton]; omega)
        walk_at "sasg"
        refine x_for (k := true) (fun p : List Key × D => .tup (p.1.map keyD)) (tabR (nodesS st) (nodesS st) f) (fun _ e => ∃ s14, e = [.val (.scr ns), .own d5, .val (.int i), .val (.dcT (tabR (nodesS st) (nodesS st) f)), .val (tmD st2), .val (.int g), .val (.int wide), .val (tmD st), .val (.lst (E.map rowD)), .val (planD wide st S), .val (.lst (nodeD (nodesS st))), .val (.str a), .val (.str b), .val (.dcT (tabR (nodesS st) (nodesS st) (more f a b g))), s14, .no]) ?_ ?_ ?_ ?_
        · rfl
        · exact ⟨_, rfl⟩
        · rintro ys p zs _ hx ⟨s14, rfl⟩
          have mp : p ∈ tabR (nodesS st) (nodesS st) f := by rw [hx]; exact List.mem_append_right _ List.mem_cons_self
          obtain ⟨x, mx, y, my, rfl⟩ := tabR_mem.mp mp
          have j1 := ixT_ok (T3 x mx y my)
          have j2 := ixT_ok (T x mx y my)
          have j3 := ixT_ok (T x mx a ma)
          have j4 := ixT_ok (T b mb y my)
          have j5 : dIx (.tup [.str x, .str y]) (.int 0) = some (.str x) := rfl
          have j6 : dIx (.tup [.str x, .str y]) (.int 1) = some (.str y) := rfl
          have j7 : dMax2 [.int (f x y), .int (f x a + g + f b y)] = some (.int (more f a b g x y)) := rfl
          have ne : dNeT (.int (more f a b g x y)) (.int (more f a b g x y)) = some (.bl false) := dNe_refl (Sq.int _) (by decide)
          refine ⟨[.val (.scr ns), .own d5, .val (.int i), .val (.dcT (tabR (nodesS st) (nodesS st) f)), .val (tmD st2), .val (.int g), .val (.int wide), .val (tmD st), .val (.lst (E.map rowD)), .val (planD wide st S), .val (.lst (nodeD (nodesS st))), .val (.str a), .val (.str b), .val (.dcT (tabR (nodesS st) (nodesS st) (more f a b g))), .val (.tup [.str x, .str y]), .no], rfl, ?_⟩
          apply w_if1F
          · apply Evt.tst
            walk_at "pu"
          · exact ⟨.inl rfl, _, rfl⟩
        · rintro _ ⟨s14, rfl⟩
          exact ⟨.inl rfl, _, _, _, _, _, _, _, _, _, _, _, _, _, _, rfl, p5'⟩
      · intro _
        exact ⟨.inl rfl, _, _, _, _, _, _, _, _, _, _, _, _, _, _, rfl, p5'⟩
    · rintro _ ⟨d, s2, s3, s4, s5, s6, s7, s8, s9, s10, s11, s12, s13, s14, rfl, pen⟩
      apply w_retV (d := .bl true)
      · rfl
      · rfl
      · exact ⟨_, rfl, _, rfl, rfl, rfl⟩
  exact key
end Rt
open PySem PySem.W PyProof.Rows
set_option maxRecDepth 100000 in
set_option maxHeartbeats 0 in
theorem PySem.Challenge.cw_retime_k14_whole_distances_holds : PySem.Challenge.rw_retime_k14_whole_distances.Holds := by
  w_on; o_law; k_head; (case hw => w_witness2)
  k_fill
  refine Rt.walkG (l := PySem.Challenge.rw_retime_k14_whole_distances) (n := 63) (k := 7) (x := "script") (g := Rt.g_law) rfl rfl (by decide) rfl ⟨rfl, by decide, by decide⟩ (fun w h Y => PySem.W.kIn_of Y) ?hK ?F (fun ns _ _ => Rt.good ns)
  case hK => intro w; first | rfl | decide +kernel | k_is
  case F =>
    intro w mg fa h KX G hmg
    refine' Rt.all_mk KX G hmg ?n_Plan ?ca_Plan ?cb_Plan ?cc_Plan ?cd_Plan ?ce_Plan ?ck_Plan ?cf_Plan__lags ?cf_Plan__times ?cf_Plan_horizon ?a1 ?l1 ?c1 ?k1 ?a2 ?l2 ?c2 ?k2 ?a3 ?l3 ?c3 ?k3 ?a4 ?l4 ?c4 ?k4 ?a5 ?l5 ?c5 ?k5 ?a6 ?l6 ?c6 ?k6 ?a7 ?l7 ?c7 ?k7 ?a8 ?l8 ?c8 ?k8 ?a9 ?l9 ?c9 ?k9 ?a10 ?l10 ?c10 ?k10 ?a11 ?fn11 ?l11 ?c11 ?k11 ?a12 ?l12 ?c12 ?k12 ?a13 ?l13 ?c13 ?k13 ?a14 ?l14 ?c14 ?k14 ?a15 ?fn15 ?l15 ?c15 ?k15 ?a16 ?l16 ?c16 ?k16 ?a17 ?l17 ?c17 ?k17 ?a18 ?l18 ?c18 ?k18 ?a19 ?l19 ?c19 ?k19 ?a20 ?l20 ?c20 ?k20 ?a21 ?l21 ?c21 ?k21 ?a22 ?l22 ?c22 ?k22 ?a23 ?l23 ?c23 ?k23 ?a24 ?l24 ?c24 ?k24 ?dl25 ?tl25 ?a25 ?fn25 ?l25 ?c25 ?k25 ?a26 ?l26 ?c26 ?k26 ?a27 ?l27 ?c27 ?k27 ?a28 ?l28 ?c28 ?k28 ?g_LARGEST ?g_LETTERS ?g_LONGEST_NAME ?z_all ?z_any ?z_bool ?z_dict ?z_int ?z_isinstance ?z_len ?z_list ?z_max ?z_min ?z_range ?z_reversed ?z_set ?z_sorted ?z_str ?z_tuple
    (case n_Plan => k_is)
    (case ca_Plan => k_is)
    (case cb_Plan => k_is)
    (case cc_Plan => k_is)
    (case cd_Plan => k_is)
    (case ce_Plan => k_is)
    (case ck_Plan => k_is)
    (case cf_Plan__lags => k_is)
    (case cf_Plan__times => k_is)
    (case cf_Plan_horizon => k_is)
    (case a1 => k_is)
    (case l1 => k_is)
    (case c1 => k_is)
    (case k1 => k_is)
    (case a2 => k_is)
    (case l2 => k_is)
    (case c2 => k_is)
    (case k2 => k_is)
    (case a3 => k_is)
    (case l3 => k_is)
    (case c3 => k_is)
    (case k3 => k_is)
    (case a4 => k_is)
    (case l4 => k_is)
    (case c4 => k_is)
    (case k4 => k_is)
    (case a5 => k_is)
    (case l5 => k_is)
    (case c5 => k_is)
    (case k5 => k_is)
    (case a6 => k_is)
    (case l6 => k_is)
    (case c6 => k_is)
    (case k6 => k_is)
    (case a7 => k_is)
    (case l7 => k_is)
    (case c7 => k_is)
    (case k7 => k_is)
    (case a8 => k_is)
    (case l8 => k_is)
    (case c8 => k_is)
    (case k8 => k_is)
    (case a9 => k_is)
    (case l9 => k_is)
    (case c9 => k_is)
    (case k9 => k_is)
    (case a10 => k_is)
    (case l10 => k_is)
    (case c10 => k_is)
    (case k10 => k_is)
    (case a11 => k_is)
    (case fn11 => k_is)
    (case l11 => k_is)
    (case c11 => k_is)
    (case k11 => k_is)
    (case a12 => k_is)
    (case l12 => k_is)
    (case c12 => k_is)
    (case k12 => k_is)
    (case a13 => k_is)
    (case l13 => k_is)
    (case c13 => k_is)
    (case k13 => k_is)
    (case a14 => k_is)
    (case l14 => k_is)
    (case c14 => k_is)
    (case k14 => k_is)
    (case a15 => k_is)
    (case fn15 => k_is)
    (case l15 => k_is)
    (case c15 => k_is)
    (case k15 => k_is)
    (case a16 => k_is)
    (case l16 => k_is)
    (case c16 => k_is)
    (case k16 => k_is)
    (case a17 => k_is)
    (case l17 => k_is)
    (case c17 => k_is)
    (case k17 => k_is)
    (case a18 => k_is)
    (case l18 => k_is)
    (case c18 => k_is)
    (case k18 => k_is)
    (case a19 => k_is)
    (case l19 => k_is)
    (case c19 => k_is)
    (case k19 => k_is)
    (case a20 => k_is)
    (case l20 => k_is)
    (case c20 => k_is)
    (case k20 => k_is)
    (case a21 => k_is)
    (case l21 => k_is)
    (case c21 => k_is)
    (case k21 => k_is)
    (case a22 => k_is)
    (case l22 => k_is)
    (case c22 => k_is)
    (case k22 => k_is)
    (case a23 => k_is)
    (case l23 => k_is)
    (case c23 => k_is)
    (case k23 => k_is)
    (case a24 => k_is)
    (case l24 => k_is)
    (case c24 => k_is)
    (case k24 => k_is)
    (case a25 => k_is)
    (case fn25 => k_is)
    (case l25 => k_is)
    (case c25 => k_is)
    (case k25 => k_is)
    (case a26 => k_is)
    (case l26 => k_is)
    (case c26 => k_is)
    (case k26 => k_is)
    (case a27 => k_is)
    (case l27 => k_is)
    (case c27 => k_is)
    (case k27 => k_is)
    (case a28 => k_is)
    (case l28 => k_is)
    (case c28 => k_is)
    (case k28 => k_is)
    (case g_LARGEST => k_is)
    (case g_LETTERS => k_is)
    (case g_LONGEST_NAME => k_is)
    (case z_all => k_is)
    (case z_any => k_is)
    (case z_bool => k_is)
    (case z_dict => k_is)
    (case z_int => k_is)
    (case z_isinstance => k_is)
    (case z_len => k_is)
    (case z_list => k_is)
    (case z_max => k_is)
    (case z_min => k_is)
    (case z_range => k_is)
    (case z_reversed => k_is)
    (case z_set => k_is)
    (case z_sorted => k_is)
    (case z_str => k_is)
    (case z_tuple => k_is)
    (case dl25 => k_is)
    (case tl25 => k_is)
