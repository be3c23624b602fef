import PyProof.Rows.All
import Wide.All
import OpenK.AllK
import Wide.FinOn
import HandS.ForMost
import HandS.Codes
import HandS.Evl
import HandS.Walk
import HandS.DictComp
import HandS.SortInts
import HandS.IsInst
import HandS.TupAny
import HandS.Conv
import HandS.Strs
import HandS.Lambda
import HandS.Nested
import KE.SortKeyHeap
import KE.SortData
import KE.KSortKey
import KE.KStateDown
import HandS.Head0
import HandS.Head1
import HandS.Head2
import HandS.HeadEnd
import HandS.HeadHook1
import HandS.HeadHook2
import HandS.HeadHook4
import HandS.HeadWalk
import HandS.Iter
import KE.GoesEnumKw
import KE.GoesMore
import HandS.SetFor
import HandS.More
import HandS.Deep
import PyProof.P3In
import PyProof.TupleOfSeq
import HandS.TupMul
import HandS.Exc
import HandS.ExcInit
import HandS.ExcSuper
import HandS.ExcField
import HandS.ExcIs
import KE.KExcSuper
import HandS.ExcCtx
import KE.KIsAll
import HandS.ListItems
import HandS.Dict
import HandS.HeadHook3
import KE.KDictPairs
import HandS.CallLocal
import HandS.HotCalls
import HandS.Ends
import PyProof.ReprRoads
import HandS.EndTab
import HandS.Head4
import HandS.Star
import HandS.NoneIn
import HandS.SetKeys
import HandS.Flow
import PyProof.ReprBulk
import HandS.List
import PySem.Challenge.RW_weakcourt_k33_what_is_obtainable_is_load
set_option Elab.async false
set_option linter.all false
set_option maxRecDepth 100000
set_option maxHeartbeats 4000000
/-! Weakcourt's proofs, the common part: the data of a heap as it stands in the model's memory, relations between memories, readings of comprehensions. -/
namespace Wc
open PySem L2
theorem u20 {k : Nat} {A : Around} (r : Room k A) : A.units + 20 < cLine := by have := r.un; omega
/-! ### promises by their number of arguments -/
abbrev V1 := V → Hp → VK → Prop
abbrev V2 := V → V → Hp → VK → Prop
abbrev V3 := V → V → V → Hp → VK → Prop
abbrev V4 := V → V → V → V → Hp → VK → Prop
abbrev V5 := V → V → V → V → V → Hp → VK → Prop
abbrev sp1 (R : V1) : Sp := fun vs H Q _ => ∃ x, vs = [x] ∧ R x H Q
abbrev sp2 (R : V2) : Sp := fun vs H Q _ => ∃ x y, vs = [x, y] ∧ R x y H Q
abbrev sp3 (R : V3) : Sp := fun vs H Q _ => ∃ x y z, vs = [x, y, z] ∧ R x y z H Q
abbrev sp4 (R : V4) : Sp := fun vs H Q _ => ∃ x y z u, vs = [x, y, z, u] ∧ R x y z u H Q
abbrev sp5 (R : V5) : Sp := fun vs H Q _ => ∃ x y z u v, vs = [x, y, z, u, v] ∧ R x y z u v H Q
/-! ### a def where it stands, with its code object: the rule for its body -/
structure Df (K : PySem.W.Frag) (x : Str) (st : Stmt) (f : Addr) (fd : FuncData) (cd : Value) : Prop where
  ok : ∀ {P : Program} {w : World} {mg : Str → Option Value} {base : PySem.Heap} {N ps : List Str} {k : Nat} {sp : Sp}, FnScope N ps (defScope st) → (∀ vs H Q E, sp vs H Q E → vs.length = ps.length) →
    (∀ (A : Around) (outer : List Env) (s : Shared) (H : Hp) (vs : List V) (Q : VK) (E : XK), Room k (A.deeper (PyProof.Rows.envOfC x (defScope st) s.heap.objs.size f cd)) → sp vs H Q E →
      ∃ t, PSs (cxOf CX0 P w K mg base N x (defScope st) f cd A outer s H E).nox (defBody st) t ∧ t { nx := fun _ H' => Q .non H', rt := Q } (start N vs) H) → FnOk P w K mg base CX0 (k + 1) f fd ps sp
theorem Df.of {K : PySem.W.Frag} {x : Str} {st : Stmt} {f : Addr} {oc : Value} {od an : Option Addr} {dV kV doc pm cd ct : Value} {osl : Array (Option Value)}
    (lk : K.lookup f = some ⟨oc, od, .func (PySem.W.fnOf x x (defArgs st) (defBody st) (defScope st) dV kV doc pm an cd ct), osl⟩) (hcd : PySem.W.codeIn K cd x = true) :
    Df K x st f (PySem.W.fnOf x x (defArgs st) (defBody st) (defScope st) dV kV doc pm an cd ct) cd :=
  ⟨fun S len hb => fn_of lk hcd S len fun A outer s H vs Q E hr hsp => let ⟨t, h, q⟩ := hb A outer s H vs Q E hr hsp; ⟨t, h.nox, q⟩⟩
/-! ### a def that may be called by its name: its promise, where it stands, how arguments bind -/
structure Cal (P : Program) (w : World) (K : PySem.W.Frag) (mg : Str → Option Value) (base : PySem.Heap) (k : Nat) (x : Str) (sp : Sp) (dvs : List V) : Prop where
  all : ∃ (f : Addr) (fd : FuncData) (ps : List Str) (ds : List Value), FnOk P w K mg base CX0 k f fd ps sp ∧ mg x = some (.ref f) ∧
    PySem.W.keepIn K (.ref f) = true ∧ Binds K fd ps ds ∧ Vals dvs ds
theorem Cal.mk0 {P : Program} {w : World} {K : PySem.W.Frag} {mg : Str → Option Value} {base : PySem.Heap} {k : Nat} {x : Str} {sp : Sp} {f : Addr} {fd : FuncData} {ps : List Str}
    (h : FnOk P w K mg base CX0 k f fd ps sp) (m : mg x = some (.ref f)) (kp : PySem.W.keepIn K (.ref f) = true) (b : Binds K fd ps []) : Cal P w K mg base k x sp [] := ⟨f, fd, ps, [], h, m, kp, b, .nil⟩
theorem pe_c {X : Cx} {j k : Nat} {x : Str} {sp : Sp} {dvs : List V} {e : Expr} {es : List Expr} {p pos : Pos} {t : TA}
    (c : Cal X.prog X.w X.K X.mg X.base k x sp dvs) (hr : Room j X.A) (hk : k ≤ j) (hg : Gl X x) (ha : PA X (e :: es) t)
    (h1 : (x == ("__debug__" : Str)) = false := by decide) (h2 : starEach (e :: es) X.env = (false, eval e X.env) :: starEach es X.env := by rfl)
    (h3 : (backTo pos (starEach es X.env)).any (·.1) = false := by rfl) : PE X (.Call (.Name x p) (e :: es) [] pos) (tCall sp dvs E0 t) :=
  let ⟨_, _, _, _, F, hm, kp, b, d⟩ := c.all
  pe_call F (hr.mono hk) hg hm kp b d pass0 ha h1 h2 h3
/-- tuple(xs) -/
def rTupS (K : PySem.W.Frag) : List V → Hp → VK → Prop := fun xs H Q => ∃ p ys, xs = [.ref p] ∧ ((SqL K H p ys ∧ ∀ l, H l = none → Q (.ref l) (upd H l (.tup ys))) ∨ (SqT K H p ys ∧ Q (.ref p) H))
/-- a comprehension without a test -/
theorem tyes {σ : L2.St} {H : Hp} {F G : Hp → Prop} (h : F H) : tYes σ H fun c H4 => if c = true then F H4 else G H4 := by
  show if true = true then F H else G H
  rw [if_pos rfl]
  exact h
/-- a number among numbers -/
theorem inV_int (n : Int) (ns : List Int) : inV (.int n) (ns.map V.int) = decide (n ∈ ns) := by
  induction ns with
  | nil => rfl
  | cons k r ih =>
    show (eqV (.int k) (.int n) || inV (.int n) (r.map V.int)) = _
    rw [ih]
    show (k == n || decide (n ∈ r)) = _
    by_cases e : k = n
    · subst e; simp
    · have e3 : ¬ n = k := fun z => e z.symm
      simp [e, e3]
theorem flat_ints (ns : List Int) : (ns.map V.int).all flatV = true := by
  rw [List.all_eq_true]
  intro x hx
  obtain ⟨n, _, rfl⟩ := List.mem_map.mp hx
  rfl
/-! ### memories -/
/-- all but what stands at M is as it was -/
def ExM (M : List Addr) (H H' : Hp) : Prop := ∀ a o, a ∉ M → H a = some o → H' a = some o
abbrev ExA (H H' : Hp) : Prop := ExM [] H H'
/-- every tuple is as it was; so are those of which the object is known -/
structure Tk (K : PySem.W.Frag) (H H' : Hp) : Prop where
  sq : ∀ a xs, SqT K H a xs → SqT K H' a xs
  zq : ∀ a (o : Obj) xs, H a = some (.frz o (.tup xs)) → H' a = some (.frz o (.tup xs))
instance {K : PySem.W.Frag} {H H' : Hp} : CoeFun (Tk K H H') fun _ => ∀ a xs, SqT K H a xs → SqT K H' a xs := ⟨Tk.sq⟩
/-- a tuple of which it is known that its object has no dict -/
def SqZ (H : Hp) (a : Addr) (xs : List V) : Prop := ∃ o : Obj, o.dict = none ∧ H a = some (.frz o (.tup xs))
theorem SqZ.sq {K : PySem.W.Frag} {H : Hp} {a : Addr} {xs : List V} (h : SqZ H a xs) : SqT K H a xs := let ⟨o, _, e⟩ := h; .inl (.inr ⟨o, e⟩)
theorem SqZ.mono {K : PySem.W.Frag} {H H' : Hp} {a : Addr} {xs : List V} (t : Tk K H H') (h : SqZ H a xs) : SqZ H' a xs := let ⟨o, n, e⟩ := h; ⟨o, n, t.zq _ _ _ e⟩
section
variable {K : PySem.W.Frag} {M : List Addr} {H H' H1 H2 : Hp} {a b p D : Addr} {o u : HO} {xs ys : List V}
theorem ExM.refl (M : List Addr) (H : Hp) : ExM M H H := fun _ _ _ h => h
theorem ExM.trans (h1 : ExM M H H1) (h2 : ExM M H1 H2) : ExM M H H2 := fun a o n h => h2 a o n (h1 a o n h)
theorem ExM.of (h : ExA H H') : ExM M H H' := fun a o _ e => h a o (by simp) e
theorem ExA.at (h : ExA H H') (e : H a = some o) : H' a = some o := h a o (by simp) e
theorem ExM.new (n : H p = none) : ExM M H (upd H p o) := fun a u _ e => by
  rw [upd_ne (ne_of_none e n)]; exact e
theorem ExM.put (h : ExM M H H') (n : H p = none) : ExM M H (upd H' p o) := fun a u m e => by
  rw [upd_ne (ne_of_none e n)]; exact h a u m e
theorem ExM.mem (h : ExM M H H') (n : p ∈ M) : ExM M H (upd H' p o) := fun a u m e => by
  rw [upd_ne (fun z => m (by rw [z]; exact n))]; exact h a u m e
theorem ExM.free (h : ExM M H H') (m : p ∉ M) (n : H' p = none) : H p = none := by
  cases q : H p with
  | none => rfl
  | some u => rw [h p u m q] at n; cases n
theorem ExA.free (h : ExA H H') (n : H' p = none) : H p = none := ExM.free h (by simp) n
theorem Tk.refl : Tk K H H := ⟨fun _ _ h => h, fun _ _ _ h => h⟩
theorem Tk.trans (h1 : Tk K H H1) (h2 : Tk K H1 H2) : Tk K H H2 := ⟨fun a xs h => h2.sq a xs (h1.sq a xs h), fun a o xs h => h2.zq a o xs (h1.zq a o xs h)⟩
theorem Tk.new (n : H p = none) : Tk K H (upd H p o) := ⟨fun a xs h => by
  rcases h with (h | ⟨v, h⟩) | h
  · exact .inl (.inl (by rw [upd_ne (ne_of_none h n)]; exact h))
  · exact .inl (.inr ⟨v, by rw [upd_ne (ne_of_none h n)]; exact h⟩)
  · exact .inr h, fun a v xs h => by rw [upd_ne (ne_of_none h n)]; exact h⟩
theorem Tk.all (h : ExA H H') : Tk K H H' := ⟨fun a xs e => by
  rcases e with (e | ⟨v, e⟩) | e
  · exact .inl (.inl (h.at e))
  · exact .inl (.inr ⟨v, h.at e⟩)
  · exact .inr e, fun a v xs e => h.at e⟩
/-- what is no tuple, and no tuple locked, may be written -/
theorem Tk.upd (n : ∀ xs, H p ≠ some (.tup xs)) (n2 : ∀ v xs, H p ≠ some (.frz v (.tup xs))) : Tk K H (L2.upd H p o) := ⟨fun a xs h => by
  rcases h with (h | ⟨v, h⟩) | h
  · exact .inl (.inl (by rw [upd_ne (fun z => n xs (by rw [← z]; exact h))]; exact h))
  · exact .inl (.inr ⟨v, by rw [upd_ne (fun z => n2 v xs (by rw [← z]; exact h))]; exact h⟩)
  · exact .inr h, fun a v xs h => by rw [upd_ne (fun z => n2 v xs (by rw [← z]; exact h))]; exact h⟩
theorem Tk.lst (h : H p = some (.lst xs)) : Tk K H (L2.upd H p o) := Tk.upd (fun _ q => by rw [h] at q; cases q) (fun _ _ q => by rw [h] at q; cases q)
theorem Tk.dic {kvs : List (Key × V)} (h : H p = some (.dK kvs)) : Tk K H (L2.upd H p o) := Tk.upd (fun _ q => by rw [h] at q; cases q) (fun _ _ q => by rw [h] at q; cases q)
theorem Tk.frz {kvs : List (Key × V)} {v : Obj} (h : H p = some (.frz v (.dK kvs))) : Tk K H (L2.upd H p o) := Tk.upd (fun _ q => by rw [h] at q; cases q) (fun _ _ q => by rw [h] at q; cases q)
theorem SqL.all (h : ExA H H') (e : SqL K H a xs) : SqL K H' a xs := by
  rcases e with (e | ⟨v, e⟩) | e
  · exact .inl (.inl (h.at e))
  · exact .inl (.inr ⟨v, h.at e⟩)
  · exact .inr e
end
/-- tuple(xs), a new object without a dict -/
def rTupZ (K : PySem.W.Frag) : List V → Hp → VK → Prop := fun xs H Q => ∃ p ys, xs = [.ref p] ∧ SqL K H p ys ∧ ∀ l (o : Obj), H l = none → o.dict = none → Q (.ref l) (upd H l (.frz o (.tup ys)))
theorem SqZ.of {H : Hp} {a : Addr} {xs : List V} {o : Obj} (n : o.dict = none) (h : H a = some (.frz o (.tup xs))) : SqZ H a xs := ⟨o, n, h⟩
/-! ### a heap of the program, as data -/
abbrev Rf := Option Int
def rV : Rf → V
  | none => .non
  | some i => .int i
inductive Ob where
  | rcd (n : Int) (fs : List Rf)
  | weak (n : Int) (t : Rf)
  | tab (n : Int) (es : List (Int × Int))
def Ob.num : Ob → Int
  | .rcd n _ => n
  | .weak n _ => n
  | .tab n _ => n
structure Hd where
  nx : Int
  regs : List Rf
  kept : List Int
  obs : List Ob
  wat : List (Int × Int)
def Hd.nums (h : Hd) : List Int := h.obs.map Ob.num
def Rf.ok (S : List Int) (r : Rf) : Prop := ∀ i, r = some i → i ∈ S
def Ob.ok (S : List Int) : Ob → Prop
  | .rcd _ fs => fs.length ≤ 1000 ∧ ∀ r ∈ fs, Rf.ok S r
  | .weak _ t => Rf.ok S t
  | .tab _ es => es.length ≤ 1000 ∧ (es.map (·.1)).Nodup ∧ ∀ e ∈ es, e.1 ∈ S ∧ e.2 ∈ S
structure Hd.Ok (h : Hd) : Prop where
  up : h.nums.Pairwise (· < ·)
  size : h.obs.length ≤ 50
  nreg : h.regs.length ≤ 1000
  regs : ∀ r ∈ h.regs, Rf.ok h.nums r
  obs : ∀ o ∈ h.obs, o.ok h.nums
  kept : ∀ i ∈ h.kept, i ∈ h.nums
  wat : ∀ e ∈ h.wat, e.1 ∈ h.nums
  low : ∀ n ∈ h.nums, 0 ≤ n ∧ n < h.nx
  nxl : 0 ≤ h.nx ∧ h.nx ≤ 999
  kup : h.kept.Pairwise (· < ·)
  tok : ∀ e ∈ h.wat, 0 ≤ e.2 ∧ e.2 ≤ 999
  nwat : h.wat.length ≤ 50
  rpos : h.regs ≠ []
/-- what an object leads to -/
def ledTo (o : Ob) (got gone : List Int) : List Int := match o with
  | .rcd _ fs => fs.filterMap id
  | .weak _ none => []
  | .weak _ (some t) => if t ∈ gone then [] else [t]
  | .tab _ es => (es.filter fun e => decide (e.1 ∈ got)).map (·.2)
/-! ### .. as it stands in memory: tuples all through -/
section
variable (K : PySem.W.Frag) (H : Hp)
def PairAt (a : Addr) (p : Int × Int) : Prop := SqT K H a [.int p.1, .int p.2]
def ObAt (a : Addr) : Ob → Prop
  | .rcd n fs => ∃ t, SqT K H a [.str "record", .int n, .ref t] ∧ SqZ H t (fs.map rV)
  | .weak n r => SqT K H a [.str "weak", .int n, rV r]
  | .tab n es => ∃ t ps, SqT K H a [.str "table", .int n, .ref t] ∧ SqZ H t (ps.map .ref) ∧ Paired (PairAt K H) ps es
def ObsAt (o : Addr) (h : Hd) : Prop := ∃ os, SqT K H o (os.map V.ref) ∧ Paired (ObAt K H) os h.obs
def HeapAt (a : Addr) (h : Hd) : Prop := ∃ r k o w ws, SqT K H a [.str "heap", .int h.nx, .ref r, .ref k, .ref o, .ref w] ∧ SqZ H r (h.regs.map rV) ∧ SqT K H k (h.kept.map .int) ∧
  ObsAt K H o h ∧ SqT K H w (ws.map .ref) ∧ Paired (PairAt K H) ws h.wat
end
section
variable {K : PySem.W.Frag} {H H' : Hp} {a : Addr}
theorem pmp {α β : Type} {F G : α → β → Prop} {l : List α} {m : List β} (h : Paired F l m) (f : ∀ a b, F a b → G a b) : Paired G l m := Paired.mapP h f
theorem PairAt.mono (t : Tk K H H') {p : Int × Int} (h : PairAt K H a p) : PairAt K H' a p := t _ _ h
theorem ObAt.mono (t : Tk K H H') {o : Ob} (h : ObAt K H a o) : ObAt K H' a o := by
  cases o with
  | rcd n fs => obtain ⟨q, h1, h2⟩ := h; exact ⟨q, t _ _ h1, h2.mono t⟩
  | weak n r => exact t _ _ h
  | tab n es => obtain ⟨q, ps, h1, h2, h3⟩ := h; exact ⟨q, ps, t _ _ h1, h2.mono t, pmp h3 fun _ _ z => PairAt.mono t z⟩
theorem ObsAt.mono (t : Tk K H H') {h : Hd} (x : ObsAt K H a h) : ObsAt K H' a h := by
  obtain ⟨os, h1, h2⟩ := x
  exact ⟨os, t _ _ h1, pmp h2 fun _ _ z => ObAt.mono t z⟩
theorem HeapAt.mono (t : Tk K H H') {h : Hd} (x : HeapAt K H a h) : HeapAt K H' a h := by
  obtain ⟨r, k, o, w, ws, h1, h2, h3, h4, h5, h6⟩ := x
  exact ⟨r, k, o, w, ws, t _ _ h1, h2.mono t, t _ _ h3, h4.mono t, t _ _ h5, pmp h6 fun _ _ z => PairAt.mono t z⟩
theorem pget {α β : Type} {F : α → β → Prop} : ∀ {l : List α} {m : List β} {i : Nat} {x : α}, Paired F l m → l[i]? = some x → ∃ y, m[i]? = some y ∧ F x y
  | _, _, _, _, .nil, e => by simp at e
  | _, _, 0, _, .cons r _, e => by simp at e; subst e; exact ⟨_, rfl, r⟩
  | _, _, i + 1, x, .cons _ t, e => by
    obtain ⟨u, h1, h2⟩ := pget (i := i) (x := x) t (by simpa using e)
    exact ⟨u, by simpa using h1, h2⟩
theorem pget' {α β : Type} {F : α → β → Prop} : ∀ {l : List α} {m : List β} {i : Nat} {y : β}, Paired F l m → m[i]? = some y → ∃ x, l[i]? = some x ∧ F x y
  | _, _, _, _, .nil, e => by simp at e
  | _, _, 0, _, .cons r _, e => by simp at e; subst e; exact ⟨_, rfl, r⟩
  | _, _, i + 1, y, .cons _ t, e => by
    obtain ⟨u, h1, h2⟩ := pget' (i := i) (y := y) t (by simpa using e)
    exact ⟨u, by simpa using h1, h2⟩
theorem plen {α β : Type} {F : α → β → Prop} : ∀ {l : List α} {m : List β}, Paired F l m → l.length = m.length
  | _, _, .nil => rfl
  | _, _, .cons _ t => by rw [List.length_cons, List.length_cons, plen t]
theorem psnoc {α β : Type} {F : α → β → Prop} {x : α} {y : β} (q : F x y) : ∀ {l : List α} {m : List β}, Paired F l m → Paired F (l ++ [x]) (m ++ [y])
  | _, _, .nil => .cons q .nil
  | _, _, .cons r t => .cons r (psnoc q t)
/-- the number of an object, at its place -/
theorem ObAt.num {o : Ob} (h : ObAt K H a o) : ∃ k v, SqT K H a [.str k, .int o.num, v] := by
  cases o with
  | rcd n fs => obtain ⟨q, h1, h2⟩ := h; exact ⟨_, _, h1⟩
  | weak n r => exact ⟨_, _, h⟩
  | tab n es => obtain ⟨q, ps, h1, h2, h3⟩ := h; exact ⟨_, _, h1⟩
end
/-! ### items of short rows -/
theorem at0 {x : V} {r : List V} : atI (x :: r) (0 : Int) = some x := atI_nat (j := 0) rfl
theorem at1 {x y : V} {r : List V} : atI (x :: y :: r) (1 : Int) = some y := atI_nat (j := 1) rfl
theorem at2 {x y z : V} {r : List V} : atI (x :: y :: z :: r) (2 : Int) = some z := atI_nat (j := 2) rfl
theorem at3 {x y z w : V} {r : List V} : atI (x :: y :: z :: w :: r) (3 : Int) = some w := atI_nat (j := 3) rfl
theorem at4 {x y z w v : V} {r : List V} : atI (x :: y :: z :: w :: v :: r) (4 : Int) = some v := atI_nat (j := 4) rfl
theorem at5 {x y z w v u : V} {r : List V} : atI (x :: y :: z :: w :: v :: u :: r) (5 : Int) = some u := atI_nat (j := 5) rfl
theorem sz {n : Nat} (h : n ≤ 100000) : n ≤ sizeLine := Nat.le_trans h (by decide)
theorem szl {n : Nat} (h : n ≤ 100000) : n < sizeLine := Nat.lt_of_le_of_lt h (by decide)
/-! ### data of any depth: tuples of tuples of numbers, texts, None -/
inductive Dt where
  | non
  | bl (b : Bool)
  | int (i : Int)
  | str (s : Str)
  | tup (ds : List Dt)
mutual
def Is (K : PySem.W.Frag) (H : Hp) : Dt → V → Prop
  | .non, v => v = .non
  | .bl b, v => v = .bl b
  | .int i, v => v = .int i
  | .str s, v => v = .str s
  | .tup ds, v => ∃ a xs, v = .ref a ∧ SqT K H a xs ∧ IsL K H ds xs
def IsL (K : PySem.W.Frag) (H : Hp) : List Dt → List V → Prop
  | [], xs => xs = []
  | d :: ds, xs => ∃ x r, xs = x :: r ∧ Is K H d x ∧ IsL K H ds r
end
mutual
def Dt.dep : Dt → Nat
  | .tup ds => 1 + Dt.depL ds
  | _ => 0
def Dt.depL : List Dt → Nat
  | [] => 0
  | d :: ds => max d.dep (Dt.depL ds)
end
mutual
/-- rows that are not too long -/
def Dt.thin : Dt → Prop
  | .tup ds => ds.length ≤ 100000 ∧ Dt.thinL ds
  | _ => True
def Dt.thinL : List Dt → Prop
  | [] => True
  | d :: ds => d.thin ∧ Dt.thinL ds
end
theorem thin_get : ∀ {ds : List Dt} {i : Nat} {d : Dt}, Dt.thinL ds → ds[i]? = some d → d.thin
  | [], i, d, _, e => by simp at e
  | d :: ds, 0, d', h, e => by
    have e : d = d' := by simpa using e
    subst e
    exact h.1
  | d :: ds, i + 1, d', h, e => thin_get (i := i) h.2 (by simpa using e)
theorem thin_ints : ∀ ns : List Int, Dt.thinL (ns.map Dt.int)
  | [] => trivial
  | _ :: ns => ⟨trivial, thin_ints ns⟩
theorem IsL.len {K : PySem.W.Frag} {H : Hp} : ∀ {ds : List Dt} {xs : List V}, IsL K H ds xs → xs.length = ds.length
  | [], xs, h => by
    have e : xs = [] := h
    rw [e]; rfl
  | d :: ds, xs, h => by
    obtain ⟨x, r, e, _, h2⟩ := h
    rw [e, List.length_cons, List.length_cons, IsL.len h2]
theorem IsL.get {K : PySem.W.Frag} {H : Hp} : ∀ {ds : List Dt} {xs : List V} {i : Nat} {d : Dt}, IsL K H ds xs → ds[i]? = some d → ∃ x, xs[i]? = some x ∧ Is K H d x
  | [], xs, i, d, h, e => by simp at e
  | d :: ds, xs, 0, d', h, e => by
    obtain ⟨x, r, e1, h1, _⟩ := h
    have e : d = d' := by simpa using e
    subst e
    rw [e1]; exact ⟨x, rfl, h1⟩
  | d :: ds, xs, i + 1, d', h, e => by
    obtain ⟨x, r, e1, _, h2⟩ := h
    obtain ⟨y, h3, h4⟩ := IsL.get (i := i) h2 (by simpa using e)
    rw [e1]; exact ⟨y, by simpa using h3, h4⟩
theorem dep_get : ∀ {ds : List Dt} {i : Nat} {d : Dt}, ds[i]? = some d → d.dep ≤ Dt.depL ds
  | [], i, d, e => by simp at e
  | d :: ds, 0, d', e => by
    have e : d = d' := by simpa using e
    subst e
    exact Nat.le_max_left _ _
  | d :: ds, i + 1, d', e => Nat.le_trans (dep_get (i := i) (by simpa using e)) (Nat.le_max_right _ _)
theorem IsL.ints {K : PySem.W.Frag} {H : Hp} : ∀ ns : List Int, IsL K H (ns.map Dt.int) (ns.map V.int)
  | [] => rfl
  | n :: ns => ⟨_, _, rfl, rfl, IsL.ints ns⟩
theorem depL_ints : ∀ ns : List Int, Dt.depL (ns.map Dt.int) = 0
  | [] => rfl
  | n :: ns => by
    show max 0 (Dt.depL (ns.map Dt.int)) = 0
    rw [depL_ints ns]; rfl
theorem tyx_tup {K : PySem.W.Frag} {H : Hp} {a : Addr} {xs : List V} (h : SqT K H a xs) : TyX K H (.ref a) (.type "tuple") := by
  rcases h with (h | ⟨o, h⟩) | ⟨o, its, n, h1, h2, _⟩
  · exact .base (.tup h)
  · exact .fTuple h
  · exact .kTuple h1 h2
/-! ### a list or a tuple that is walked -/
def iSeq (K : PySem.W.Frag) (tl : TE) : TI := fun σ H R => iList K tl σ H R ∨ iTup K tl σ H R
theorem pi_seq {X : Cx} {tg l : Expr} {tl : TE} (hl : PE X l tl) : PI X tg l (iSeq X.K tl) :=
  ⟨fun pins s σ H R I h => h.elim ((pi_list hl).run pins s σ H R I) ((pi_tup hl).run pins s σ H R I)⟩
/-- a list or a tuple -/
def SqS (K : PySem.W.Frag) (H : Hp) (a : Addr) (xs : List V) : Prop := SqL K H a xs ∨ SqT K H a xs
theorem SqS.all {K : PySem.W.Frag} {H H' : Hp} {a : Addr} {xs : List V} (e : ExA H H') (h : SqS K H a xs) : SqS K H' a xs := h.elim (fun z => .inl (SqL.all e z)) fun z => .inr (Tk.all e _ _ z)
theorem seq_at {K : PySem.W.Frag} {tl : TE} {σ : L2.St} {H : Hp} {R : It → Hp → Prop} {c : Addr} {xs : List V} (h : SqS K H c xs) (ht : ∀ Q : VK, Q (.ref c) H → tl σ H Q)
    (k : ∀ J G, Walk J xs.length G (YAt xs) → (∀ H', ExA H H' → G H') → R J H) : iSeq K tl σ H R := by
  rcases h with h | h
  · exact .inl (ht _ ⟨c, rfl, ⟨xs, h⟩, k _ _ walk_list fun H' e => SqL.all e h⟩)
  · exact .inr (ht _ ⟨c, rfl, ⟨xs, h⟩, k _ _ walk_tup fun H' e => Tk.all e _ _ h⟩)
/-! ### what stands beside a list that may change -/
theorem SqL.exm {K : PySem.W.Frag} {M : List Addr} {H H' : Hp} {a : Addr} {xs : List V} (h : ExM M H H') (m : a ∉ M) (e : SqL K H a xs) : SqL K H' a xs := by
  rcases e with (e | ⟨v, e⟩) | e
  · exact .inl (.inl (h a _ m e))
  · exact .inl (.inr ⟨v, h a _ m e⟩)
  · exact .inr e
theorem Tk.exm {K : PySem.W.Frag} {b : Addr} {H H' : Hp} {xs : List V} (h : ExM [b] H H') (hb : H b = some (.lst xs)) : Tk K H H' := by
  have ne : ∀ a o, H a = some o → o ≠ .lst xs → a ∉ [b] := fun a o q z m => by
    have e : a = b := by simpa using m
    rw [e, hb] at q
    exact z (Option.some.inj q).symm
  refine ⟨fun a ys e => ?_, fun a o ys e => h a _ (ne a _ e (fun z => nomatch z)) e⟩
  rcases e with (e | ⟨v, e⟩) | e
  · exact .inl (.inl (h a _ (ne a _ e (fun z => nomatch z)) e))
  · exact .inl (.inr ⟨v, h a _ (ne a _ e (fun z => nomatch z)) e⟩)
  · exact .inr e
/-- the law's source of numbers: a list of a list of numbers and a place in it -/
def Bx (H : Hp) (b d : Addr) (ds : List Int) : Prop := (∃ n : Nat, H b = some (.lst [.ref d, .int (n : Int)])) ∧ H d = some (.lst (ds.map V.int)) ∧ d ≠ b
section
variable {K : PySem.W.Frag} {H H' H0 : Hp} {b d p : Addr} {ds : List Int} {o : HO}
theorem Bx.tk (x : Bx H b d ds) (h : ExM [b] H H') : Tk K H H' := let ⟨⟨_, e⟩, _, _⟩ := x; Tk.exm h e
theorem Bx.keep (x : Bx H b d ds) (h : ExA H H') : Bx H' b d ds := let ⟨⟨n, e⟩, e2, e3⟩ := x; ⟨⟨n, ExA.at h e⟩, ExA.at h e2, e3⟩
theorem Bx.put (x : Bx H b d ds) (x0 : Bx H0 b d ds) (n : H0 p = none) : Bx (upd H p o) b d ds := by
  obtain ⟨⟨k, e⟩, e2, e3⟩ := x
  obtain ⟨⟨k0, f⟩, f2, _⟩ := x0
  exact ⟨⟨k, by rw [upd_ne (ne_of_none f n)]; exact e⟩, by rw [upd_ne (ne_of_none f2 n)]; exact e2, e3⟩
theorem Bx.new (x : Bx H b d ds) (n : H p = none) : Bx (upd H p o) b d ds := x.put x n
theorem Bx.ne (x : Bx H b d ds) (n : H p = none) : p ∉ [b] := fun m => by
  have e : p = b := by simpa using m
  obtain ⟨⟨k, q⟩, _⟩ := x
  rw [e, q] at n; cases n
end
/-- a list of numbers, apart from the source -/
def Nm (K : PySem.W.Frag) (H : Hp) (b a : Addr) (ns : List Int) : Prop := SqL K H a (ns.map V.int) ∧ a ∉ [b]
theorem Nm.keep {K : PySem.W.Frag} {H H' : Hp} {b a : Addr} {ns : List Int} (x : Nm K H b a ns) (h : ExM [b] H H') : Nm K H' b a ns := ⟨SqL.exm h x.2 x.1, x.2⟩
/-! ### comprehensions: what holds of the turn, of the row made so far and of the memory -/
def LcP (M : List Addr) (H : Hp) (D : Addr) (Acc : Nat → List V → Hp → Prop) (i : Nat) (H' : Hp) : Prop := ExM M H H' ∧ ∃ acc, H' D = some (.lst acc) ∧ acc.length ≤ i ∧ Acc i acc H'
section
variable {M : List Addr} {H H1 H5 : Hp} {D : Addr} {Acc : Nat → List V → Hp → Prop} {i : Nat} {acc : List V} {y : V}
theorem LcP.yes (hD : H D = none) (hM : D ∉ M) (hi : i ≤ 40000) (e : ExM M H H1) (h1 : H1 D = some (.lst acc)) (h2 : acc.length ≤ i) (e2 : ExM M H1 H5) (h : Acc (i + 1) (acc ++ [y]) (upd H5 D (.lst (acc ++ [y])))) :
    ∃ acc', H5 D = some (.lst acc') ∧ acc'.length < sizeLine ∧ LcP M H D Acc (i + 1) (upd H5 D (.lst (acc' ++ [y]))) :=
  ⟨acc, e2 D _ hM h1, szl (by omega), (e.trans e2).put hD, acc ++ [y], upd_same, by rw [List.length_append, List.length_singleton]; omega, h⟩
theorem LcP.no (hM : D ∉ M) (e : ExM M H H1) (h1 : H1 D = some (.lst acc)) (h2 : acc.length ≤ i) (e2 : ExM M H1 H5) (h : Acc (i + 1) acc H5) : LcP M H D Acc (i + 1) H5 :=
  ⟨e.trans e2, acc, e2 D _ hM h1, by omega, h⟩
end
theorem lcM (M : List Addr) {J : It} {n : Nat} {G : Hp → Prop} {Y : Nat → Hp → V → Hp → Prop} (w : Walk J n G Y) {g : TG} {tt : TT} {te : TE} {vs : List Nat} {σ : L2.St} {H : Hp} {D : Addr} {Qd : Hp → Prop}
    (hD : H D = none) (Acc : Nat → List V → Hp → Prop) (h0 : Acc 0 [] (upd H D (.lst []))) (hG : ∀ H', ExM M H H' → G H')
    (hs : ∀ i x H1 H2 acc, i < n → ExM M H H1 → H1 D = some (.lst acc) → acc.length ≤ i → Acc i acc H1 → Y i H1 x H2 → g x (wipe σ vs) H2 fun σ2 H3 => wipe σ2 vs = wipe σ vs ∧ tt σ2 H3 fun c H4 =>
      if c = true then te σ2 H4 fun y H5 => ∃ acc', H5 D = some (.lst acc') ∧ acc'.length < sizeLine ∧ LcP M H D Acc (i + 1) (upd H5 D (.lst (acc' ++ [y]))) else LcP M H D Acc (i + 1) H4)
    (hd : ∀ H' acc, ExM M H H' → H' D = some (.lst acc) → acc.length ≤ n → Acc n acc H' → Qd H') :
    ∃ W : Nat → Nat → Hp → Prop, (∃ m, W 0 m (upd H D (.lst []))) ∧ ∀ i m H, W i m H →
      (J.stop i H ∧ Qd H) ∨ (J.go i H ∧ ∃ Nx : Hp → Prop, (∀ H', Nx H' → ∃ m', m' < m ∧ W (i + 1) m' H') ∧ ∀ x H', J.yld i H x H' → g x (wipe σ vs) H' fun σ2 H2 => wipe σ2 vs = wipe σ vs ∧ tt σ2 H2 fun b H3 =>
        if b = true then te σ2 H3 fun y H4 => ∃ acc, H4 D = some (.lst acc) ∧ acc.length < sizeLine ∧ Nx (upd H4 D (.lst (acc ++ [y]))) else Nx H3) := by
  refine lc_it w (LcP M H D Acc) ⟨ExM.new hD, [], upd_same, Nat.le_refl _, h0⟩ (fun i H' _ p => hG H' p.1) (fun i x H1 H2 hi p y => ?_)
    fun H' p => by obtain ⟨e, acc, h1, h2, h3⟩ := p; exact hd H' acc e h1 h2 h3
  obtain ⟨e, acc, h1, h2, h3⟩ := p
  exact hs i x H1 H2 acc hi e h1 h2 h3 y
/-! ### the same of dicts with number keys -/
def DcP (M : List Addr) (H : Hp) (D : Addr) (Acc : Nat → List (Key × V) → Hp → Prop) (i : Nat) (H' : Hp) : Prop := ExM M H H' ∧ ∃ acc, H' D = some (.dK acc) ∧ acc.length ≤ i ∧ Acc i acc H'
theorem DcP.yes {M : List Addr} {H H1 H5 : Hp} {D : Addr} {Acc : Nat → List (Key × V) → Hp → Prop} {i : Nat} {acc : List (Key × V)} {k : Key} {y z : V} (hD : H D = none) (hM : D ∉ M) (hi : i ≤ 40000) (e : ExM M H H1) (h1 : H1 D = some (.dK acc)) (h2 : acc.length ≤ i)
    (ek : y = kV k) (e2 : ExM M H1 H5) (h : Acc (i + 1) (putK acc k z) (upd H5 D (.dK (putK acc k z)))) :
    ∃ kvs k, y = kV k ∧ H5 D = some (.dK kvs) ∧ kvs.length < sizeLine ∧ DcP M H D Acc (i + 1) (upd H5 D (.dK (putK kvs k z))) :=
  ⟨acc, k, ek, e2 D _ hM h1, szl (by omega), (e.trans e2).put hD, putK acc k z, upd_same, Nat.le_trans (length_putK _ _ _) (by omega), h⟩
theorem dcM (M : List Addr) {J : It} {n : Nat} {G : Hp → Prop} {Y : Nat → Hp → V → Hp → Prop} (w : Walk J n G Y) {g : TG} {tt : TT} {tk tv : TE} {vs : List Nat} {σ : L2.St} {H : Hp} {D : Addr} {Qd : Hp → Prop}
    (hD : H D = none) (Acc : Nat → List (Key × V) → Hp → Prop) (h0 : Acc 0 [] (upd H D (.dK []))) (hG : ∀ H', ExM M H H' → G H')
    (hs : ∀ i x H1 H2 acc, i < n → ExM M H H1 → H1 D = some (.dK acc) → acc.length ≤ i → Acc i acc H1 → Y i H1 x H2 → g x (wipe σ vs) H2 fun σ2 H3 => wipe σ2 vs = wipe σ vs ∧ tt σ2 H3 fun c H4 =>
      if c = true then tk σ2 H4 fun y H5 => tv σ2 H5 fun z H6 => ∃ kvs k, y = kV k ∧ H6 D = some (.dK kvs) ∧ kvs.length < sizeLine ∧ DcP M H D Acc (i + 1) (upd H6 D (.dK (putK kvs k z))) else DcP M H D Acc (i + 1) H4)
    (hd : ∀ H' acc, ExM M H H' → H' D = some (.dK acc) → acc.length ≤ n → Acc n acc H' → Qd H') :
    ∃ W : Nat → Nat → Hp → Prop, (∃ m, W 0 m (upd H D (.dK []))) ∧ ∀ i m H, W i m H →
      (J.stop i H ∧ Qd H) ∨ (J.go i H ∧ ∃ Nx : Hp → Prop, (∀ H', Nx H' → ∃ m', m' < m ∧ W (i + 1) m' H') ∧ ∀ x H', J.yld i H x H' → g x (wipe σ vs) H' fun σ2 H2 => wipe σ2 vs = wipe σ vs ∧ tt σ2 H2 fun b H3 =>
        if b = true then tk σ2 H3 fun y H4 => tv σ2 H4 fun z H5 => ∃ kvs k, y = kV k ∧ H5 D = some (.dK kvs) ∧ kvs.length < sizeLine ∧ Nx (upd H5 D (.dK (putK kvs k z))) else Nx H3) := by
  refine ⟨fun i m H' => m + i = n ∧ DcP M H D Acc i H', ⟨n, rfl, ExM.new hD, [], upd_same, Nat.le_refl _, h0⟩, ?_⟩
  rintro i m H' ⟨hm, p⟩
  obtain ⟨e, acc, h1, h2, h3⟩ := id p
  have q := hG H' e
  by_cases hi : i < n
  · exact .inr ⟨w.goes i H' hi q, DcP M H D Acc (i + 1), fun H2 p2 => ⟨m - 1, by omega, by omega, p2⟩, fun x H2 y => hs i x H' H2 acc hi e h1 h2 h3 (w.yields i H' x H2 hi q y)⟩
  · have en : i = n := by omega
    subst en
    exact .inl ⟨w.stops H' q, hd H' acc e h1 h2 h3⟩
end Wc
/-! Comprehensions whose turns change nothing that stood before: what they make, at once. -/
namespace Wc
open PySem L2
theorem tsnoc {α : Type} {l : List α} {i : Nat} {x : α} (h : l[i]? = some x) : l.take (i + 1) = l.take i ++ [x] := by
  rw [List.take_add_one, h]; rfl
theorem zip_all {α β : Type} {F : α → β → Prop} : ∀ {l : List α} {m : List β}, Paired F l m → ∀ p ∈ l.zip m, F p.1 p.2
  | _, _, .nil, p, hp => by simp at hp
  | _, _, .cons r t, p, hp => by
    rcases List.mem_cons.mp hp with e | e
    · rw [e]; exact r
    · exact zip_all t p e
theorem zip_fst {α β : Type} {F : α → β → Prop} : ∀ {l : List α} {m : List β}, Paired F l m → (l.zip m).map (·.1) = l
  | _, _, .nil => rfl
  | _, _, .cons r t => congrArg (_ :: ·) (zip_fst t)
theorem zip_snd {α β : Type} {F : α → β → Prop} : ∀ {l : List α} {m : List β}, Paired F l m → (l.zip m).map (·.2) = m
  | _, _, .nil => rfl
  | _, _, .cons r t => congrArg (_ :: ·) (zip_snd t)
theorem filter_snd {α β : Type} (f : β → Bool) : ∀ l : List (α × β), (l.filter fun p => f p.2).map (·.2) = (l.map (·.2)).filter f
  | [] => rfl
  | p :: l => by
    rw [List.filter_cons, List.map_cons, List.filter_cons]
    split
    · rw [List.map_cons, filter_snd f l]
    · exact filter_snd f l
theorem paired_map {α β γ : Type} {F : α → γ → Prop} (g : β → α) : ∀ {l : List β} {m : List γ}, Paired (fun x y => F (g x) y) l m → Paired F (l.map g) m
  | _, _, .nil => .nil
  | _, _, .cons r t => .cons r (paired_map g t)
theorem paired_mapR {α β γ : Type} {F : γ → α → Prop} (g : β → α) : ∀ {l : List β} {m : List γ}, Paired (fun y x => F y (g x)) m l → Paired F m (l.map g)
  | _, _, .nil => .nil
  | _, _, .cons r t => .cons r (paired_mapR g t)
theorem papp {α β : Type} {F : α → β → Prop} {l2 : List α} {m2 : List β} (q : Paired F l2 m2) : ∀ {l : List α} {m : List β}, Paired F l m → Paired F (l ++ l2) (m ++ m2)
  | _, _, .nil => q
  | _, _, .cons r t => .cons r (papp q t)
theorem zip_refs {β : Type} {F : Addr → β → Prop} {l : List Addr} {m : List β} (h : Paired F l m) : l.map V.ref = (l.zip m).map fun q => V.ref q.1 := by
  have e := congrArg (List.map V.ref) (zip_fst h)
  rw [List.map_map] at e
  exact e.symm
theorem zip_len {α β : Type} {F : α → β → Prop} {l : List α} {m : List β} (h : Paired F l m) : (l.zip m).length = l.length := by
  have e := congrArg List.length (zip_fst h)
  rwa [List.length_map] at e
theorem filter_all {α : Type} : ∀ l : List α, l.filter (fun _ => true) = l := fun l => List.filter_eq_self.mpr fun _ _ => rfl
theorem paired_swap {α β : Type} {F : α → β → Prop} : ∀ {l : List α} {m : List β}, Paired F l m → Paired (fun y x => F x y) m l
  | _, _, .nil => .nil
  | _, _, .cons r t => .cons r (paired_swap t)
/-- values that are references -/
theorem paired_refs {α : Type} {F : Addr → α → Prop} : ∀ {l : List α} {ys : List V}, Paired (fun x y => ∃ a, y = V.ref a ∧ F a x) l ys → ∃ as : List Addr, ys = as.map V.ref ∧ Paired F as l
  | _, _, .nil => ⟨[], rfl, .nil⟩
  | _, _, .cons r t => by
    obtain ⟨a, rfl, h⟩ := r
    obtain ⟨as, rfl, h2⟩ := paired_refs t
    exact ⟨a :: as, rfl, .cons h h2⟩
/-- values that are known -/
theorem paired_vals {α : Type} {f : α → V} : ∀ {l : List α} {ys : List V}, Paired (fun x y => y = f x) l ys → ys = l.map f
  | _, _, .nil => rfl
  | _, _, .cons r t => by rw [paired_vals t, r]; rfl
theorem zip_filter {α β : Type} {F : α → β → Prop} {l : List α} {m : List β} (h : Paired F l m) (f : β → Bool) : ((l.zip m).filter fun q => f q.2).map (fun q => q.2) = m.filter f :=
  (filter_snd f (l.zip m)).trans (by rw [zip_snd h])
theorem zip_filter_map {α β γ : Type} {F : α → β → Prop} {l : List α} {m : List β} (h : Paired F l m) (f : β → Bool) (g : β → γ) : ((l.zip m).filter fun q => f q.2).map (fun q => g q.2) = (m.filter f).map g := by
  have e := congrArg (List.map g) ((filter_snd f (l.zip m)).trans (by rw [zip_snd h]))
  rw [List.map_map] at e
  exact e
theorem lcR {α : Type} (K : PySem.W.Frag) (e : α → V) (xs : List α) (f : α → Bool) (rel : α → V → Hp → Prop) (st : α → L2.St) {J : It} {G : Hp → Prop} {n : Nat} {zs : List V} (wk : Walk J n G (YAt zs)) (hzs : zs = xs.map e) (hn : n = xs.length) (hz : xs.length ≤ 40000)
    {g : TG} {tt : TT} {te : TE} {vs : List Nat} {σ : L2.St} {H : Hp} {D : Addr} {Qd : Hp → Prop} (hD : H D = none) (hG : ∀ H', ExA H H' → G H') (mono : ∀ x y H1 H2, Tk K H1 H2 → rel x y H1 → rel x y H2)
    (hg : ∀ x H1, x ∈ xs → ExA H H1 → ∀ R : L2.St → Hp → Prop, R (st x) H1 → g (e x) (wipe σ vs) H1 R) (hw : ∀ x, wipe (st x) vs = wipe σ vs)
    (ht : ∀ x H1, x ∈ xs → ExA H H1 → ∀ R : Bool → Hp → Prop, (∀ H2, ExA H1 H2 → R (f x) H2) → tt (st x) H1 R)
    (he : ∀ x H1, x ∈ xs → f x = true → ExA H H1 → ∀ R : VK, (∀ y H2, ExA H1 H2 → rel x y H2 → R y H2) → te (st x) H1 R)
    (hd : ∀ H' ys, ExA H H' → H' D = some (.lst ys) → Paired (fun x y => rel x y H') (xs.filter f) ys → Qd H') :
    ∃ W : Nat → Nat → Hp → Prop, (∃ m, W 0 m (upd H D (.lst []))) ∧ ∀ i m H, W i m H →
      (J.stop i H ∧ Qd H) ∨ (J.go i H ∧ ∃ Nx : Hp → Prop, (∀ H', Nx H' → ∃ m', m' < m ∧ W (i + 1) m' H') ∧ ∀ x H', J.yld i H x H' → g x (wipe σ vs) H' fun σ2 H2 => wipe σ2 vs = wipe σ vs ∧ tt σ2 H2 fun b H3 =>
        if b = true then te σ2 H3 fun y H4 => ∃ acc, H4 D = some (.lst acc) ∧ acc.length < sizeLine ∧ Nx (upd H4 D (.lst (acc ++ [y]))) else Nx H3) := by
  subst hzs hn
  refine lcM [] wk hD (fun i acc H' => Paired (fun x y => rel x y H') ((xs.take i).filter f) acc) .nil (fun H' x => hG H' x) (fun i x H1 H2 acc hi e1 k1 k2 hacc y => ?_) (fun H' acc e1 k1 k2 hacc => ?_)
  · obtain ⟨rfl, hx⟩ := y
    obtain ⟨u, hu⟩ : ∃ u, xs[i]? = some u := ⟨_, List.getElem?_eq_getElem hi⟩
    rw [List.getElem?_map, hu] at hx
    obtain rfl : e u = x := Option.some.inj hx
    have mu := List.mem_of_getElem? hu
    refine hg u H2 mu e1 _ ⟨hw u, ht u H2 mu e1 _ fun H3 e3 => ?_⟩
    have htk := tsnoc hu
    cases c : f u with
    | false =>
      refine iteF (LcP.no (by simp) e1 k1 k2 e3 ?_)
      rw [htk, List.filter_append, List.filter_cons, c]
      simp only [List.filter_nil, List.append_nil, Bool.false_eq_true, if_false]
      exact pmp hacc fun x y z => mono x y _ _ (Tk.all e3) z
    | true =>
      refine iteT (he u H3 mu c (e1.trans e3) _ fun y H4 e4 hr => LcP.yes hD (by simp) (by omega) e1 k1 k2 (e3.trans e4) ?_)
      have hk : H4 D = some (.lst acc) := ExA.at (e3.trans e4) k1
      rw [htk, List.filter_append, List.filter_cons, c]
      simp only [List.filter_nil, if_true]
      have h2 : Paired (fun x b => rel x b (upd H4 D (.lst (acc ++ [y])))) ((xs.take i).filter f) acc := pmp hacc fun a b z => mono a b _ _ (Tk.trans (Tk.all (e3.trans e4)) (Tk.lst hk)) z
      have h3 : rel u y (upd H4 D (.lst (acc ++ [y]))) := mono _ _ _ _ (Tk.lst hk) hr
      exact psnoc (α := α) (β := V) (F := fun (x : α) (b : V) => rel x b (upd H4 D (.lst (acc ++ [y])))) (x := u) (y := y) h3 (l := (xs.take i).filter f) (m := acc) h2
  · rw [List.take_length] at hacc
    exact hd H' acc e1 k1 hacc
/-- [x for x in xs if t] -/
theorem lcF {α : Type} (K : PySem.W.Frag) (e : α → V) (xs : List α) (f : α → Bool) (st : α → L2.St) {J : It} {G : Hp → Prop} {n : Nat} {zs : List V} (wk : Walk J n G (YAt zs)) (hzs : zs = xs.map e) (hn : n = xs.length) (hz : xs.length ≤ 40000)
    {g : TG} {tt : TT} {te : TE} {vs : List Nat} {σ : L2.St} {H : Hp} {D : Addr} {Qd : Hp → Prop} (v : α → V) (hD : H D = none) (hG : ∀ H', ExA H H' → G H')
    (hg : ∀ x H1, x ∈ xs → ExA H H1 → ∀ R : L2.St → Hp → Prop, R (st x) H1 → g (e x) (wipe σ vs) H1 R) (hw : ∀ x, wipe (st x) vs = wipe σ vs)
    (ht : ∀ x H1, x ∈ xs → ExA H H1 → ∀ R : Bool → Hp → Prop, (∀ H2, ExA H1 H2 → R (f x) H2) → tt (st x) H1 R)
    (he : ∀ x H1, x ∈ xs → f x = true → ExA H H1 → ∀ R : VK, (∀ H2, ExA H1 H2 → R (v x) H2) → te (st x) H1 R)
    (hd : ∀ H', ExA H H' → H' D = some (.lst ((xs.filter f).map v)) → Qd H') :
    ∃ W : Nat → Nat → Hp → Prop, (∃ m, W 0 m (upd H D (.lst []))) ∧ ∀ i m H, W i m H →
      (J.stop i H ∧ Qd H) ∨ (J.go i H ∧ ∃ Nx : Hp → Prop, (∀ H', Nx H' → ∃ m', m' < m ∧ W (i + 1) m' H') ∧ ∀ x H', J.yld i H x H' → g x (wipe σ vs) H' fun σ2 H2 => wipe σ2 vs = wipe σ vs ∧ tt σ2 H2 fun b H3 =>
        if b = true then te σ2 H3 fun y H4 => ∃ acc, H4 D = some (.lst acc) ∧ acc.length < sizeLine ∧ Nx (upd H4 D (.lst (acc ++ [y]))) else Nx H3) :=
  lcR K e xs f (fun x y _ => y = v x) st wk hzs hn hz hD hG (fun _ _ _ _ _ z => z) hg hw ht (fun x H1 m c e R q => he x H1 m c e R fun H2 e2 => q _ H2 e2 rfl)
    fun H' ys e k p => hd H' e (by rw [k, paired_vals p])
theorem tyesR {σ : L2.St} {H : Hp} {R : Bool → Hp → Prop} (h : ∀ H2, ExA H H2 → R true H2) : tYes σ H R := h H (ExM.refl _ _)
/-! ### two clauses -/
def flat2 {α β : Type} (xs : List α) (ys : α → List β) (f : α → β → Bool) : List (α × β) := xs.flatMap fun x => ((ys x).filter (f x)).map fun y => (x, y)
theorem flat2_snoc {α β : Type} (xs : List α) (x : α) (ys : α → List β) (f : α → β → Bool) : flat2 (xs ++ [x]) ys f = flat2 xs ys f ++ ((ys x).filter (f x)).map fun y => (x, y) := by
  unfold flat2; rw [List.flatMap_append, List.flatMap_cons, List.flatMap_nil, List.append_nil]
theorem lc2R {α β : Type} (K : PySem.W.Frag) (e : α → V) (xs : List α) (e1 : β → V) (ys : α → List β) (f : α → β → Bool) (rel : α → β → V → Hp → Prop) (st : α → L2.St) (st1 : α → β → L2.St) {J : It} {G : Hp → Prop} {n : Nat} {zs : List V}
    (wk : Walk J n G (YAt zs)) (hzs : zs = xs.map e) (hn : n = xs.length) (hz : xs.length ≤ 100) (hy : ∀ x ∈ xs, (ys x).length ≤ 1000)
    {g g1 : TG} {tt tt1 : TT} {wi1 : TI} {te : TE} {vs vs1 : List Nat} {σ : L2.St} {H : Hp} {D : Addr} {Qd : Hp → Prop} (hD : H D = none) (hG : ∀ H', ExA H H' → G H') (mono : ∀ x y v H1 H2, Tk K H1 H2 → rel x y v H1 → rel x y v H2)
    (hg : ∀ x H1, x ∈ xs → ExA H H1 → ∀ R : L2.St → Hp → Prop, R (st x) H1 → g (e x) (wipe σ vs) H1 R) (hw : ∀ x, wipe (st x) vs = wipe σ vs) (ht : ∀ x H1, ∀ R : Bool → Hp → Prop, R true H1 → tt (st x) H1 R)
    (hi1 : ∀ x H1, x ∈ xs → ExA H H1 → ∀ R : It → Hp → Prop, (∀ J G, Walk J (ys x).length G (YAt ((ys x).map e1)) → (∀ H', ExA H H' → G H') → R J H1) → wi1 (st x) H1 R)
    (hg1 : ∀ x y H1, x ∈ xs → y ∈ ys x → ExA H H1 → ∀ R : L2.St → Hp → Prop, R (st1 x y) H1 → g1 (e1 y) (wipe (st x) vs1) H1 R) (hw1 : ∀ x y, wipe (st1 x y) vs1 = wipe (st x) vs1)
    (ht1 : ∀ x y H1, x ∈ xs → y ∈ ys x → ExA H H1 → ∀ R : Bool → Hp → Prop, R (f x y) H1 → tt1 (st1 x y) H1 R)
    (he : ∀ x y H1, x ∈ xs → y ∈ ys x → f x y = true → ExA H H1 → ∀ R : VK, (∀ v H2, ExA H1 H2 → rel x y v H2 → R v H2) → te (st1 x y) H1 R)
    (hd : ∀ H' vs, ExA H H' → H' D = some (.lst vs) → Paired (fun p v => rel p.1 p.2 v H') (flat2 xs ys f) vs → Qd H') :
    ∃ W : Nat → Nat → Hp → Prop, (∃ m, W 0 m (upd H D (.lst []))) ∧ ∀ i m H, W i m H →
      (J.stop i H ∧ Qd H) ∨ (J.go i H ∧ ∃ Nx : Hp → Prop, (∀ H', Nx H' → ∃ m', m' < m ∧ W (i + 1) m' H') ∧ ∀ x H', J.yld i H x H' → g x (wipe σ vs) H' fun σ2 H2 => wipe σ2 vs = wipe σ vs ∧ tt σ2 H2 fun b H3 =>
        if b = true then wi1 σ2 H3 fun J1 H4 => ∃ W1 : Nat → Nat → Hp → Prop, (∃ m, W1 0 m H4) ∧ ∀ j k H, W1 j k H →
          (J1.stop j H ∧ Nx H) ∨ (J1.go j H ∧ ∃ Nx1 : Hp → Prop, (∀ H', Nx1 H' → ∃ k', k' < k ∧ W1 (j + 1) k' H') ∧ ∀ x H', J1.yld j H x H' → g1 x (wipe σ2 vs1) H' fun σ3 H5 => wipe σ3 vs1 = wipe σ2 vs1 ∧ tt1 σ3 H5 fun b H6 =>
            if b = true then te σ3 H6 fun y H7 => ∃ acc, H7 D = some (.lst acc) ∧ acc.length < sizeLine ∧ Nx1 (upd H7 D (.lst (acc ++ [y]))) else Nx1 H6)
        else Nx H3) := by
  subst hzs hn
  let Pv : Nat → Hp → Prop := fun i H' => ExA H H' ∧ ∃ acc, H' D = some (.lst acc) ∧ acc.length ≤ 1000 * i ∧ Paired (fun p v => rel p.1 p.2 v H') (flat2 (xs.take i) ys f) acc
  refine ⟨fun i m H' => m + i = xs.length ∧ Pv i H', ⟨xs.length, rfl, ExM.new hD, [], upd_same, Nat.zero_le _, .nil⟩, ?_⟩
  rintro i m H1 ⟨hm, ex1, acc, k1, k2, hacc⟩
  by_cases hi : i < xs.length
  · refine .inr ⟨wk.goes i H1 hi (hG _ ex1), Pv (i + 1), fun H2 p => ⟨m - 1, by omega, by omega, p⟩, fun xv H2 yy => ?_⟩
    obtain ⟨rfl, hx⟩ := wk.yields i H1 xv H2 hi (hG _ ex1) yy
    obtain ⟨x, hxi⟩ : ∃ x, xs[i]? = some x := ⟨_, List.getElem?_eq_getElem hi⟩
    rw [List.getElem?_map, hxi] at hx
    obtain rfl : e x = xv := Option.some.inj hx
    have mx := List.mem_of_getElem? hxi
    have tki := tsnoc hxi
    refine hg x _ mx ex1 _ ⟨hw x, ht x _ _ (iteT (hi1 x _ mx ex1 _ fun J1 G1 w1 hG1 => ?_))⟩
    let Pi : Nat → Hp → Prop := fun j H' => ExA H H' ∧ ∃ acc, H' D = some (.lst acc) ∧ acc.length ≤ 1000 * i + j ∧ Paired (fun p v => rel p.1 p.2 v H') (flat2 (xs.take i) ys f ++ (((ys x).take j).filter (f x)).map fun y => (x, y)) acc
    refine ⟨fun j k H' => k + j = (ys x).length ∧ Pi j H', ⟨(ys x).length, rfl, ex1, acc, k1, k2, by rw [List.take_zero, List.filter_nil, List.map_nil, List.append_nil]; exact hacc⟩, ?_⟩
    rintro j k H3 ⟨hk, ex3, ac, c1, c2, hac⟩
    by_cases hj : j < (ys x).length
    · refine .inr ⟨w1.goes j H3 hj (hG1 _ ex3), Pi (j + 1), fun H4 p => ⟨k - 1, by omega, by omega, p⟩, fun yv H4 yy => ?_⟩
      obtain ⟨rfl, hyv⟩ := w1.yields j H3 yv H4 hj (hG1 _ ex3) yy
      obtain ⟨y, hyj⟩ : ∃ y, (ys x)[j]? = some y := ⟨_, List.getElem?_eq_getElem hj⟩
      rw [List.getElem?_map, hyj] at hyv
      obtain rfl : e1 y = yv := Option.some.inj hyv
      have my := List.mem_of_getElem? hyj
      have tkj := tsnoc hyj
      refine hg1 x y _ mx my ex3 _ ⟨hw1 x y, ht1 x y _ mx my ex3 _ ?_⟩
      cases c : f x y with
      | false =>
        refine iteF ⟨ex3, ac, c1, by omega, ?_⟩
        rw [tkj, List.filter_append, List.filter_cons, c]
        simp only [List.filter_nil, List.append_nil, Bool.false_eq_true, if_false]
        exact hac
      | true =>
        refine iteT (he x y _ mx my c ex3 _ fun v H5 e5 hr => ?_)
        have c15 : H5 D = some (.lst ac) := ExA.at e5 c1
        have zy := hy x mx
        refine ⟨ac, c15, szl (by omega), (ex3.trans e5).put hD, ac ++ [v], upd_same, by rw [List.length_append, List.length_singleton]; omega, ?_⟩
        rw [tkj, List.filter_append, List.filter_cons, c]
        simp only [List.filter_nil, if_true]
        rw [List.map_append, ← List.append_assoc]
        have tt := Tk.lst (K := K) (o := .lst (ac ++ [v])) c15
        have h2 : Paired (fun (p : α × β) (b : V) => rel p.1 p.2 b (upd H5 D (.lst (ac ++ [v])))) (flat2 (xs.take i) ys f ++ (((ys x).take j).filter (f x)).map fun y => (x, y)) ac := pmp hac fun a b z => mono _ _ _ _ _ (Tk.trans (Tk.all e5) tt) z
        exact psnoc (F := fun (p : α × β) (b : V) => rel p.1 p.2 b (upd H5 D (.lst (ac ++ [v])))) (x := (x, y)) (mono _ _ _ _ _ tt hr) h2
    · have ej : j = (ys x).length := by omega
      subst ej
      have zy := hy x mx
      refine .inl ⟨w1.stops H3 (hG1 _ ex3), ex3, ac, c1, by omega, ?_⟩
      rw [tki, flat2_snoc]
      rw [List.take_length] at hac
      exact hac
  · have en : i = xs.length := by omega
    subst en
    rw [List.take_length] at hacc
    exact .inl ⟨wk.stops H1 (hG _ ex1), hd H1 acc ex1 k1 hacc⟩
end Wc
/-! A dict comprehension of two clauses: {k: v for a in x if .. for b in y if ..}. -/
namespace Wc
open PySem PySem.Spec PyProof.Rows L2
abbrev dd (kx vx ta ia : Expr) (ca : List Expr) (tb ib : Expr) (cb : List Expr) (sc : Scope) (ps : Pos) : Expr :=
  .DictComp kx vx [⟨ta, ia, ca, 0⟩, ⟨tb, ib, cb, 0⟩] sc ps
abbrev tsts (cs : List Expr) (env : Env) : Sem Bool :=
  forIn cs true fun c r =>
    if r = true then do
      let ok ← isTrue c env (eval c env)
      pure (ForInStep.yield ok)
    else pure (ForInStep.yield r)
section
variable {kx vx ta ia tb ib : Expr} {ca cb : List Expr} {sc : Scope} {ps : Pos} {it : Value} {Da : Addr} {env : Env}
theorem dd_out {acc : Value} : compTurn (dd kx vx ta ia ca tb ib cb sc ps) 0 it acc env = (do
        standAt ia.pos
        match ← pyNext it with
        | none =>
          pure (.done .next)
        | some u =>
          letOwnedTupleGo ta it u
          assign ta env u
          let mut ok := true
          for c in ca do
            if ok then ok ← isTrue c env (eval c env)
          if ok then
            let y ← eval ib env
            standAt ib.pos
            let y ← foldedSetIterable ib env y
            let _ ← runOwn (.compStart (dd kx vx ta ia ca tb ib cb sc ps) 1 (← holding [y] (pyIter y)) acc env) env
          again (.compLoop (dd kx vx ta ia ca tb ib cb sc ps) 0 it acc env)) := by rfl
theorem dd_in : compTurn (dd kx vx ta ia ca tb ib cb sc ps) 1 it (.ref Da) env = (do
        standAt ib.pos
        match ← pyNext it with
        | none =>
          pure (.done .next)
        | some u =>
          letOwnedTupleGo tb it u
          assign tb env u
          let mut ok := true
          for c in cb do
            if ok then ok ← isTrue c env (eval c env)
          if ok then
            (do
              let k ← eval kx env
              let u ← holding [k] (eval vx env)
              standAt { kx.pos with endLine := vx.pos.endLine, endCol := vx.pos.endCol }
              holding [k, u] (dictSet Da k u))
          again (.compLoop (dd kx vx ta ia ca tb ib cb sc ps) 1 it (.ref Da) env)) := by rfl
end
section
variable {P : Program} {w : World} {A : Around} {R : Result → Shared → Prop} {s : Shared}
variable {kx vx ta ia tb ib : Expr} {ca cb : List Expr} {sc : Scope} {ps : Pos} {it acc : Value} {Da : Addr} {env : Env}
/-- what is wanted of an error in a turn -/
abbrev bad (P : Program) (w : World) (A : Around) (env : Env) (R : Result → Shared → Prop) := notedBy (model P w) A env fun e s' => R (.error e) s'
theorem dd_loop0 (fold : ∀ x, foldedSetIterable ib env x = pure x) (I : Nat → Shared → Prop)
    (turn : ∀ n s, I n s → wpAny (model P w) A (pyNext it) (fun r s1 =>
      match r with
      | none => R (.ok .next) s1
      | some v => wpAny (model P w) A (letOwnedTupleGo ta it v) (fun _ s2 =>
          wpAny (model P w) A (assign ta env v) (fun _ s3 =>
            wpAny (model P w) A (tsts ca env) (fun ok s4 =>
              if ok = true then
                wpAny (model P w) A (eval ib env) (fun x s5 =>
                  wpAny (model P w) A (pyIter x) (fun jt s6 =>
                    codeAny (model P w) A (.compStart (dd kx vx ta ia ca tb ib cb sc ps) 1 jt acc env) (fun r s7 =>
                      match r with
                      | .ok _ => ∃ m, m < n ∧ I m s7
                      | .error _ => False) s6) (bad P w A env R) s5) (bad P w A env R) s4
              else ∃ m, m < n ∧ I m s4) (bad P w A env R) s3) (bad P w A env R) s2) (bad P w A env R) s1) (bad P w A env R) s)
    (n : Nat) (h : I n s) : codeAny (model P w) A (.compLoop (dd kx vx ta ia ca tb ib cb sc ps) 0 it acc env) R s := by
  refine codeAny_loop rfl I (fun n s hI => ?_) n h
  show wpAny _ A ((compTurn (dd kx vx ta ia ca tb ib cb sc ps) 0 it acc env).onRaise fun x => do noteFrame x env; theTreesLotGoes x) _ _ s
  refine wpAny_noted ?_
  rw [dd_out]
  refine wpAny_bind <| wpAny_standAt <| wpAny_bind <| wpAny_mono (turn n s hI) (fun r s1 h1 => ?_) fun _ _ z => z
  match r, h1 with
  | none, h1 => exact wpAny_pure h1
  | some v, h1 =>
    refine wpAny_bind <| wpAny_mono h1 (fun _ s2 h2 => ?_) fun _ _ z => z
    refine wpAny_bind <| wpAny_mono h2 (fun _ s3 h3 => ?_) fun _ _ z => z
    refine wpAny_bind <| wpAny_mono h3 (fun ok s4 h4 => ?_) fun _ _ z => z
    match ok, h4 with
    | false, h4 => exact wpAny_pure ⟨rfl, h4⟩
    | true, h4 =>
      refine wpAny_bind <| wpAny_mono h4 (fun x s5 h5 => ?_) fun _ _ z => z
      refine wpAny_bind <| wpAny_standAt <| wpAny_bind <| wpAny_of_eq (fold x) <| wpAny_bind <| wpAny_holding <| wpAny_mono h5 (fun jt s6 h6 => ?_) fun _ _ z => z
      refine wpAny_bind <| wpAny_runOwn ?_
      rw [Around.mark_none]
      refine codeAny_mono h6 fun r s7 hr => ?_
      match r, hr with
      | .ok f, hr => first | exact wpAny_pure ⟨rfl, hr⟩ | exact wpAny_bind (wpAny_pure (wpAny_pure ⟨rfl, hr⟩))
      | .error e, hr => exact hr.elim
theorem dd_loop1 (I : Nat → Shared → Prop)
    (turn : ∀ n s, I n s → wpAny (model P w) A (pyNext it) (fun r s1 =>
      match r with
      | none => R (.ok .next) s1
      | some v => wpAny (model P w) A (letOwnedTupleGo tb it v) (fun _ s2 =>
          wpAny (model P w) A (assign tb env v) (fun _ s3 =>
            wpAny (model P w) A (tsts cb env) (fun ok s4 =>
              if ok = true then
                wpAny (model P w) A (eval kx env) (fun k s5 =>
                  wpAny (model P w) A (eval vx env) (fun u s6 =>
                    wpAny (model P w) A (dictSet Da k u) (fun _ s7 => ∃ m, m < n ∧ I m s7) (bad P w A env R) s6) (bad P w A env R) s5) (bad P w A env R) s4
              else ∃ m, m < n ∧ I m s4) (bad P w A env R) s3) (bad P w A env R) s2) (bad P w A env R) s1) (bad P w A env R) s)
    (n : Nat) (h : I n s) : codeAny (model P w) A (.compLoop (dd kx vx ta ia ca tb ib cb sc ps) 1 it (.ref Da) env) R s := by
  refine codeAny_loop rfl I (fun n s hI => ?_) n h
  show wpAny _ A ((compTurn (dd kx vx ta ia ca tb ib cb sc ps) 1 it (.ref Da) env).onRaise fun x => do noteFrame x env; theTreesLotGoes x) _ _ s
  refine wpAny_noted ?_
  rw [dd_in]
  refine wpAny_bind <| wpAny_standAt <| wpAny_bind <| wpAny_mono (turn n s hI) (fun r s1 h1 => ?_) fun _ _ z => z
  match r, h1 with
  | none, h1 => exact wpAny_pure h1
  | some v, h1 =>
    refine wpAny_bind <| wpAny_mono h1 (fun _ s2 h2 => ?_) fun _ _ z => z
    refine wpAny_bind <| wpAny_mono h2 (fun _ s3 h3 => ?_) fun _ _ z => z
    refine wpAny_bind <| wpAny_mono h3 (fun ok s4 h4 => ?_) fun _ _ z => z
    match ok, h4 with
    | false, h4 => exact wpAny_pure ⟨rfl, h4⟩
    | true, h4 =>
      refine wpAny_bind <| wpAny_bind <| wpAny_mono h4 (fun k s5 h5 => ?_) fun _ _ z => z
      refine wpAny_bind <| wpAny_holding <| wpAny_mono h5 (fun u s6 h6 => ?_) fun _ _ z => z
      exact wpAny_bind <| wpAny_standAt <| wpAny_holding <| wpAny_mono h6 (fun _ s7 h7 => wpAny_pure ⟨rfl, h7⟩) fun _ _ z => z
/-- the second clause begins -/
theorem dd_start1 (h0 : codeAny (model P w) A (.compLoop (dd kx vx ta ia ca tb ib cb sc ps) 1 it acc env) R s)
    (h : wpAny (model P w) A (pyIter it) (fun jt s' => codeAny (model P w) A (.compLoop (dd kx vx ta ia ca tb ib cb sc ps) 1 jt acc env) R s')
      (notedBy (model P w) A env fun x s' => R (.error x) s') s) :
    codeAny (model P w) A (.compStart (dd kx vx ta ia ca tb ib cb sc ps) 1 it acc env) R s := by
  refine codeAny_of_tree ?_
  show wpAny _ _ ((compStart (dd kx vx ta ia ca tb ib cb sc ps) 1 it acc env).onRaise fun x => do noteFrame x env; standAt theWindowsPlace) _ _ s
  refine wpAny_notedAt ?_
  unfold compStart
  show wpAny _ _ (ask >>= _) _ _ s
  refine wpAny_bind <| wpAny_askSetting <| wpAny_ite ?_
  split
  · first | exact wpAny_bind (wpAny_pure (wpAny_pure ⟨rfl, h0⟩)) | exact wpAny_pure ⟨rfl, h0⟩
  · first
      | exact wpAny_bind <| wpAny_rule <| wpAny_bind <| wpAny_standAt <| wpAny_bind <| wpAny_mono h (fun jt s' h' => wpAny_pure ⟨rfl, h'⟩) fun _ _ x => x
      | (refine wpAny_bind <| wpAny_rule ?_
         show wpAny _ _ (standAt ib.pos >>= _) _ _ s
         exact wpAny_bind <| wpAny_standAt <| wpAny_bind <| wpAny_mono h (fun jt s' h' => wpAny_pure ⟨rfl, h'⟩) fun _ _ x => x)
end
/-- the reading: behind the first clause's store and tests the second source's own loop. vs: the block's names; vb: those of the second target -/
def tDd (wa : TI) (ga : TG) (ua : TT) (wb : TI) (gb : TG) (ub : TT) (tk tv : TE) (vs vb : List Nat) : TE := fun σ H Q => wa σ H fun J H1 => ∀ D, H1 D = none →
  ∃ W : Nat → Nat → Hp → Prop, (∃ m, W 0 m (upd H1 D (.dK []))) ∧ ∀ i m H, W i m H →
    (J.stop i H ∧ Q (.ref D) H) ∨
    (J.go i H ∧ ∃ Nx : Hp → Prop, (∀ H', Nx H' → ∃ m', m' < m ∧ W (i + 1) m' H') ∧
      ∀ x H', J.yld i H x H' → ga x (wipe σ vs) H' fun σ2 H2 => wipe σ2 vs = wipe σ vs ∧ ua σ2 H2 fun c H3 =>
        if c = true then
          wb σ2 H3 fun J1 H4 => ∃ W1 : Nat → Nat → Hp → Prop, (∃ m, W1 0 m H4) ∧ ∀ j k H, W1 j k H →
            (J1.stop j H ∧ Nx H) ∨
            (J1.go j H ∧ ∃ Ny : Hp → Prop, (∀ H', Ny H' → ∃ k', k' < k ∧ W1 (j + 1) k' H') ∧
              ∀ x H', J1.yld j H x H' → gb x (wipe σ2 vb) H' fun σ3 H5 => wipe σ3 vb = wipe σ2 vb ∧ ub σ3 H5 fun c H6 =>
                if c = true then tk σ3 H6 fun y H7 => tv σ3 H7 fun z H8 => ∃ kvs k, y = kV k ∧ H8 D = some (.dK kvs) ∧ kvs.length < sizeLine ∧ Ny (upd H8 D (.dK (putK kvs k z)))
                else Ny H6)
        else Nx H3)
section
variable {X : Cx}
/-- everywhere in a block -/
abbrev Blk (X : Cx) (sc : Scope) (F : Cx → Prop) : Prop := ∀ (s : Shared) (H : Hp) (C : Addr) (cl : List (Str × Addr)) (fp : List Addr), F (X.blk s H sc (compEnvC sc cl C X.env) fp)
theorem pe_dc2 {kx vx ta ia tb ib : Expr} {ca cb : List Expr} {sc : Scope} {own : List (Str × Nat)} {vs1 : List Nat} {ps : Pos} {wa wb : TI} {ga gb : TG} {ua ub : TT} {tk tv : TE}
    (hc : X.calm = true) (hN : X.N.Nodup) (hia : PI X ta ia wa) (ok : BlkOk X.N X.env.scope sc own) (hv : ∀ i ∈ vs1, i ∈ own.map (·.2))
    (hga : Blk X sc fun B => PG B ta ga) (hua : Blk X sc fun B => PTs B ca ua) (hib : Blk X sc fun B => PI B tb ib wb) (hgb : Blk X sc fun B => PG B tb gb) (hub : Blk X sc fun B => PTs B cb ub)
    (hk : Blk X sc fun B => PE B kx tk) (he : Blk X sc fun B => PE B vx tv) (fa : ∀ x, foldedSetIterable ia X.env x = pure x := by intro _; rfl) (fb : ∀ env x, foldedSetIterable ib env x = pure x := by intro _ _; rfl) :
    PE X (dd kx vx ta ia ca tb ib cb sc ps) (tDd wa ga ua wb gb ub tk tv (own.map (·.2)) vs1) := by
  refine ⟨fun pins s σ H Q I h => ?_⟩
  rw [arm_eval_DictComp]
  have hfree : ∀ y ∈ sc.names, y.2 = .free → ∃ c, X.env.cells.lookup y.1 = some c := fun y hy e => (ok.free y hy e).elim (fun k => I.ok.has _ (.inl k)) fun k => I.ok.has _ (.inr k)
  refine wpAny_comprehension_free rfl fa (closure_ok hfree) ok.kind (fun y hy e => by rw [ok.uniq y hy, e]) ?_
  refine thn (hia.run pins s σ H _ I h) fun xv s1 hx => thn hx fun itv s2 hh => ?_
  obtain ⟨it, fp, tn, J, H2, rfl, I2, T, st2, f2, q⟩ := hh
  refine wpAny_newObj_type (newEnv_comp ?_)
  generalize hD : s2.heap.objs.size = D
  have hDn : H2 D = none := I2.hok.fresh (Nat.le_of_eq hD)
  obtain ⟨W, ⟨m0, w0⟩, turn⟩ := q D hDn
  -- the new dict is laid
  generalize hs3 : ({ s2 with heap := s2.heap.push { cls := .type "dict", data := .dict #[] } } : Shared) = s3
  have h3 : s3.heap = s2.heap.push { cls := .type "dict", data := .dict #[] } := by rw [← hs3]
  have I3 : Inv X pins σ (upd H2 D (.dK [])) s3 := by
    rw [← hs3]
    exact I2.laid (t' := s2.toks) (fun b o e => Heap.get?_push_of_some _ e) (Nat.le_of_eq hD) (by rw [← hD]; exact dk_empty s2.heap I2.big)
  have low : ∀ b ∈ fp, b < s2.heap.objs.size := fun b hb => let ⟨_, e, _⟩ := T.obj _ _ st2 b hb; Heap.lt_size e
  have f3 : ∀ b ∈ fp, FpOk X pins (upd H2 D (.dK [])) b ∧ b < s3.heap.objs.size := fun b hb =>
    ⟨⟨by rw [upd_ne (by rw [← hD]; exact Nat.ne_of_lt (low b hb))]; exact (f2 b hb).1, (f2 b hb).2⟩, by rw [h3, Heap.size_push]; exact Nat.lt_succ_of_lt (low b hb)⟩
  have st3 : tn 0 s3.heap := T.keep _ _ _ st2 fun b _ o e => by rw [h3]; exact Heap.get?_push_of_some _ e
  have I4 := block_start I3 ok hN f3
  have qg := hga s3 (upd H2 D (.dK [])) s3.heap.objs.size (cellsFrom (s3.heap.objs.size + 1) sc.names (cloFrom X.env.cells sc.names [])) fp
  have qt := hua s3 (upd H2 D (.dK [])) s3.heap.objs.size (cellsFrom (s3.heap.objs.size + 1) sc.names (cloFrom X.env.cells sc.names [])) fp
  have qi1 := hib s3 (upd H2 D (.dK [])) s3.heap.objs.size (cellsFrom (s3.heap.objs.size + 1) sc.names (cloFrom X.env.cells sc.names [])) fp
  have qg1 := hgb s3 (upd H2 D (.dK [])) s3.heap.objs.size (cellsFrom (s3.heap.objs.size + 1) sc.names (cloFrom X.env.cells sc.names [])) fp
  have qt1 := hub s3 (upd H2 D (.dK [])) s3.heap.objs.size (cellsFrom (s3.heap.objs.size + 1) sc.names (cloFrom X.env.cells sc.names [])) fp
  have qk := hk s3 (upd H2 D (.dK [])) s3.heap.objs.size (cellsFrom (s3.heap.objs.size + 1) sc.names (cloFrom X.env.cells sc.names [])) fp
  have qe := he s3 (upd H2 D (.dK [])) s3.heap.objs.size (cellsFrom (s3.heap.objs.size + 1) sc.names (cloFrom X.env.cells sc.names [])) fp
  show codeAny _ _ (.compStart (dd kx vx ta ia ca tb ib cb sc ps) 0 (.ref it) (.ref D) (compEnvC sc (cellsFrom (s3.heap.objs.size + 1) sc.names (cloFrom X.env.cells sc.names [])) s3.heap.objs.size X.env))
    (compPost (model X.prog X.w) X.A X.xe none (EP X pins σ Q) (.ref D) s3.heap.objs.size) { s3 with heap := pushCells (s3.heap.push { cls := .type "dict", data := .dict #[] }) sc.names }
  have nfp : ∀ b ∈ fp, (upd H2 D (.dK [])) b = none := fun b hb => (f3 b hb).1.1
  generalize hce : compEnvC sc (cellsFrom (s3.heap.objs.size + 1) sc.names (cloFrom X.env.cells sc.names [])) s3.heap.objs.size X.env = ce at I4 qg qt qi1 qg1 qt1 qk qe ⊢
  have cL : ce.locals = s3.heap.objs.size := by subst hce; rfl
  generalize hH3 : upd H2 D (.dK []) = H3 at I3 I4 qg qt qi1 qg1 qt1 qk qe w0 nfp f3
  generalize hs4 : ({ s3 with heap := pushCells (s3.heap.push { cls := .type "dict", data := .dict #[] }) sc.names } : Shared) = s4 at I4 ⊢
  have st4 : tn 0 s4.heap := T.keep _ _ _ st3 fun b _ o e => by rw [← hs4]; exact pushCells_keeps _ _ _ _ (Heap.get?_push_of_some _ e)
  have stat : ∀ {σ' : L2.St} {H' : Hp} {s' : Shared}, Inv (X.blk s3 H3 sc ce fp) [] σ' H' s' → (∀ b ∈ fp, H' b = none) → ∀ b ∈ fp, FpOk (X.blk s3 H3 sc ce fp) [] H' b := fun {σ' H' s'} I' hn b hb =>
    ⟨hn b hb, (I'.ok.exf b hb).1, I'.ok.exfs b hb, .inl hb, fun x c e => (I'.ok.exf b hb).2 x c e, fun p hp => by cases (show p ∈ ([] : List (Addr × Obj)) ++ [] from hp)⟩
  have lp : codeAny (model X.prog X.w) X.A (.compLoop (dd kx vx ta ia ca tb ib cb sc ps) 0 (.ref it) (.ref D) ce) (compPost (model X.prog X.w) X.A X.xe none (EP X pins σ Q) (.ref D) s3.heap.objs.size) s4 := by
    refine dd_loop0 (fb ce) (fun n s' => ∃ i H', Inv (X.blk s3 H3 sc ce fp) [] (wipe σ (own.map (·.2))) H' s' ∧ tn i s'.heap ∧ (∀ b ∈ fp, H' b = none) ∧ W i n H') (fun n s5 hn5 => ?_) m0 ⟨0, H3, I4, st4, nfp, w0⟩
    obtain ⟨i, H5, I5, st5, n5, w5⟩ := hn5
    rcases turn i n H5 w5 with ⟨stop, qq⟩ | ⟨go, Nx, hNx, step⟩
    · refine thnF (T.done (X.blk s3 H3 sc ce fp) rfl rfl rfl hc i [] s5 _ H5 (fun _ _ => False) I5 (stat I5 n5) st5 stop) fun r s6 hr6 => ?_
      obtain ⟨rfl, I6⟩ := hr6
      have I7 : Inv X pins σ H5 s6 := I3.call' (ch := fp) I6.os I6.base I6.hok I6.bare fun b hb => let z := (f3 b hb).1; ⟨z.2.2.2.1, z.2.1, z.2.2.2.2.1, z.2.2.2.2.2⟩
      have nC : H5 s3.heap.objs.size = none := by have z : H5 ce.locals = none := I6.free; rwa [cL] at z
      obtain ⟨m, hm, _⟩ := I6.loc
      have hm : s6.heap.Ns ce.locals m := hm
      rw [cL] at hm
      refine ⟨m, hm, fun h'' sb => ?_⟩
      obtain ⟨g0, g1, g2, g3, g4, g5⟩ := I3.fpOk (Nat.le_refl _) nC
      exact ⟨.ref D, H5, I7.turned (t' := s6.toks) (fun b o hb e => (sb.2 b hb).trans e) g0 g1 g3 g4 g5, rfl, qq⟩
    · refine thnF (T.item (X.blk s3 H3 sc ce fp) rfl rfl rfl hc i [] s5 _ H5 (fun _ _ => False) I5 (stat I5 n5) st5 go) fun r s6 hr6 => ?_
      obtain ⟨u, rfl, h6⟩ := hr6
      refine thnF h6 fun _ s7 hh7 => ?_
      obtain ⟨x, H7, I7, r7, y7, st7, n7⟩ := hh7
      have I7' := I7.pinned (stat I7 n7) (T.obj _ _ st7)
      refine thnF (qg.run _ s7 _ H7 x u _ I7' r7 (step x H7 y7)) fun _ s8 hh8 => ?_
      obtain ⟨σ8, H8, I8, hw8, q8⟩ := hh8
      refine thnF (qt.run _ s8 σ8 H8 _ I8 q8) fun c s9 hh9 => ?_
      obtain ⟨H9, I9, q9⟩ := hh9
      -- where a turn of the outer loop ends
      have fin : ∀ {σ9 : L2.St} {s' : Shared} {H' : Hp}, Inv (X.blk s3 H3 sc ce fp) ([] ++ pinsAt fp s7.heap) σ9 H' s' → (wipe σ (own.map (·.2))).length = σ9.length →
          (∀ (j : Nat) v, (wipe σ (own.map (·.2)))[j]? = some (some v) → σ9[j]? = some (some v)) → Nx H' →
          ∃ m, m < n ∧ ∃ i H', Inv (X.blk s3 H3 sc ce fp) [] (wipe σ (own.map (·.2))) H' s' ∧ tn i s'.heap ∧ (∀ b ∈ fp, H' b = none) ∧ W i m H' := fun {σ9 s' H'} I' hl hk nx => by
        obtain ⟨m', hm, w'⟩ := hNx H' nx
        have pin' : ∀ b ∈ fp, ∀ o, s7.heap.get? b = some o → s'.heap.get? b = some o ∧ H' b = none := fun b hb o e =>
          let z := I'.pin (b, o) (List.mem_append_right _ (List.mem_append_right _ (mem_pinsAt hb e))); ⟨z.1, z.2.1⟩
        exact ⟨m', hm, i + 1, H', (I'.unpinned (pins := [])).weak hl hk, T.keep _ _ _ st7 fun b hb o e => (pin' b hb o e).1, fun b hb => let ⟨o, e, _⟩ := T.obj _ _ st7 b hb; (pin' b hb o e).2, w'⟩
      have hl8 : (wipe σ (own.map (·.2))).length = σ8.length := by rw [← hw8, wipe_length]
      have hk8 : ∀ (j : Nat) v, (wipe σ (own.map (·.2)))[j]? = some (some v) → σ8[j]? = some (some v) := fun j v e => by rw [← hw8] at e; exact (wipe_some e).1
      have hk9 : ∀ (j : Nat) v, (wipe σ (own.map (·.2)))[j]? = some (some v) → (wipe σ8 vs1)[j]? = some (some v) := fun j v e => by
        rw [← hw8] at e
        rw [wipe_out fun z => (wipe_some e).2 (hv j z)]
        exact (wipe_some e).1
      match c, q9 with
      | false, q9 => exact fin I9 hl8 hk8 (by simpa using q9)
      | true, q9 =>
        simp only [if_true] at q9 ⊢
        refine thnF (qi1.run _ s9 σ8 H9 _ I9 q9) fun xv s10 hx => thnF hx fun itv s11 hh => ?_
        obtain ⟨jt, fq, tm, J1, H11, rfl, I11, T1, st11, f11, W1, ⟨m1, w1⟩, turn1⟩ := hh
        have stat1 : ∀ {H' : Hp}, (∀ b ∈ fq, H' b = none) → ∀ b ∈ fq, FpOk (X.blk s3 H3 sc ce fp) ([] ++ pinsAt fp s7.heap) H' b := fun hn b hb => ⟨hn b hb, (f11 b hb).2⟩
        have lq : codeAny (model X.prog X.w) X.A (.compLoop (dd kx vx ta ia ca tb ib cb sc ps) 1 (.ref jt) (.ref D) ce) (fun r s' =>
            match r with
            | .ok _ => ∃ m, m < n ∧ ∃ i H', Inv (X.blk s3 H3 sc ce fp) [] (wipe σ (own.map (·.2))) H' s' ∧ tn i s'.heap ∧ (∀ b ∈ fp, H' b = none) ∧ W i m H'
            | .error _ => False) s11 := by
          refine dd_loop1 (fun k s' => ∃ j H', Inv (X.blk s3 H3 sc ce fp) ([] ++ pinsAt fp s7.heap) (wipe σ8 vs1) H' s' ∧ tm j s'.heap ∧ (∀ b ∈ fq, H' b = none) ∧ W1 j k H') (fun k s12 hh12 => ?_) m1
            ⟨0, H11, I11.weak (wipe_length _ _) (fun j v e => (wipe_some e).1), st11, fun b hb => (f11 b hb).1, w1⟩
          obtain ⟨j, H12, I12, st12, n12, w12⟩ := hh12
          rcases turn1 j k H12 w12 with ⟨stop1, nx1⟩ | ⟨go1, Ny, hNy, step1⟩
          · refine thnF (T1.done (X.blk s3 H3 sc ce fp) rfl rfl rfl hc j _ s12 (wipe σ8 vs1) H12 (fun _ _ => False) I12 (stat1 n12) st12 stop1) fun r s13 hr => ?_
            obtain ⟨rfl, I13⟩ := hr
            exact fin I13 (hl8.trans (wipe_length σ8 vs1).symm) hk9 nx1
          · refine thnF (T1.item (X.blk s3 H3 sc ce fp) rfl rfl rfl hc j _ s12 (wipe σ8 vs1) H12 (fun _ _ => False) I12 (stat1 n12) st12 go1) fun r s13 hr => ?_
            obtain ⟨u1, rfl, h13⟩ := hr
            refine thnF h13 fun _ s14 hh => ?_
            obtain ⟨x1, H14, I14, r14, y14, st14, n14⟩ := hh
            have I14' := I14.pinned (stat1 n14) (T1.obj _ _ st14)
            refine thnF (qg1.run _ s14 (wipe σ8 vs1) H14 x1 u1 _ I14' r14 (step1 x1 H14 y14)) fun _ s15 hh => ?_
            obtain ⟨σ15, H15, I15, hw15, q15⟩ := hh
            refine thnF (qt1.run _ s15 σ15 H15 _ I15 q15) fun c1 s16 hh => ?_
            obtain ⟨H16, I16, q16⟩ := hh
            have fin1 : ∀ {s' : Shared} {H' : Hp}, Inv (X.blk s3 H3 sc ce fp) (([] ++ pinsAt fp s7.heap) ++ pinsAt fq s14.heap) σ15 H' s' → Ny H' →
                ∃ m, m < k ∧ ∃ j H', Inv (X.blk s3 H3 sc ce fp) ([] ++ pinsAt fp s7.heap) (wipe σ8 vs1) H' s' ∧ tm j s'.heap ∧ (∀ b ∈ fq, H' b = none) ∧ W1 j m H' := fun {s' H'} I' nx => by
              obtain ⟨m', hm, w'⟩ := hNy H' nx
              have pin' : ∀ b ∈ fq, ∀ o, s14.heap.get? b = some o → s'.heap.get? b = some o ∧ H' b = none := fun b hb o e =>
                let z := I'.pin (b, o) (List.mem_append_right _ (List.mem_append_right _ (mem_pinsAt hb e))); ⟨z.1, z.2.1⟩
              exact ⟨m', hm, j + 1, H', I'.unpinned.weak (by rw [← hw15, wipe_length]) (fun j v e => by rw [← hw15] at e; exact (wipe_some e).1), T1.keep _ _ _ st14 fun b hb o e => (pin' b hb o e).1,
                fun b hb => let ⟨o, e, _⟩ := T1.obj _ _ st14 b hb; (pin' b hb o e).2, w'⟩
            match c1, q16 with
            | false, q16 => exact fin1 I16 (by simpa using q16)
            | true, q16 =>
              simp only [if_true] at q16 ⊢
              refine thnF (qk.run _ s16 σ15 H16 _ I16 q16) fun z s17 hh => ?_
              obtain ⟨yk, H17, I17, r17, q17⟩ := hh
              refine thnF (qe.run _ s17 σ15 H17 _ I17 q17) fun z2 s18 hh => ?_
              obtain ⟨yv, H18, I18, r18, kvs, k', rfl, hD18, hz18, ny⟩ := hh
              exact d_dictSet (X := X.blk s3 H3 sc ce fp) I18 hD18 hz18 r17 r18 fun s19 I19 => fin1 I19 ny
        exact dd_start1 lq (T1.self X.A 0 _ _ _ st11 lq)
  exact codeAny_compStart_dict lp (T.self X.A 0 _ _ _ st4 lp)
end
end Wc
/-! What can be obtained: rounds, the mathematics. -/
namespace Wc
/-- n follows from objects of S by another reason than a register -/
def Ob.fol (cs : List Int) (S : Int → Prop) (n : Int) : Ob → Prop
  | .rcd _ fs => some n ∈ fs
  | .weak _ t => t = some n ∧ n ∉ cs
  | .tab _ es => ∃ k, (k, n) ∈ es ∧ S k
def Fol (h : Hd) (cs : List Int) (S : Int → Prop) (n : Int) : Prop := ∃ o ∈ h.obs, S o.num ∧ o.fol cs S n
/-- obtainable within so many rounds -/
def In (h : Hd) (cs : List Int) : Nat → Int → Prop
  | 0 => fun n => some n ∈ h.regs
  | k + 1 => fun n => In h cs k n ∨ Fol h cs (In h cs k) n
def Obt (h : Hd) (cs : List Int) (n : Int) : Prop := ∃ k, In h cs k n
section
variable {h : Hd} {cs ds : List Int} {S S' : Int → Prop} {n : Int}
theorem Ob.fol_mono (hs : ∀ n, S n → S' n) {o : Ob} (x : o.fol cs S n) : o.fol cs S' n := by
  cases o with
  | rcd _ _ => exact x
  | weak _ _ => exact x
  | tab _ _ => obtain ⟨k, h1, h2⟩ := x; exact ⟨k, h1, hs k h2⟩
theorem Fol.mono (hs : ∀ n, S n → S' n) (x : Fol h cs S n) : Fol h cs S' n := by
  obtain ⟨o, h1, h2, h3⟩ := x
  exact ⟨o, h1, hs _ h2, Ob.fol_mono hs h3⟩
theorem In.succ {k : Nat} (x : In h cs k n) : In h cs (k + 1) n := .inl x
theorem In.le {k j : Nat} (hk : k ≤ j) (x : In h cs k n) : In h cs j n := by
  induction hk with
  | refl => exact x
  | step _ ih => exact .inl ih
theorem Ob.fol_in {S : List Int} {T : Int → Prop} {o : Ob} (ok : o.ok S) (x : o.fol cs T n) : n ∈ S := by
  cases o with
  | rcd m fs => exact ok.2 _ x n rfl
  | weak m t => exact ok n x.1
  | tab m es => obtain ⟨k, h1, _⟩ := x; exact (ok.2.2 _ h1).2
theorem In.num (ok : h.Ok) : ∀ {k : Nat} {n : Int}, In h cs k n → n ∈ h.nums
  | 0, n, x => ok.regs _ x n rfl
  | k + 1, n, .inl x => In.num ok x
  | k + 1, n, .inr ⟨o, ho, _, hf⟩ => Ob.fol_in (ok.obs o ho) hf
theorem Obt.num (ok : h.Ok) (x : Obt h cs n) : n ∈ h.nums := let ⟨_, y⟩ := x; In.num ok y
/-- fewer condemned, more is obtained -/
theorem Ob.fol_less (hc : ∀ n, n ∈ ds → n ∈ cs) {o : Ob} (x : o.fol cs S n) : o.fol ds S n := by
  cases o with
  | rcd _ _ => exact x
  | weak _ _ => exact ⟨x.1, fun z => x.2 (hc _ z)⟩
  | tab _ _ => exact x
theorem In.less (hc : ∀ n, n ∈ ds → n ∈ cs) : ∀ {k : Nat} {n : Int}, In h cs k n → In h ds k n
  | 0, _, x => x
  | _ + 1, _, .inl x => .inl (In.less hc x)
  | _ + 1, _, .inr ⟨o, ho, h2, h3⟩ => .inr ⟨o, ho, In.less hc h2, Ob.fol_mono (fun _ z => In.less hc z) (Ob.fol_less hc h3)⟩
theorem Obt.less (hc : ∀ n, n ∈ ds → n ∈ cs) (x : Obt h cs n) : Obt h ds n := let ⟨k, y⟩ := x; ⟨k, In.less hc y⟩
/-- what is closed has all that is obtained -/
theorem Obt.closed (h0 : ∀ n, some n ∈ h.regs → S n) (h1 : ∀ n, Fol h cs S n → S n) (x : Obt h cs n) : S n := by
  obtain ⟨k, x⟩ := x
  induction k generalizing n with
  | zero => exact h0 n x
  | succ k ih =>
    rcases x with x | x
    · exact ih x
    · exact h1 n (x.mono fun m z => ih z)
theorem Obt.reg (x : some n ∈ h.regs) : Obt h cs n := ⟨0, x⟩
theorem two {k j : Nat} {m : Int} (x : In h cs k n) (y : In h cs j m) : ∃ i, In h cs i n ∧ In h cs i m := ⟨max k j, x.le (Nat.le_max_left _ _), y.le (Nat.le_max_right _ _)⟩
theorem Obt.fol (x : Fol h cs (Obt h cs) n) : Obt h cs n := by
  obtain ⟨o, ho, ⟨k, hk⟩, hf⟩ := x
  cases o with
  | rcd m fs => exact ⟨k + 1, .inr ⟨_, ho, hk, hf⟩⟩
  | weak m t => exact ⟨k + 1, .inr ⟨_, ho, hk, hf⟩⟩
  | tab m es =>
    obtain ⟨q, h1, j, hj⟩ := hf
    obtain ⟨i, a, b⟩ := two hk hj
    exact ⟨i + 1, .inr ⟨_, ho, a, q, h1, b⟩⟩
end
/-- what an object leads to, and what follows from it -/
theorem mem_ledTo {o : Ob} {gs cs : List Int} {n : Int} : n ∈ ledTo o gs cs ↔ o.fol cs (· ∈ gs) n := by
  cases o with
  | rcd m fs => simp [ledTo, Ob.fol]
  | weak m t =>
    cases t with
    | none => simp [ledTo, Ob.fol]
    | some i =>
      show n ∈ (if i ∈ cs then [] else [i]) ↔ (some i = some n ∧ n ∉ cs)
      by_cases c : i ∈ cs
      · rw [if_pos c]
        constructor
        · intro z; cases z
        · rintro ⟨e, z⟩; exact absurd (Option.some.inj e ▸ c) z
      · rw [if_neg c]
        constructor
        · intro z
          have e : n = i := by simpa using z
          subst e; exact ⟨rfl, c⟩
        · rintro ⟨e, _⟩
          have e := Option.some.inj e
          subst e; simp
  | tab m es =>
    show n ∈ ((es.filter fun e => decide (e.1 ∈ gs)).map (·.2)) ↔ ∃ k, (k, n) ∈ es ∧ k ∈ gs
    rw [List.mem_map]
    constructor
    · rintro ⟨e, he, rfl⟩
      obtain ⟨h1, h2⟩ := List.mem_filter.mp he
      exact ⟨e.1, h1, of_decide_eq_true h2⟩
    · rintro ⟨k, h1, h2⟩
      exact ⟨(k, n), List.mem_filter.mpr ⟨h1, decide_eq_true h2⟩, rfl⟩
/-! ### rows without repetition -/
theorem nd_sub {l m : List Int} (h : l.Nodup) (s : ∀ n ∈ l, n ∈ m) : l.length ≤ m.length := by
  induction l generalizing m with
  | nil => exact Nat.zero_le _
  | cons x r ih =>
    have hx : x ∈ m := s x List.mem_cons_self
    obtain ⟨nx, nr⟩ := List.nodup_cons.mp h
    have q := ih (m := m.erase x) nr fun n hn => (List.mem_erase_of_ne (fun e => nx (by rw [← e]; exact hn))).mpr (s n (List.mem_cons_of_mem _ hn))
    rw [List.length_erase_of_mem hx] at q
    have : 0 < m.length := List.length_pos_of_mem hx
    rw [List.length_cons]
    omega
/-- two rising rows with the same members are one -/
theorem up_same : ∀ {l m : List Int}, l.Pairwise (· < ·) → m.Pairwise (· < ·) → (∀ n, n ∈ l ↔ n ∈ m) → l = m
  | [], [], _, _, _ => rfl
  | [], y :: m, _, _, h => absurd ((h y).mpr List.mem_cons_self) (by simp)
  | x :: l, [], _, _, h => absurd ((h x).mp List.mem_cons_self) (by simp)
  | x :: l, y :: m, hl, hm, h => by
    obtain ⟨hx, hl'⟩ := List.pairwise_cons.mp hl
    obtain ⟨hy, hm'⟩ := List.pairwise_cons.mp hm
    have e : x = y := by
      rcases List.mem_cons.mp ((h x).mp List.mem_cons_self) with e | e
      · exact e
      · rcases List.mem_cons.mp ((h y).mpr List.mem_cons_self) with e2 | e2
        · exact e2.symm
        · have := hx y e2
          have := hy x e
          omega
    subst e
    have hh : ∀ n, n ∈ l ↔ n ∈ m := fun n => by
      constructor
      · intro z
        rcases List.mem_cons.mp ((h n).mp (List.mem_cons_of_mem _ z)) with e | e
        · subst e; exact absurd (hx n z) (by omega)
        · exact e
      · intro z
        rcases List.mem_cons.mp ((h n).mpr (List.mem_cons_of_mem _ z)) with e | e
        · subst e; exact absurd (hy n z) (by omega)
        · exact e
    rw [up_same hl' hm' hh]
theorem up_of {l : List Int} (h : l.Pairwise (· ≤ ·)) (nd : l.Nodup) : l.Pairwise (· < ·) := by
  induction l with
  | nil => exact .nil
  | cons x r ih =>
    obtain ⟨h1, h2⟩ := List.pairwise_cons.mp h
    obtain ⟨n1, n2⟩ := List.nodup_cons.mp nd
    exact List.pairwise_cons.mpr ⟨fun y hy => by
      have := h1 y hy
      have : x ≠ y := fun e => n1 (by rw [e]; exact hy)
      omega, ih h2 n2⟩
/-! ### the rounds as they are found, one behind the other -/
structure RI (h : Hd) (cs : List Int) (d : Nat) (G : List (Int × Int)) (W : List Int) : Prop where
  ndG : (G.map (·.1)).Nodup
  ndW : W.Nodup
  mem : ∀ n, n ∈ G.map (·.1) ↔ ∃ j, j < d ∧ In h cs j n
  new : ∀ n, n ∈ W ↔ In h cs d n ∧ ¬ ∃ j, j < d ∧ In h cs j n
  val : ∀ n v, (n, v) ∈ G → ∃ k : Nat, v = k ∧ In h cs k n ∧ ∀ j, j < k → ¬ In h cs j n
structure RoundsOf (h : Hd) (cs : List Int) (G : List (Int × Int)) : Prop where
  nd : (G.map (·.1)).Nodup
  all : ∀ n, n ∈ G.map (·.1) ↔ Obt h cs n
  val : ∀ n v, (n, v) ∈ G → ∃ k : Nat, v = k ∧ In h cs k n ∧ ∀ j, j < k → ¬ In h cs j n
def addW (G : List (Int × Int)) (W : List Int) (d : Nat) : List (Int × Int) := G ++ W.map fun n => (n, (d : Int))
section
variable {h : Hd} {cs : List Int} {d : Nat} {G : List (Int × Int)} {W : List Int}
theorem addW_keys : (addW G W d).map (·.1) = G.map (·.1) ++ W := by
  unfold addW
  rw [List.map_append, List.map_map]
  congr 1
  exact List.map_id' W
theorem RI.dis (r : RI h cs d G W) {n : Int} (hn : n ∈ W) : n ∉ G.map (·.1) := fun z => ((r.new n).mp hn).2 ((r.mem n).mp z)
theorem RI.ndA (r : RI h cs d G W) : ((addW G W d).map (·.1)).Nodup := by
  rw [addW_keys]
  exact List.nodup_append.mpr ⟨r.ndG, r.ndW, fun a ha b hb e => r.dis hb (e ▸ ha)⟩
theorem RI.memA (r : RI h cs d G W) (n : Int) : n ∈ (addW G W d).map (·.1) ↔ In h cs d n := by
  rw [addW_keys, List.mem_append, r.mem, r.new]
  constructor
  · rintro (⟨j, hj, x⟩ | x)
    · exact x.le (by omega)
    · exact x.1
  · intro x
    by_cases c : ∃ j, j < d ∧ In h cs j n
    · exact .inl c
    · exact .inr ⟨x, c⟩
theorem RI.size (r : RI h cs d G W) (ok : h.Ok) : (addW G W d).length ≤ h.nums.length := by
  have q := nd_sub r.ndA fun n hn => In.num ok ((r.memA n).mp hn)
  rwa [List.length_map] at q
theorem RI.more (hw : W ≠ []) : G.length < (addW G W d).length := by
  unfold addW
  rw [List.length_append, List.length_map]
  have := List.length_pos_iff.mpr hw
  omega
/-- a round: who is asked, and what is found -/
theorem RI.step (r : RI h cs d G W) {as W' : List Int} (ha : ∀ n ∈ as, n ∈ (addW G W d).map (·.1)) (hb : ∀ n, n ∈ (addW G W d).map (·.1) → (n ∈ W ∨ ∃ m es, Ob.tab m es ∈ h.obs ∧ m = n) → n ∈ as)
    (nd : W'.Nodup) (hw : ∀ n, n ∈ W' ↔ n ∉ (addW G W d).map (·.1) ∧ ∃ o ∈ h.obs, o.num ∈ as ∧ o.fol cs (· ∈ (addW G W d).map (·.1)) n) : RI h cs (d + 1) (addW G W d) W' := by
  refine ⟨r.ndA, nd, fun n => ?_, fun n => ?_, fun n v hv => ?_⟩
  · rw [r.memA]
    exact ⟨fun x => ⟨d, by omega, x⟩, fun ⟨j, hj, x⟩ => x.le (by omega)⟩
  · rw [hw n]
    have e1 : (∃ j, j < d + 1 ∧ In h cs j n) ↔ In h cs d n := ⟨fun ⟨j, hj, x⟩ => x.le (by omega), fun x => ⟨d, by omega, x⟩⟩
    rw [e1, r.memA]
    constructor
    · rintro ⟨hn, o, ho, hoa, hf⟩
      exact ⟨.inr ⟨o, ho, (r.memA _).mp (ha _ hoa), Ob.fol_mono (fun m z => (r.memA m).mp z) hf⟩, hn⟩
    · rintro ⟨x, hn⟩
      refine ⟨hn, ?_⟩
      rcases x with x | ⟨o, ho, h1, hf⟩
      · exact absurd x hn
      · refine ⟨o, ho, ?_, Ob.fol_mono (fun m z => (r.memA m).mpr z) hf⟩
        refine hb _ ((r.memA _).mpr h1) ?_
        by_cases c : o.num ∈ W
        · exact .inl c
        · refine .inr ?_
          -- found before the last round: then n would have been found, but for a table
          have h2 : ∃ j, j < d ∧ In h cs j o.num := by
            by_cases c2 : ∃ j, j < d ∧ In h cs j o.num
            · exact c2
            · exact absurd ((r.new _).mpr ⟨h1, c2⟩) c
          obtain ⟨j, hj, x⟩ := h2
          cases o with
          | rcd m fs => exact absurd (In.le (by omega : j + 1 ≤ d) (.inr ⟨_, ho, x, hf⟩)) hn
          | weak m t => exact absurd (In.le (by omega : j + 1 ≤ d) (.inr ⟨_, ho, x, hf⟩)) hn
          | tab m es => exact ⟨m, es, ho, rfl⟩
  · rcases List.mem_append.mp hv with z | z
    · exact r.val n v z
    · obtain ⟨m, hm, e⟩ := List.mem_map.mp z
      cases e
      have q := (r.new _).mp hm
      exact ⟨d, rfl, q.1, fun j hj x => q.2 ⟨j, hj, x⟩⟩
theorem RI.first {W : List Int} (nd : W.Nodup) (hw : ∀ n, n ∈ W ↔ some n ∈ h.regs) : RI h cs 0 [] W :=
  ⟨List.nodup_nil, nd, fun n => ⟨fun z => by simp at z, fun ⟨j, hj, _⟩ => absurd hj (by omega)⟩, fun n => (hw n).trans ⟨fun z => ⟨z, fun ⟨j, hj, _⟩ => absurd hj (by omega)⟩, fun z => z.1⟩, fun n v z => by simp at z⟩
theorem RI.done (r : RI h cs d G []) : RoundsOf h cs G := by
  refine ⟨r.ndG, fun n => ⟨fun z => let ⟨j, _, x⟩ := (r.mem n).mp z; ⟨j, x⟩, fun x => ?_⟩, r.val⟩
  have stop : ∀ n, In h cs d n → ∃ j, j < d ∧ In h cs j n := fun n y => by
    by_cases c : ∃ j, j < d ∧ In h cs j n
    · exact c
    · exact absurd ((r.new n).mpr ⟨y, c⟩) (by simp)
  refine Obt.closed (S := fun n => n ∈ G.map (·.1)) (fun n z => (r.mem n).mpr (stop n (In.le (Nat.zero_le d) z))) (fun n z => ?_) x
  have hd : ∀ m, m ∈ G.map (·.1) → In h cs (d - 1) m := fun m hm => let ⟨j, hj, y⟩ := (r.mem m).mp hm; y.le (by omega)
  by_cases d0 : d = 0
  · obtain ⟨o, _, h1, _⟩ := z
    obtain ⟨j, hj, _⟩ := (r.mem _).mp h1
    omega
  · have y : In h cs (d - 1 + 1) n := .inr (z.mono hd)
    exact (r.mem n).mpr (stop n (y.le (by omega)))
end
end Wc
/-! A heap without some of its objects; what is reached without one: the mathematics. -/
namespace Wc
open PySem L2
def hit (gs : List Int) : Rf → Bool
  | none => false
  | some m => decide (m ∈ gs)
def clr (gs : List Int) (r : Rf) : Rf := if hit gs r = true then none else r
def dropOb (gs : List Int) : Ob → Ob
  | .rcd n fs => .rcd n (fs.map (clr gs))
  | .weak n t => .weak n (clr gs t)
  | .tab n es => .tab n (es.filter fun e => decide (e.1 ∉ gs) && decide (e.2 ∉ gs))
def drop (h : Hd) (gs : List Int) : Hd :=
  ⟨h.nx, h.regs.map (clr gs), h.kept.filter fun n => decide (n ∉ gs), (h.obs.filter fun o => decide (o.num ∉ gs)).map (dropOb gs), h.wat.filter fun e => decide (e.1 ∉ gs)⟩
/-- .. the object itself stays, without what leads to it -/
def leftOut (h : Hd) (n : Int) : Hd := ⟨h.nx, h.regs.map (clr [n]), h.kept, h.obs.map (dropOb [n]), h.wat⟩
theorem dropOb_num (gs : List Int) (o : Ob) : (dropOb gs o).num = o.num := by cases o <;> rfl
theorem clr_some {gs : List Int} {r : Rf} {m : Int} : clr gs r = some m ↔ r = some m ∧ m ∉ gs := by
  cases r with
  | none => simp [clr, hit]
  | some k =>
    show (if decide (k ∈ gs) = true then none else some k) = some m ↔ _
    by_cases c : k ∈ gs
    · rw [decide_eq_true c, if_pos rfl]
      exact ⟨fun z => (nomatch z), fun ⟨z, y⟩ => absurd (Option.some.inj z ▸ c) y⟩
    · rw [decide_eq_false c, if_neg (by simp)]
      exact ⟨fun z => ⟨z, fun y => c (Option.some.inj z ▸ y)⟩, fun z => z.1⟩
theorem drop_nums (h : Hd) (gs : List Int) : (drop h gs).nums = h.nums.filter fun n => decide (n ∉ gs) := by
  have key : ∀ l : List Ob, ((l.filter fun o => decide (o.num ∉ gs)).map (dropOb gs)).map Ob.num = (l.map Ob.num).filter fun n => decide (n ∉ gs) := fun l => by
    induction l with
    | nil => rfl
    | cons o r ih =>
      rw [List.map_cons, List.filter_cons, List.filter_cons]
      split
      · rw [List.map_cons, List.map_cons, ih, dropOb_num]
      · exact ih
  exact key h.obs
theorem leftOut_nums (h : Hd) (n : Int) : (leftOut h n).nums = h.nums := by
  show (h.obs.map (dropOb [n])).map Ob.num = h.obs.map Ob.num
  rw [List.map_map]
  exact List.map_congr_left fun o _ => dropOb_num _ _
theorem dropOb_ok {S gs : List Int} {o : Ob} (h : o.ok S) : (dropOb gs o).ok (S.filter fun n => decide (n ∉ gs)) := by
  have cl : ∀ r, Rf.ok S r → Rf.ok (S.filter fun n => decide (n ∉ gs)) (clr gs r) := fun r hr i e => by
    obtain ⟨e1, e2⟩ := clr_some.mp e
    exact List.mem_filter.mpr ⟨hr i e1, decide_eq_true e2⟩
  cases o with
  | rcd n fs =>
    refine ⟨by rw [List.length_map]; exact h.1, fun r hr => ?_⟩
    obtain ⟨q, hq, rfl⟩ := List.mem_map.mp hr
    exact cl q (h.2 q hq)
  | weak n t => exact cl t h
  | tab n es =>
    refine ⟨Nat.le_trans (List.length_filter_le _ _) h.1, (List.Sublist.map _ List.filter_sublist).nodup h.2.1, fun e he => ?_⟩
    obtain ⟨e1, e2⟩ := List.mem_filter.mp he
    obtain ⟨y1, y2⟩ := Bool.and_eq_true_iff.mp e2
    exact ⟨List.mem_filter.mpr ⟨(h.2.2 e e1).1, y1⟩, List.mem_filter.mpr ⟨(h.2.2 e e1).2, y2⟩⟩
theorem Ob.ok.sub {S S' : List Int} {o : Ob} (h : o.ok S) (s : ∀ n ∈ S, n ∈ S') : o.ok S' := by
  cases o with
  | rcd n fs => exact ⟨h.1, fun r hr i e => s i (h.2 r hr i e)⟩
  | weak n t => exact fun i e => s i (h i e)
  | tab n es => exact ⟨h.1, h.2.1, fun e he => ⟨s _ (h.2.2 e he).1, s _ (h.2.2 e he).2⟩⟩
theorem drop_ok {h : Hd} (ok : h.Ok) (gs : List Int) : (drop h gs).Ok := by
  have en := drop_nums h gs
  refine ⟨by rw [en]; exact ok.up.sublist List.filter_sublist, ?_, ?_, fun r hr i e => ?_, fun o ho => ?_, fun i hi => ?_, fun e he => ?_, fun n hn => ?_, ok.nxl, ok.kup.sublist List.filter_sublist, fun e he => ok.tok e (List.mem_filter.mp he).1, Nat.le_trans (List.length_filter_le _ _) ok.nwat, fun z => ?_⟩
  · show ((h.obs.filter fun o => decide (o.num ∉ gs)).map (dropOb gs)).length ≤ 50
    rw [List.length_map]; exact Nat.le_trans (List.length_filter_le _ _) ok.size
  · show (h.regs.map (clr gs)).length ≤ 1000
    rw [List.length_map]; exact ok.nreg
  · rw [en]
    obtain ⟨q, hq, rfl⟩ := List.mem_map.mp hr
    obtain ⟨e1, e2⟩ := clr_some.mp e
    exact List.mem_filter.mpr ⟨ok.regs q hq i e1, decide_eq_true e2⟩
  · rw [en]
    obtain ⟨q, hq, rfl⟩ := List.mem_map.mp ho
    exact dropOb_ok (ok.obs q (List.mem_filter.mp hq).1)
  · rw [en]
    obtain ⟨y1, y2⟩ := List.mem_filter.mp hi
    exact List.mem_filter.mpr ⟨ok.kept i y1, y2⟩
  · rw [en]
    obtain ⟨y1, y2⟩ := List.mem_filter.mp he
    exact List.mem_filter.mpr ⟨ok.wat e y1, y2⟩
  · rw [en] at hn
    exact ok.low n (List.mem_filter.mp hn).1
  · exact ok.rpos (List.map_eq_nil_iff.mp z)
theorem leftOut_ok {h : Hd} (ok : h.Ok) (n : Int) : (leftOut h n).Ok := by
  have en := leftOut_nums h n
  refine ⟨by rw [en]; exact ok.up, ?_, ?_, fun r hr i e => ?_, fun o ho => ?_, fun i hi => ?_, fun e he => ?_, fun n hn => ?_, ok.nxl, ok.kup, fun e he => ok.tok e he, ok.nwat, fun z => ?_⟩
  · show (h.obs.map (dropOb [n])).length ≤ 50
    rw [List.length_map]; exact ok.size
  · show (h.regs.map (clr [n])).length ≤ 1000
    rw [List.length_map]; exact ok.nreg
  · rw [en]
    obtain ⟨q, hq, rfl⟩ := List.mem_map.mp hr
    exact ok.regs q hq i (clr_some.mp e).1
  · rw [en]
    obtain ⟨q, hq, rfl⟩ := List.mem_map.mp ho
    exact (dropOb_ok (ok.obs q hq)).sub fun n hn => (List.mem_filter.mp hn).1
  · rw [en]; exact ok.kept i hi
  · rw [en]; exact ok.wat e he
  · rw [en] at hn; exact ok.low n hn
  · exact ok.rpos (List.map_eq_nil_iff.mp z)
/-! ### what is reached without some objects -/
inductive Wo (h : Hd) (ex : Int → Prop) : Int → Prop
  | reg {m : Int} : some m ∈ h.regs → ¬ ex m → Wo h ex m
  | fld {k m : Int} {fs : List Rf} : Ob.rcd k fs ∈ h.obs → Wo h ex k → some m ∈ fs → ¬ ex m → Wo h ex m
  | ent {k q m : Int} {es : List (Int × Int)} : Ob.tab k es ∈ h.obs → Wo h ex k → (q, m) ∈ es → Wo h ex q → ¬ ex m → Wo h ex m
section
variable {h : Hd} {ex ex' : Int → Prop} {m b : Int}
theorem Wo.not (x : Wo h ex m) : ¬ ex m := by cases x <;> assumption
theorem Wo.mono (s : ∀ n, ex' n → ex n) (x : Wo h ex m) : Wo h ex' m := by
  induction x with
  | reg h1 h2 => exact .reg h1 fun z => h2 (s _ z)
  | fld h1 _ h2 h3 ih => exact .fld h1 ih h2 fun z => h3 (s _ z)
  | ent h1 _ h2 _ h3 ih1 ih2 => exact .ent h1 ih1 h2 ih2 fun z => h3 (s _ z)
/-- an object that is not reached so is not needed -/
theorem Wo.spare (nb : ¬ Wo h ex b) (x : Wo h ex m) : Wo h (fun n => ex n ∨ n = b) m := by
  have ne : ∀ {k}, Wo h ex k → k ≠ b := fun y e => nb (e ▸ y)
  induction x with
  | reg h1 h2 => exact .reg h1 fun z => z.elim h2 fun e => ne (Wo.reg h1 h2) e
  | fld h1 y h2 h3 ih => exact .fld h1 ih h2 fun z => z.elim h3 fun e => ne (Wo.fld h1 y h2 h3) e
  | ent h1 y h2 y2 h3 ih1 ih2 => exact .ent h1 ih1 h2 ih2 fun z => z.elim h3 fun e => ne (Wo.ent h1 y h2 y2 h3) e
/-- reached, and not without n -/
def Dom (h : Hd) (n m : Int) : Prop := Wo h (fun _ => False) m ∧ ¬ Wo h (· = n) m
theorem Dom.self (x : Wo h (fun _ => False) m) : Dom h m m := ⟨x, fun z => z.not rfl⟩
theorem Dom.first {n : Int} (x : Dom h n m) : Wo h (fun _ => False) n := Classical.byContradiction fun no => x.2 ((Wo.spare no x.1).mono fun _ e => .inr e)
theorem Dom.trans {a b c : Int} (x : Dom h a b) (y : Dom h b c) : Dom h a c := ⟨y.1, fun z => y.2 ((Wo.spare x.2 z).mono fun _ e => .inr e)⟩
theorem Dom.anti {a b : Int} (x : Dom h a b) (y : Dom h b a) : a = b := by
  refine Classical.byContradiction fun ne => ?_
  have key : ∀ {m}, Wo h (fun _ => False) m → Wo h (fun k => k = a ∨ k = b) m ∨ Wo h (· = b) a ∨ Wo h (· = a) b := fun z => by
    have sA : ∀ {k}, Wo h (fun k => k = a ∨ k = b) k → Wo h (· = b) k := fun w => w.mono fun _ e => .inr e
    have sB : ∀ {k}, Wo h (fun k => k = a ∨ k = b) k → Wo h (· = a) k := fun w => w.mono fun _ e => .inl e
    induction z with
    | @reg m h1 h2 =>
      by_cases ea : m = a
      · subst ea; exact .inr (.inl (.reg h1 ne))
      by_cases eb : m = b
      · subst eb; exact .inr (.inr (.reg h1 fun e => ne e.symm))
      exact .inl (.reg h1 fun z => z.elim ea eb)
    | @fld k m fs h1 _ h2 h3 ih =>
      rcases ih with ih | ih
      · by_cases ea : m = a
        · subst ea; exact .inr (.inl (.fld h1 (sA ih) h2 ne))
        by_cases eb : m = b
        · subst eb; exact .inr (.inr (.fld h1 (sB ih) h2 fun e => ne e.symm))
        exact .inl (.fld h1 ih h2 fun z => z.elim ea eb)
      · exact .inr ih
    | @ent k q m es h1 _ h2 _ h3 ih1 ih2 =>
      rcases ih1 with ih1 | ih1
      · rcases ih2 with ih2 | ih2
        · by_cases ea : m = a
          · subst ea; exact .inr (.inl (.ent h1 (sA ih1) h2 (sA ih2) ne))
          by_cases eb : m = b
          · subst eb; exact .inr (.inr (.ent h1 (sB ih1) h2 (sB ih2) fun e => ne e.symm))
          exact .inl (.ent h1 ih1 h2 ih2 fun z => z.elim ea eb)
        · exact .inr ih2
      · exact .inr ih1
  rcases key y.1 with z | z | z
  · exact z.not (.inl rfl)
  · exact y.2 z
  · exact x.2 z
end
/-- .. as what is obtainable without any target -/
theorem wo_obt {g h : Hd} {cs gs : List Int} (hr : ∀ m, some m ∈ g.regs ↔ some m ∈ h.regs ∧ m ∉ gs) (hf : ∀ k m, (∃ fs, Ob.rcd k fs ∈ g.obs ∧ some m ∈ fs) → (∃ fs, Ob.rcd k fs ∈ h.obs ∧ some m ∈ fs) ∧ m ∉ gs)
    (he : ∀ k q m, (∃ es, Ob.tab k es ∈ g.obs ∧ (q, m) ∈ es) → (∃ es, Ob.tab k es ∈ h.obs ∧ (q, m) ∈ es) ∧ m ∉ gs) (hw : ∀ k t, Ob.weak k (some t) ∈ g.obs → t ∈ cs)
    (bf : ∀ k m, k ∉ gs → (∃ fs, Ob.rcd k fs ∈ h.obs ∧ some m ∈ fs) → m ∉ gs → ∃ fs, Ob.rcd k fs ∈ g.obs ∧ some m ∈ fs)
    (be : ∀ k q m, k ∉ gs → q ∉ gs → (∃ es, Ob.tab k es ∈ h.obs ∧ (q, m) ∈ es) → m ∉ gs → ∃ es, Ob.tab k es ∈ g.obs ∧ (q, m) ∈ es) (m : Int) : Obt g cs m ↔ Wo h (· ∈ gs) m := by
  constructor
  · refine Obt.closed (S := fun m => Wo h (· ∈ gs) m) (fun m z => ?_) (fun m ⟨o, h1, h2, h3⟩ => ?_)
    · obtain ⟨z1, z2⟩ := (hr m).mp z; exact .reg z1 z2
    · cases o with
      | rcd k fs =>
        obtain ⟨⟨fs', y1, y2⟩, y3⟩ := hf k m ⟨fs, h1, h3⟩
        exact .fld y1 h2 y2 y3
      | weak k t =>
        obtain ⟨e, no⟩ := h3
        subst e
        exact absurd (hw k m h1) no
      | tab k es =>
        obtain ⟨q, h3, h4⟩ := h3
        obtain ⟨⟨es', y1, y2⟩, y3⟩ := he k q m ⟨es, h1, h3⟩
        exact .ent y1 h2 y2 h4 y3
  · intro x
    induction x with
    | reg h1 h2 => exact Obt.reg ((hr _).mpr ⟨h1, h2⟩)
    | @fld k m fs h1 y h2 h3 ih =>
      obtain ⟨fs', y1, y2⟩ := bf k m y.not ⟨fs, h1, h2⟩ h3
      exact Obt.fol ⟨_, y1, ih, y2⟩
    | @ent k q m es h1 y h2 y2 h3 ih1 ih2 =>
      obtain ⟨es', z1, z2⟩ := be k q m y.not y2.not ⟨es, h1, h2⟩ h3
      exact Obt.fol ⟨_, z1, ih1, q, z2, ih2⟩
section
variable {h : Hd}
theorem clr_mem {gs : List Int} {fs : List Rf} {m : Int} : some m ∈ fs.map (clr gs) ↔ some m ∈ fs ∧ m ∉ gs := by
  rw [List.mem_map]
  constructor
  · rintro ⟨r, hr, e⟩
    obtain ⟨e1, e2⟩ := clr_some.mp e
    subst e1
    exact ⟨hr, e2⟩
  · rintro ⟨h1, h2⟩
    exact ⟨_, h1, clr_some.mpr ⟨rfl, h2⟩⟩
theorem rcd_drop {l : List Ob} {gs : List Int} {k : Int} {m : Int} : (∃ fs, Ob.rcd k fs ∈ l.map (dropOb gs) ∧ some m ∈ fs) ↔ (∃ fs, Ob.rcd k fs ∈ l ∧ some m ∈ fs) ∧ m ∉ gs := by
  constructor
  · rintro ⟨fs, h1, h2⟩
    obtain ⟨o, ho, e⟩ := List.mem_map.mp h1
    cases o with
    | rcd n fs' =>
      cases e
      obtain ⟨y1, y2⟩ := clr_mem.mp h2
      exact ⟨⟨fs', ho, y1⟩, y2⟩
    | weak n t => cases e
    | tab n es => cases e
  · rintro ⟨⟨fs, h1, h2⟩, h3⟩
    exact ⟨_, List.mem_map_of_mem (f := dropOb gs) h1, clr_mem.mpr ⟨h2, h3⟩⟩
theorem tab_drop {l : List Ob} {gs : List Int} {k q m : Int} : (∃ es, Ob.tab k es ∈ l.map (dropOb gs) ∧ (q, m) ∈ es) ↔ (∃ es, Ob.tab k es ∈ l ∧ (q, m) ∈ es) ∧ q ∉ gs ∧ m ∉ gs := by
  constructor
  · rintro ⟨es, h1, h2⟩
    obtain ⟨o, ho, e⟩ := List.mem_map.mp h1
    cases o with
    | tab n es' =>
      cases e
      obtain ⟨y1, y2⟩ := List.mem_filter.mp h2
      obtain ⟨y2, y3⟩ := Bool.and_eq_true_iff.mp y2
      exact ⟨⟨es', ho, y1⟩, of_decide_eq_true y2, of_decide_eq_true y3⟩
    | weak n t => cases e
    | rcd n es => cases e
  · rintro ⟨⟨es, h1, h2⟩, h3, h4⟩
    exact ⟨_, List.mem_map_of_mem (f := dropOb gs) h1, List.mem_filter.mpr ⟨h2, Bool.and_eq_true_iff.mpr ⟨decide_eq_true h3, decide_eq_true h4⟩⟩⟩
theorem reach_wo (ok : h.Ok) (m : Int) : Obt h h.nums m ↔ Wo h (fun _ => False) m := by
  refine (wo_obt (gs := []) (h := h) (fun m => ⟨fun z => ⟨z, by simp⟩, fun z => z.1⟩) (fun k m z => ⟨z, by simp⟩) (fun k q m z => ⟨z, by simp⟩) (fun k t z => ok.obs _ z t rfl) (fun k m _ z _ => z) (fun k q m _ _ z _ => z) m).trans ?_
  exact ⟨fun z => z.mono fun _ y => y.elim, fun z => z.mono fun _ y => by cases y⟩
theorem drop_wo (ok : h.Ok) (gs : List Int) (m : Int) : Obt (drop h gs) (drop h gs).nums m ↔ Wo h (· ∈ gs) m := by
  have inF : ∀ {o : Ob}, o ∈ h.obs.filter (fun o => decide (o.num ∉ gs)) → o ∈ h.obs := fun z => (List.mem_filter.mp z).1
  refine wo_obt (fun m => clr_mem) (fun k m z => ?_) (fun k q m z => ?_) (fun k t z => (drop_ok ok gs).obs _ z t rfl) (fun k m nk z nm => ?_) (fun k q m nk nq z nm => ?_) m
  · obtain ⟨⟨fs, y1, y2⟩, y3⟩ := rcd_drop.mp z
    exact ⟨⟨fs, inF y1, y2⟩, y3⟩
  · obtain ⟨⟨fs, y1, y2⟩, y3⟩ := tab_drop.mp z
    exact ⟨⟨fs, inF y1, y2⟩, y3.2⟩
  · obtain ⟨fs, y1, y2⟩ := z
    exact rcd_drop.mpr ⟨⟨fs, List.mem_filter.mpr ⟨y1, decide_eq_true nk⟩, y2⟩, nm⟩
  · obtain ⟨fs, y1, y2⟩ := z
    exact tab_drop.mpr ⟨⟨fs, List.mem_filter.mpr ⟨y1, decide_eq_true nk⟩, y2⟩, nq, nm⟩
theorem left_wo (ok : h.Ok) (n m : Int) : Obt (leftOut h n) h.nums m ↔ Wo h (· ∈ [n]) m := by
  refine wo_obt (fun m => clr_mem) (fun k m z => rcd_drop.mp z) (fun k q m z => ?_) (fun k t z => ?_) (fun k m nk z nm => rcd_drop.mpr ⟨z, nm⟩) (fun k q m nk nq z nm => tab_drop.mpr ⟨z, nq, nm⟩) m
  · obtain ⟨y1, y2⟩ := tab_drop.mp z
    exact ⟨y1, y2.2⟩
  · have := (leftOut_ok ok n).obs _ z t rfl
    rwa [leftOut_nums] at this
theorem mem_one {n : Int} : (· ∈ [n]) = (· = n) := by funext k; simp
end
end Wc
namespace Wc
open PySem PySem.Spec PyProof.Rows L2
/-- t.index(x): the first place, items of any flat kinds -/
def rIndexT (K : PySem.W.Frag) : V → List V → Hp → VK → Prop := fun x xs H Q => ∃ (a : Addr) (ys : List V) (y : V) (j : Nat) (z : V), x = V.ref a ∧ xs = [y] ∧ SqT K H a ys ∧ flatV y = true ∧ ys.all flatV = true ∧ ys[j]? = some z ∧ eqV z y = true ∧
  (∀ (m : Nat) (z' : V), m < j → ys[m]? = some z' → eqV z' y = false) ∧ Q (.int (j : Nat)) H
theorem mt_indexT {X : Cx} : MtR X "tuple.index" (rIndexT X.K) := by
  intro pins s σ H x xs v us Q I rx rxs h
  obtain ⟨a, ys, y, j, z, rfl, rfl, hq, fy, fys, hz, hzj, hno, q⟩ := h
  cases rx
  cases rxs with
  | cons ry rt =>
    rename_i uy ut
    cases rt
    obtain ⟨its, rv, pl, hsz⟩ := I.tuple hq
    obtain ⟨⟨cls, dd, dt, sl⟩, ho, hc, n, hd⟩ := pl
    simp only at hc hd
    subst hc
    subst hd
    obtain ⟨u, hu, ru⟩ := rv.get hz
    obtain ⟨hjl, hje⟩ := List.getElem?_eq_some_iff.mp hu
    have hvl := rv.length
    have hj : j < its.toArray.size := by simpa using hjl
    refine call_meets PySem.F.slot_tuple_index ⟨_, ho, rfl⟩ PySem.F.entry_tuple_index (PySem.F.args_tuple_index_2 _ _) (TI.tuple_indexAt a its.toArray n dd sl uy (eqU y) j hj ?_ ?_)
      ⟨ho, fun u' hu' => mem_eqAt ry fy rv fys u' (by simpa using hu'), ⟨.int (j : Nat), H, I.tok _, ⟨_, rfl⟩, q⟩⟩
    · have e1 : its.toArray[j] = u := by simpa using hje
      rw [e1, eqU_of ru (flat_at fys hz)]
      exact hzj
    · intro m hm hmj
      have hml : m < its.length := by simpa using hm
      have hmy : m < ys.length := by omega
      have hy' : ys[m]? = some ys[m] := List.getElem?_eq_getElem hmy
      obtain ⟨u2, hu2, ru2⟩ := rv.get hy'
      obtain ⟨_, hme⟩ := List.getElem?_eq_some_iff.mp hu2
      have e1 : its.toArray[m] = u2 := by simpa using hme
      rw [e1, eqU_of ru2 (flat_at fys hy')]
      exact hno m _ hmj hy'
section
open PySem.Calls
theorem call_tupleZ {X : Cx} : CallR X (.type "tuple") (rTupZ X.K) := by
  intro pins s σ H xs us Q I r h
  obtain ⟨p, ys, rfl, hq, q⟩ := h
  obtain ⟨u, rfl, rx⟩ := vals1 r
  cases rx
  obtain ⟨its, r', pl, hz⟩ := I.list hq
  have hlen := r'.length
  refine call_tuple_list pl.isList (fun h' kp => ?_) (by simp only [List.size_toArray] <;> omega)
  have I1 : Inv X pins σ H { s with heap := h' } := I.kept (t' := s.toks) kp
  have I2 : Inv X pins σ (upd H h'.objs.size (.frz { cls := .type "tuple", data := .seq its.toArray } (.tup ys))) { s with heap := h'.push { cls := .type "tuple", data := .seq its.toArray } } :=
    I1.laid (t' := s.toks) (fun b o e => Heap.get?_push_of_some _ e) (Nat.le_refl _) (show ObjOk X.prog X.w _ _ _ (.frz _ (.tup ys)) from ⟨Heap.get?_push_size _ rfl, hz, its, r', IsTup.new _ _⟩)
  exact ⟨.ref h'.objs.size, _, I2, rfl, q _ _ (I1.hok.fresh (Nat.le_refl _)) rfl⟩
/-- a method of a tuple of which it is known that its object has no dict -/
def tBMZ (r : V → List V → Hp → VK → Prop) (to : TE) (t : TA) : TE := fun σ H Q => to σ H fun x H1 => (∃ p xs, x = .ref p ∧ SqZ H1 p xs) ∧ t σ H1 fun xs H2 => r x xs H2 Q
theorem pe_bmZ {X : Cx} {o e : Expr} {es : List Expr} {to : TE} {t : TA} {name : Str} {apos cpos : Pos} {id : String} {r : V → List V → Hp → VK → Prop} (pa : PlainAttrs "tuple") (slot : Slot "tuple" name id) (hty : typeOf (.builtin id) = pure (.type "method_descriptor")) (hm : MtR X id r) (ho : PE X o to) (ha : PA X (e :: es) t)
    (hbase : attributeBase o name X.env (eval o X.env) = eval o X.env := by rfl)
    (hfew : ((backTo cpos (starEach (e :: es) X.env)).all (fun x => !x.1) && (backToKw cpos (keywordEach [] X.env)).all (fun x => x.1.isSome)
      && decide ((e :: es).length + ([] : List Keyword).length + (if ([] : List Keyword).isEmpty then 0 else 1) < 30)) = true := by rfl)
    (hline : (apos.endLine == cpos.line) = true := by rfl) (hs : starEach (e :: es) X.env = (false, eval e X.env) :: starEach es X.env := by rfl) (hplain : (backTo cpos (starEach es X.env)).any (·.1) = false := by rfl) :
    PE X (.Call (.Attribute o name apos) (e :: es) [] cpos) (tBMZ r to t) := by
  refine ⟨fun pins s σ H Q I h => ?_⟩
  refine wpAny_Call_method_late hbase hfew hline rfl (thn (ho.run pins s σ H _ I h) fun v s1 ⟨x, H1, I1, r1, ty, q1⟩ => ?_)
  obtain ⟨p, xs, rfl, ob, hd, hz⟩ := ty
  cases r1
  obtain ⟨e1, _, its, _, ho2, e2, hc, _⟩ := I1.hok p _ hz
  rw [e1] at e2
  cases e2
  refine ⟨"tuple", id, pa, slot, hty, ⟨ob, e1, hc⟩, fun a e => ?_, ?_⟩
  · cases e
    exact ⟨ob, e1, hd⟩
  have hA := ha.run cpos pins s1 σ H1 _ I1 q1
  rw [hs] at hA ⊢
  refine Calls.callWith_builtin (by show (false || (backTo cpos (starEach es X.env)).any (·.1)) = false; rw [hplain] <;> rfl) (Calls.evalArgs_plain ?_)
  exact thn hA fun us s2 ⟨vs, H2, I2, r2, q2⟩ => hm pins s2 σ H2 (.ref p) vs _ us Q I2 rfl r2 q2
end
/-- the first place of a number among numbers and None -/
def ixR (rs : List Rf) (n : Int) : Nat := rs.findIdx (· == some n)
theorem flat_rfs (rs : List Rf) : (rs.map rV).all flatV = true := by
  rw [List.all_eq_true]
  intro x hx
  obtain ⟨r, _, rfl⟩ := List.mem_map.mp hx
  cases r <;> rfl
theorem eqV_rf (r : Rf) (n : Int) : eqV (rV r) (.int n) = (r == some n) := by
  cases r with
  | none => rfl
  | some i =>
    show (i == n) = (some i == some n)
    by_cases e : i = n
    · subst e; simp
    · simp [e]
theorem inV_rf (n : Int) (rs : List Rf) : inV (.int n) (rs.map rV) = decide (some n ∈ rs) := by
  induction rs with
  | nil => rfl
  | cons k r ih =>
    show (eqV (rV k) (.int n) || inV (.int n) (r.map rV)) = _
    rw [ih, eqV_rf]
    by_cases e : k = some n
    · subst e; simp
    · have e3 : ¬ some n = k := fun z => e z.symm
      simp [e, e3]
theorem indexT_ok {K : PySem.W.Frag} {H : Hp} {a : Addr} {rs : List Rf} {n : Int} {Q : VK} (h : SqT K H a (rs.map rV)) (m : some n ∈ rs) (q : Q (.int (ixR rs n : Nat)) H) : rIndexT K (.ref a) [.int n] H Q := by
  have hl : ixR rs n < rs.length := List.findIdx_lt_length_of_exists ⟨_, m, by simp⟩
  refine ⟨a, _, .int n, ixR rs n, rV rs[ixR rs n], rfl, rfl, h, rfl, flat_rfs rs, ?_, ?_, ?_, q⟩
  · rw [List.getElem?_map, List.getElem?_eq_getElem hl]; rfl
  · rw [eqV_rf]; exact List.findIdx_getElem (p := (· == some n)) (w := hl)
  · intro k z' hk hz'
    have hkl : k < rs.length := Nat.lt_trans hk hl
    rw [List.getElem?_map, List.getElem?_eq_getElem hkl] at hz'
    obtain rfl : rV rs[k] = z' := Option.some.inj hz'
    rw [eqV_rf]
    exact List.not_of_lt_findIdx (p := (· == some n)) hk
end Wc
/-! sorted(d, key=lambda x: (ranks[x], x)) over a dict of numbers. -/
namespace Wc
open PySem PySem.Spec PyProof.Rows L2
/-- one call of the key: a new pair, all else as it was -/
theorem lam_key {P : Program} {w : World} {A : Around} {s : Shared} {f c' : Addr} {pm ctv : Value} {params : Arguments} {scope : Scope} {cl : List (Str × Addr)} {pn dn qual : Str} {p1 p2 p3 p4 p5 : Pos} {k0 : Nat} {g cell : Addr} {vs : List (Key × Value)} {v zv : Value} {k z : Int}
    (hroom : A.depth < recursionLimit) (lim : s.heap.NoLimit)
    (hf : s.heap.get? f = some (PySem.W.kla_obj "<lambda>" qual params (.Tuple [.Subscript (.Name dn p1) (.Name pn p2) p3, .Name pn p4] k0 p5) scope cl pm c' ctv))
    (hcd : s.heap.CodeRec (.ref c') qual) (kind : scope.kind = .function) (co : scope.isCoroutine = false) (gen : scope.isGenerator = false) (nocell : ∀ y ∈ scope.names, y.2 ≠ .cell)
    (hpn : scope.names.lookup pn = some .local) (hdn : scope.names.lookup dn = some .free)
    (d1 : (pn == ("__debug__" : Str)) = false) (d2 : (dn == ("__debug__" : Str)) = false) (d3 : (dn == ("__classdict__" : Str)) = false)
    (hbind : ∀ u, bindArgs (PySem.W.kla_fn "<lambda>" qual params (.Tuple [.Subscript (.Name dn p1) (.Name pn p2) p3, .Name pn p4] k0 p5) scope cl pm (.ref c') ctv) ⟨[u], []⟩ = pure [(pn, u)])
    (hcell : cl.lookup dn = some cell) (hIs : s.heap.IsCell cell (some (.ref g))) (dd : s.heap.DictOf (mixKind P w) g vs) (hval : valueAt vs (Sum.inl k) = some zv) (hz : RelV (.int z) zv) (hv : RelV (.int k) v) :
    wpAny (model P w) A (call (.ref f) [v]) (PySem.W.KeyPure (.tuple [.int z, .int k]) s) (fun _ _ => False) s := by
  obtain ⟨tz, rfl⟩ := hz
  obtain ⟨tv, rfl⟩ := hv
  have rc : codeAny (model P w) A (.call (.ref f) ⟨[.int k tv], []⟩) (fun r s' => match r with
      | .ok (.ret u) => PySem.W.KeyPure (.tuple [.int z, .int k]) s u s'
      | _ => False) s := by
    refine PySem.W.kla_callFunE hroom hf rfl co gen rfl hcd ?_
    rw [hbind]
    refine wpAny_pure (wpAny_newFunctionEnv nocell (fun y hy => ?_) (fun h1 hns hsb => ⟨lim.fresh _ hsb, ?_⟩) kind)
    · obtain ⟨n, u⟩ := y
      have e : (n, u) = (pn, Value.int k tv) := by simpa using hy
      cases e
      exact hpn
    have kp : ∀ b o, s.heap.get? b = some o → h1.get? b = some o := fun b o e => hsb.extBut b o (Nat.ne_of_lt (Heap.lt_size e)) (Heap.get?_push_of_some _ e)
    show codeAny _ _ (.expr _ (PySem.W.envX qual scope s.heap.objs.size f (.ref c') cl)) _ _
    refine PySem.W.kla_codeExpr ?_
    refine wpAny_Tuple_spliced ?_
    show wpAny _ _ (spliced ((false, eval (.Subscript (.Name dn p1) (.Name pn p2) p3) (PySem.W.envX qual scope s.heap.objs.size f (.ref c') cl)) :: backTo p5 (starEach [.Name pn p4] (PySem.W.envX qual scope s.heap.objs.size f (.ref c') cl)))) _ _ _
    refine Calls.spliced_cons ?_
    refine subD_of PySem.F.slot_dict_getitem.lookup (fun _ _ => rfl) ?_
    have dd1 : h1.DictOf (mixKind P w) g vs := by
      obtain ⟨o, es, ep, e, r⟩ := dd
      exact ⟨o, es, ep, kp _ _ e, r⟩
    refine wpAny_Name (wpAny_loadName_free kind hdn hcell (by obtain ⟨o, e, r⟩ := hIs; exact ⟨o, kp _ _ e, r⟩) ?_ d3) d2
    refine wpAny_Name (wpAny_loadName_local kind hpn hns (v := Value.int k tv) (by simp) ?_) d1
    refine ⟨dd1.typeIs, ?_⟩
    refine wpAny_getItem_of (kV_is (k := Sum.inl k) ⟨tv, rfl⟩) dd1.mapOf hval ?_
    show wpAny _ _ (spliced ((false, eval (.Name pn p4) (PySem.W.envX qual scope s.heap.objs.size f (.ref c') cl)) :: backTo p5 (starEach [] (PySem.W.envX qual scope s.heap.objs.size f (.ref c') cl)))) _ _ _
    refine Calls.spliced_cons ?_
    refine wpAny_Name (wpAny_loadName_local kind hpn hns (v := Value.int k tv) (by simp) ?_) d1
    refine Calls.spliced_nil ⟨by show 2 ≤ sizeLine; decide, ?_⟩
    refine ⟨_, _, rfl, fun b o e => Heap.get?_push_of_some _ (kp b o e), ?_⟩
    exact .tuple (Heap.get?_push_size _ rfl) rfl rfl (.cons (.int z _) (.cons (.int k _) .nil))
  refine wpAny_call (codeAny_mono rc fun r s' hq => ?_)
  match r, hq with
  | .ok (.ret u), hq => exact hq
end Wc
namespace Wc
open PySem PySem.Spec PyProof.Rows L2
/-- by rank, then by number -/
abbrev rkLe (rk : Int → Int) : Int → Int → Bool := fun p q => decide (rk p < rk q ∨ (rk p = rk q ∧ p ≤ q))
theorem vals_of_each {vs : List Value} {ns : List Int} (h : PySem.W.EachIs (fun v n => RelV (V.int n) v) vs ns) : Vals (ns.map V.int) vs := by
  induction h with
  | nil => exact .nil
  | cons r _ ih => exact .cons r ih
theorem sortLam_run {X : Cx} {pins : List (Addr × Obj)} {σ : L2.St} {H : Hp} {s : Shared} {d f : Addr} {kvs : List (Key × V)} {ks : List Int} {rk : Int → Int} {Q : VK} {E : Value → Shared → Prop}
    (I : Inv X pins σ H s) (hcalm : X.calm = true) (hd : Rd H d (.dK kvs)) (hks : kvs.map (·.1) = ks.map Sum.inl) (hz : ks.length ≤ 1000) (hu : X.A.units + 20 < cLine)
    (turn : ∀ (v : Value) (n : Int), RelV (.int n) v → n ∈ ks → ∀ (h : Heap) (tk : Nat), (∀ b o, s.heap.get? b = some o → h.get? b = some o) →
      wpAny (model X.prog X.w) X.A.in1.in1 (call (.ref f) [v]) (PySem.W.KeyPure (.tuple [.int (rk n), .int n]) { s with heap := h, toks := tk }) (fun _ _ => False) { s with heap := h, toks := tk })
    (q : ∀ p, H p = none → Q (.ref p) (upd H p (.lst ((ks.mergeSort (rkLe rk)).map V.int)))) :
    wpAny (model X.prog X.w) X.A (call (.builtin "sorted") [.ref d] [(Str.ofString "key", .ref f)]) (EP X pins σ Q) E s := by
  obtain ⟨z, lo, vs, rel, dd⟩ := dk_rd I.hok hd
  obtain ⟨ep, hat⟩ := dd.dictAt
  have hkeys : vs.map (·.1) = ks.map Sum.inl := rel.keys.symm.trans hks
  have hl : vs.length = ks.length := by
    have e := congrArg List.length hkeys
    rwa [List.length_map, List.length_map] at e
  have h16 : vs.length ≤ sizeLine := by rw [hl]; exact Nat.le_trans hz (by decide)
  refine call_function_entry_kw PyProof.Rows.kind_sorted PyProof.Rows.plain_sorted PyProof.Rows.entry_sorted (ksk_s1 _ _) ?_
  unfold Builtin.«sorted»
  refine wpAny_bind (m := checkCount "sorted" 1 1 _) (wpAny_pure ?_)
  refine wpAny_bind (PySem.W.kdu_collect (A := X.A.in1) (PySem.W.kdl_dict (knd := mixKind X.prog X.w) (kvs := vs) (ep := ep) lo) (I.ok.hd hcalm) hat h16 fun h1 tk acc hk hacc => ?_)
  have hal : acc.toList.length = ks.length := by rw [Array.length_toList, hacc.1, hl]
  have each : PySem.W.EachIs (fun v n => RelV (V.int n) v) acc.toList ks := by
    have get : ∀ (j : Nat) v, acc.toList[j]? = some v → ∃ n, ks[j]? = some n ∧ RelV (V.int n) v := fun j v e => by
      obtain ⟨k, x, e1, e2⟩ := hacc.2 j v (by rw [← Array.getElem?_toList]; exact e)
      have e3 : (vs.map (·.1))[j]? = some k := by rw [List.getElem?_map, e1]; rfl
      rw [hkeys, List.getElem?_map] at e3
      cases e4 : ks[j]? with
      | none => rw [e4] at e3; cases e3
      | some y =>
        rw [e4] at e3
        have e5 : Sum.inl y = k := Option.some.inj e3
        subst e5
        rcases keyIs_shape (show keyIs (Sum.inl y) v = true from e2) with ⟨i, t, ek, ev⟩ | ⟨z, t, ek, ev⟩
        · cases ek
          exact ⟨y, rfl, t, ev⟩
        · cases ek
    have go : ∀ (as : List Value) (bs : List Int), as.length = bs.length → (∀ (j : Nat) v, as[j]? = some v → ∃ n, bs[j]? = some n ∧ RelV (V.int n) v) → PySem.W.EachIs (fun v n => RelV (V.int n) v) as bs := by
      intro as
      induction as with
      | nil =>
        intro bs hl _
        cases bs with
        | nil => exact .nil
        | cons b r => simp at hl
      | cons a r ih =>
        intro bs hl hg
        cases bs with
        | nil => simp at hl
        | cons b t =>
          obtain ⟨n, e, rn⟩ := hg 0 a rfl
          have e : b = n := by simpa using e
          subst e
          exact .cons rn (ih t (by simpa using hl) fun j v e => by simpa using hg (j + 1) v (by simpa using e))
    exact go _ _ hal get
  have I1 : Inv X pins σ H { s with heap := h1, toks := tk } := I.kept hk
  have zl : acc.toList.length ≤ sizeLine := by rw [hal]; exact Nat.le_trans hz (by decide)
  refine wpAny_bind (wpAny_newList ?_ zl)
  have hoL : (h1.push (seqObj "list" acc.toList.toArray 0)).get? h1.objs.size = some (seqObj "list" acc.toList.toArray 0) := Heap.get?_push_size _ rfl
  show wpAny _ _ _ _ _ { s with heap := h1.push (seqObj "list" acc.toList.toArray 0), toks := tk }
  have hal2 : PySem.W.AllAlike (ks.map fun n => PyData.tuple [.int (rk n), .int n]) := by
    intro a ha b hb
    obtain ⟨_, _, rfl⟩ := List.mem_map.mp ha
    obtain ⟨_, _, rfl⟩ := List.mem_map.mp hb
    rfl
  have hsk : PySem.W.Sortable (ks.map fun n => PyData.tuple [.int (rk n), .int n]) := .inl fun a ha => by
    obtain ⟨_, _, rfl⟩ := List.mem_map.mp ha
    exact ⟨_, _, rfl⟩
  refine wpAny_bind (wpAny_holding (wpAny_call_entry_kw PyProof.Rows.slot_list_sort ⟨_, hoL, rfl⟩ PyProof.Rows.entry_list_sort ?_ (ksk_l1 _ _)))
  show wpAny _ _ (PySem.Builtin.«list.sort» ⟨[.ref h1.objs.size], [(Str.ofString "key", .ref f)]⟩) _ _ _
  rw [ksk_t1]
  refine PySem.W.keyH_tree (kz := ks.map fun n => PyData.tuple [.int (rk n), .int n]) (s := { s with heap := h1.push (seqObj "list" acc.toList.toArray 0), toks := tk }) hoL (by rw [List.length_map, hal]) zl hal2 hsk (fun a ha => ?_)
    (PySem.W.keyH_turns each fun v x hR hx h tk' kp => ?_) fun h2 tk2 out c kp hD ko => ?_
  · obtain ⟨_, _, rfl⟩ := List.mem_map.mp ha
    show X.A.units + 1 + 1 + _ < cLine
    have e : ∀ (a b : Int), (PyData.tuple [.int a, .int b]).depth ≤ 4 := fun a b => by simp [PyData.depth, PyData.depthAll]
    have := e (rk ‹Int›) ‹Int›
    omega
  · refine turn v x hR hx h tk' fun b o e => ?_
    exact kp b o (Nat.ne_of_lt (Heap.lt_size (hk b o e))) (Heap.get?_push_of_some _ (hk b o e))
  · have eo := PySem.W.keyedOut_each (fun n => PyData.tuple [.int (rk n), .int n]) ko each
    rw [PySem.W.dataLe_ii] at eo
    have vo := vals_of_each eo
    have hlen : ((ks.mergeSort (rkLe rk)).map V.int).length ≤ sizeLine := by
      rw [List.length_map, List.length_mergeSort]
      exact Nat.le_trans hz (by decide)
    refine ⟨_, rfl, ?_⟩
    refine wpAny_pure ⟨_, rfl, .ref h1.objs.size, upd H h1.objs.size (.lst ((ks.mergeSort (rkLe rk)).map V.int)), I1.laid (t' := tk2) (fun b u e => ?_) (Nat.le_refl _)
      (show ObjOk X.prog X.w _ _ _ (.lst _) from ⟨hlen, out, c, vo, hD⟩), rfl, q _ (I1.hok.fresh (Nat.le_refl _))⟩
    exact kp b u (Nat.ne_of_lt (Heap.lt_size e)) (Heap.get?_push_of_some _ e)
end Wc
namespace Wc
open PySem PySem.Spec PyProof.Rows L2 LamX NdefX
/-- sorted(a, key=lambda x: (ranks[x], x)): ranks in the slot jd -/
def SortRest (T : List (Addr × Str)) (jd : Nat) (σ : L2.St) (Q : VK) (x : V) (H1 : Hp) : Prop := Tabs T H1 ∧ ∃ (d g : Addr) (kvs dvs : List (Key × V)) (ks : List Int) (rk : Int → Int),
  x = .ref d ∧ H1 d = some (.dK kvs) ∧ kvs.map (·.1) = ks.map Sum.inl ∧ ks.length ≤ 1000 ∧ σ[jd]? = some (some (.ref g)) ∧ H1 g = some (.dK dvs) ∧ (∀ n ∈ ks, valV dvs (Sum.inl n) = some (.int (rk n))) ∧
  ∀ H2 p, ExtN H1 H2 → Tabs T H2 → H2 p = none → Q (.ref p) (upd H2 p (.lst ((ks.mergeSort (rkLe rk)).map V.int)))
def tSortLam (T : List (Addr × Str)) (jd : Nat) (ta : TE) : TE := fun σ H Q => ta σ H (SortRest T jd σ Q)
def oneOf (R : V → Hp → Prop) : List V → Hp → Prop := fun vs H => match vs with
  | [x] => R x H
  | _ => False
theorem pe_sortLam {X : Cx} {T : List (Addr × Str)} {c Pa : Addr} {a : Expr} {ta : TE} {params : Arguments} {scope : Scope} {pn dn : Str} {p p1 p2 p3 p4 p5 lpos kpos pos : Pos} {k0 jd : Nat}
    (hcalm : X.calm = true) (hr : Room 4 X.A) (TB : TabB X.base X.mg c Pa) (hcode : X.env.code = .ref c) (hm : (Pa, X.env.qual ++ "<lambda>") ∈ T) (hu : ∀ p ∈ T, p.1 = Pa → p.2 = X.env.qual ++ "<lambda>")
    (hdef : defaultsOf params X.env = ([], []))
    (kind : scope.kind = .function) (co : scope.isCoroutine = false) (gen : scope.isGenerator = false) (nocell : ∀ y ∈ scope.names, y.2 ≠ .cell) (hpn : scope.names.lookup pn = some .local) (hdn : scope.names.lookup dn = some .free)
    (hfr : ∀ y ∈ scope.names, y.2 = .free → X.env.scope.names.lookup y.1 = some .cell) (hN : X.N[jd]? = some dn)
    (d1 : (pn == ("__debug__" : Str)) = false) (d2 : (dn == ("__debug__" : Str)) = false) (d3 : (dn == ("__classdict__" : Str)) = false)
    (hbind : ∀ (cl : List (Str × Addr)) (pm cdv ctv u : Value), bindArgs (PySem.W.kla_fn "<lambda>" (X.env.qual ++ "<lambda>") params (.Tuple [.Subscript (.Name dn p1) (.Name pn p2) p3, .Name pn p4] k0 p5) scope cl pm cdv ctv) ⟨[u], []⟩ = pure [(pn, u)])
    (hg : Gl X "sorted") (hmg : X.mg "sorted" = none) (ha : PE X a ta)
    (hse : starEach [a] X.env = (false, eval a X.env) :: starEach [] X.env := by rfl) (he : backTo pos (starEach [a] X.env) = (false, eval a X.env) :: backTo pos (starEach [] X.env) := by rfl) (hpl : (backTo pos (starEach [a] X.env)).any (·.1) = false := by rfl) :
    PE X (.Call (.Name "sorted" p) [a] [⟨some "key", .Lambda params (.Tuple [.Subscript (.Name dn p1) (.Name pn p2) p3, .Name pn p4] k0 p5) scope lpos, kpos⟩] pos) (tSortLam T jd ta) := by
  refine ⟨fun pins s σ H Q I h => ?_⟩
  have hboot : bootBuiltins "sorted" = some (.builtin "sorted") := by decide +kernel
  refine wpAny_Call_Name_kw (ld_blt I hg hmg hboot ?_)
  have h0 : tCons ta tNil σ H (oneOf (SortRest T jd σ Q)) := h
  refine PyProof.Rows.callWith_kw (thn ((pa_cons ha pa_nil hse).run pos pins s σ H _ I h0) fun us s1 hh => ?_) he hpl (by rfl) (by rfl)
  obtain ⟨vs, H1, I1, r1, hh⟩ := hh
  obtain ⟨x, rfl⟩ : ∃ x, vs = [x] := by
    match vs, hh with
    | [x], _ => exact ⟨x, rfl⟩
  obtain ⟨hT, d, g, kvs, dvs, ks, rk, rfl, hd, hks, hz, hs, hgd, hrk, q⟩ : SortRest T jd σ Q x H1 := hh
  cases r1 with
  | cons rx rr =>
  cases rr
  have ed := rx
  cases ed
  have hfree : ∀ y ∈ scope.names, y.2 = .free → ∃ c, X.env.cells.lookup y.1 = some c := fun y hy e => I.ok.has _ (.inl (hfr y hy e))
  show wpAny _ _ (evalAll [do let v ← eval (.Lambda params (.Tuple [.Subscript (.Name dn p1) (.Name pn p2) p3, .Name pn p4] k0 p5) scope lpos) X.env; standAt pos; pure v]) _ _ s1
  refine wpAny_evalAll_cons (wpAny_bind (lam_make2 I1 TB hcode hm hu hT hdef hfree fun f c' pm ctv H2 s2 I2 ex tb hf hfn hfrs hco => wpAny_bind (wpAny_standAt (wpAny_pure ?_))))
  refine wpAny_evalAll_nil ?_
  show wpAny _ _ (call (.builtin "sorted") [.ref d] [(Str.ofString "key", .ref f)]) _ _ s2
  have hd2 : H2 d = some (.dK kvs) := ex d _ hd (fun _ z => nomatch z)
  have hg2 : H2 g = some (.dK dvs) := ex g _ hgd (fun _ z => nomatch z)
  -- what the lambda has captured
  obtain ⟨m, hn, hl⟩ := id I2.loc
  have hcl : X.env.scope.names.lookup dn = some .cell := hfr (dn, .free) (PySem.mem_of_lookup hdn) rfl
  obtain ⟨ug, rg, lk⟩ := hl jd dn (.ref g) hN hs (.inr (.inl hcl))
  have erg : ug = Value.ref g := rg
  subst erg
  obtain ⟨cell, hcell, hIs⟩ : ∃ cell, X.env.cells.lookup dn = some cell ∧ s2.heap.IsCell cell (some (.ref g)) := by
    rcases lk with ⟨k, _⟩ | ⟨_, cc, e, z⟩
    · have k' : X.env.scope.names.lookup dn = some .local := k
      rw [hcl] at k'; cases k'
    · exact ⟨cc, e, z⟩
  have hcell2 : (cloFrom X.env.cells scope.names []).lookup dn = some cell := clo_has hfree (PySem.mem_of_lookup hdn) hcell
  obtain ⟨zz, lo, vg, rel, dd⟩ := dk_of I2.hok hg2
  obtain ⟨cd, oc, cvs, ct, ec, hoc, hdc, hvc⟩ := codeO_at I2.hok hco
  refine sortLam_run (ks := ks) (rk := rk) I2 hcalm (.inl hd2) hks hz (by have := hr.un; omega) (fun v n rv hn' h tk kp => ?_) fun p hp => q H2 p ex tb hp
  have hroom : X.A.in1.in1.depth < recursionLimit := by
    have := hr.dp
    show X.A.depth < recursionLimit
    omega
  obtain ⟨zv, hzv, rz⟩ := RelO.some_of (v := .int (rk n)) (o := valueAt vg (Sum.inl n)) (by rw [← hrk n hn']; exact rel.val _)
  have dd' : h.DictOf (mixKind X.prog X.w) g vg := by
    obtain ⟨o, es, ep, e, r⟩ := dd
    exact ⟨o, es, ep, kp _ _ e, r⟩
  have hIs' : h.IsCell cell (some (.ref g)) := by
    obtain ⟨o, e, r⟩ := hIs
    exact ⟨o, kp _ _ e, r⟩
  exact lam_key (s := { s2 with heap := h, toks := tk }) hroom (I2.nolimit.keeps kp) (kp _ _ hf) ⟨cd, oc, cvs, ct, ec, kp _ _ hoc, hdc, hvc⟩ kind co gen nocell hpn hdn d1 d2 d3 (hbind _ _ _ _) hcell2 hIs' dd' hzv rz rv
end Wc
namespace Wc
open PySem PySem.Spec PyProof.Rows L2 LamX
/-! ### a def of a program whose head tells its facts by a Hook -/
/-- the def's code object and its table, as K tells them -/
structure LamAt (K : PySem.W.Frag) (base : PySem.Heap) (mg : Str → Option Value) (x : Str) (cd : Value) : Prop where
  code : cd = .ref (He.cT K (x, none)).1
  tb : TabB base mg (He.cT K (x, none)).1 (He.cT K (x, none)).2
theorem FunD.df {K : PySem.W.Frag} {x : Str} {st : Stmt} {p : Str × Option Str} {fd : FuncData} (F : FunD K x x (defArgs st) (defBody st) (defScope st) [] [] (He.fAd K p) fd) :
    ∃ cd, Df K x st (He.fAd K p) fd cd ∧ cd = .ref (He.cT K p).1 := by
  obtain ⟨oc, od, dV, kV, doc, pm, an, cdv, ct, osl, rfl, lk, hcd, _, _⟩ := F.ex
  obtain ⟨c, rfl⟩ := He.codeIn_ref hcd
  refine ⟨.ref c, Df.of lk hcd, ?_⟩
  show Value.ref c = .ref (He.codeOf K p)
  rw [He.codeOf_eq lk rfl]
end Wc
/-! Derivations: reasons, ranks, steps; the mathematics. -/
namespace Wc
open PySem L2
/-! ### reasons -/
inductive Rs where
  | reg (k : Nat)
  | fld (n : Int) (k : Nat)
  | ent (n key : Int)
  | drf (n : Int)
def Rs.row : Rs → List V
  | .reg k => [.str "register", .int (k : Nat)]
  | .fld n k => [.str "field", .int n, .int (k : Nat)]
  | .ent n key => [.str "entry", .int n, .int key]
  | .drf n => [.str "deref", .int n]
def Rs.dt : Rs → Dt
  | .reg k => .tup [.str "register", .int (k : Nat)]
  | .fld n k => .tup [.str "field", .int n, .int (k : Nat)]
  | .ent n key => .tup [.str "entry", .int n, .int key]
  | .drf n => .tup [.str "deref", .int n]
def Rs.names : Rs → List Int
  | .reg _ => []
  | .fld n _ => [n]
  | .ent n key => [n, key]
  | .drf n => [n]
theorem Rs.names_len (r : Rs) : r.names.length ≤ 2 := by cases r <;> simp [Rs.names]
def RsAt (K : PySem.W.Frag) (H : Hp) (a : Addr) (r : Rs) : Prop := SqT K H a r.row
theorem RsAt.mono {K : PySem.W.Frag} {H H' : Hp} {a : Addr} {r : Rs} (t : Tk K H H') (h : RsAt K H a r) : RsAt K H' a r := t _ _ h
theorem RsAt.is {K : PySem.W.Frag} {H : Hp} {a : Addr} {r : Rs} (h : RsAt K H a r) : Is K H r.dt (.ref a) := by
  cases r with
  | reg k => exact ⟨a, _, rfl, h, _, _, rfl, rfl, _, _, rfl, rfl, rfl⟩
  | fld n k => exact ⟨a, _, rfl, h, _, _, rfl, rfl, _, _, rfl, rfl, _, _, rfl, rfl, rfl⟩
  | ent n k => exact ⟨a, _, rfl, h, _, _, rfl, rfl, _, _, rfl, rfl, _, _, rfl, rfl, rfl⟩
  | drf n => exact ⟨a, _, rfl, h, _, _, rfl, rfl, _, _, rfl, rfl, rfl⟩
/-- None, or a reason -/
def RsV (K : PySem.W.Frag) (H : Hp) (r : Option Rs) (v : V) : Prop := match r with
  | none => v = .non
  | some r => ∃ a, v = .ref a ∧ RsAt K H a r
theorem RsV.mono {K : PySem.W.Frag} {H H' : Hp} {r : Option Rs} {v : V} (t : Tk K H H') (h : RsV K H r v) : RsV K H' r v := by
  cases r with
  | none => exact h
  | some r => obtain ⟨a, e, h⟩ := h; exact ⟨a, e, RsAt.mono t h⟩
/-- the reason that this object gives, others being those of ls -/
def rsFrom (ls cs : List Int) (n : Int) : Ob → Option Rs
  | .rcd m fs => if some n ∈ fs then some (.fld m (ixR fs n)) else none
  | .weak m t => if t = some n ∧ n ∉ cs then some (.drf m) else none
  | .tab m es => ((es.filter fun e => decide (e.2 = n) && decide (e.1 ∈ ls)).head?).map fun e => .ent m e.1
def rsAll (h : Hd) (ls cs : List Int) (n : Int) : List Rs := (h.obs.filter fun o => decide (o.num ∈ ls)).filterMap (rsFrom ls cs n)
section
variable {h : Hd} {ls ms cs : List Int} {n : Int} {o : Ob} {r : Rs}
theorem rsFrom_congr (e : ∀ m, m ∈ ls ↔ m ∈ ms) (o : Ob) : rsFrom ls cs n o = rsFrom ms cs n o := by
  cases o with
  | rcd m fs => rfl
  | weak m t => rfl
  | tab m es =>
    show ((es.filter fun e => decide (e.2 = n) && decide (e.1 ∈ ls)).head?).map _ = ((es.filter fun e => decide (e.2 = n) && decide (e.1 ∈ ms)).head?).map _
    congr 3
    funext x
    rw [decide_eq_decide.mpr (e x.1)]
theorem rsAll_congr (e : ∀ m, m ∈ ls ↔ m ∈ ms) : rsAll h ls cs n = rsAll h ms cs n := by
  unfold rsAll
  have e1 : (fun o : Ob => decide (o.num ∈ ls)) = fun o => decide (o.num ∈ ms) := by
    funext o; exact decide_eq_decide.mpr (e o.num)
  have e2 : rsFrom ls cs n = rsFrom ms cs n := by funext o; exact rsFrom_congr e o
  rw [e1, e2]
/-- what a reason names -/
theorem rsFrom_names (e : rsFrom ls cs n o = some r) : ∀ m ∈ r.names, m = o.num ∨ m ∈ ls := by
  cases o with
  | rcd m fs =>
    have e : (if some n ∈ fs then some (Rs.fld m (ixR fs n)) else none) = some r := e
    split at e
    · cases e; intro k hk; have hk : k = m := by simpa [Rs.names] using hk
      exact .inl hk
    · cases e
  | weak m t =>
    have e : (if t = some n ∧ n ∉ cs then some (Rs.drf m) else none) = some r := e
    split at e
    · cases e; intro k hk; have hk : k = m := by simpa [Rs.names] using hk
      exact .inl hk
    · cases e
  | tab m es =>
    have e : ((es.filter fun e => decide (e.2 = n) && decide (e.1 ∈ ls)).head?).map (fun e => Rs.ent m e.1) = some r := e
    obtain ⟨q, hq, rfl⟩ := Option.map_eq_some_iff.mp e
    have hm := List.mem_of_head? hq
    obtain ⟨_, h2⟩ := List.mem_filter.mp hm
    have h3 := (Bool.and_eq_true_iff.mp h2).2
    intro k hk
    rcases List.mem_cons.mp (show k ∈ [m, q.1] from hk) with z | z
    · exact .inl z
    · have z : k = q.1 := by simpa using z
      subst z; exact .inr (of_decide_eq_true h3)
/-- there is one exactly if n follows -/
theorem rsFrom_some : (∃ r, rsFrom ls cs n o = some r) ↔ o.fol cs (· ∈ ls) n := by
  cases o with
  | rcd m fs =>
    show (∃ r, (if some n ∈ fs then some (Rs.fld m (ixR fs n)) else none) = some r) ↔ some n ∈ fs
    split
    · rename_i c; exact ⟨fun _ => c, fun _ => ⟨_, rfl⟩⟩
    · rename_i c; exact Iff.intro (fun ⟨_, z⟩ => nomatch z) (fun z => absurd z c)
  | weak m t =>
    show (∃ r, (if t = some n ∧ n ∉ cs then some (Rs.drf m) else none) = some r) ↔ (t = some n ∧ n ∉ cs)
    split
    · rename_i c; exact ⟨fun _ => c, fun _ => ⟨_, rfl⟩⟩
    · rename_i c; exact Iff.intro (fun ⟨_, z⟩ => nomatch z) (fun z => absurd z c)
  | tab m es =>
    show (∃ r, ((es.filter fun e => decide (e.2 = n) && decide (e.1 ∈ ls)).head?).map (fun e => Rs.ent m e.1) = some r) ↔ ∃ k, (k, n) ∈ es ∧ k ∈ ls
    constructor
    · rintro ⟨r, e⟩
      obtain ⟨q, hq, _⟩ := Option.map_eq_some_iff.mp e
      obtain ⟨h1, h2⟩ := List.mem_filter.mp (List.mem_of_head? hq)
      obtain ⟨h3, h4⟩ := Bool.and_eq_true_iff.mp h2
      have h3 := of_decide_eq_true h3
      refine ⟨q.1, ?_, of_decide_eq_true h4⟩
      rw [← h3]; exact h1
    · rintro ⟨k, h1, h2⟩
      have hm : (k, n) ∈ es.filter fun e => decide (e.2 = n) && decide (e.1 ∈ ls) := List.mem_filter.mpr ⟨h1, by simp [h2]⟩
      cases e : es.filter (fun e => decide (e.2 = n) && decide (e.1 ∈ ls)) with
      | nil => rw [e] at hm; cases hm
      | cons q t => exact ⟨_, rfl⟩
theorem rsAll_mem : r ∈ rsAll h ls cs n ↔ ∃ o ∈ h.obs, o.num ∈ ls ∧ rsFrom ls cs n o = some r := by
  unfold rsAll
  rw [List.mem_filterMap]
  constructor
  · rintro ⟨o, h1, h2⟩
    obtain ⟨h3, h4⟩ := List.mem_filter.mp h1
    exact ⟨o, h3, of_decide_eq_true h4, h2⟩
  · rintro ⟨o, h1, h2, h3⟩
    exact ⟨o, List.mem_filter.mpr ⟨h1, decide_eq_true h2⟩, h3⟩
theorem rsAll_some : rsAll h ls cs n ≠ [] ↔ Fol h cs (· ∈ ls) n := by
  constructor
  · intro e
    obtain ⟨r, hr⟩ := List.exists_mem_of_ne_nil _ e
    obtain ⟨o, h1, h2, h3⟩ := rsAll_mem.mp hr
    exact ⟨o, h1, h2, rsFrom_some.mp ⟨r, h3⟩⟩
  · rintro ⟨o, h1, h2, h3⟩ e
    obtain ⟨r, hr⟩ := rsFrom_some.mpr h3
    have := rsAll_mem.mpr ⟨o, h1, h2, hr⟩
    rw [e] at this; cases this
end
/-! ### ranks -/
theorem least {p : Nat → Prop} : ∀ {k : Nat}, p k → ∃ j, j ≤ k ∧ p j ∧ ∀ i, i < j → ¬ p i := by
  intro k
  induction k using Nat.strongRecOn with
  | _ k ih =>
    intro hk
    by_cases c : ∃ i, i < k ∧ p i
    · obtain ⟨i, hi, pi⟩ := c
      obtain ⟨j, h1, h2, h3⟩ := ih i hi pi
      exact ⟨j, by omega, h2, h3⟩
    · exact ⟨k, Nat.le_refl _, hk, fun i hi z => c ⟨i, hi, z⟩⟩
def Rnk (h : Hd) (cs : List Int) (k : Nat) (n : Int) : Prop := In h cs k n ∧ ∀ j, j < k → ¬ In h cs j n
open Classical in
noncomputable def rnk (h : Hd) (cs : List Int) (n : Int) : Nat := if e : ∃ k, Rnk h cs k n then choose e else 0
open Classical in
noncomputable def low (h : Hd) (cs : List Int) (k : Nat) : List Int := h.nums.filter fun m => decide (In h cs k m)
/-- the first reason of n, by its rank -/
noncomputable def bst (h : Hd) (cs : List Int) (n : Int) : Rs := match rnk h cs n with
  | 0 => .reg (ixR h.regs n)
  | k + 1 => ((rsAll h (low h cs k) cs n).head?).getD (.reg 0)
section
variable {h : Hd} {cs : List Int} {n m : Int} {k j : Nat}
theorem Rnk.uniq (a : Rnk h cs k n) (b : Rnk h cs j n) : k = j := by
  rcases Nat.lt_trichotomy k j with z | z | z
  · exact absurd a.1 (b.2 k z)
  · exact z
  · exact absurd b.1 (a.2 j z)
theorem Rnk.eq (a : Rnk h cs k n) : rnk h cs n = k := by
  unfold rnk
  have e : ∃ k, Rnk h cs k n := ⟨k, a⟩
  rw [dif_pos e]
  exact Rnk.uniq (Classical.choose_spec e) a
theorem Obt.rnk (x : Obt h cs n) : Rnk h cs (rnk h cs n) n := by
  obtain ⟨k, hk⟩ := x
  obtain ⟨j, _, h2, h3⟩ := least (p := fun k => In h cs k n) hk
  have a : Rnk h cs j n := ⟨h2, h3⟩
  rw [a.eq]; exact a
open Classical in
theorem mem_low (ok : h.Ok) : m ∈ low h cs k ↔ In h cs k m := by
  unfold low
  rw [List.mem_filter]
  refine Iff.intro (fun z => ?_) fun z => ⟨In.num ok z, ?_⟩
  · exact of_decide_eq_true z.2
  · exact decide_eq_true z
theorem rnk_le (z : In h cs k n) : rnk h cs n ≤ k := by
  have a := Obt.rnk ⟨k, z⟩
  rcases Nat.lt_or_ge k (rnk h cs n) with q | q
  · exact absurd z (a.2 k q)
  · exact q
theorem in_iff (x : Obt h cs n) : In h cs k n ↔ rnk h cs n ≤ k := ⟨rnk_le, fun q => In.le q (Obt.rnk x).1⟩
theorem bst_zero (e : rnk h cs n = 0) : bst h cs n = .reg (ixR h.regs n) := by unfold bst; rw [e]
theorem bst_succ (ok : h.Ok) (e : rnk h cs n = k + 1) {ls : List Int} (hl : ∀ m, m ∈ ls ↔ In h cs k m) {r : Rs} (hr : (rsAll h ls cs n).head? = some r) : bst h cs n = r := by
  unfold bst
  rw [e]
  show ((rsAll h (low h cs k) cs n).head?).getD (.reg 0) = r
  rw [rsAll_congr (ms := ls) fun m => (mem_low ok).trans (hl m).symm, hr]; rfl
/-- what is of a later round follows from the round before -/
theorem Rnk.fol (a : Rnk h cs (k + 1) n) : Fol h cs (In h cs k) n := by
  rcases a.1 with z | z
  · exact absurd z (a.2 k (by omega))
  · exact z
theorem Fol.congr {S T : Int → Prop} (e : ∀ n, S n ↔ T n) : Fol h cs S n ↔ Fol h cs T n := ⟨Fol.mono fun n z => (e n).mp z, Fol.mono fun n z => (e n).mpr z⟩
theorem rs_some (x : Obt h cs n) (e : rnk h cs n = k + 1) {ls : List Int} (hl : ∀ m, m ∈ ls ↔ In h cs k m) : ∃ r t, rsAll h ls cs n = r :: t := by
  have a := Obt.rnk x
  rw [e] at a
  have q := rsAll_some.mpr ((Fol.congr hl).mpr a.fol)
  cases z : rsAll h ls cs n with
  | nil => exact absurd z q
  | cons r t => exact ⟨r, t, rfl⟩
theorem bst_names (ok : h.Ok) (x : Obt h cs n) : ∀ m ∈ (bst h cs n).names, Obt h cs m ∧ rnk h cs m < rnk h cs n := by
  intro m hm
  cases e : rnk h cs n with
  | zero => rw [bst_zero e] at hm; cases hm
  | succ k =>
    obtain ⟨r, t, hr⟩ := rs_some x e (ls := low h cs k) fun m => mem_low ok
    have e2 := bst_succ ok e (ls := low h cs k) (fun m => mem_low ok) (by rw [hr]; rfl)
    rw [e2] at hm
    obtain ⟨o, h1, h2, h3⟩ := rsAll_mem.mp (show r ∈ rsAll h (low h cs k) cs n by rw [hr]; exact List.mem_cons_self)
    have key : In h cs k m := by
      rcases rsFrom_names h3 m hm with z | z
      · rw [z]; exact (mem_low ok).mp h2
      · exact (mem_low ok).mp z
    exact ⟨⟨k, key⟩, by have := rnk_le key; omega⟩
/-- every lower rank is somebody's: there are no more rounds than objects -/
theorem Rnk.below (a : Rnk h cs (k + 1) n) : ∃ m, Rnk h cs k m := by
  by_cases c : ∃ m, Rnk h cs k m
  · exact c
  · exfalso
    have f := a.fol
    cases k with
    | zero =>
      obtain ⟨o, h1, h2, _⟩ := f
      exact c ⟨o.num, h2, fun j hj => absurd hj (by omega)⟩
    | succ k =>
      have back : ∀ m, In h cs (k + 1) m → In h cs k m := fun m z => by
        by_cases q : In h cs k m
        · exact q
        · exact absurd ⟨m, z, fun j hj x => q (x.le (by omega))⟩ c
      exact a.2 (k + 1) (by omega) (.inr (f.mono back))
theorem rank_row (ok : h.Ok) : ∀ {k : Nat} {n : Int}, Rnk h cs k n → ∃ l : List Int, l.length = k + 1 ∧ l.Nodup ∧ ∀ m ∈ l, m ∈ h.nums ∧ ∃ j, j ≤ k ∧ Rnk h cs j m
  | 0, n, a => ⟨[n], rfl, by simp, fun m hm => by
      have e : m = n := by simpa using hm
      subst e; exact ⟨In.num ok a.1, 0, Nat.le_refl _, a⟩⟩
  | k + 1, n, a => by
    obtain ⟨m, b⟩ := a.below
    obtain ⟨l, h1, h2, h3⟩ := rank_row ok b
    refine ⟨n :: l, by rw [List.length_cons, h1], List.nodup_cons.mpr ⟨fun z => ?_, h2⟩, fun q hq => ?_⟩
    · obtain ⟨_, j, hj, c⟩ := h3 n z
      have := a.uniq c
      omega
    · rcases List.mem_cons.mp hq with e | z
      · subst e; exact ⟨In.num ok a.1, k + 1, Nat.le_refl _, a⟩
      · obtain ⟨z1, j, z2, z3⟩ := h3 q z
        exact ⟨z1, j, by omega, z3⟩
theorem rank_lt (ok : h.Ok) (x : Obt h cs n) : rnk h cs n < h.obs.length := by
  obtain ⟨l, h1, h2, h3⟩ := rank_row ok (Obt.rnk x)
  have q := nd_sub h2 fun m hm => (h3 m hm).1
  unfold Hd.nums at q
  rw [List.length_map] at q
  omega
theorem obt_in (ok : h.Ok) : Obt h cs n ↔ In h cs h.obs.length n := ⟨fun x => (in_iff x).mpr (Nat.le_of_lt (rank_lt ok x)), fun z => ⟨_, z⟩⟩
/-! ### the steps of a derivation -/
inductive Need (h : Hd) (cs : List Int) (n : Int) : Int → Prop
  | base : Need h cs n n
  | step {m k : Int} : Need h cs n m → k ∈ (bst h cs m).names → Need h cs n k
theorem Need.obt (ok : h.Ok) (x : Obt h cs n) (y : Need h cs n m) : Obt h cs m := by
  induction y with
  | base => exact x
  | step _ hk ih => exact (bst_names ok ih _ hk).1
abbrev rkLt (rk : Int → Nat) (p q : Int) : Prop := rk p < rk q ∨ (rk p = rk q ∧ p < q)
theorem rkLt.irr {rk : Int → Nat} {p : Int} : ¬ rkLt rk p p := by rintro (z | ⟨_, z⟩) <;> omega
theorem rkLt.asym {rk : Int → Nat} {p q : Int} (a : rkLt rk p q) : ¬ rkLt rk q p := by
  rintro b
  rcases a with a | ⟨a, a'⟩ <;> rcases b with b | ⟨b, b'⟩ <;> omega
structure Drv (h : Hd) (cs : List Int) (n : Int) (L : List Int) : Prop where
  up : L.Pairwise (rkLt (rnk h cs))
  mem : ∀ m, m ∈ L ↔ Need h cs n m
theorem rk_same {rk : Int → Nat} : ∀ {l m : List Int}, l.Pairwise (rkLt rk) → m.Pairwise (rkLt rk) → (∀ n, n ∈ l ↔ n ∈ m) → l = m
  | [], [], _, _, _ => rfl
  | [], y :: m, _, _, h => absurd ((h y).mpr List.mem_cons_self) (by simp)
  | x :: l, [], _, _, h => absurd ((h x).mp List.mem_cons_self) (by simp)
  | x :: l, y :: m, hl, hm, h => by
    obtain ⟨hx, hl'⟩ := List.pairwise_cons.mp hl
    obtain ⟨hy, hm'⟩ := List.pairwise_cons.mp hm
    have e : x = y := by
      rcases List.mem_cons.mp ((h x).mp List.mem_cons_self) with e | e
      · exact e
      · rcases List.mem_cons.mp ((h y).mpr List.mem_cons_self) with e2 | e2
        · exact e2.symm
        · exact absurd (hx y e2) (rkLt.asym (hy x e))
    subst e
    have hh : ∀ n, n ∈ l ↔ n ∈ m := fun n => by
      constructor
      · intro z
        rcases List.mem_cons.mp ((h n).mp (List.mem_cons_of_mem _ z)) with e | e
        · subst e; exact absurd (hx n z) rkLt.irr
        · exact e
      · intro z
        rcases List.mem_cons.mp ((h n).mpr (List.mem_cons_of_mem _ z)) with e | e
        · subst e; exact absurd (hy n z) rkLt.irr
        · exact e
    rw [rk_same hl' hm' hh]
theorem Drv.uniq {L M : List Int} (a : Drv h cs n L) (b : Drv h cs n M) : L = M := rk_same a.up b.up fun m => (a.mem m).trans (b.mem m).symm
theorem rk_of {rk : Int → Nat} {l : List Int} (h : l.Pairwise fun p q => rk p < rk q ∨ (rk p = rk q ∧ p ≤ q)) (nd : l.Nodup) : l.Pairwise (rkLt rk) := by
  induction l with
  | nil => exact .nil
  | cons x r ih =>
    obtain ⟨h1, h2⟩ := List.pairwise_cons.mp h
    obtain ⟨n1, n2⟩ := List.nodup_cons.mp nd
    exact List.pairwise_cons.mpr ⟨fun y hy => by
      have a := h1 y hy
      have b : x ≠ y := fun e => n1 (by rw [e]; exact hy)
      rcases a with a | ⟨a, a'⟩
      · exact .inl a
      · exact .inr ⟨a, by omega⟩, ih h2 n2⟩
theorem Drv.nd {L : List Int} (a : Drv h cs n L) : L.Nodup := a.up.imp fun {p q} z e => by subst e; exact rkLt.irr z
theorem Drv.len (ok : h.Ok) (x : Obt h cs n) {L : List Int} (a : Drv h cs n L) : L.length ≤ h.nums.length :=
  nd_sub a.nd fun m hm => Obt.num ok (Need.obt ok x ((a.mem m).mp hm))
/-- the steps, as data -/
noncomputable def drvDt (h : Hd) (cs : List Int) (L : List Int) : Dt := .tup (L.map fun m => .tup [.int m, (bst h cs m).dt])
end
end Wc
/-! for k, .. in enumerate(xs, start=c), xs a tuple -/
namespace Wc
open PySem PySem.Spec PyProof.Rows L2
/-- a tuple at a, each item in a new pair behind its count -/
def IteS (K : PySem.W.Frag) (a : Addr) (c : Int) : It :=
  ⟨fun i H => ∃ (xs : List V) (x : V), SqT K H a xs ∧ xs[i]? = some x, fun i H v H' => ∃ T x, v = .ref T ∧ H T = none ∧ H' = upd H T (.tup [.int (c + ((i : Nat) : Int)), x]) ∧ ∀ xs, SqT K H a xs → xs[i]? = some x, fun i H => ∃ xs : List V, SqT K H a xs ∧ xs.length ≤ i⟩
theorem enumT_end {prog : Program} {w : World} {A : Around} {E : Value → Shared → Prop} {s : Shared} {e it l : Addr} {i : Nat} {c : Int} {items : Array Value} {old : Value} {Q : Option Value → Shared → Prop} (hh : A.handled = none)
    (he : IsEnum s.heap e it c old) (hit : s.heap.IsTupleIter it l i) (hl : s.heap.IsTuple l items) (hx : items[i]? = none)
    (hQ : ∀ h', Heap.ExtBut it s.heap h' → Q none { s with heap := h' }) : wpAny (model prog w) A (pyNext (.ref e)) Q E s := by
  have hT : s.TypeIs (.ref e) "enumerate" := ⟨_, he, rfl⟩
  unfold pyNext
  refine wpAny_bind (wpAny_attempt (wpAny_callSpecial?_slot (name := Str.ofString "__next__") hT F.slot_enumerate_next
    (wpAny_call_entry F.slot_enumerate_next hT F.entry_enumerate_next ?_ (F.args_enumerate_next_1 _))))
  show wpAny _ _ (field (.ref e) 2 >>= _) _ _ _
  refine wpAny_bind (wpAny_field he rfl (x := .ref it) rfl ?_)
  refine wpAny_bind (wpAny_nextOf_tuple_end hh hit hl hx fun h' x he' hx' => ?_)
  obtain ⟨o, ho, hc⟩ := hx'
  refine wpAny_bind (wpAny_isInstance (T := "StopIteration") (b := true) ⟨o, ho, hc⟩ isSubtype_stop ?_)
  exact wpAny_pure (hQ _ he')
theorem turn_enumS {P : Program} {w : World} {K : PySem.W.Frag} {elts : List Expr} {kk : Nat} {tpos : Pos} (a e it : Addr) (c : Int) :
    Turn P w K (.Tuple elts kk tpos) (IteS K a c) [e, it] e (fun i h => (∃ old, IsEnum h e it (c + ((i : Nat) : Int)) old) ∧ h.IsTupleIter it a i ∧ e ≠ it ∧ a ≠ it ∧ e ≠ a) where
  mem := by simp
  obj := fun i h st b hb => by
    obtain ⟨⟨old, he⟩, ⟨o, ho, hc, hd⟩, _⟩ := st
    have e' : b = e ∨ b = it := by simpa using hb
    rcases e' with z | z
    · rw [z]; exact ⟨_, he, fun v q => nomatch q⟩
    · rw [z]; exact ⟨o, ho, fun v q => by rw [hd] at q; cases q⟩
  keep := fun i h h' st k => let ⟨⟨old, he⟩, hi, hne⟩ := st; ⟨⟨old, k e (by simp) _ he⟩, hi.at fun o q => k it (by simp) o q, hne⟩
  item := by
    intro X hP hw hK hc i pins s σ H E I hf st hg
    subst hP hw hK
    obtain ⟨⟨old, he⟩, hit, hne, hai, hea⟩ := st
    obtain ⟨xs, x, hq, hx⟩ := hg
    obtain ⟨its, rv, p, hz⟩ := I.tuple hq
    obtain ⟨u, hu, ru⟩ := rv.get hx
    have hel : e < s.heap.objs.size := Heap.lt_size he
    have hil : it < s.heap.objs.size := by obtain ⟨_, q, _⟩ := hit; exact Heap.lt_size q
    have hlt : i < its.toArray.size := by
      have := (List.getElem?_eq_some_iff.mp hu).1
      simpa using this
    refine wpAny_pyNext_enum_itemC (Draws.tuple (prog := X.prog) (w := X.w) (A := X.A.in1) (I.ok.hd hc) it a hai its.toArray) he ⟨hit, p⟩ hlt hne (by simp [hne, hea]) fun y h' tk hP ho st' hT hsz hk => ?_
    have ey : y = u := by
      have z : its.toArray[i]? = some y := hP
      rw [List.getElem?_toArray, hu] at z
      exact (Option.some.inj z).symm
    subst ey
    refine ⟨_, rfl, wpAny_letOwnedTupleGo_enum (s := { s with heap := h', toks := tk + 1 }) ho fun h'' he' sb => ?_⟩
    have hT2 : h''.get? s.heap.objs.size = some { cls := .type "tuple", data := .seq #[.int (c + ((i : Nat) : Int)) tk, y] } := (sb.2 _ (Nat.ne_of_gt hel)).trans hT
    have new : ObjOk X.prog X.w (upd H s.heap.objs.size (.tup [.int (c + ((i : Nat) : Int)), x])) h'' s.heap.objs.size (.tup [.int (c + ((i : Nat) : Int)), x]) :=
      ⟨by show 2 ≤ sizeLine; decide, [.int (c + ((i : Nat) : Int)) tk, y], .cons ⟨_, rfl⟩ (.cons ru .nil), ⟨_, hT2, rfl, _, rfl⟩⟩
    have I1 : Inv X pins σ (upd H s.heap.objs.size (.tup [.int (c + ((i : Nat) : Int)), x])) { s with heap := h'', toks := tk + 1 } :=
      I.turnedNew (ch := [e, it]) (fun b ob hb q => (sb.2 b (fun z => hb (by simp [z]))).trans (hk b ob (fun z => hb (by simp [z])) (fun z => hb (by simp [z])) q)) hf (Nat.le_refl _) new
    refine ⟨.ref s.heap.objs.size, _, I1, rfl, ⟨_, x, rfl, I.hok.fresh (Nat.le_refl _), rfl, fun ys hy => by rw [I.tuple_inj hy hq]; exact hx⟩, ⟨⟨y, ?_⟩, st'.1.at fun o q => (sb.2 it (Ne.symm hne)).trans q, hne, hai, hea⟩, fun b hb => ?_⟩
    · have e1 : c + ((i + 1 : Nat) : Int) = c + (i : Int) + 1 := by omega
      rw [e1]; exact he'
    · have hb' : b < s.heap.objs.size := by
        have e' : b = e ∨ b = it := by simpa using hb
        rcases e' with z | z
        · rw [z]; exact hel
        · rw [z]; exact hil
      rw [upd_ne (Nat.ne_of_lt hb')]
      exact (hf b hb).1
  done := by
    intro X hP hw hK hc i pins s σ H E I hf st hg
    subst hP hw hK
    obtain ⟨⟨old, he⟩, hit, hne, hai, hea⟩ := st
    obtain ⟨xs, hq, hx⟩ := hg
    obtain ⟨its, rv, p, hz⟩ := I.tuple hq
    obtain ⟨f0, f1, f2, f3, f4, f5⟩ := hf it (by simp)
    have hl := rv.length
    exact enumT_end (I.ok.hd hc) he hit p (by simp; omega) fun h' eb => ⟨rfl, I.turned (t' := s.toks) (fun b o hb q => eb b o hb q) f0 f1 f3 f4 f5⟩
  self := fun A i s Q E st h => let ⟨⟨_, he⟩, _⟩ := st; wpAny_pyIter_enum he h
theorem callWith_typeKw {M : Model} {A : Around} {E : Value → Shared → Prop} {s : Shared} {env : Env} {pos : Pos} {T : String} {e : Expr} {rest : List Expr} {kws : List Keyword} {Q : Value → Shared → Prop}
    (h : wpAny M A (spliced (backTo pos (starEach (e :: rest) env))) (fun vs s₁ => wpAny M A (evalAll ((backToKw pos (keywordEach kws env)).map (·.2)))
      (fun kvs s₂ => wpAny M A (call (.type T) vs (((backToKw pos (keywordEach kws env)).filterMap (·.1)).zip kvs)) Q E s₂) E s₁) E s)
    (he : backTo pos (starEach (e :: rest) env) = (false, eval e env) :: backTo pos (starEach rest env) := by rfl)
    (hplain : (backTo pos (starEach (e :: rest) env)).any (·.1) = false := by rfl)
    (hall : (backToKw pos (keywordEach kws env)).all (·.1.isSome) = true := by rfl)
    (hkw : (backToKw pos (keywordEach kws env)).any (·.1.isNone) = false := by rfl) :
    wpAny M A (callWith pos (.type T) [] (backTo pos (starEach (e :: rest) env)) (backToKw pos (keywordEach kws env))) Q E s := by
  have h2 : wpAny M A (evalArgs (.type T) true (backTo pos (starEach (e :: rest) env)) (backToKw pos (keywordEach kws env))) (fun a s₁ => wpAny M A (call (.type T) ([] ++ a.pos) a.kw) Q E s₁) E s := by
    rw [he] at h ⊢
    exact evalArgs_kwB hall h
  unfold callWith
  refine wpAny_bind (wpAny_holding (wpAny_mono h2 (fun a s₁ h₁ => wpAny_bind (wpAny_standAt ?_)) fun _ _ x => x))
  simp only [hplain, hkw, Bool.or_false]
  refine wpAny_bind (wpAny_pure ?_)
  exact wpAny_bind (wpAny_mono h₁ (fun r s₂ hr => wpAny_bind (wpAny_holding (wpAny_point (wpAny_pure hr)))) fun _ _ x => x)
def iEnumS (K : PySem.W.Frag) (ta tk : TA) : TI := fun σ H R => ta σ H fun vs H1 => tk σ H1 fun zs H2 => ∃ (a : Addr) (xs : List V) (c : Int), vs = [.ref a] ∧ zs = [.int c] ∧ SqT K H2 a xs ∧ -(2 ^ 63) ≤ c ∧ c < 2 ^ 63 ∧ R (IteS K a c) H2
theorem pi_enumS {X : Cx} {e k : Expr} {ta tk : TA} {p kp pos tpos : Pos} {elts : List Expr} {kk : Nat} (hg : Gl X "enumerate") (hm : X.mg "enumerate" = none) (ha : PA X [e] ta) (hk : PK X [⟨some "start", k, kp⟩] tk)
    (hse : backTo pos (starEach [e] X.env) = (false, eval e X.env) :: backTo pos (starEach [] X.env) := by rfl) (hpl : (backTo pos (starEach [e] X.env)).any (·.1) = false := by rfl)
    (hks : (backToKw pos (keywordEach [⟨some "start", k, kp⟩] X.env)).filterMap (·.1) = [("start" : Str)] := by rfl) :
    PI X (.Tuple elts kk tpos) (.Call (.Name "enumerate" p) [e] [⟨some "start", k, kp⟩] pos) (iEnumS X.K ta tk) := by
  refine ⟨fun pins s σ H R I h => ?_⟩
  refine wpAny_Call_Name_kw (ld_blt I hg hm boot_enumerate ?_)
  refine callWith_typeKw (thn (ha.run pos pins s σ H _ I h) fun us s1 ⟨vs, H1, I1, r1, q1⟩ => thn (hk.run pos pins s1 σ H1 _ I1 q1) fun ws s2 ⟨zs, H2, I2, r2, q2⟩ => ?_) hse hpl (by rfl) (by rfl)
  rw [hks]
  obtain ⟨a, xs, c, rfl, rfl, hq, h1, h2, q⟩ := q2
  obtain ⟨u, rfl, ru⟩ := vals1 r1
  obtain ⟨z, rfl, rz⟩ := vals1 r2
  cases ru
  obtain ⟨t, rfl⟩ := rz
  obtain ⟨its, rv, p', hz⟩ := I2.tuple hq
  refine enum_begins_start (begins_tuple a its.toArray) p' h1 h2 fun h' he hit hsz hk' => wpAny_pyIter_enum he ?_
  have I3 : Inv X pins σ H2 { s2 with heap := h' } := I2.kept (t' := s2.toks) hk'
  have hal : a < s2.heap.objs.size := by obtain ⟨o, e, _⟩ := p'; exact Heap.lt_size e
  refine ⟨s2.heap.objs.size + 1, [s2.heap.objs.size + 1, s2.heap.objs.size], _, _, H2, rfl, I3, turn_enumS a (s2.heap.objs.size + 1) s2.heap.objs.size c, ⟨⟨.none, by simpa using he⟩, ⟨_, hit, rfl, rfl⟩, Nat.succ_ne_self _, Nat.ne_of_lt hal, Nat.ne_of_gt (Nat.lt_succ_of_lt hal)⟩, fun b hb => ?_, q⟩
  have e' : b = s2.heap.objs.size + 1 ∨ b = s2.heap.objs.size := by simpa using hb
  have hle : s2.heap.objs.size ≤ b := by
    rcases e' with z | z
    · rw [z]; exact Nat.le_add_right _ _
    · rw [z]; exact Nat.le_refl _
  exact I2.fpOk hle (I2.hok.fresh hle)
def YEnS (xs : List V) (c : Int) : Nat → Hp → V → Hp → Prop := fun i H v H' => ∃ T x, v = .ref T ∧ H T = none ∧ H' = upd H T (.tup [.int (c + ((i : Nat) : Int)), x]) ∧ xs[i]? = some x
theorem walk_enumS {K : PySem.W.Frag} {a : Addr} {c : Int} {xs : List V} : Walk (IteS K a c) xs.length (fun H => SqT K H a xs) (YEnS xs c) :=
  ⟨fun i _ hi q => ⟨xs, xs[i], q, by simp [hi]⟩, fun _ q => ⟨xs, q, Nat.le_refl _⟩, fun _ _ _ _ _ q y => let ⟨T, x, h1, h2, h3, h4⟩ := y; ⟨T, x, h1, h2, h3, h4 xs q⟩⟩
end Wc
/-! set(xs) of a list or a tuple of numbers; sorted of such a set is the layer's. -/
namespace L2
open PySem PySem.Spec PyProof.Rows
section
variable {P : Program} {w : World} {A : Around} {E : Value → Shared → Prop} {s : Shared}
abbrev newSet (w : World) : Obj := { cls := .type "set", dict := none, data := .set #[] 0 (.fresh 0 0 (!w.params.followText "set-order")) }
set_option maxHeartbeats 6400000 in
/-- the loop of set.__init__ over a list of numbers -/
theorem setInitL {B : Around} {l : Addr} {its : Array Value} (ns : List Int) {R : Result → Shared → Prop} (hh : B.in1.handled = none) (hl : s.heap.IsList l its) (hi : IntsAre its.toList ns) (hb : ns.length + 1 < scanBound)
    (hR : ∀ (h' : Heap) (tk c : Nat), SetR w h' s.heap.objs.size (fun j => decide (j ∈ ns)) c → c ≤ ns.length → (∀ b o, s.heap.get? b = some o → h'.get? b = some o) → R (.ok (.ret .none)) { s with heap := h', toks := tk }) :
    codeAny (model P w) B (.builtin "set.update.loop" ⟨[.ref s.heap.objs.size, .ref (s.heap.push (newSet w)).objs.size], []⟩) R { s with heap := (s.heap.push (newSet w)).push { cls := .type "list_iterator", data := .fields #[.ref l, .int 0 0] } } := by
  have hz : its.size = ns.length := (Array.length_toList (xs := its)).symm.trans (IntsAre.length hi)
  obtain ⟨o, ho, hcl, n, hdt⟩ := id hl
  have lt : l < s.heap.objs.size := Heap.lt_size ho
  have sz1 : (s.heap.push (newSet w)).objs.size = s.heap.objs.size + 1 := Heap.size_push ..
  have at1 : (s.heap.push (newSet w)).get? s.heap.objs.size = some (newSet w) := Heap.get?_push_size _ rfl
  have nl : l ≠ (s.heap.push (newSet w)).objs.size := by rw [sz1]; exact Nat.ne_of_lt (Nat.lt_succ_of_lt lt)
  have nS : s.heap.objs.size ∉ [(s.heap.push (newSet w)).objs.size, l] := by
    rw [sz1]; intro z
    rcases List.mem_cons.mp z with z | z
    · exact absurd z (Nat.ne_of_lt (Nat.lt_succ_self _))
    · exact absurd (List.mem_singleton.mp z) (Nat.ne_of_gt lt)
  refine set_update_ints (n := its.size) ((Walks.list (A := B.in1) hh _ l nl its).toS) _ nS ns hz hb (fun i v hv => ?_) (its.size - 0) 0 _ rfl (Nat.zero_le _)
    ⟨⟨_, Heap.get?_push_size _ rfl, rfl, rfl⟩, (hl.push _).push _⟩ ⟨0, Nat.le_refl 0, setR_new_at (Heap.get?_push_of_some _ at1)⟩ fun s2 c mv hc hS => ?_
  · have hlt : i < ns.length := hz ▸ (Array.getElem?_eq_some_iff.mp hv).1
    obtain ⟨t, e⟩ := PyProof.Rows.IntsAre.int_at hi i v (Array.getElem?_toList.trans hv)
    exact ⟨ns[i], t, List.getElem?_eq_getElem hlt, by rw [e, List.getD_eq_getElem?_getD, List.getElem?_eq_getElem hlt]; rfl⟩
  · obtain ⟨h2, g2, d2, tk2, os2⟩ := s2
    have eg : g2 = s.gens := mv.gens
    have ed : d2 = s.drawn := mv.drawn
    have eo : os2 = s.os := mv.os
    subst eg ed eo
    refine hR h2 tk2 c hS (hz ▸ hc) fun b u e => mv.heap b u (fun z => ?_) (Heap.get?_push_of_some _ (Heap.get?_push_of_some _ e))
    have lb : b < s.heap.objs.size := Heap.lt_size e
    rcases List.mem_cons.mp z with z | z
    · exact absurd z (Nat.ne_of_lt lb)
    · have z := List.mem_singleton.mp z; rw [sz1] at z; exact absurd z (Nat.ne_of_lt (Nat.lt_succ_of_lt lb))
set_option maxHeartbeats 6400000 in
theorem call_set_listI {l : Addr} {its : Array Value} (ns : List Int) {Q : Value → Shared → Prop} (hh : A.handled = none) (hl : s.heap.IsList l its) (hi : IntsAre its.toList ns) (hb : ns.length + 1 < scanBound)
    (h : ∀ (h' : Heap) (tk c : Nat), SetR w h' s.heap.objs.size (fun j => decide (j ∈ ns)) c → c ≤ ns.length → (∀ b o, s.heap.get? b = some o → h'.get? b = some o) → Q (.ref s.heap.objs.size) { s with heap := h', toks := tk }) :
    wpAny (model P w) A (call (.type "set") [.ref l]) Q E s := by
  have ⟨c, tl, hmro⟩ := F.called_set.mro
  have f1 := F.called_set.made; have f2 := F.called_set.sub; have f3 := F.called_set.notType; have f4 := F.called_set.canCreate; have f5 := F.typeCall_set_1 (.ref l)
  refine wpAny_call (codeAny_of_tree ?_); show wpAny _ _ (callAny (.type "set") _) _ _ _
  refine wpAny_pure ⟨Code.quiet_builtin _ (by decide +kernel), codeAny_builtin F.entry_type_call ?_⟩; rw [Around.under_plain (weight_type_call_type "set" [.ref l] []) rfl]
  repeat (any_goals (first | assumption | wp_step))
  refine codeAny_mono (code_set_led1 (.ref l) (E := E) (Q₁ := fun v t => v = .ref s.heap.objs.size ∧ t = { s with heap := s.heap.push (newSet w) }) ⟨rfl, rfl⟩) fun r t hr => ?_
  cases r with
  | error e => exact hr
  | ok fl =>
    cases fl with
    | ret v =>
      obtain ⟨rfl, rfl⟩ := hr
      have at1 : (s.heap.push (newSet w)).get? s.heap.objs.size = some (newSet w) := Heap.get?_push_size _ rfl
      have ty1 : Shared.TypeIs { s with heap := s.heap.push (newSet w) } (.ref s.heap.objs.size) "set" := ⟨_, at1, rfl⟩
      have f6 := F.called_set.init.lookup; have f7 := F.called_set.init.bind (.ref s.heap.objs.size)
      repeat (any_goals (first | assumption | wp_step))
      refine codeAny_mono (codeAny_call_builtin (R := wants (fun v t => v = .none ∧ ∃ h' tk c, t = { s with heap := h', toks := tk } ∧ SetR w h' s.heap.objs.size (fun j => decide (j ∈ ns)) c ∧ c ≤ ns.length ∧
          (∀ b o, s.heap.get? b = some o → h'.get? b = some o)) E) F.called_set.init.plain F.entry_set_init (check_set_init_1 ty1 ?_)) fun r t hr => ?_
      · have hl0 := hl
        obtain ⟨⟨oc, od, odt, osl⟩, ho, hcl, n, hdt⟩ := hl; simp only at hcl hdt; subst hcl hdt
        have ho1 : (s.heap.push (newSet w)).get? l = some { cls := .type "list", dict := od, data := .seq its n, slots := osl } := Heap.get?_push_of_some _ ho
        have hl1 : (s.heap.push (newSet w)).IsList l its := hl0.push _
        have g1 := F.sub_list_set; have g2 := F.sub_list_frozenset; have g3 : (Value.type "list" == Value.type "dict") = false := by decide
        unfold Builtin.«set.__init__» noKeywords Builtin.Frozenset.updateFrom
        generalize hPI : pyIter = PI; wp_walk; subst hPI
        refine wpAny_pyIter_list hl1 ?_; refine wpAny_bind (wpAny_runValue ?_)
        refine setInitL ns (by simp [hh]) hl0 hi hb fun h' tk c hS hc hk => ?_
        refine wpAny_pure ?_; show wpAny _ _ (ret Value.none) _ _ _
        exact wpAny_pure ⟨rfl, h', tk, c, rfl, hS, hc, hk⟩
      · cases r with
        | error e => exact hr
        | ok fl2 =>
          cases fl2 with
          | ret v =>
            obtain ⟨rfl, h', tk, c, rfl, hS, hc, hk⟩ := hr
            repeat (any_goals (first | assumption | wp_step))
            exact h _ _ _ hS hc hk
          | _ => exact hr.elim
    | _ => exact hr.elim
end
/-- set(xs), xs a list or a tuple of numbers -/
def rSetI (K : PySem.W.Frag) (w : World) : List V → Hp → VK → Prop := fun xs H Q => ∃ (p : Addr) (ns : List Int), xs = [.ref p] ∧ (SqL K H p (ns.map V.int) ∨ SqT K H p (ns.map V.int)) ∧ ns.length ≤ 1000 ∧
  ∀ (q : Addr) (c : Nat), H q = none → c ≤ ns.length → Q (.ref q) (upd H q (SetO w q (fun j => decide (j ∈ ns)) c))
theorem call_setI {X : Cx} (hc : X.calm = true) : CallR X (.type "set") (rSetI X.K X.w) := by
  intro pins s σ H vs us Q I r h
  obtain ⟨p, ns, rfl, hq, hl, q⟩ := h
  rw [Vals.ref1 r]
  have hd := I.ok.hd hc
  have zb : ns.length + 1 < scanBound := by unfold scanBound; omega
  rcases hq with hq | hq
  · obtain ⟨its, rv, pt, hz⟩ := I.list hq
    refine call_set_listI ns hd (let ⟨o, n, ho, hc, _, hd⟩ := pt; ⟨o, ho, hc, n, hd⟩) (ints_of_vals rv) zb fun h' tk c hR hn hk => ?_
    exact ⟨.ref _, upd H s.heap.objs.size (SetO X.w s.heap.objs.size (fun j => decide (j ∈ ns)) c), I.laid (t' := tk) hk (Nat.le_refl _) (setO_new hR), rfl, q _ c (I.hok.fresh (Nat.le_refl _)) hn⟩
  · obtain ⟨its, rv, pt, hz⟩ := I.tuple hq
    refine call_set_tupI ns hd (show s.heap.IsTuple p its.toArray from pt) (ints_of_vals rv) zb fun h' tk c hR hn hk => ?_
    exact ⟨.ref _, upd H s.heap.objs.size (SetO X.w s.heap.objs.size (fun j => decide (j ∈ ns)) c), I.laid (t' := tk) hk (Nat.le_refl _) (setO_new hR), rfl, q _ c (I.hok.fresh (Nat.le_refl _)) hn⟩
end L2
/-! sorted(t), t a tuple of fewer than 64 numbers; a tuple of numbers among such tuples. -/
namespace Wc
open PySem PySem.Spec PyProof.Rows L2
def rSortT (K : PySem.W.Frag) : List V → Hp → VK → Prop := fun xs H Q => ∃ (a : Addr) (ns : List Int), xs = [.ref a] ∧ SqT K H a (ns.map V.int) ∧ ns.length < 64 ∧
  ∀ (ys : List Int) (p : Addr), ys.Perm ns → ys.Pairwise (· ≤ ·) → H p = none → Q (.ref p) (upd H p (.lst (ys.map V.int)))
theorem call_sortT {X : Cx} : CallR X (.builtin "sorted") (rSortT X.K) := by
  intro pins s σ H xs us Q I r h
  obtain ⟨a, ns, rfl, hs, h64, q⟩ := h
  rw [Vals.ref1 r]
  obtain ⟨its, rv, pt, hz⟩ := I.tuple hs
  obtain ⟨o, ho, hc, n, hd⟩ := (show s.heap.IsTuple a its.toArray from pt)
  have hi : IntsAre its ns := ints_of_vals rv
  have hn : its.length = ns.length := IntsAre.length hi
  refine Calls.call_function_entry PyProof.Rows.kind_sorted PyProof.Rows.plain_sorted PyProof.Rows.entry_sorted (PyProof.Rows.args_sorted1 _) ?_
  unfold Builtin.«sorted»; refine wpAny_bind (m := checkCount "sorted" 1 1 _) (wpAny_pure ?_)
  refine wpAny_bind (wpAny_collect_seq a (.inr rfl) ho hc hd (fun h' hk => ?_) (by rw [List.size_toArray, hn, sizeLine_eq]; omega))
  have I1 : Inv X pins σ H { s with heap := h', toks := s.toks } := I.kept hk
  have et : its.toArray.toList = its := by simp
  rw [et]
  refine wpAny_bind (wpAny_newList ?_ (by rw [hn, sizeLine_eq]; omega))
  have hL : (h'.push (seqObj "list" its.toArray 0)).get? h'.objs.size = some (seqObj "list" its.toArray 0) := Heap.get?_push_size _ rfl
  show wpAny _ _ _ _ _ { s with heap := h'.push (seqObj "list" its.toArray 0) }
  refine wpAny_bind (wpAny_holding (wpAny_call_entry PyProof.Rows.slot_list_sort ⟨_, hL, rfl⟩ PyProof.Rows.entry_list_sort (PyProof.Rows.list_sort_tree (s := { s with heap := h'.push (seqObj "list" its.toArray 0) }) hL hi (by rw [hn]; exact h64) fun out ys g1 g2 g3 => ⟨_, rfl, ?_⟩) (PyProof.Rows.args_list_sort _)))
  obtain ⟨e', he'⟩ := PyProof.Rows.sortedHeap_at (vs := its) (out := out) hL
  have hlen : (ys.map V.int).length ≤ sizeLine := by rw [List.length_map, g2.length_eq]; exact Nat.le_trans (Nat.le_of_lt h64) (by decide)
  refine wpAny_pure ⟨_, rfl, .ref h'.objs.size, upd H h'.objs.size (.lst (ys.map V.int)), I1.laid (t' := s.toks) (fun b u e => ?_) (Nat.le_refl _)
    (show ObjOk X.prog X.w _ _ _ (.lst (ys.map V.int)) from ⟨hlen, out.toList, e', vals_of_ints g1, he'⟩), rfl, q ys _ g2 g3 (I1.hok.fresh (Nat.le_refl _))⟩
  have lb : b < h'.objs.size := Heap.lt_size e
  rw [PyProof.Rows.sortedHeap_old (Nat.ne_of_lt lb) (by rw [size_push']; exact Nat.lt_succ_of_lt lb)]; exact Heap.get?_push_of_some _ e
/-! ### a tuple of numbers among such tuples -/
def tD (e : List Int) : PyData := .tuple (e.map .int)
def TupAt (K : PySem.W.Frag) (H : Hp) (a : Addr) (e : List Int) : Prop := SqT K H a (e.map V.int)
theorem ints_dp {K : PySem.W.Frag} {H : Hp} : ∀ ns : List Int, DpAll K H (ns.map V.int) (ns.map PyData.int)
  | [] => .nil
  | n :: ns => .cons (.int n) (ints_dp ns)
theorem tup_dp {K : PySem.W.Frag} {H : Hp} {a : Addr} {e : List Int} (h : TupAt K H a e) : Dp K H (.ref a) (tD e) := .tup h (ints_dp e)
theorem tups_dp {K : PySem.W.Frag} {H : Hp} : ∀ {ps : List Addr} {es : List (List Int)}, Paired (TupAt K H) ps es → DpAll K H (ps.map V.ref) (es.map tD)
  | _, _, .nil => .nil
  | _, _, .cons r t => .cons (tup_dp r) (tups_dp t)
theorem eqv_ints : ∀ e d : List Int, PyData.eqvAll (e.map .int) (d.map .int) = decide (d = e)
  | [], [] => by simp [PyData.eqvAll]
  | [], y :: d => by simp [PyData.eqvAll]
  | x :: e, [] => by simp [PyData.eqvAll]
  | x :: e, y :: d => by
    have h : PyData.eqvAll ((x :: e).map .int) ((y :: d).map .int) = ((x == y) && PyData.eqvAll (e.map .int) (d.map .int)) := by simp [PyData.eqvAll, PyData.eqv]
    rw [h, eqv_ints e d]
    by_cases e1 : x = y
    · subst e1; by_cases e2 : d = e
      · subst e2; simp
      · simp [e2]
    · have : ¬ (y = x) := fun z => e1 z.symm
      simp [e1, this]
theorem tD_eqv (e d : List Int) : PyData.eqv (tD e) (tD d) = decide (d = e) := by
  rw [← eqv_ints e d]; simp [tD, PyData.eqv]
theorem any_tD (d : List Int) : ∀ es : List (List Int), ((es.map tD).any fun z => PyData.eqv z (tD d)) = decide (d ∈ es)
  | [] => rfl
  | e :: es => by
    rw [List.map_cons, List.any_cons, any_tD d es, tD_eqv]
    by_cases c1 : d = e
    · subst c1; simp
    · simp [c1]
theorem ints_lay : ∀ e : List Int, PyData.canLayAll0 (e.map .int) = true
  | [] => by simp [PyData.canLayAll0]
  | n :: e => by rw [List.map_cons]; simp only [PyData.canLayAll0, PyData.canLay0, ints_lay e, Bool.and_self]
theorem tD_lay (e : List Int) : (tD e).canLay0 = true := by
  show PyData.canLay0 (.tuple (e.map .int)) = true
  simp only [PyData.canLay0]; exact ints_lay e
theorem tD_lays : ∀ es : List (List Int), PyData.canLayAll0 (es.map tD) = true
  | [] => by simp [PyData.canLayAll0]
  | e :: r => by rw [List.map_cons]; simp only [PyData.canLayAll0, tD_lay e, tD_lays r, Bool.and_self]
theorem tD_depth (e : List Int) : (tD e).depth ≤ 4 := by
  have h : ∀ l : List Int, PyData.depthAll (l.map .int) ≤ 2 := fun l => by
    induction l with
    | nil => simp [PyData.depthAll]
    | cons x r ih => simp only [List.map_cons, PyData.depthAll, PyData.depth]; omega
  have := h e
  simp only [tD, PyData.depth]; omega
/-- x in l, x not in l -/
def rInT (K : PySem.W.Frag) (neg : Bool) : R2 := fun x y H Q => ∃ (a t : Addr) (e : List Int) (ps : List Addr) (es : List (List Int)), x = .ref a ∧ y = .ref t ∧ TupAt K H a e ∧ SqL K H t (ps.map V.ref) ∧ Paired (TupAt K H) ps es ∧
  Q (.bl (if neg then !decide (e ∈ es) else decide (e ∈ es))) H
theorem op_inT {X : Cx} (hu : X.A.units + 20 < cLine) : OpR X (compareOp .In) (rInT X.K false) := by
  intro pins s σ H x y v u Q I rx ry h
  obtain ⟨a, t, e, ps, es, rfl, rfl, ha, ht, hp, q⟩ := h
  obtain ⟨as, r1⟩ := Dp.reads I (tD e) (.ref a) v (tup_dp ha) rx
  obtain ⟨bs, r2⟩ := Dp.reads I (.list (es.map tD)) (.ref t) u (.lst ht (tups_dp hp)) ry
  refine SeqAt.in_list_reads r2 r1 (tD_lays es) (tD_lay e) ?_ ⟨.bl _, H, I, rfl, ?_⟩
  · have := tD_depth e
    omega
  · rw [any_tD]; exact q
theorem op_notInT {X : Cx} (hu : X.A.units + 20 < cLine) : OpR X (compareOp .NotIn) (rInT X.K true) := by
  intro pins s σ H x y v u Q I rx ry h
  obtain ⟨a, t, e, ps, es, rfl, rfl, ha, ht, hp, q⟩ := h
  obtain ⟨as, r1⟩ := Dp.reads I (tD e) (.ref a) v (tup_dp ha) rx
  obtain ⟨bs, r2⟩ := Dp.reads I (.list (es.map tD)) (.ref t) u (.lst ht (tups_dp hp)) ry
  refine SeqAt.notIn_list_reads r2 r1 (tD_lays es) (tD_lay e) ?_ ⟨.bl _, H, I, rfl, ?_⟩
  · have := tD_depth e
    omega
  · rw [any_tD]; exact q
end Wc
namespace Wc
open PySem L2
/-! ### tuples joined, cut -/
theorem cat_any {K : PySem.W.Frag} {H : Hp} {a b : Addr} {xs ys : List V} {Q : VK} (ha : SqT K H a xs) (hb : SqT K H b ys) (hz : xs.length + ys.length ≤ 100000) (q : ∀ p H', ExA H H' → SqT K H' p (xs ++ ys) → Q (.ref p) H') : rCatA K (.ref a) (.ref b) H Q := by
  refine ⟨a, b, xs, ys, rfl, rfl, ha, hb, sz hz, fun e => ?_, fun _ e => ?_, fun _ _ p fp => q p _ (ExM.new fp) (SqT.of upd_same)⟩
  · subst e; exact q b H (ExM.refl _ _) hb
  · subst e; exact q a H (ExM.refl _ _) (by rw [List.append_nil]; exact ha)
theorem cut_to {xs : List V} {i : Nat} (h : i ≤ xs.length) : cutV xs none (some (i : Int)) = xs.take i := by
  unfold cutV
  rw [HT.sIx_nat, HT.sIx_none, Nat.min_eq_left h]
  simp
theorem cut_from {xs : List V} {i : Nat} (h : i ≤ xs.length) : cutV xs (some (i : Int)) none = xs.drop i := by
  unfold cutV
  rw [HT.sIx_nat, HT.sIx_none, Nat.min_eq_left h]
  rw [List.take_of_length_le (by rw [List.length_drop]; omega)]
theorem sl_to {K : PySem.W.Frag} {H : Hp} {a : Addr} {xs : List V} {i : Nat} {Q : VK} (ha : SqT K H a xs) (h : i < xs.length) (q : ∀ p H', ExA H H' → SqT K H' p (xs.take i) → Q (.ref p) H') : rSlT K (.ref a) none (some (i : Int)) H Q := by
  refine ⟨a, xs, rfl, ha, fun z => ?_, fun p fp => q p _ (ExM.new fp) (by rw [cut_to (by omega)]; exact SqT.of upd_same)⟩
  have z2 := z.2
  rw [HT.sIx_nat, Nat.min_eq_left (by omega)] at z2
  omega
theorem sl_from {K : PySem.W.Frag} {H : Hp} {a : Addr} {xs : List V} {i : Nat} {Q : VK} (ha : SqT K H a xs) (h0 : 0 < i) (h : i ≤ xs.length) (q : ∀ p H', ExA H H' → SqT K H' p (xs.drop i) → Q (.ref p) H') : rSlT K (.ref a) (some (i : Int)) none H Q := by
  refine ⟨a, xs, rfl, ha, fun z => ?_, fun p fp => q p _ (ExM.new fp) (by rw [cut_from h]; exact SqT.of upd_same)⟩
  have z2 := z.1
  rw [HT.sIx_nat, Nat.min_eq_left h] at z2
  omega
end Wc
/-! a tuple, not empty, times any count from 0 on -/
namespace Wc
open PySem PySem.Spec PyProof.Rows L2
theorem tuple_mul0 (l : Addr) (items : Array Value) (n : Nat) (dd : Option Addr) (sl : Array (Option Value)) (u : Tok) (c1 : items.isEmpty = false) :
    Meets (Builtin.«tuple.__mul__» ⟨[.ref l, .int 0 u], []⟩) (fun _ R s => s.heap.get? l = some { cls := .type "tuple", dict := dd, data := .seq items n, slots := sl } ∧
      R (.ok (.ret (Value.ref s.heap.objs.size))) { s with heap := s.heap.push { cls := Value.type "tuple", data := Data.seq #[] }, toks := s.toks }) :=
  .of_wp fun prog w A R s h => by
    obtain ⟨hp, g, d, tk, os⟩ := s
    obtain ⟨hl, h⟩ := h
    have f1 := AutoSeq1.idx_int
    have c1' : (items.isEmpty || (0 : Int) == 1) = false := by rw [c1]; rfl
    wp_walk using wpAny_loadPart' hl
    repeat (first
      | (refine wpAny_ite_false (decide_eq_false (by rw [c1']; exact Bool.false_ne_true)) ?_; wp_walk using wpAny_loadPart' hl))
    all_goals exact ⟨_, rfl, h⟩
theorem tuple_mul1 (l : Addr) (items : Array Value) (n : Nat) (dd : Option Addr) (sl : Array (Option Value)) (u : Tok) :
    Meets (Builtin.«tuple.__mul__» ⟨[.ref l, .int 1 u], []⟩) (fun _ R s => s.heap.get? l = some { cls := .type "tuple", dict := dd, data := .seq items n, slots := sl } ∧ R (.ok (.ret (.ref l))) s) :=
  .of_wp fun prog w A R s h => by
    obtain ⟨hp, g, d, tk, os⟩ := s
    obtain ⟨hl, h⟩ := h
    have f1 := AutoSeq1.idx_int
    have c1' : (items.isEmpty || (1 : Int) == 1) = true := by simp
    wp_walk using wpAny_loadPart' hl
    repeat (first
      | (refine wpAny_ite_true (decide_eq_true c1') ?_; wp_walk using wpAny_loadPart' hl))
    all_goals exact ⟨_, rfl, h⟩
def rRepZ (K : PySem.W.Frag) : R2 := fun x y H Q => ∃ l k xs, x = .ref l ∧ y = .int k ∧ SqT K H l xs ∧ xs ≠ [] ∧ 0 ≤ k ∧ k ≤ 1000 ∧ xs.length ≤ 1000 ∧ (k = 1 → Q (.ref l) H) ∧ (k ≠ 1 → ∀ p, H p = none → Q (.ref p) (upd H p (.tup (List.replicate k.toNat xs).flatten)))
theorem op_repZ {X : Cx} : OpR X (binaryOp .Mult) (rRepZ X.K) := by
  intro pins s σ H x y v u Q I rx ry h
  obtain ⟨l, k, xs, rfl, rfl, hT, hne, h1, h2, hz, q1, q2⟩ := h
  by_cases c : 2 ≤ k
  · exact op_repT pins s σ H _ _ v u Q I rx ry ⟨l, k, xs, rfl, rfl, hT, hne, c, h2, hz, q2 (by omega)⟩
  cases rx
  obtain ⟨t, rfl⟩ := ry
  obtain ⟨its, r, ⟨⟨cls, dd, data, sl⟩, ho, hc, n, hd⟩, hs⟩ := I.tuple hT
  simp only at hc hd
  subst hc hd
  have hle : its.length = xs.length := r.length.symm
  have hn : its ≠ [] := fun e => hne (by
    rw [e] at hle
    exact List.eq_nil_of_length_eq_zero hle.symm)
  have hi : its.toArray.isEmpty = false := by
    cases its with
    | nil => exact absurd rfl hn
    | cons a b => rfl
  have e01 : k = 0 ∨ k = 1 := by omega
  rcases e01 with rfl | rfl
  · refine wpAny_binaryOp_repeat_ref (T := "tuple") (U := "int") (by decide) ⟨_, ho, rfl⟩ (fun s' => typeIs_int s' 0 t) noFill_tuple_mul F.fills_int_mul F.slot_int_rmul repeat_tuple F.slot_int_index.lookup
      (call_meets F.slot_int_rmul (typeIs_int s 0 t) F.entry_int_rmul (F.args_int_rmul_2 _ _) (int_rmul_tuple 0 t l its.toArray n dd sl)
        ⟨ho, rfl, ⟨_, ho, rfl⟩, call_meets F.slot_tuple_mul ⟨_, ho, rfl⟩ F.entry_tuple_mul (F.args_tuple_mul_2 _ _) (tuple_mul0 l its.toArray n dd sl t hi) ⟨ho, ?_⟩⟩)
    refine ⟨.ref s.heap.objs.size, _, I.laid (t' := s.toks) (o := .tup (List.replicate (0 : Int).toNat xs).flatten) (fun b ob q => Heap.get?_push_of_some _ q) (Nat.le_refl _) ?_, rfl, q2 (by decide) _ (I.hok.fresh (Nat.le_refl _))⟩
    exact ⟨Nat.zero_le _, [], .nil, IsTup.new _ _⟩
  · exact wpAny_binaryOp_repeat_ref (T := "tuple") (U := "int") (by decide) ⟨_, ho, rfl⟩ (fun s' => typeIs_int s' 1 t) noFill_tuple_mul F.fills_int_mul F.slot_int_rmul repeat_tuple F.slot_int_index.lookup
      (call_meets F.slot_int_rmul (typeIs_int s 1 t) F.entry_int_rmul (F.args_int_rmul_2 _ _) (int_rmul_tuple 1 t l its.toArray n dd sl)
        ⟨ho, rfl, ⟨_, ho, rfl⟩, call_meets F.slot_tuple_mul ⟨_, ho, rfl⟩ F.entry_tuple_mul (F.args_tuple_mul_2 _ _) (tuple_mul1 l its.toArray n dd sl t) ⟨ho, ⟨.ref l, H, I, rfl, q1 rfl⟩⟩⟩)
end Wc
/-! An own exception whose __init__ begins with super().__init__(..): its promise, by the rest of its body. -/
namespace Wc
open PySem PySem.Spec PyProof.Rows L2 NdefX
section
variable {X : Cx} {pins : List (Addr × Obj)} {σ : L2.St} {H : Hp} {s : Shared} {a C u : Addr} {E : Value → Shared → Prop} {A : Around}
/-- ValueError.__init__, bound to the new exception, called -/
theorem mw_call {us : List Value} {Q : Value → Shared → Prop} (T : OexC X.K C) (I : Inv X pins σ H s) (e : H a = some (exo a C none)) (hu : s.heap.get? u = some (PySem.W.kxs_mw "ValueError.__init__" a)) (hl : us.length ≤ sizeLine)
    (h : ∀ s', Inv X pins σ H s' → Q .none s') : wpAny (model X.prog X.w) A (call (.ref u) us) Q E s := by
  obtain ⟨nm, q, N, bs, bm, sn, sub, ab, col, dd, k0, k1, k2, k3, k5, hC, hbm⟩ := T.cls
  obtain ⟨t1, ho⟩ := exo_at I.hok e
  have hCC := I.kIn _ _ hC
  obtain ⟨hp, g, d, t, os⟩ := s
  have fin : ∀ (h' : PySem.Heap) (t2 : Addr), (∀ b o, b ≠ a → hp.get? b = some o → h'.get? b = some o) → h'.get? a = some (PySem.HandSPX.excO C t2) → Q .none ⟨h', g, d, t, os⟩ := fun h' t2 k hx => by
    have J := I.write (t' := t) (x := a) (e := a) (o := exo a C none) (by rw [e]; exact True.intro) (.inl rfl) k ⟨_, hx⟩ (exo_ok hx)
    have eu : upd H a (exo a C none) = H := by
      funext b
      by_cases hb : b = a
      · rw [hb, upd_same, e]
      · rw [upd_ne hb]
    rw [eu] at J
    exact h _ J
  refine wpAny_call (codeAny_of_tree ?_)
  show wpAny _ A.in1 (callAny (.ref u) ⟨us, []⟩) _ _ _
  simp only [callAny]
  refine wpAny_bind (wpAny_load hu ?_)
  simp only [PySem.W.kxs_mw, show (Value.type "method-wrapper" == Value.type "method" || Value.type "method-wrapper" == Value.type "builtin_function_or_method" || Value.type "method-wrapper" == Value.type "method-wrapper") = true by decide, if_true]
  refine PySem.W.KFB.if_so (by decide) ?_
  refine wpAny_bind (PySem.ESX.check_bound F.excBase_ValueError hCC ho rfl ?_)
  refine wpAny_bind (wpAny_pure (wpAny_pure ?_))
  refine ⟨Code.quiet_builtin _ (by decide +kernel), codeAny_builtin F.excBase_ValueError.initEntry ?_⟩
  rw [Around.under_plainId F.excBase_ValueError.init.plain _]
  wp_walk
  refine fin _ hp.objs.size (fun b o hb ho => ?_) ?_
  · rw [Heap.get?_update_other _ _ (Ne.symm hb)]
    exact Heap.get?_push_of_some _ ho
  · rw [Heap.get?_update_self _ (Heap.get?_push_of_some _ ho) rfl]
    rfl
end
/-- what K tells of the class at C and its own __init__ at f -/
structure SupC (P : Program) (K : PySem.W.Frag) (C f cc cda : Addr) : Prop where
  oex : OexC K C
  code : ∃ ccl cdd vs ccs file tf, K.lookup cda = some ⟨ccl, cdd, .fields vs, ccs⟩ ∧ vs[2]? = some (.str file tf) ∧ ((P.main.file : Str) == file) = true
  cell : ∃ cl cld csl, K.lookup cc = some ⟨cl, cld, .cell (some (.ref C)), csl⟩
  self : PySem.W.mroIn K C (.ref C) = some true
  ve : PySem.W.subIn K (.ref C) (.type "ValueError") = some true
  opq : PySem.W.nsIn K cStatics "thirdparty.any" = some none
  ini : PySem.W.ks_superIn K C C "__init__" = some (some (.builtin "ValueError.__init__"))
  top : (P.main.scope.names.lookup ("super" : Str)).isSome = false
abbrev nfS (name qual : Str) (params : Arguments) (body : List Stmt) (scope : Scope) (cc cda : Addr) : NF := ⟨name, qual, params, body, scope, [("__class__", cc)], cda⟩
section
variable {CX : CXT} {P : Program} {w : World} {K : PySem.W.Frag} {mg : Str → Option Value} {base : PySem.Heap} {k : Nat} {f C cc cda : Addr} {name qual : Str} {params : Arguments} {scope : Scope} {kV doc pm ct oc : Value} {an od : Option Addr}
  {osl : Array (Option Value)} {N ps : List Str} {sp : Sp} {e1 : Expr} {es : List Expr} {p0 p1 p2 p3 p4 : Pos} {rest : List Stmt}
theorem initS_of (T : SupC P K C f cc cda)
    (lk : K.lookup f = some ⟨oc, od, .func (PySem.W.ksFn name qual params (.Expr (.Call (.Attribute (.Call (.Name "super" p0) [] [] p1) "__init__" p2) (e1 :: es) [] p3) p4 :: rest) scope .none kV doc pm an (.ref cda) ct cc), osl⟩)
    (hcd : PySem.W.codeIn K (.ref cda) qual = true) (S : NScope N (("self" : Str) :: ps) ["__class__"] scope) (hp : ∃ ar, (params.posonlyargs ++ params.args).head? = some ar ∧ ar.arg = "self") (hsu : mg "super" = none)
    (hks : scope.names.lookup ("super" : Str) = some .globalImplicit)
    (len : ∀ vs H Q E, sp vs H Q E → vs.length = (("self" : Str) :: ps).length)
    (he : ∀ L, starEach (e1 :: es) (PySem.W.ksEnv qual scope L f (.ref cda) cc) = (false, eval e1 (PySem.W.ksEnv qual scope L f (.ref cda) cc)) :: starEach es (PySem.W.ksEnv qual scope L f (.ref cda) cc))
    (hpl : ∀ L, (backTo p3 (starEach es (PySem.W.ksEnv qual scope L f (.ref cda) cc))).any (·.1) = false)
    (hev : ∀ L, ∃ pl, eval (.Call (.Attribute (.Call (.Name "super" p0) [] [] p1) "__init__" p2) (e1 :: es) [] p3) (PySem.W.ksEnv qual scope L f (.ref cda) cc) = (do
      let ov ← attributeBase (.Call (.Name "super" p0) [] [] p1) "__init__" (PySem.W.ksEnv qual scope L f (.ref cda) cc) (eval (.Call (.Name "super" p0) [] [] p1) (PySem.W.ksEnv qual scope L f (.ref cda) cc))
      standAt p2.atName
      let (g, first) ← holding [ov] (getMethod ov "__init__" pl)
      callWith p3 g first (backTo p3 (starEach (e1 :: es) (PySem.W.ksEnv qual scope L f (.ref cda) cc))) []))
    (hqt : ∀ L, interactive (PySem.W.ksEnv qual scope L f (.ref cda) cc) = false) (hsw : ∀ L, swapsWith (.Call (.Attribute (.Call (.Name "super" p0) [] [] p1) "__init__" p2) (e1 :: es) [] p3) none p4.line (PySem.W.ksEnv qual scope L f (.ref cda) cc) = pure false)
    (hbody : ∀ (A : Around) (outer : List Env) (s : Shared) (H : Hp) (vs : List V) (Q : VK) (E : XK),
      Room k (A.deeper (envF (nfS name qual params (.Expr (.Call (.Attribute (.Call (.Name "super" p0) [] [] p1) "__init__" p2) (e1 :: es) [] p3) p4 :: rest) scope cc cda) f s.heap.objs.size)) → sp vs H Q E →
      ∃ a vs', vs = .ref a :: vs' ∧ H a = some (exo a C none) ∧ ∃ ta t,
        PA (ncx CX P w K mg base N (nfS name qual params (.Expr (.Call (.Attribute (.Call (.Name "super" p0) [] [] p1) "__init__" p2) (e1 :: es) [] p3) p4 :: rest) scope cc cda) f A outer s H E) (e1 :: es) ta ∧
        PSs (ncx CX P w K mg base N (nfS name qual params (.Expr (.Call (.Attribute (.Call (.Name "super" p0) [] [] p1) "__init__" p2) (e1 :: es) [] p3) p4 :: rest) scope cc cda) f A outer s H E) rest t ∧
        ta (startF N vs [some (.ref C)]) H fun ws H1 => ws.length ≤ 1000 ∧ H1 a = some (exo a C none) ∧ t { nx := fun _ H' => Q .non H', rt := Q } (startF N vs [some (.ref C)]) H1) :
    FnOk P w K mg base CX (k + 1) f (PySem.W.ksFn name qual params (.Expr (.Call (.Attribute (.Call (.Name "super" p0) [] [] p1) "__init__" p2) (e1 :: es) [] p3) p4 :: rest) scope .none kV doc pm an (.ref cda) ct cc) (("self" : Str) :: ps) sp := by
  let body : List Stmt := Stmt.Expr (.Call (.Attribute (.Call (.Name "super" p0) [] [] p1) "__init__" p2) (e1 :: es) [] p3) p4 :: rest
  refine ⟨len, fun A outer s H args us vs Q E hr e0 hb r hsp => ?_⟩
  have hl := len _ _ _ _ hsp
  have kb : ∀ b o, base.get? b = some o → s.heap.get? b = some o := fun b o e => (e0.bs b o e).1
  have KX : K.In s.heap := e0.mod.kin.keeps kb
  have lim : s.heap.NoLimit := e0.mod.nolimit.keeps kb
  obtain ⟨cl, cld, csl, hcell⟩ := T.cell
  obtain ⟨ccl, cdd, cvs, ccs, file, tf, hcode, hvs, hfile⟩ := T.code
  obtain ⟨ar, hp1, hp2⟩ := hp
  obtain ⟨a, vs', rfl, ha, ta, t, hPA, hPS, hq⟩ := hbody A outer s H vs Q E (hr.deeper _) hsp
  refine PySem.ks_codeAny_call_defAt (fd := PySem.W.ksFn name qual params body scope .none kV doc pm an (.ref cda) ct cc) (body := body) (binds := (("self" : Str) :: ps).zip us) hr.depth (KX _ _ lk) rfl lim (PySem.W.codeRec_of KX hcd) rfl hb S.nocell
    (fun ⟨n, _⟩ hy => S.par n (List.of_mem_zip hy).1) (fun h₁ hns kp => ?_) S.co S.gen S.kind
  have hCells : CellsAt [("__class__", cc)] ["__class__"] [some (V.ref C)] s.heap H := by
    have key : ∀ y c, List.lookup y [(("__class__" : Str), cc)] = some c → y = "__class__" ∧ c = cc := fun y c e => by
      rw [List.lookup_cons] at e
      split at e
      · rename_i q
        exact ⟨beq_iff_eq.mp q, (Option.some.inj e).symm⟩
      · cases e
    refine ⟨rfl, fun y c e => ?_, fun x y c e1 e2 => (key x c e1).1.trans (key y c e2).1.symm, fun i y e => ?_⟩
    · obtain ⟨_, rfl⟩ := key y c e
      exact ⟨(e0.bs _ _ (e0.mod.kin _ _ hcell)).2, _, ⟨_, KX _ _ hcell, rfl⟩⟩
    · match i, e with
      | 0, e =>
        obtain rfl := Option.some.inj e
        refine ⟨cc, rfl, fun v hv => ?_⟩
        obtain rfl := Option.some.inj (Option.some.inj hv)
        exact ⟨.ref C, rfl, ⟨_, KX _ _ hcell, rfl⟩⟩
  let FF : NF := nfS name qual params body scope cc cda
  have I : Inv (ncx CX P w K mg base N FF f A outer s H E) [] (startF N (.ref a :: vs') [some (.ref C)]) H { s with heap := h₁, toks := s.toks + ((("self" : Str) :: ps).zip us).length } := inv_startN (F := FF) S hr.hd e0 hl r hCells hns kp
  have fin : ∀ {σ' : L2.St} {H' : Hp} {v : V} {u : Value} {s' : Shared}, Inv (ncx CX P w K mg base N FF f A outer s H E) [] σ' H' s' → L2.RelV v u → Q v H' → CE outer P w H s Q u s' :=
    fun {σ' H' v u s'} J rv q => ⟨v, H', J.os, J.bare, J.base, J.hok, rv, q⟩
  cases r with
  | @cons x0 u0 xs0 us0 rx rr =>
  cases rx
  have KX1 : K.In h₁ := KX.keeps kp
  obtain ⟨nm, q, NN, bs, bm, sn, sub, ab, col, dd, k0, k1, k2, k3, k5, hC, hbm⟩ := T.oex.cls
  have hcl : PySem.W.clsIn K C = some { name := nm, bases := bs, mro := .ref C :: bm, ns := NN, qualname := q, hasDict := true, slotNames := sn, subclasses := sub, abstract := ab, collection := col, hasDel := false } := by unfold PySem.W.clsIn; rw [hC] <;> rfl
  obtain ⟨t1, hx⟩ := exo_at I.hok ha
  have hself : ((("self" : Str) :: ps).zip (.ref a :: us0)).reverse.lookup ar.arg = some (Value.ref a) := by
    rw [hp2]
    have nd : (("self" : Str) :: ps).Nodup := by
      have q := S.nd.sublist (List.take_sublist ((("self" : Str) :: ps).length + [("__class__" : Str)].length) N)
      rw [S.pre] at q
      exact (List.nodup_append.mp q).1
    exact zip_look (i := 0) nd rfl rfl
  have hka : scope.names.lookup ar.arg = some .local := by rw [hp2]; exact S.par _ List.mem_cons_self
  have hkc : scope.names.lookup ("__class__" : Str) = some .free := S.frk _ List.mem_cons_self
  obtain ⟨hp0, g, d, tk, os⟩ := s
  refine PySem.ks_wpAt_execs_cons (PySem.ks_wpAt_Expr_any ?_ (hqt _) (hsw _))
  obtain ⟨pl, hev⟩ := hev hp0.objs.size
  refine PySem.ks_wpAt_MethodCall (pl := pl) ?_ hev
  refine PySem.ks_wpAt_super_base (env := PySem.W.ksEnv qual scope hp0.objs.size f (.ref cda) cc) hks hkc rfl rfl (kp _ _ (KX _ _ lk)) rfl hp1 rfl (kp _ _ (KX _ _ hcode)) rfl hvs hfile T.top ?_
  obtain ⟨mb, hb1, hb2⟩ := e0.mod.blt
  have kk : ∀ b o, base.get? b = some o → h₁.get? b = some o := fun b o e => kp _ _ (kb _ _ e)
  refine PySem.W.ks_loadName_global S.kind hks (Calls.loadGlobal_builtin (env := PySem.W.ksEnv qual scope hp0.objs.size f (.ref cda) cc) (e0.mod.glob.keeps kk) hsu (hb1.keeps kk) ((hb2 "super" (by decide)).trans (show bootBuiltins "super" = some (.type "super") by kernel_rfl)) ⟨rfl, ?_⟩)
  refine wpAny_loadName_free S.kind hkc rfl ⟨_, KX1 _ _ hcell, rfl⟩ ?_
  refine wpAny_loadName_local S.kind hka hns hself ?_
  refine PySem.ks_wpAny_isType_cls (KX1 _ _ hC) rfl ⟨rfl, ?_⟩
  refine PySem.ks_wpAny_call_super (KX1 _ _ hC) rfl hx rfl (fun c z => nomatch z) (PySem.W.looks_mroIn KX1 T.self) (fun h2 e2 k2 => ?_)
  have KX2 : K.In h2 := KX1.keeps k2
  have J : PySem.W.InstAt h2 a { cls := .ref C, dict := none, data := .fields #[.ref t1, .none, .none, .none, .bool false, .none] } C none := ⟨k2 _ _ hx, rfl, rfl, trivial⟩
  have hm := T.ini
  unfold PySem.W.ks_superIn at hm
  rw [hcl] at hm
  refine PySem.W.kxs_getMethod PySem.W.kxs_ValueError e2 (PySem.W.looks_opaque KX2 T.opq) (fun A Q E s k q => wpAny_bind ((PySem.W.looks_clsIn KX2 hcl) A _ E s k (wpAny_pure q))) rfl KX2 hm (J.type.andThen (PySem.W.looks_subIn KX2 T.ve)) (PySem.W.ks_ne KX2 J hcl) (by decide) ?_
  have k3 : ∀ b o, h₁.get? b = some o → (h2.push (PySem.W.kxs_mw "ValueError.__init__" a)).get? b = some o := fun b o e => Heap.get?_push_of_some _ (k2 _ _ e)
  have I2 := I.kept (t' := tk + ((("self" : Str) :: ps).zip (.ref a :: us0)).length + 1) k3
  have hsz : h₁.objs.size ≤ h2.objs.size := Nat.le_of_lt (Heap.lt_size e2)
  have I3 := I2.pins_of (pins' := [(h2.objs.size, PySem.W.kxs_mw "ValueError.__init__" a)]) (fun p hp => by
    rcases List.mem_singleton.mp hp with rfl
    exact ⟨Heap.get?_push_at rfl rfl, I.hok.fresh hsz, fun z => absurd I.lt (by show ¬ (_ < _); rw [← z]; exact Nat.not_lt.mpr hsz), I.nofs hsz, fun v z => nomatch z⟩)
  show wpAny _ _ (callWith p3 (.ref h2.objs.size) [] (backTo p3 (starEach (e1 :: es) (PySem.W.ksEnv qual scope hp0.objs.size f (.ref cda) cc))) []) _ _ _
  rw [he]
  refine PySem.W.kxs_callWith (i := "ValueError.__init__") (x := a) (by show (false || (backTo p3 (starEach es _)).any (·.1)) = false; rw [hpl]; rfl) ?_
  have hrun : wpAny _ _ (spliced (backTo p3 (starEach (e1 :: es) (PySem.W.ksEnv qual scope hp0.objs.size f (.ref cda) cc)))) _ _ _ := hPA.run p3 [(h2.objs.size, PySem.W.kxs_mw "ValueError.__init__" a)] _ _ _ _ I3 hq
  rw [he] at hrun
  refine PySem.Calls.evalArgs_plain (wpAny_mono hrun (fun ws s2 hw => ?_) fun _ _ z => z)
  obtain ⟨wvs, H1, J2, rw2, hz, ha1, ht⟩ := hw
  have hu : s2.heap.get? h2.objs.size = some (PySem.W.kxs_mw "ValueError.__init__" a) := (J2.pin _ (List.mem_append_right _ List.mem_cons_self)).1
  refine ⟨hu, ?_⟩
  refine mw_call (X := ncx CX P w K mg base N FF f A outer ⟨hp0, g, d, tk, os⟩ H E) T.oex J2 ha1 hu (by show ws.length ≤ sizeLine; rw [← rw2.length, sizeLine_eq]; omega) fun s3 J3 => ?_
  have J4 := J3.pins_of (pins' := []) fun p hp => by simp at hp
  refine wpAt_of_wpAny (wpAny_mono (hPS.run [] _ _ _ _ J4 ht) (fun fl s' hs => ?_) fun e s' hs => hs)
  cases fl with
  | ret u =>
    obtain ⟨v, σ', H', J, rv, q⟩ := hs
    exact fin J rv q
  | next =>
    obtain ⟨σ', H', J, q⟩ := hs
    exact fin (v := V.non) (u := Value.none) J rfl q
  | brk =>
    obtain ⟨_, _, _, q⟩ := hs
    exact False.elim q
  | cont =>
    obtain ⟨_, _, _, q⟩ := hs
    exact False.elim q
end
end Wc
/-! Such an exception raised; asked in a suite whether it is a ValueError. -/
namespace Wc
open PySem PySem.Spec PyProof.Rows L2 NdefX
/-- C(e, ..) makes an exception that nothing is behind -/
theorem pmkN {X : Cx} {e : Expr} {es : List Expr} {ta : TA} {p pos : Pos} {CX : CXT} {x : Str} {C fI : Addr} {k : Nat} {fd : FuncData} {ps : List Str} {sp : Sp} (T : OexC X.K C) (iC : PySem.W.findIn X.K (.ref C) "__init__" = some (some (.ref fI))) (tI : PySem.W.typeIn X.K (.ref fI) = some (.type "function"))
    (F1 : FnOk X.prog X.w X.K X.mg X.base CX k fI fd ps sp) (hr : Room (k + 1) X.A) (hb : Binds X.K fd ps []) (hx : Passes CX X (fun _ _ _ => False)) (hg : Gl X x) (hm : X.mg x = some (.ref C)) (ha : PA X (e :: es) ta)
    (hdb : (x == ("__debug__" : Str)) = false := by decide) (he : starEach (e :: es) X.env = (false, eval e X.env) :: starEach es X.env := by rfl) (hpl : (backTo pos (starEach es X.env)).any (·.1) = false := by rfl) :
    L2N.PMk X (.Call (.Name x p) (e :: es) [] pos) (tMkO C sp [] ta) := fun pins s σ H Q I h => by
  obtain ⟨nm, q, NN, bs, bm, sn, sub, ab, col, dd, k0, k1, k2, k3, k5, hC, hbm⟩ := T.cls
  have here : ∀ us s1, (∃ vs H1, Inv X pins σ H1 s1 ∧ Vals vs us ∧ vs.length ≤ 1000 ∧ ∀ a, H1 a = none → sp (.ref a :: (vs ++ [])) (upd H1 a (exo a C none))
      (fun v H2 => v = .non ∧ ∃ (d : Addr) (fs : List (Str × V)), H2 a = some (exo a C (some d)) ∧ H2 d = some (exd d fs) ∧ H1 d = none ∧ Q (.ref C) (some d) (upd (del H2 a) d (.xd fs))) (fun _ _ _ => False)) →
      wpAny (model X.prog X.w) X.A (call (.ref C) us) (L2N.MkP X pins σ Q) X.xe s1 := fun us s1 ⟨vs, H1, I1, rvs, hz, hsp⟩ => by
    obtain ⟨hp, g, dr, tk, os⟩ := s1
    let a : Addr := hp.objs.size + 1
    have az : hp.objs.size ≤ a := Nat.le_succ _
    have nha : H1 a = none := I1.hok.fresh az
    have hq := hsp a nha
    rw [List.append_nil] at hq
    let h2 : PySem.Heap := (hp.push (PySem.W.kdv_tup us)).push (PySem.HandSPX.excO C hp.objs.size)
    have kp : ∀ b o, hp.get? b = some o → h2.get? b = some o := fun b o z => Heap.get?_push_of_some _ (Heap.get?_push_of_some _ z)
    have at_a : h2.get? a = some (PySem.HandSPX.excO C hp.objs.size) := by
      show ((hp.push (PySem.W.kdv_tup us)).push (PySem.HandSPX.excO C hp.objs.size)).get? (hp.objs.size + 1) = _
      heap_get
    have I2 : Inv X pins σ (upd H1 a (exo a C none)) ⟨h2, g, dr, tk, os⟩ := I1.laid (t' := tk) (a := a) (o := exo a C none) (h' := h2) kp az (exo_ok at_a)
    have rr : Vals (V.ref a :: vs) (Value.ref a :: us) := .cons rfl rvs
    have le : (Value.ref a :: us ++ []).length = ps.length := by
      rw [List.append_nil, ← F1.len _ _ _ _ hq]
      exact rr.length.symm
    have lu : us.length ≤ sizeLine := by
      have z : vs.length = us.length := Paired.length rvs
      rw [sizeLine_eq]; omega
    have bb := hb _ (Value.ref a :: us) I2.kIn le
    rw [List.append_nil] at bb
    refine wpAny_call (PySem.HandSPX.call_own F.excBase_ValueError (fun Y => PySem.HandSPX.refsVE_contains Y bm hbm) (I1.kIn _ _ hC) (PySem.W.looks_findIn I1.kIn iC) (fun self => PySem.W.bind_fn I1.kIn self tI) lu
      (codeAny_mono (F1.run _ X.stack _ _ ⟨Value.ref a :: us, []⟩ (Value.ref a :: us) _ _ (fun _ _ _ => False) (hr.make C us []) (I2.env0.make C us []) bb rr hq) fun r s2 h2 => ?_))
    match r, h2 with
    | .error er, h2 => exact hx pins σ _ _ er s2 I2 h2
    | .ok (.ret u), h2 =>
      obtain ⟨v, H2, os2, bare, un, hok, ruv, rfl, d, fs, ea, ed, nd, hQ⟩ := h2
      obtain ⟨h3, g2, d2, t2, os3⟩ := s2
      obtain ⟨t0, G, J, kG, ge, hoe, na⟩ := mk_end0 (d2 := d2) (t2 := t2) I1 az kp un hok os2 bare ea ed nd
      exact ⟨ruv, a, _, _, ⟨G, g2, d2, t2, os3⟩, _, .ref C, some d, rfl, J, kG, ge, hoe, ⟨rfl, rfl, fun vs z => by cases z; rfl⟩, rfl, rfl, na, rfl, bare, raises_own T.exC T.tyC, hQ⟩
  refine wpAny_Call_Name_kw (ld_glob I hg hm (PySem.W.callWith_K (h₀ := X.base) I.ok.mod.kin T.kC (thn (ha.run pos pins s σ H _ I h) fun us s1 hh => ?_) he hpl) hdb)
  exact ⟨hh.choose_spec.choose_spec.1.kIn, here us s1 hh⟩
/-- isinstance(e, ValueError), e what the suite holds: yes -/
theorem ans_yes {x t : Value} {P : Shared → Prop} (ne : (t == Value.type "ValueError") = false) (ty : ∀ (M : Model) (s : Shared), P s → PySem.W.Looks M s.heap (typeOf x) t) (su : ∀ (M : Model) (s : Shared), P s → PySem.W.Looks M s.heap (isSubtype t (.type "ValueError")) true) :
    Answers P x (.type "ValueError") true := by
  intro dep tk prog w A R s hs
  obtain ⟨hs, hq⟩ := hs
  have L := ty (model prog w) s hs
  have S := su (model prog w) s hs
  obtain ⟨h0, g, d, tt, os⟩ := s
  unfold Builtin.«isinstance.nested»
  refine wpAny_bind (L.at ?_)
  rw [ne, if_neg (by decide)]
  have L2 : PySem.W.Looks (model prog w) h0 (isInstance x (.type "ValueError")) true := L.andThen S
  have L3 : PySem.W.Looks (model prog w) h0 (typeOf (.type "ValueError")) (.type "type") := PySem.W.Looks.of_pure PySem.OEX.typ_VE
  have L4 : PySem.W.Looks (model prog w) h0 (isType (.type "ValueError")) true := PySem.W.Looks.of_pure rfl
  refine wpAny_bind (L3.at ?_)
  rw [if_pos (by decide)]
  k_delta "plainIsInstance"
  refine wpAny_bind (wpAny_bind (L4.at ?_))
  simp only [Bool.not_true, Bool.false_eq_true, if_false]
  refine wpAny_bind (L2.at ?_)
  first
    | exact wpAny_pure (wpAny_pure (hq tt))
    | (simp only [if_true]; first | exact wpAny_pure (wpAny_pure (hq tt)) | exact wpAny_pure (hq tt) | exact wpAny_bind (wpAny_pure (wpAny_pure (hq tt))))
def rIsV (K : PySem.W.Frag) (a : Addr) (cls : Value) : List V → Hp → VK → Prop := fun xs H Q => xs = [.ref a, .ty "ValueError"] ∧ (∃ C, cls = .ref C ∧ PySem.W.subIn K (.ref C) (.type "ValueError") = some true) ∧ Q (.bl true) H
theorem call_isV {X : Cx} {a : Addr} {oe : Obj} {cls : Value} {d : Option Addr} {pn : List (Addr × Obj)} (hz : Zc cls d oe) : CallR (X.suite a ((a, oe) :: pn)) (.builtin "isinstance") (rIsV X.K a cls) := by
  intro pins s σ H xs us Q I r h
  obtain ⟨rfl, ⟨C, rfl, ve⟩, q⟩ := h
  cases r with
  | cons rx rr =>
    cases rr with
    | cons rt rr =>
      cases rr
      cases rx
      cases rt
      obtain ⟨hget, _⟩ := I.pin (a, oe) (List.mem_append.mpr (.inl List.mem_cons_self))
      have ty : ∀ (M : Model) (s' : Shared), (X.K.In s'.heap ∧ s'.heap.get? a = some oe) → PySem.W.Looks M s'.heap (typeOf (.ref a)) (.ref C) := fun M s' z => by
        rw [← hz.1]
        exact (PySem.W.Looks.ld z.2).andThen .now
      exact call_isinstance (S := fun _ R s => (X.K.In s.heap ∧ s.heap.get? a = some oe) ∧ ∀ tk, R (.ok (.ret (.bool true))) { s with toks := tk })
        (fun prog w A R s hs => isinstance_outer (ans_yes rfl ty (fun M s' z => PySem.W.looks_subIn z.1 ve) 0 _ prog w A R s hs) (fun z => nomatch z)) ⟨⟨I.kIn, hget⟩, fun tk => ⟨.bl true, H, I.kept (t' := tk) fun _ _ z => z, rfl, q⟩⟩
end Wc
/-! Tuples made by a display, by +, by *: their objects have no dict. -/
namespace Wc
open PySem PySem.Spec PyProof.Rows L2
abbrev tupO (its : List Value) : Obj := { cls := .type "tuple", data := .seq its.toArray }
theorem frz_ok {P : Program} {w : World} {H : Hp} {h : PySem.Heap} {a : Addr} {xs : List V} {its : List Value} (e : h.get? a = some (tupO its)) (z : xs.length ≤ sizeLine) (r : Vals xs its) : ObjOk P w H h a (.frz (tupO its) (.tup xs)) :=
  ⟨e, z, its, r, ⟨_, e, rfl, _, rfl⟩⟩
/-- (a, ..) -/
def tTupZ (t : TA) : TE := fun σ H Q => t σ H fun xs H1 => xs.length ≤ sizeLine ∧ ∀ (p : Addr) (o : Obj), H1 p = none → o.dict = none → Q (.ref p) (upd H1 p (.frz o (.tup xs)))
theorem pe_tupZ {X : Cx} {es : List Expr} {t : TA} {pos : Pos} {x1} (h : PA X es t) : PE X (.Tuple es x1 pos) (tTupZ t) := by
  refine ⟨fun pins s σ H Q I hq => wpAny_Tuple_spliced (thn (h.run pos pins s σ H _ I hq) fun us s2 ⟨xs, H2, I2, r, z, q⟩ => ⟨r.length ▸ z, ?_⟩)⟩
  have fr := I2.hok.fresh (Nat.le_refl s2.heap.objs.size)
  exact ⟨.ref s2.heap.objs.size, _, I2.laid (t' := s2.toks) (o := .frz (tupO us) (.tup xs)) (fun b u e => Heap.get?_push_of_some _ e) (Nat.le_refl _) (frz_ok (Heap.get?_push_size _ rfl) z r), rfl, q _ _ fr rfl⟩
/-- t + u -/
def rCatZ (K : PySem.W.Frag) : R2 := fun x y H Q => ∃ a b xs ys, x = .ref a ∧ y = .ref b ∧ SqT K H a xs ∧ SqT K H b ys ∧ xs.length + ys.length ≤ sizeLine ∧
  (xs = [] → Q (.ref b) H) ∧ (xs ≠ [] → ys = [] → Q (.ref a) H) ∧ (xs ≠ [] → ys ≠ [] → ∀ (p : Addr) (o : Obj), H p = none → o.dict = none → Q (.ref p) (upd H p (.frz o (.tup (xs ++ ys)))))
theorem op_catZ {X : Cx} : OpR X (binaryOp .Add) (rCatZ X.K) := fun pins s σ H x y v u Q I rx ry h => by
  obtain ⟨a, b, xs, ys, rfl, rfl, ha, hb, hz, q0, q1, q2⟩ := h
  by_cases nx : xs = []
  · exact op_catA pins s σ H _ _ v u Q I rx ry ⟨a, b, xs, ys, rfl, rfl, ha, hb, hz, q0, fun z => absurd nx z, fun z => absurd nx z⟩
  by_cases ny : ys = []
  · exact op_catA pins s σ H _ _ v u Q I rx ry ⟨a, b, xs, ys, rfl, rfl, ha, hb, hz, q0, q1, fun _ z => absurd ny z⟩
  cases rx
  cases ry
  obtain ⟨i1, r1, p1, _⟩ := I.tuple ha
  obtain ⟨i2, r2, p2, _⟩ := I.tuple hb
  refine HT.cat_tup p1 p2 (fun z => nx (r1.nil_iff.mp z)) (fun z => absurd (r2.nil_iff.mp z) ny) (fun _ => ?_) (by have := r1.length; have := r2.length; omega)
  exact ⟨.ref s.heap.objs.size, _, I.laid (t' := s.toks) (o := .frz (tupO (i1 ++ i2)) (.tup (xs ++ ys))) (fun b ob q => Heap.get?_push_of_some _ q) (Nat.le_refl _) (frz_ok (Heap.get?_push_size _ rfl) (by rw [List.length_append]; exact hz) (r1.append r2)), rfl,
    q2 nx ny _ _ (I.hok.fresh (Nat.le_refl _)) rfl⟩
/-- the left one with something behind it, the right one known -/
theorem rCatZ.right {K : PySem.W.Frag} {H : Hp} {a b : Addr} {xs ys : List V} {Q : VK} (ha : SqT K H a xs) (hb : SqZ H b ys) (ny : ys ≠ []) (hz : xs.length + ys.length ≤ sizeLine) (q : ∀ p H', ExA H H' → SqZ H' p (xs ++ ys) → Q (.ref p) H') : rCatZ K (.ref a) (.ref b) H Q :=
  ⟨a, b, xs, ys, rfl, rfl, ha, hb.sq, hz, fun z => q b H (ExM.refl _ _) (by rw [z]; exact hb), fun _ z => absurd z ny, fun _ _ p o fp no => q p _ (ExM.new fp) (SqZ.of no upd_same)⟩
theorem rCatZ.left {K : PySem.W.Frag} {H : Hp} {a b : Addr} {xs ys : List V} {Q : VK} (ha : SqZ H a xs) (hb : SqT K H b ys) (nx : xs ≠ []) (hz : xs.length + ys.length ≤ sizeLine) (q : ∀ p H', ExA H H' → SqZ H' p (xs ++ ys) → Q (.ref p) H') : rCatZ K (.ref a) (.ref b) H Q :=
  ⟨a, b, xs, ys, rfl, rfl, ha.sq, hb, hz, fun z => absurd z nx, fun _ z => q a H (ExM.refl _ _) (by rw [z, List.append_nil]; exact ha), fun _ _ p o fp no => q p _ (ExM.new fp) (SqZ.of no upd_same)⟩
/-- .. where nothing of the objects is asked -/
theorem rCatZ.any {K : PySem.W.Frag} {H : Hp} {a b : Addr} {xs ys : List V} {Q : VK} (ha : SqT K H a xs) (hb : SqT K H b ys) (hz : xs.length + ys.length ≤ sizeLine) (q : ∀ p H', ExA H H' → SqT K H' p (xs ++ ys) → Q (.ref p) H') : rCatZ K (.ref a) (.ref b) H Q :=
  ⟨a, b, xs, ys, rfl, rfl, ha, hb, hz, fun z => q b H (ExM.refl _ _) (by rw [z]; exact hb), fun _ z => q a H (ExM.refl _ _) (by rw [z, List.append_nil]; exact ha), fun _ _ p o fp no => q p _ (ExM.new fp) (SqZ.of no upd_same).sq⟩
/-- t[lo:hi], whatever its object is -/
theorem rSlA.any {K : PySem.W.Frag} {H : Hp} {a : Addr} {xs : List V} {lo hi : Option Int} {Q : VK} (ha : SqT K H a xs) (q : ∀ p H', ExA H H' → SqT K H' p (cutV xs lo hi) → Q (.ref p) H') (whole : HT.sIx xs.length 0 lo = 0 ∧ HT.sIx xs.length xs.length hi = xs.length → cutV xs lo hi = xs) : rSlA K (.ref a) lo hi H Q :=
  ⟨a, xs, rfl, ha, fun z => q a H (ExM.refl _ _) (by rw [whole z]; exact ha), fun _ p fp => q p _ (ExM.new fp) (SqT.of upd_same)⟩
theorem slA_to {K : PySem.W.Frag} {H : Hp} {a : Addr} {xs : List V} {i : Nat} {Q : VK} (ha : SqT K H a xs) (h : i ≤ xs.length) (q : ∀ p H', ExA H H' → SqT K H' p (xs.take i) → Q (.ref p) H') : rSlA K (.ref a) none (some (i : Int)) H Q :=
  rSlA.any ha (fun p H' e z => q p H' e (by rw [← cut_to h]; exact z)) fun z => by
    have z2 := z.2
    rw [HT.sIx_nat, Nat.min_eq_left h] at z2
    rw [cut_to h, z2, List.take_length]
theorem slA_from {K : PySem.W.Frag} {H : Hp} {a : Addr} {xs : List V} {i : Nat} {Q : VK} (ha : SqT K H a xs) (h : i ≤ xs.length) (q : ∀ p H', ExA H H' → SqT K H' p (xs.drop i) → Q (.ref p) H') : rSlA K (.ref a) (some (i : Int)) none H Q :=
  rSlA.any ha (fun p H' e z => q p H' e (by rw [← cut_from h]; exact z)) fun z => by
    have z2 := z.1
    rw [HT.sIx_nat, Nat.min_eq_left h] at z2
    rw [cut_from h, z2, List.drop_zero]
theorem set_cut {α : Type} {l : List α} {i : Nat} {x : α} (h : i < l.length) : l.take i ++ [x] ++ l.drop (i + 1) = l.set i x := by
  rw [List.set_eq_take_append_cons_drop, if_pos h, List.append_assoc]; rfl
theorem iteD {c A B : Prop} [Decidable c] (h1 : c → A) (h2 : ¬ c → B) : if decide c = true then A else B := by
  by_cases q : c
  · rw [if_pos (decide_eq_true q)]; exact h1 q
  · rw [if_neg (fun z => q (of_decide_eq_true z))]; exact h2 q
theorem iteN {c A B : Prop} [Decidable c] (h1 : ¬ c → A) (h2 : c → B) : if (!decide c) = true then A else B := by
  by_cases q : c
  · rw [decide_eq_true q]; exact h2 q
  · rw [decide_eq_false q]; exact h1 q
/-- a state as a row -/
theorem gI {i : Nat} {v : V} {σ σ' : L2.St} {H : Hp} {Q : L2.St → Hp → Prop} (e : σ.set i (some v) = σ') (h : Q σ' H) : gName i v σ H Q := by subst e; exact h
theorem nxI {σ σ' : L2.St} {H : Hp} {R : L2.St → Hp → Prop} (e : σ = σ') (h : R σ' H) : R σ H := by subst e; exact h
/-- t * k, t of one item -/
def rRepY (K : PySem.W.Frag) : R2 := fun x y H Q => ∃ (l : Addr) (k : Int) (x0 : V), x = .ref l ∧ y = .int k ∧ SqZ H l [x0] ∧ 0 ≤ k ∧ k ≤ 1000 ∧ ∀ p H', ExA H H' → SqZ H' p (List.replicate k.toNat x0) → Q (.ref p) H'
theorem rep_flat {α : Type} (x : α) : ∀ n : Nat, (List.replicate n [x]).flatten = List.replicate n x
  | 0 => rfl
  | n + 1 => by rw [List.replicate_succ, List.flatten_cons, rep_flat x n]; rfl
theorem op_repY {X : Cx} : OpR X (binaryOp .Mult) (rRepY X.K) := fun pins s σ H x y v u Q I rx ry h => by
  obtain ⟨l, k, x0, rfl, rfl, hZ, h0, hk, q⟩ := h
  have hT : SqT X.K H l [x0] := hZ.sq
  by_cases k1 : k = 1
  · subst k1
    exact op_repZ pins s σ H _ _ v u Q I rx ry ⟨l, 1, [x0], rfl, rfl, hT, by simp, h0, hk, by simp, fun _ => q l H (ExM.refl _ _) hZ, fun z => absurd rfl z⟩
  cases rx
  obtain ⟨t, rfl⟩ := ry
  obtain ⟨its, r, ⟨⟨cls, dd, data, sl⟩, ho, hc, n, hd⟩, hs⟩ := I.tuple hT
  simp only at hc hd
  subst hc hd
  obtain ⟨u0, rfl, ru⟩ := vals1 r
  have fin : ∀ (s' : Shared), s' = { s with heap := s.heap.push (tupO (List.replicate k.toNat u0)) } → ∃ v H', Inv X pins σ H' s' ∧ L2.RelV v (.ref s.heap.objs.size) ∧ Q v H' := fun s' e => by
    subst e
    have rr : Vals (List.replicate k.toNat x0) (List.replicate k.toNat u0) := by
      have z := r.rep k.toNat
      rw [rep_flat, rep_flat] at z
      exact z
    have I2 := I.laid (t' := s.toks) (a := s.heap.objs.size) (o := .frz (tupO (List.replicate k.toNat u0)) (.tup (List.replicate k.toNat x0))) (h' := s.heap.push (tupO (List.replicate k.toNat u0))) (fun b ob q => Heap.get?_push_of_some _ q) (Nat.le_refl _)
      (frz_ok (Heap.get?_push_size _ rfl) (by rw [List.length_replicate, sizeLine_eq]; omega) rr)
    exact ⟨.ref s.heap.objs.size, _, I2, rfl, q _ _ (ExM.new (I.hok.fresh (Nat.le_refl _))) (SqZ.of rfl upd_same)⟩
  have e1 : (List.foldl (fun x1 x2 => x1 ++ x2) #[] (List.replicate k.toNat ([u0] : List Value).toArray)) = (List.replicate k.toNat u0).toArray := by rw [size_rep, rep_flat]
  by_cases c : 2 ≤ k
  · refine wpAny_binaryOp_repeat_ref (T := "tuple") (U := "int") (by decide) ⟨_, ho, rfl⟩ (fun s' => typeIs_int s' k t) noFill_tuple_mul F.fills_int_mul F.slot_int_rmul repeat_tuple F.slot_int_index.lookup
      (call_meets F.slot_int_rmul (typeIs_int s k t) F.entry_int_rmul (F.args_int_rmul_2 _ _) (int_rmul_tuple k t l _ n dd sl) ⟨ho, rfl, ⟨_, ho, rfl⟩, call_meets F.slot_tuple_mul ⟨_, ho, rfl⟩ F.entry_tuple_mul (F.args_tuple_mul_2 _ _)
        (tuple_mulW l _ n dd sl k t ?_ ?_ ?_ ?_ ?_ ?_) ⟨ho, ?_⟩⟩)
    · simp only [Bool.or_eq_false_iff, decide_eq_false_iff_not]; omega
    · simp only [Bool.or_eq_false_iff, beq_eq_false_iff_ne]; exact ⟨rfl, by omega⟩
    · simp only [Bool.or_eq_false_iff, decide_eq_false_iff_not]; exact ⟨by omega, rfl⟩
    · simp only [List.size_toArray, List.length_cons, List.length_nil]; omega
    · unfold Builtin.Tuple.tupleTooMany
      rw [sizeLine_eq]
      simp only [List.size_toArray, List.length_cons, List.length_nil]
      exact decide_eq_false (by omega)
    · rw [e1, List.size_toArray, List.length_replicate, sizeLine_eq]; omega
    · rw [e1]; exact fin _ rfl
  · obtain rfl : k = 0 := by omega
    exact wpAny_binaryOp_repeat_ref (T := "tuple") (U := "int") (by decide) ⟨_, ho, rfl⟩ (fun s' => typeIs_int s' 0 t) noFill_tuple_mul F.fills_int_mul F.slot_int_rmul repeat_tuple F.slot_int_index.lookup
      (call_meets F.slot_int_rmul (typeIs_int s 0 t) F.entry_int_rmul (F.args_int_rmul_2 _ _) (int_rmul_tuple 0 t l _ n dd sl) ⟨ho, rfl, ⟨_, ho, rfl⟩, call_meets F.slot_tuple_mul ⟨_, ho, rfl⟩ F.entry_tuple_mul (F.args_tuple_mul_2 _ _) (tuple_mul0 l _ n dd sl t rfl) ⟨ho, fin _ rfl⟩⟩)
end Wc
/-! tuple(d.items()) -/
namespace Wc
open PySem PySem.Spec PyProof.Rows L2 LiI
theorem tuple_items {prog : Program} {w : World} {A : Around} {E : Value → Shared → Prop} {s : Shared} {r d : Addr} {kvs : List (Key × Value)} {ep : Nat} {Q : Value → Shared → Prop} (hh : A.handled = none) (hv : s.heap.IsItemsView r d)
    (hm : s.heap.DictAt (mixKind prog w) d kvs ep) (hn : kvs.length ≤ sizeLine)
    (hQ : ∀ (h' : PySem.Heap) (tk : Nat) (as : List Addr), (∀ b o, s.heap.get? b = some o → h'.get? b = some o) → as.length = kvs.length → PySem.W.KdxG (mixKind prog w) kvs s.heap.objs.size h' as →
      Q (.ref h'.objs.size) { s with heap := h'.push (tupO (as.map Value.ref)), toks := tk }) : wpAny (model prog w) A (call (.type "tuple") [.ref r]) Q E s := by
  have code : codeAny (model prog w) A.in1 (.call (.builtin "tuple.__new__") ⟨[.type "tuple", .ref r], []⟩) (wants (fun obj s₁ => s₁.TypeIs obj "tuple" ∧ Q obj s₁) E) s := by
    refine codeAny_of_tree ?_
    show wpAny _ A.in1.in1 (do checkBuiltinCall "tuple.__new__" ⟨[.type "tuple", .ref r], []⟩; again (.builtin "tuple.__new__" ⟨[.type "tuple", .ref r], []⟩)) _ _ s
    refine wpAny_bind (wpAny_of_eq (F.newCall_tuple_1 _) (wpAny_pure ⟨plainId_quiet F.plain_tuple_new _, codeAny_builtin F.entry_tuple_new ?_⟩))
    rw [Around.under_plainId F.plain_tuple_new _]
    have f1 := sub_tuple_self
    have f2 := init_tuple_lookup
    have f3 := madeHere_tuple
    have ti : s.TypeIs (.ref r) "dict_items" := hv.typeIs
    wp_walk using wpAny_typeOf ti, PySem.W.kdx_collect (A := A.in1.in1) (knd := mixKind prog w) (kvs := kvs) (ep := ep) hh hv hm hn
    intro h' tk as hk hl hG
    show wpAny _ _ (Builtin.Tuple.tupleExact (as.map Value.ref).toArray >>= fun v => ret v) _ _ _
    unfold Builtin.Tuple.tupleExact
    exact wpAny_bind (wpAny_newObj_type (wpAny_pure ⟨⟨_, Heap.get?_push_size _ rfl, rfl⟩, hQ h' tk as hk hl hG⟩) (by show (as.map Value.ref).toArray.size ≤ sizeLine; rw [List.size_toArray, List.length_map, hl]; exact hn))
  refine callType_codes (Q₁ := fun obj s₁ => s₁.TypeIs obj "tuple" ∧ Q obj s₁) F.called_tuple (F.typeCall_tuple_1 _) F.entry_object_init code fun obj s₁ z => ?_
  exact ⟨z.1, F.args_object_init_2 obj _, object_init_meets F.called_tuple.init.lookup F.called_tuple.made (by decide) prog w A.in1 _ s₁ ⟨z.1, rfl, z.2⟩⟩
section
variable {X : Cx} {e : Expr} {te : TE} {p apos cpos pos : Pos}
theorem pairs_laid {pins : List (Addr × Obj)} {σ : L2.St} {H : Hp} {s : Shared} {h' : PySem.Heap} {tk : Nat} {kvs : List (Key × V)} {vs : List (Key × Value)} {as : List Addr} (I : Inv X pins σ H s) (kv : KV kvs vs)
    (hk : ∀ b o, s.heap.get? b = some o → h'.get? b = some o) (hl : as.length = vs.length) (hG : PySem.W.KdxG (mixKind X.prog X.w) vs s.heap.objs.size h' as) :
    ∃ H' : Hp, ExA H H' ∧ Paired (fun (t : Addr) (q : Key × V) => H' t = some (.tup [kV q.1, q.2])) as kvs ∧ Inv X pins σ H' { s with heap := h', toks := tk } := by
  have lk : kvs.length = vs.length := Paired.length kv
  have nd : as.Nodup := hG.rise.imp Nat.ne_of_lt
  have new : ∀ t ∈ as, H t = none := fun t ht => I.hok.fresh (Nat.le_of_lt (hG.above t ht))
  have there := putT_at as kvs H (hl.trans lk.symm) nd
  have kp : ∀ b u, H b = some u → putT H as kvs b = some u := fun b u z => (putT_off as kvs H fun y => by rw [new b y] at z; cases z).trans z
  have low : ∀ b o, s.heap.get? b = some o → b ∉ as := fun b o z y => absurd (Heap.lt_size z) (Nat.not_lt.mpr (Nat.le_of_lt (hG.above b y)))
  have un : Un X.fs [] H (putT H as kvs) s.heap h' := { keep := fun b o z _ _ _ => hk b o z, slot := fun b o z _ _ _ => ⟨o.slots, hk b o z⟩, free := fun b o z n _ => (putT_off as kvs H (low b o z)).trans n, there := fun b o z _ => ⟨o, hk b o z⟩, tups := fun b xs z => kp b _ z, frzs := fun b o u z => kp b _ z, tbls := fun b ps z => ⟨#[], by rw [kp b _ z]; simp⟩ }
  refine ⟨putT H as kvs, fun b u _ z => kp b u z, there, I.un un fun b u z => ?_⟩
  by_cases hb : b ∈ as
  · obtain ⟨j, pk, e1, e2, e3⟩ := paired_ix there hb
    rw [e3] at z
    cases z
    obtain ⟨key, k, x, f1, f2, f3⟩ := hG.pairs j b e1
    obtain ⟨qv, g1, g2, g3⟩ := LiI.paired_get kv e2
    rw [f1] at g1
    cases g1
    have rk : L2.RelV (kV pk.1) key := by
      rw [g2]
      exact relV_key (show keyIs k key = true from f2)
    exact ⟨sz (by show 2 ≤ 100000; decide), [key, x], .cons rk (.cons g3 .nil), _, f3, rfl, _, rfl⟩
  · rw [putT_off as kvs H hb] at z
    exact (I.hok b u z).stay (fun d v _ y => hk d v y) (fun d y => kp d _ y) fun d xs y => kp d _ y
def tTupItems (te : TE) : TE := fun σ H Q => te σ H fun x H1 => ∃ (d : Addr) (kvs : List (Key × V)), x = .ref d ∧ H1 d = some (.dK kvs) ∧
  ∀ (H' : Hp) (p : Addr) (o : Obj) (ts : List Addr), ExA H1 H' → H1 p = none → o.dict = none → H' p = some (.frz o (.tup (ts.map V.ref))) → Paired (fun (t : Addr) (q : Key × V) => H' t = some (.tup [kV q.1, q.2])) ts kvs → Q (.ref p) H'
theorem pe_tupItems (hc : X.calm = true) (he : PE X e te) (hg : Gl X "tuple") (hm : X.mg "tuple" = none) (hbase : attributeBase e "items" X.env (eval e X.env) = eval e X.env := by rfl) (hline : (apos.endLine == cpos.line) = true := by rfl)
    (hs : starEach [.Call (.Attribute e "items" apos) [] [] cpos] X.env = (false, eval (.Call (.Attribute e "items" apos) [] [] cpos) X.env) :: starEach [] X.env := by rfl) :
    PE X (.Call (.Name "tuple" p) [.Call (.Attribute e "items" apos) [] [] cpos] [] pos) (tTupItems te) := by
  refine ⟨fun pins s σ H Q I hq => wpAny_Call_Name_kw (ld_blt I hg hm boot_tuple ?_)⟩
  refine PyProof.Rows.callWith_type1 ?_ hs rfl
  rw [hs]
  show wpAny _ _ (spliced ((false, eval (.Call (.Attribute e "items" apos) [] [] cpos) X.env) :: backTo pos (starEach [] X.env))) _ _ s
  refine Calls.spliced_cons (wpAny_Call_method (T := "dict") (id := "dict.items") hbase rfl hline F.plainAttrs_dict F.slot_dict_items F.type_dict_items (thn (he.run pins s σ H _ I hq) fun u s1 ⟨x, H1, I1, rx, d, kvs, ex, hd, q⟩ => ?_))
  subst ex
  obtain rfl : u = Value.ref d := rx
  obtain ⟨hz, hs0, vs, kv, hdo⟩ := I1.hok d _ hd
  obtain ⟨ep, hat⟩ := hdo.dictAt
  have lk : kvs.length = vs.length := Paired.length kv
  have I2 : Inv X pins σ H1 { s1 with heap := s1.heap.push { cls := .type "dict_items", data := .fields #[.ref d] } } := I1.kept (t' := s1.toks) fun b ob z => Heap.get?_push_of_some _ z
  refine ⟨hdo.typeIs, hdo.mapOf.noDict, ?_⟩
  show wpAny _ _ (callWith cpos (.builtin "dict.items") [.ref d] [] []) _ X.xe s1
  refine method_meetsIn F.slot_dict_items F.entry_dict_items rfl (PySem.evalArgs_none ⟨rfl, hdo.typeIs, F.args_dict_items_1 _, _, meets_dict_items (mixKind X.prog X.w) d hs0, ⟨vs, hdo⟩, Calls.spliced_nil ?_⟩)
  refine tuple_items (ep := ep) (kvs := vs) (I1.ok.hd hc) ⟨_, Heap.get?_push_size _ rfl, rfl, rfl⟩ (hat.push _) (by omega) fun h' tk as hk hl hG => ?_
  obtain ⟨H', eA, hp, J⟩ := pairs_laid (tk := tk) I2 kv hk hl hG
  have z : (as.map V.ref).length ≤ sizeLine := by rw [List.length_map, hl]; omega
  have rel : Vals (as.map V.ref) (as.map Value.ref) := LiI.vals_refs as
  have J2 := J.laid (t' := tk) (a := h'.objs.size) (o := .frz (tupO (as.map Value.ref)) (.tup (as.map V.ref))) (fun b o y => Heap.get?_push_of_some _ y) (Nat.le_refl _) (frz_ok (Heap.get?_push_size _ rfl) z rel)
  have fr : H' h'.objs.size = none := J.hok.fresh (Nat.le_refl _)
  refine ⟨.ref h'.objs.size, _, J2, rfl, q _ _ _ as (eA.put (ExA.free eA fr)) (ExA.free eA fr) rfl upd_same (pmp hp fun t qq y => ?_)⟩
  rw [upd_ne (fun w => by rw [w, fr] at y; cases y)]
  exact y
end
end Wc
/-! dict(xs), xs a tuple of pairs of numbers; d.get(k) of a dict of the module with text keys -/
namespace Wc
open PySem PySem.Spec PyProof.Rows L2
/-- the values of the pairs, as they stand -/
theorem pair_vals {X : Cx} {pins : List (Addr × Obj)} {σ : L2.St} {H : Hp} {s : Shared} (I : Inv X pins σ H s) : ∀ {ps : List Addr} {es : List (Int × Int)}, Paired (Wc.PairAt X.K H) ps es →
    ∃ vs : List (Value × Value), vs.length = ps.length ∧ KV (es.map fun e => ((Sum.inl e.1 : Key), V.int e.2)) (List.zipWith (fun (e : Int × Int) (v : Value × Value) => ((Sum.inl e.1 : Key), v.2)) es vs) ∧
      ∀ (j : Nat) (p : Addr) (e : Int × Int), ps[j]? = some p → es[j]? = some e → ∃ u v, vs[j]? = some (u, v) ∧ RelV (.int e.1) u ∧ IsTup s.heap p #[u, v]
  | _, _, .nil => ⟨[], rfl, .nil, fun j p e h => by simp at h⟩
  | p :: ps, e :: es, .cons r t => by
    obtain ⟨vs, l, kv, h⟩ := pair_vals I t
    obtain ⟨its, rv, tp, _⟩ := I.tuple r
    obtain ⟨u, v, rfl, r1, r2⟩ := rv.two
    refine ⟨(u, v) :: vs, by rw [List.length_cons, List.length_cons, l], .cons ⟨rfl, r2⟩ kv, fun j p' e' h1 h2 => ?_⟩
    cases j with
    | zero =>
      have e1 : p = p' := by simpa using h1
      have e2 : e = e' := by simpa using h2
      subst e1 e2
      exact ⟨u, v, rfl, r1, by simpa using tp⟩
    | succ j => exact h j p' e' (by simpa using h1) (by simpa using h2)
def rDictT (K : PySem.W.Frag) : List V → Hp → VK → Prop := fun xs H Q => ∃ (a : Addr) (ps : List Addr) (es : List (Int × Int)), xs = [.ref a] ∧ SqZ H a (ps.map V.ref) ∧ Paired (Wc.PairAt K H) ps es ∧ es.length ≤ 1000 ∧
  ∀ q, H q = none → Q (.ref q) (upd H q (.dK (mergeK [] (es.map fun e => ((Sum.inl e.1 : Key), V.int e.2)))))
theorem call_dictT {X : Cx} (hcalm : X.calm = true) : CallR X (.type "dict") (rDictT X.K) := by
  intro pins s σ H xs us Q I r h
  obtain ⟨a, ps, es, rfl, ⟨ob, hdn, hz⟩, hp, hlen, q⟩ := h
  obtain ⟨u, rfl, ru⟩ := vals1 r
  cases ru
  obtain ⟨e1, _, its, rv, ho2, e2, hc, n, hd⟩ := I.hok a _ hz
  rw [e1] at e2
  cases e2
  obtain ⟨vs, lv, kv, hv⟩ := pair_vals I hp
  have lpe := plen hp
  have lits : its.length = ps.length := by
    have := rv.length
    rw [List.length_map] at this
    exact this.symm
  have key := PySem.call_dict_pairs (prog := X.prog) (w := X.w) (A := X.A) (E := X.xe) (s := s) (knd := mixKind X.prog X.w) (kvs := List.zipWith (fun (e : Int × Int) (v : Value × Value) => ((Sum.inl e.1 : Key), v.2)) es vs)
    (Q := EP X pins σ Q) (PySem.PairArg.tuple (prog := X.prog) (w := X.w) a its.toArray (fun j => ps.getD j 0) vs) (I.ok.hd hcalm) ⟨⟨ob, n, e1, hc, hdn, hd⟩, by rw [List.size_toArray, lits, lv], fun j k v hj => ?_⟩ ⟨?_, fun i k v hr => ?_⟩ ?_ fun h' tk dd hk => ?_
  · exact key
  · have hj' : j < ps.length := by
      have := (List.getElem?_eq_some_iff.mp hj).1
      omega
    obtain ⟨p, hp'⟩ : ∃ p, ps[j]? = some p := ⟨_, List.getElem?_eq_getElem hj'⟩
    obtain ⟨e, he⟩ : ∃ e, es[j]? = some e := ⟨_, List.getElem?_eq_getElem (by omega)⟩
    obtain ⟨u, v', hv1, hv2, hv3⟩ := hv j p e hp' he
    rw [hv1] at hj
    cases hj
    have ep : ps.getD j 0 = p := by rw [List.getD_eq_getElem?_getD, hp']; rfl
    refine ⟨?_, .inl (by show s.heap.IsTuple (ps.getD j 0) _; rw [ep]; exact hv3)⟩
    obtain ⟨y, hy, ry⟩ := rv.get (i := j) (x := .ref p) (by rw [List.getElem?_map, hp']; rfl)
    cases ry
    show its.toArray[j]? = some (Value.ref (ps.getD j 0))
    rw [List.getElem?_toArray, hy, ep]
  · rw [List.length_zipWith]; omega
  · have hr : vs[i]? = some (k, v) := hr
    have hi : i < vs.length := (List.getElem?_eq_some_iff.mp hr).1
    obtain ⟨p, hp'⟩ : ∃ p, ps[i]? = some p := ⟨_, List.getElem?_eq_getElem (by omega)⟩
    obtain ⟨e, he⟩ : ∃ e, es[i]? = some e := ⟨_, List.getElem?_eq_getElem (by omega)⟩
    obtain ⟨u, v', hv1, hv2, hv3⟩ := hv i p e hp' he
    rw [hr] at hv1
    cases hv1
    refine ⟨Sum.inl e.1, by rw [List.getElem?_zipWith, he, hr], kV_is (k := Sum.inl e.1) hv2⟩
  · rw [lv, lpe]; exact Nat.le_trans hlen (by decide)
  · refine ⟨.ref s.heap.objs.size, _, I.laid (a := s.heap.objs.size) (o := .dK (mergeK [] (es.map fun e => ((Sum.inl e.1 : Key), V.int e.2)))) (t' := tk) (fun b o e => hk b o (by simp) e) (Nat.le_refl _) (dk_new ?_ (beq_eq_false_iff_ne.mpr (Ne.symm (Nat.ne_of_lt I.big))) (KV.merge kv .nil) dd), rfl, q _ (I.hok.fresh (Nat.le_refl _))⟩
    have h1 := length_mergeK (es.map fun e => ((Sum.inl e.1 : Key), V.int e.2)) []
    rw [List.length_nil, List.length_map, Nat.zero_add] at h1
    exact Nat.le_trans h1 (Nat.le_trans hlen (by decide))
/-! ### d.get(k), d a dict of the module -/
def KLk (K : PySem.W.Frag) (d : Addr) (z : Str) (v : V) : Prop := ∃ r, PySem.W.nsIn K d z = some r ∧ RelV v (r.getD .none)
def tKGet (K : PySem.W.Frag) (d : Addr) (ty : TE) : TE := fun σ H Q => ty σ H fun y H1 => ∃ z v, y = .str z ∧ KLk K d z v ∧ Q v H1
theorem pe_kget {X : Cx} {d : Addr} {es : Array DictEntry} {n : Nat} {x : Str} {p apos cpos : Pos} {e : Expr} {ty : TE} (D : KDict X.K X.w d es n) (hg : Gl X x) (hm : X.mg x = some (.ref d)) (he : PE X e ty) (m : M1 X (.Name x p) "get" apos e cpos)
    (hd : (x == ("__debug__" : Str)) = false := by decide) : PE X (.Call (.Attribute (.Name x p) "get" apos) [e] [] cpos) (tKGet X.K d ty) := by
  refine ⟨fun pins s σ H Q I h => ?_⟩
  have ho : PE X (.Name x p) (tC (.ref d)) := pe_glob hg hm rfl hd
  refine wpAny_Call_method m.base m.few m.line PySem.F.plainAttrs_dict PySem.F.slot_dict_get PySem.F.type_dict_get (thn (ho.run pins s σ H (fun v H1 => v = .ref d ∧ H1 = H) I ⟨rfl, rfl⟩) fun u s1 ⟨x', H1, I1, rx, ex, eH⟩ => ?_)
  subst ex eH
  obtain rfl : u = Value.ref d := rx
  have mo := PySem.W.mapOf_K (prog := X.prog) (w := X.w) I1.kIn D.at_ D.lit
  refine ⟨mo.typeIs, mo.noDict, ?_⟩
  rw [m.trees]
  refine Calls.callWith_builtin rfl (Calls.evalArgs_plain (Calls.spliced_cons (thn (he.run pins s1 σ H1 _ I1 h) fun iv s2 ⟨y, H2, I2, ry, z, v, ey, ⟨r, er, rv⟩, q⟩ => Calls.spliced_nil ?_)))
  subst ey
  obtain ⟨t, rfl⟩ := ry
  have mo2 := PySem.W.mapOf_K (prog := X.prog) (w := X.w) I2.kIn D.at_ D.lit
  refine call_meetsIn PySem.F.slot_dict_get mo2.typeIs PySem.F.entry_dict_get (PySem.F.args_dict_get_2 _ _) (meets_dict_get (strKind X.prog X.w) d (strKind_is X.prog X.w z t) D.low) ⟨_, mo2, v, H2, I2.tok _, ?_, q⟩
  rw [PySem.W.find_K D.at_ er]
  exact rv
end Wc
/-! The module's dicts with text keys: d.get(k, x), k in d, d[k]; a name that holds one of several defs, called; a promise that may raise. -/
namespace Wc
open PySem PySem.Spec PyProof.Rows L2
def KHas (K : PySem.W.Frag) (d : Addr) (z : Str) (v : V) : Prop := ∃ u, PySem.W.nsIn K d z = some (some u) ∧ RelV v u
def KNot (K : PySem.W.Frag) (d : Addr) (z : Str) : Prop := PySem.W.nsIn K d z = some none
theorem khas_of {K : PySem.W.Frag} {a : Addr} {kvs : List (Str × He.Dv)} (h : He.valsB K a kvs = true) {q : Str × He.Dv} (hq : q ∈ kvs) : KHas K a q.1 (q.2.v K) := He.valsB_ok h hq
theorem knot_of {K : PySem.W.Frag} {a : Addr} {z : Str} (h : He.eqO (PySem.W.nsIn K a z) (some none) = true) : KNot K a z := He.eqO_ok h
/-- the value of the key is a tuple of these -/
def tupAtB (K : PySem.W.Frag) (a : Addr) (z : Str) (vs : List He.Dv) : Bool := match PySem.W.nsIn K a z with
  | some (some (.ref t)) => (match K.lookup t with
    | some ⟨.type c, _, .seq its _, _⟩ => decide (c = "tuple") && (decide (its.size ≤ sizeLine) && He.relAll (vs.map (He.Dv.v K)) its.toList)
    | _ => false)
  | _ => false
def KTup (K : PySem.W.Frag) (d : Addr) (z : Str) (vs : List V) : Prop := ∃ t, KHas K d z (.ref t) ∧ ∀ H, SqT K H t vs
theorem ktup_of {K : PySem.W.Frag} {a : Addr} {z : Str} {vs : List He.Dv} (h : tupAtB K a z vs = true) : KTup K a z (vs.map (He.Dv.v K)) := by
  unfold tupAtB at h
  cases e : PySem.W.nsIn K a z with
  | none => rw [e] at h; cases h
  | some r =>
    rw [e] at h
    cases r with
    | none => cases h
    | some u =>
      cases u with
      | ref t =>
        have h1 : (match K.lookup t with
          | some ⟨.type c, _, .seq its _, _⟩ => decide (c = "tuple") && (decide (its.size ≤ sizeLine) && He.relAll (vs.map (He.Dv.v K)) its.toList)
          | _ => false) = true := h
        cases q : K.lookup t with
        | none => rw [q] at h1; cases h1
        | some o =>
          obtain ⟨oc, od, dt, osl⟩ := o
          rw [q] at h1
          cases oc with
          | type c =>
            cases dt with
            | seq its n =>
              obtain ⟨z1, z2⟩ := Bool.and_eq_true_iff.mp (show (decide (c = "tuple") && (decide (its.size ≤ sizeLine) && He.relAll (vs.map (He.Dv.v K)) its.toList)) = true from h1)
              obtain ⟨z3, z4⟩ := Bool.and_eq_true_iff.mp z2
              exact ⟨t, ⟨_, e, rfl⟩, fun H => .inr ⟨_, its, n, q, congrArg Value.type (of_decide_eq_true z1), rfl, of_decide_eq_true z3, He.relAll_ok z4⟩⟩
            | _ => cases h1
          | _ => cases dt <;> cases h1
      | _ => cases h
/-- the module's dict x stands at d -/
structure MdAt (K : PySem.W.Frag) (w : World) (mg : Str → Option Value) (x : Str) (d : Addr) : Prop where
  g : mg x = some (.ref d)
  k : ∃ es n, KDict K w d es n
/-- d.get(k, x) -/
def tKGet2 (K : PySem.W.Frag) (d : Addr) (ty tz : TE) : TE := fun σ H Q => ty σ H fun y H1 => tz σ H1 fun dv H2 => ∃ z, y = .str z ∧ ((∃ v, KHas K d z v ∧ Q v H2) ∨ (KNot K d z ∧ Q dv H2))
theorem pe_kget2 {X : Cx} {d : Addr} {x : Str} {p apos cpos : Pos} {e f : Expr} {ty tz : TE} (D : MdAt X.K X.w X.mg x d) (hg : Gl X x) (he : PE X e ty) (hf : PE X f tz) (m : M2 X (.Name x p) "get" apos e f cpos)
    (hd : (x == ("__debug__" : Str)) = false := by decide) : PE X (.Call (.Attribute (.Name x p) "get" apos) [e, f] [] cpos) (tKGet2 X.K d ty tz) := by
  obtain ⟨hm, es, n, D⟩ := D
  refine ⟨fun pins s σ H Q I h => ?_⟩
  have ho : PE X (.Name x p) (tC (.ref d)) := pe_glob hg hm rfl hd
  refine wpAny_Call_method m.base m.few m.line PySem.F.plainAttrs_dict PySem.F.slot_dict_get PySem.F.type_dict_get (thn (ho.run pins s σ H (fun v H1 => v = .ref d ∧ H1 = H) I ⟨rfl, rfl⟩) fun u s1 ⟨x', H1, I1, rx, ex, eH⟩ => ?_)
  subst ex eH
  obtain rfl : u = Value.ref d := rx
  have mo := PySem.W.mapOf_K (prog := X.prog) (w := X.w) I1.kIn D.at_ D.lit
  refine ⟨mo.typeIs, mo.noDict, ?_⟩
  rw [m.trees]
  refine Calls.callWith_builtin rfl (Calls.evalArgs_plain (Calls.spliced_cons (thn (he.run pins s1 σ H1 _ I1 h) fun iv s2 ⟨y, H2, I2, ry, h2⟩ => Calls.spliced_cons (thn (hf.run pins s2 σ H2 _ I2 h2) fun fv s3 ⟨dv, H3, I3, rd, z, ey, q⟩ => Calls.spliced_nil ?_))))
  subst ey
  obtain ⟨t, rfl⟩ := ry
  have mo2 := PySem.W.mapOf_K (prog := X.prog) (w := X.w) I3.kIn D.at_ D.lit
  refine call_meetsIn PySem.F.slot_dict_get mo2.typeIs PySem.F.entry_dict_get (PySem.F.args_dict_get_3 _ _ _) (meets_dict_get_default (strKind X.prog X.w) d (strKind_is X.prog X.w z t) D.low fv) ⟨_, mo2, ?_⟩
  rcases q with ⟨v, ⟨u, eu, ru⟩, q⟩ | ⟨en, q⟩
  · exact ⟨v, H3, I3.tok _, by rw [PySem.W.find_K D.at_ eu]; exact ru, q⟩
  · exact ⟨dv, H3, I3.tok _, by rw [PySem.W.find_K D.at_ en]; exact rd, q⟩
/-- k in d, k not in d -/
def rInKd (K : PySem.W.Frag) (d : Addr) (neg : Bool) : R2 := fun x y H Q => ∃ z, x = .str z ∧ y = .ref d ∧ (((∃ v, KHas K d z v) ∧ Q (.bl (!neg)) H) ∨ (KNot K d z ∧ Q (.bl neg) H))
theorem op_inKd {X : Cx} {x : Str} {d : Addr} (D : MdAt X.K X.w X.mg x d) : OpR X (compareOp .In) (rInKd X.K d false) := fun pins s σ H a b v u Q I ra rb h => by
  obtain ⟨_, es, n, D⟩ := D
  obtain ⟨z, rfl, rfl, q⟩ := h
  rcases q with ⟨⟨y, u0, e, _⟩, q⟩ | ⟨e, q⟩
  · exact op_in_kd D pins s σ H _ _ v u Q I ra rb ⟨z, _, rfl, rfl, e, q⟩
  · exact op_in_kd D pins s σ H _ _ v u Q I ra rb ⟨z, _, rfl, rfl, e, q⟩
theorem op_notInKd {X : Cx} {x : Str} {d : Addr} (D : MdAt X.K X.w X.mg x d) : OpR X (compareOp .NotIn) (rInKd X.K d true) := fun pins s σ H a b v u Q I ra rb h => by
  obtain ⟨_, es, n, D⟩ := D
  obtain ⟨z, rfl, rfl, q⟩ := h
  rcases q with ⟨⟨y, u0, e, _⟩, q⟩ | ⟨e, q⟩
  · exact op_notIn_kd D pins s σ H _ _ v u Q I ra rb ⟨z, _, rfl, rfl, e, q⟩
  · exact op_notIn_kd D pins s σ H _ _ v u Q I ra rb ⟨z, _, rfl, rfl, e, q⟩
/-- d[k] -/
theorem MdAt.dct {K : PySem.W.Frag} {w : World} {mg : Str → Option Value} {x z : Str} {d : Addr} {v : V} (D : MdAt K w mg x d) (h : KHas K d z v) : KDct K w d z v := let ⟨_, es, n, D⟩ := D; let ⟨u, e, r⟩ := h; ⟨es, n, u, D.at_, D.lit, e, r⟩
/-- a name that holds one of several defs, called -/
def tCallM (i : Nat) (M : Addr → Sp → Prop) (t : TA) : TE := fun σ H Q => ∃ f sp, σ[i]? = some (some (.ref f)) ∧ M f sp ∧ t σ H fun vs H1 => sp vs H1 Q (fun _ _ _ => False)
theorem pe_callM {X : Cx} {i k : Nat} {x : Str} {p pos : Pos} {e : Expr} {es : List Expr} {t : TA} {M : Addr → Sp → Prop} (A : ∀ f sp, M f sp → Held X.prog X.w X.K X.mg X.base k f sp) (hr : Room k X.A) (hN : X.N[i]? = some x) (hv : Vis X.env.scope x) (ha : PA X (e :: es) t)
    (hdb : (x == ("__debug__" : Str)) = false := by decide) (hcd : (x == ("__classdict__" : Str)) = false := by decide)
    (he : starEach (e :: es) X.env = (false, eval e X.env) :: starEach es X.env := by rfl) (hpl : (backTo pos (starEach es X.env)).any (·.1) = false := by rfl) : PE X (.Call (.Name x p) (e :: es) [] pos) (tCallM i M t) := by
  refine ⟨fun pins s σ H Q I h => ?_⟩
  obtain ⟨f, sp, hs, hS, ht⟩ := h
  obtain ⟨fd, ps, F, hk, hb⟩ := (A f sp hS).ex
  refine (pe_callL (i := i) (f := f) (sp := sp) (dvs := []) (E := fun _ _ _ => False) F hr hN hv hk hb .nil (fun _ _ _ _ _ _ _ z => z.elim) ha hdb hcd he hpl).run pins s σ H Q I ⟨hs, ?_⟩
  refine cast (congrArg (t σ H) (funext fun vs => funext fun H1 => ?_)) ht
  rw [List.append_nil]
theorem held_of {P : Program} {w : World} {K : PySem.W.Frag} {mg : Str → Option Value} {base : PySem.Heap} {j k : Nat} {x : Str} {sp : Sp} {f : Addr} (C : Cal P w K mg base j x sp []) (g : mg x = some (.ref f)) (h : j ≤ k) : Held P w K mg base k f sp := by
  obtain ⟨f', fd, ps, ds, F, hm, kp, b, d⟩ := C.all
  rw [g] at hm
  cases hm
  cases d
  exact ⟨fd, ps, F.mono h, kp, b⟩
/-- a def that may be called by its name, and its address -/
structure CalX (P : Program) (w : World) (K : PySem.W.Frag) (mg : Str → Option Value) (base : PySem.Heap) (k : Nat) (x : Str) (sp : Sp) : Prop where
  all : ∃ (f : Addr) (fd : FuncData) (ps : List Str), FnOk P w K mg base (L2N.CX P w) k f fd ps sp ∧ mg x = some (.ref f) ∧ PySem.W.keepIn K (.ref f) = true ∧ Binds K fd ps []
theorem CalX.mk0 {P : Program} {w : World} {K : PySem.W.Frag} {mg : Str → Option Value} {base : PySem.Heap} {k : Nat} {x : Str} {sp : Sp} {f : Addr} {fd : FuncData} {ps : List Str}
    (h : FnOk P w K mg base (L2N.CX P w) k f fd ps sp) (m : mg x = some (.ref f)) (kp : PySem.W.keepIn K (.ref f) = true) (b : Binds K fd ps []) : CalX P w K mg base k x sp := ⟨f, fd, ps, h, m, kp, b⟩
theorem passN {X : Cx} : Passes (L2N.CX X.prog X.w) X E0 := fun _ _ _ _ _ _ _ h => by
  obtain ⟨_, _, _, _, _, _, _, _, _, _, _, _, z⟩ := h
  exact z.elim
/-- .. called where nothing is raised -/
theorem pe_cx {X : Cx} {j k : Nat} {x : Str} {sp : Sp} {e : Expr} {es : List Expr} {p pos : Pos} {t : TA} (c : CalX X.prog X.w X.K X.mg X.base k x sp) (hr : Room j X.A) (hk : k ≤ j) (hg : Gl X x) (ha : PA X (e :: es) t)
    (h1 : (x == ("__debug__" : Str)) = false := by decide) (h2 : starEach (e :: es) X.env = (false, eval e X.env) :: starEach es X.env := by rfl) (h3 : (backTo pos (starEach es X.env)).any (·.1) = false := by rfl) :
    PE X (.Call (.Name x p) (e :: es) [] pos) (tCall sp [] E0 t) :=
  let ⟨_, _, _, F, hm, kp, b⟩ := c.all
  pe_call F (hr.mono hk) hg hm kp b .nil passN ha h1 h2 h3
/-- .. called within a try, where what it raises is taken -/
theorem pe_cxS {X : Cx} {W : WX} {j k : Nat} {x : Str} {sp : Sp} {e : Expr} {es : List Expr} {p pos : Pos} {t : TA} (c : CalX X.prog X.w X.K X.mg X.base k x sp) (tk : L2N.Takes X W) (hr : Room j X.A) (hk : k ≤ j) (hg : Gl X x) (ha : PA X (e :: es) t)
    (h1 : (x == ("__debug__" : Str)) = false := by decide) (h2 : starEach (e :: es) X.env = (false, eval e X.env) :: starEach es X.env := by rfl) (h3 : (backTo pos (starEach es X.env)).any (·.1) = false := by rfl) :
    PE X (.Call (.Name x p) (e :: es) [] pos) (tCallS sp (WE W) t) :=
  let ⟨_, _, _, F, hm, kp, b⟩ := c.all
  pe_callS F (hr.mono hk) hg hm kp b (fun σ => L2N.passAt tk σ) ha h1 h2 h3
/-- around a body nothing is let out -/
theorem takesN0 {X : Cx} : L2N.Takes X (fun _ _ _ _ => False) := fun _ _ x => by
  obtain ⟨_, _, _, _, _, _, _, _, _, _, _, _, _, _, _, _, z⟩ := x
  exact z.elim
/-- the suite bears the caught exception -/
theorem hot_of {X : Cx} {a : Addr} {oe : Obj} {cls : Value} {d : Option Addr} {pn : List (Addr × Obj)} (hz : L2N.Zn cls d oe) (hf : ∃ vs, oe.data = .fields vs) : L2H.HotC (X.suite a ((a, oe) :: pn)) :=
  let ⟨vs, e⟩ := hf; ⟨(a, oe), ⟨rfl, vs, e, hz.2.2 vs e⟩, List.mem_cons_self⟩
/-- a def that may be called in a suite -/
structure CalH (P : Program) (w : World) (K : PySem.W.Frag) (mg : Str → Option Value) (base : PySem.Heap) (k : Nat) (x : Str) (sp : Sp) : Prop where
  all : ∃ (f : Addr) (fd : FuncData) (ps : List Str), L2H.FnH P w K mg base CX0 k f fd ps sp ∧ mg x = some (.ref f) ∧ PySem.W.keepIn K (.ref f) = true ∧ Binds K fd ps []
theorem pe_ch {X : Cx} {j k : Nat} {x : Str} {sp : Sp} {e : Expr} {es : List Expr} {p pos : Pos} {t : TA} (c : CalH X.prog X.w X.K X.mg X.base k x sp) (hr : L2H.RoomH j X.A) (hk : k ≤ j) (hc : L2H.HotC X) (hg : Gl X x) (ha : PA X (e :: es) t)
    (h1 : (x == ("__debug__" : Str)) = false := by decide) (h2 : starEach (e :: es) X.env = (false, eval e X.env) :: starEach es X.env := by rfl) (h3 : (backTo pos (starEach es X.env)).any (·.1) = false := by rfl) :
    PE X (.Call (.Name x p) (e :: es) [] pos) (tCallS sp (fun _ _ _ _ => False) t) :=
  let ⟨_, _, _, F, hm, kp, b⟩ := c.all
  L2H.pe_callH F (hr.mono hk) hc hg hm kp b (fun _ _ _ _ _ _ _ z => z.elim) ha h1 h2 h3
/-- a def where it stands -/
structure Dn (K : PySem.W.Frag) (x qual : Str) (st : Stmt) (f : Addr) (fd : FuncData) (cd : Value) : Prop where
  ex : ∃ (oc : Value) (od an : Option Addr) (dV kV doc pm ct : Value) (osl : Array (Option Value)), fd = PySem.W.fnOf x qual (defArgs st) (defBody st) (defScope st) dV kV doc pm an cd ct ∧ K.lookup f = some ⟨oc, od, .func fd, osl⟩ ∧ PySem.W.codeIn K cd qual = true
theorem Dn.df {K : PySem.W.Frag} {x : Str} {st : Stmt} {f : Addr} {fd : FuncData} {cd : Value} (D : Dn K x x st f fd cd) : Df K x st f fd cd := by
  obtain ⟨oc, od, an, dV, kV, doc, pm, ct, osl, rfl, lk, hcd⟩ := D.ex
  exact Df.of lk hcd
section
variable {K : PySem.W.Frag} {x qual : Str} {st : Stmt} {f : Addr} {fd : FuncData} {cd : Value} {P : Program} {w : World} {mg : Str → Option Value} {base : PySem.Heap} {N ps : List Str} {k : Nat} {sp : Sp}
/-- .. that may raise -/
theorem Dn.okX (D : Dn K x qual st f fd cd) (S : FnScope N ps (defScope st)) (len : ∀ vs H Q E, sp vs H Q E → vs.length = ps.length)
    (hb : ∀ (A : Around) (outer : List Env) (s : Shared) (H : Hp) (vs : List V) (Q : VK) (E : XK), Room k (A.deeper (PyProof.Rows.envOfC qual (defScope st) s.heap.objs.size f cd)) → sp vs H Q E →
      ∃ t, PSs (cxOf (L2N.CX P w) P w K mg base N qual (defScope st) f cd A outer s H E) (defBody st) t ∧ t { nx := fun _ H' => Q .non H', rt := Q } (start N vs) H) : FnOk P w K mg base (L2N.CX P w) (k + 1) f fd ps sp := by
  obtain ⟨oc, od, an, dV, kV, doc, pm, ct, osl, rfl, lk, hcd⟩ := D.ex
  exact fn_of lk hcd S len hb
/-- .. a method's -/
theorem Dn.okM (D : Dn K x qual st f fd cd) (S : FnScope N ps (defScope st)) (len : ∀ vs H Q E, sp vs H Q E → vs.length = ps.length)
    (hb : ∀ (A : Around) (outer : List Env) (s : Shared) (H : Hp) (vs : List V) (Q : VK) (E : XK), Room k (A.deeper (PyProof.Rows.envOfC qual (defScope st) s.heap.objs.size f cd)) → sp vs H Q E →
      ∃ t, PSs (cxOf CX0 P w K mg base N qual (defScope st) f cd A outer s H E).nox (defBody st) t ∧ t { nx := fun _ H' => Q .non H', rt := Q } (start N vs) H) : FnOk P w K mg base CX0 (k + 1) f fd ps sp := by
  obtain ⟨oc, od, an, dV, kV, doc, pm, ct, osl, rfl, lk, hcd⟩ := D.ex
  exact fn_of lk hcd S len fun A outer s H vs Q E hr h => let ⟨t, h1, q⟩ := hb A outer s H vs Q E hr h; ⟨t, h1.nox, q⟩
end
/-- .. called in a suite -/
theorem Dn.okH {K : PySem.W.Frag} {x qual : Str} {st : Stmt} {f : Addr} {fd : FuncData} {cd : Value} {P : Program} {w : World} {mg : Str → Option Value} {base : PySem.Heap} {N ps : List Str} {k : Nat} {sp : Sp} (D : Dn K x qual st f fd cd) (S : FnScope N ps (defScope st)) (len : ∀ vs H Q E, sp vs H Q E → vs.length = ps.length)
    (hb : ∀ (A : Around) (outer : List Env) (s : Shared) (H : Hp) (vs : List V) (Q : VK) (E : XK) (p : Addr × Obj), L2H.Hot1 A p → L2H.RoomH k (A.deeper (PyProof.Rows.envOfC qual (defScope st) s.heap.objs.size f cd)) → sp vs H Q E →
      ∃ t, PSs (L2H.cxH CX0 P w K mg base N qual (defScope st) f cd A outer s H E p) (defBody st) t ∧ t { nx := fun _ H' => Q .non H', rt := Q } (start N vs) H) : L2H.FnH P w K mg base CX0 (k + 1) f fd ps sp := by
  obtain ⟨oc, od, an, dV, kV, doc, pm, ct, osl, rfl, lk, hcd⟩ := D.ex
  exact L2H.fn_ofH lk hcd S len hb
/-- an exception class of the module with its own __init__ that keeps sp -/
structure XcAt (P : Program) (w : World) (K : PySem.W.Frag) (mg : Str → Option Value) (base : PySem.Heap) (x : Str) (C : Addr) (k : Nat) (sp : Sp) : Prop where
  oex : OexC K C
  g : mg x = some (.ref C)
  xf : XfC K C
  ve : PySem.W.subIn K (.ref C) (.type "ValueError") = some true
  me : PySem.W.exmOne K (.ref C) (.ref C) = some true
  ini : ∃ (f : Addr) (fd : FuncData) (ps : List Str), PySem.W.findIn K (.ref C) "__init__" = some (some (.ref f)) ∧ PySem.W.typeIn K (.ref f) = some (.type "function") ∧ FnOk P w K mg base CX0 k f fd ps sp ∧ Binds K fd ps []
theorem XcAt.make {X : Cx} {x : Str} {C : Addr} {j k : Nat} {sp : Sp} {e : Expr} {es : List Expr} {ta : TA} {p pos : Pos} (c : XcAt X.prog X.w X.K X.mg X.base x C k sp) (hr : Room j X.A) (hk : k + 1 ≤ j) (hg : Gl X x) (ha : PA X (e :: es) ta)
    (hdb : (x == ("__debug__" : Str)) = false := by decide) (he : starEach (e :: es) X.env = (false, eval e X.env) :: starEach es X.env := by rfl) (hpl : (backTo pos (starEach es X.env)).any (·.1) = false := by rfl) :
    L2N.PMk X (.Call (.Name x p) (e :: es) [] pos) (tMkO C sp [] ta) :=
  let ⟨_, _, _, h1, h2, h3, h4⟩ := c.ini
  pmkN c.oex h1 h2 h3 (hr.mono hk) h4 pass0 hg c.g ha hdb he hpl
end Wc
/-! The commands of a program, as mathematics. -/
namespace Wc
open PySem L2
inductive Cmd where
  | record (to size : Nat)
  | weak (to of_ : Nat)
  | table (to : Nat)
  | copy (to of_ : Nat)
  | clear (to : Nat)
  | read (to of_ ix : Nat)
  | write (into ix of_ : Nat)
  | deref (to of_ : Nat)
  | put (at_ key wth : Nat)
  | remove (at_ key : Nat)
  | lookup (to at_ key : Nat)
  | watch (of_ tok : Nat)
  | drain
  | end_
def Cmd.kind : Cmd → Str
  | .record .. => "record"
  | .weak .. => "weak"
  | .table .. => "table"
  | .copy .. => "copy"
  | .clear .. => "clear"
  | .read .. => "read"
  | .write .. => "write"
  | .deref .. => "deref"
  | .put .. => "put"
  | .remove .. => "remove"
  | .lookup .. => "lookup"
  | .watch .. => "watch"
  | .drain => "drain"
  | .end_ => "end"
def Cmd.args : Cmd → List Nat
  | .record a b => [a, b]
  | .weak a b => [a, b]
  | .table a => [a]
  | .copy a b => [a, b]
  | .clear a => [a]
  | .read a b c => [a, b, c]
  | .write a b c => [a, b, c]
  | .deref a b => [a, b]
  | .put a b c => [a, b, c]
  | .remove a b => [a, b]
  | .lookup a b c => [a, b, c]
  | .watch a b => [a, b]
  | .drain => []
  | .end_ => []
/-- its registers are there, its numbers small -/
def Cmd.ok (n : Nat) : Cmd → Prop
  | .record to size => to < n ∧ size ≤ 1000
  | .weak to of_ => to < n ∧ of_ < n
  | .table to => to < n
  | .copy to of_ => to < n ∧ of_ < n
  | .clear to => to < n
  | .read to of_ ix => to < n ∧ of_ < n ∧ ix ≤ 1000
  | .write into ix of_ => into < n ∧ ix ≤ 1000 ∧ of_ < n
  | .deref to of_ => to < n ∧ of_ < n
  | .put a k w => a < n ∧ k < n ∧ w < n
  | .remove a k => a < n ∧ k < n
  | .lookup to a k => to < n ∧ a < n ∧ k < n
  | .watch of_ tok => of_ < n ∧ tok ≤ 999
  | .drain => True
  | .end_ => True
def Cmd.vals (c : Cmd) : List V := .str c.kind :: c.args.map fun (n : Nat) => V.int (n : Int)
def CmdAt (K : PySem.W.Frag) (H : Hp) (a : Addr) (c : Cmd) : Prop := SqT K H a c.vals
theorem CmdAt.mono {K : PySem.W.Frag} {H H' : Hp} {a : Addr} {c : Cmd} (t : Tk K H H') (h : CmdAt K H a c) : CmdAt K H' a c := t _ _ h
def reg (h : Hd) (i : Nat) : Rf := h.regs.getD i none
def obj (h : Hd) (n : Int) : Option Ob := h.obs.find? fun o => decide (o.num = n)
abbrev rEmpty : Str := "register is empty"
abbrev rField : Str := "no such field"
def wantOb (h : Hd) (r : Rf) (k : Ob → Option Str) : Option Str := match r with
  | none => some rEmpty
  | some n => match obj h n with
    | none => none
    | some o => k o
def needRec (ix : Nat) : Ob → Option Str
  | .rcd _ fs => if ix < fs.length then none else some rField
  | _ => some "not a record"
def needWeak : Ob → Option Str
  | .weak _ _ => none
  | _ => some "not a weak reference"
def needTab : Ob → Option Str
  | .tab _ _ => none
  | _ => some "not a table"
/-- why the command fails -/
def fault (h : Hd) : Cmd → Option Str
  | .weak _ of_ => if reg h of_ = none then some rEmpty else none
  | .read _ of_ ix => wantOb h (reg h of_) (needRec ix)
  | .write into ix _ => wantOb h (reg h into) (needRec ix)
  | .deref _ of_ => wantOb h (reg h of_) needWeak
  | .put a k w => if reg h a = none ∨ reg h k = none ∨ reg h w = none then some rEmpty else wantOb h (reg h a) needTab
  | .remove a k => if reg h a = none ∨ reg h k = none then some rEmpty else wantOb h (reg h a) needTab
  | .lookup _ a k => if reg h a = none ∨ reg h k = none then some rEmpty else wantOb h (reg h a) needTab
  | .watch of_ _ => if reg h of_ = none then some rEmpty else none
  | _ => none
def load (h : Hd) (to : Nat) (r : Rf) : Hd := { h with regs := h.regs.set to r }
def keepN (ks : List Int) (n : Int) : List Int := (ks.filter fun k => decide (k < n)) ++ n :: ks.filter fun k => decide (n < k)
def keep (h : Hd) : Rf → Hd
  | none => h
  | some n => { h with kept := keepN h.kept n }
def addOb (h : Hd) (o : Ob) : Hd := { h with nx := h.nx + 1, obs := h.obs ++ [o] }
def replOb (h : Hd) (o : Ob) : Hd := { h with obs := h.obs.map fun p => if p.num = o.num then o else p }
inductive Rz where
  | ref (r : Rf)
  | bl (b : Bool)
  | toks (ts : List Int)
def mkOb (h : Hd) (to : Nat) (o : Ob) (n : Int) : Hd × Rz := (load (addOb h o) to (some n), .ref (some n))
def putE (es : List (Int × Int)) (k v : Int) : List (Int × Int) := if k ∈ es.map (·.1) then es.map fun e => if e.1 = k then (k, v) else e else es ++ [(k, v)]
def findE (es : List (Int × Int)) (k : Int) : Rf := (es.find? fun e => decide (e.1 = k)).map (·.2)
/-- the object in a register -/
def obReg (h : Hd) (i : Nat) : Option Ob := (reg h i).bind (obj h)
def act (h : Hd) : Cmd → Hd × Rz
  | .record to size => mkOb h to (.rcd h.nx (List.replicate size none)) h.nx
  | .weak to of_ => mkOb (keep h (reg h of_)) to (.weak h.nx (reg h of_)) h.nx
  | .table to => mkOb h to (.tab h.nx []) h.nx
  | .copy to of_ => (load h to (reg h of_), .ref (reg h of_))
  | .clear to => (load h to none, .ref none)
  | .read to of_ ix => match obReg h of_ with
    | some (.rcd _ fs) => (load h to (fs.getD ix none), .ref (fs.getD ix none))
    | _ => (h, .ref none)
  | .write into ix of_ => match obReg h into with
    | some (.rcd n fs) => (replOb h (.rcd n (fs.set ix (reg h of_))), .ref none)
    | _ => (h, .ref none)
  | .deref to of_ => match obReg h of_ with
    | some (.weak _ t) => (load (keep h t) to t, .ref t)
    | _ => (h, .ref none)
  | .put a k w => match obReg h a, reg h k, reg h w with
    | some (.tab n es), some i, some j => (replOb h (.tab n (putE es i j)), .ref none)
    | _, _, _ => (h, .ref none)
  | .remove a k => match obReg h a, reg h k with
    | some (.tab n es), some i => (replOb h (.tab n (es.filter fun e => decide (e.1 ≠ i))), .bl (decide (i ∈ es.map (·.1))))
    | _, _ => (h, .ref none)
  | .lookup to a k => match obReg h a, reg h k with
    | some (.tab _ es), some i => (load h to (findE es i), .ref (findE es i))
    | _, _ => (h, .ref none)
  | .watch of_ tok => match reg h of_ with
    | some n => ({ h with wat := h.wat ++ [(n, (tok : Int))] }, .ref none)
    | none => (h, .ref none)
  | .drain => (h, .toks [])
  | .end_ => ({ h with kept := [] }, .ref none)
/-! ### well formed heaps stay so -/
theorem obj_mem {h : Hd} {n : Int} {o : Ob} (e : obj h n = some o) : o ∈ h.obs ∧ o.num = n := ⟨List.mem_of_find?_eq_some e, of_decide_eq_true (List.find?_some (p := fun o : Ob => decide (o.num = n)) e)⟩
theorem obj_some {h : Hd} {n : Int} (m : n ∈ h.nums) : ∃ o, obj h n = some o := by
  obtain ⟨o, ho, e⟩ := List.mem_map.mp m
  cases q : obj h n with
  | some p => exact ⟨p, rfl⟩
  | none =>
    have z := List.find?_eq_none.mp q o ho
    exact absurd (decide_eq_true e) z
theorem obj_of {h : Hd} (ok : h.Ok) {o : Ob} (m : o ∈ h.obs) : obj h o.num = some o := by
  obtain ⟨p, hp⟩ := obj_some (List.mem_map_of_mem (f := Ob.num) m)
  obtain ⟨p1, p2⟩ := obj_mem hp
  have nd : (h.obs.map Ob.num).Nodup := ok.up.imp Int.ne_of_lt
  have key : ∀ {l : List Ob}, (l.map Ob.num).Nodup → p ∈ l → o ∈ l → p = o := fun {l} => by
    induction l with
    | nil => intro _ z; simp at z
    | cons x r ih =>
      intro z y1 y2
      rw [List.map_cons] at z
      obtain ⟨z1, z2⟩ := List.nodup_cons.mp z
      rcases List.mem_cons.mp y1 with e1 | m1
      · rcases List.mem_cons.mp y2 with e2 | m2
        · rw [e1, e2]
        · exact absurd (e1 ▸ p2 ▸ List.mem_map_of_mem (f := Ob.num) m2) z1
      · rcases List.mem_cons.mp y2 with e2 | m2
        · exact absurd (e2 ▸ p2.symm ▸ List.mem_map_of_mem (f := Ob.num) m1) z1
        · exact ih z2 m1 m2
  rw [hp, key nd p1 m]
theorem reg_mem {h : Hd} {i : Nat} {n : Int} (e : reg h i = some n) : some n ∈ h.regs := by
  unfold reg at e
  rw [List.getD_eq_getElem?_getD] at e
  cases q : h.regs[i]? with
  | none => rw [q] at e; cases e
  | some r => rw [q] at e; exact List.mem_of_getElem? (q.trans (congrArg some e))
theorem reg_at {h : Hd} {i : Nat} (l : i < h.regs.length) : h.regs[i]? = some (reg h i) := by
  unfold reg
  rw [List.getD_eq_getElem?_getD, List.getElem?_eq_getElem l]; rfl
theorem reg_ok {h : Hd} (ok : h.Ok) (i : Nat) : Rf.ok h.nums (reg h i) := fun n e => ok.regs _ (reg_mem e) n rfl
theorem load_nums (h : Hd) (to : Nat) (r : Rf) : (load h to r).nums = h.nums := rfl
theorem load_ok {h : Hd} (ok : h.Ok) {to : Nat} {r : Rf} (hr : Rf.ok h.nums r) : (load h to r).Ok :=
  { ok with
    nreg := by show (h.regs.set to r).length ≤ 1000; rw [List.length_set]; exact ok.nreg
    regs := fun q hq => by
      rcases List.mem_or_eq_of_mem_set hq with z | z
      · exact ok.regs q z
      · rw [z]; exact hr
    rpos := fun z => ok.rpos (List.eq_nil_of_length_eq_zero (by rw [← List.length_set (i := to) (a := r)]; exact congrArg List.length z)) }
theorem keepN_mem {ks : List Int} {n k : Int} : k ∈ keepN ks n ↔ k ∈ ks ∨ k = n := by
  unfold keepN
  simp only [List.mem_append, List.mem_cons, List.mem_filter, decide_eq_true_eq]
  constructor
  · rintro (z | z | z)
    · exact .inl z.1
    · exact .inr z
    · exact .inl z.1
  · rintro (z | z)
    · by_cases c : k < n
      · exact .inl ⟨z, c⟩
      · by_cases c2 : k = n
        · exact .inr (.inl c2)
        · exact .inr (.inr ⟨z, by omega⟩)
    · exact .inr (.inl z)
theorem keepN_up {ks : List Int} {n : Int} (h : ks.Pairwise (· < ·)) : (keepN ks n).Pairwise (· < ·) := by
  unfold keepN
  rw [List.pairwise_append]
  refine ⟨h.sublist List.filter_sublist, ?_, fun a ha b hb => ?_⟩
  · rw [List.pairwise_cons]
    exact ⟨fun a ha => of_decide_eq_true (List.mem_filter.mp ha).2, h.sublist List.filter_sublist⟩
  · have z := of_decide_eq_true (List.mem_filter.mp ha).2
    rcases List.mem_cons.mp hb with e | e
    · rw [e]; exact z
    · have := of_decide_eq_true (List.mem_filter.mp e).2
      omega
theorem keep_nums (h : Hd) (r : Rf) : (keep h r).nums = h.nums := by cases r <;> rfl
theorem keep_ok {h : Hd} (ok : h.Ok) {r : Rf} (hr : Rf.ok h.nums r) : (keep h r).Ok := by
  cases r with
  | none => exact ok
  | some n => exact { ok with kept := fun i hi => (keepN_mem.mp hi).elim (ok.kept i) fun e => e ▸ hr n rfl, kup := keepN_up ok.kup }
theorem addOb_nums (h : Hd) (o : Ob) : (addOb h o).nums = h.nums ++ [o.num] := by
  show (h.obs ++ [o]).map Ob.num = _
  rw [List.map_append]; rfl
theorem addOb_ok {h : Hd} (ok : h.Ok) {o : Ob} (en : o.num = h.nx) (ho : o.ok (h.nums ++ [h.nx])) (hs : h.obs.length < 50) (hn : h.nx < 999) : (addOb h o).Ok := by
  have e := addOb_nums h o
  rw [en] at e
  have sub : ∀ n ∈ h.nums, n ∈ (addOb h o).nums := fun n hn => by rw [e]; exact List.mem_append_left _ hn
  have nn := ok.nxl
  exact { up := by
            rw [e, List.pairwise_append]
            exact ⟨ok.up, List.pairwise_singleton _ _, fun a ha b hb => by rw [List.mem_singleton.mp hb]; exact (ok.low a ha).2⟩
          size := by show (h.obs ++ [o]).length ≤ 50; rw [List.length_append]; exact hs
          nreg := ok.nreg
          regs := fun r hr i hi => sub i (ok.regs r hr i hi)
          obs := fun p hp => by
            rcases List.mem_append.mp (show p ∈ h.obs ++ [o] from hp) with z | z
            · exact (ok.obs p z).sub sub
            · rw [List.mem_singleton.mp z]
              rw [e]; exact ho
          kept := fun i hi => sub i (ok.kept i hi)
          wat := fun e he => sub _ (ok.wat e he)
          low := fun n hn => by
            rw [e] at hn
            show 0 ≤ n ∧ n < h.nx + 1
            rcases List.mem_append.mp hn with z | z
            · have := ok.low n z; omega
            · rw [List.mem_singleton.mp z]; omega
          nxl := by show 0 ≤ h.nx + 1 ∧ h.nx + 1 ≤ 999; omega
          kup := ok.kup
          tok := ok.tok
          nwat := ok.nwat
          rpos := ok.rpos }
theorem replOb_nums {h : Hd} {o : Ob} : (replOb h o).nums = h.nums := by
  show (h.obs.map fun p => if p.num = o.num then o else p).map Ob.num = h.obs.map Ob.num
  rw [List.map_map]
  refine List.map_congr_left fun p _ => ?_
  show (if p.num = o.num then o else p).num = p.num
  split
  · rename_i e; exact e.symm
  · rfl
theorem replOb_ok {h : Hd} (ok : h.Ok) {o : Ob} (ho : o.ok h.nums) : (replOb h o).Ok := by
  have e := replOb_nums (h := h) (o := o)
  exact { ok with
    up := by rw [e]; exact ok.up
    size := by show (h.obs.map _).length ≤ 50; rw [List.length_map]; exact ok.size
    regs := by rw [e]; exact ok.regs
    obs := fun p hp => by
      rw [e]
      obtain ⟨q, hq, rfl⟩ := List.mem_map.mp hp
      split
      · exact ho
      · exact ok.obs q hq
    kept := by rw [e]; exact ok.kept
    wat := by rw [e]; exact ok.wat
    low := by rw [e]; exact ok.low }
theorem mkOb_ok {h : Hd} (ok : h.Ok) {to : Nat} {o : Ob} (en : o.num = h.nx) (ho : o.ok (h.nums ++ [h.nx])) (hs : h.obs.length < 50) (hn : h.nx < 999) : (mkOb h to o h.nx).1.Ok :=
  load_ok (addOb_ok ok en ho hs hn) fun i e => by
    rw [addOb_nums, en, ← Option.some.inj e]
    exact List.mem_append_right _ (List.mem_singleton.mpr rfl)
theorem putE_keys {es : List (Int × Int)} {k v : Int} : (putE es k v).map (·.1) = if k ∈ es.map (·.1) then es.map (·.1) else es.map (·.1) ++ [k] := by
  unfold putE
  by_cases c : k ∈ es.map (·.1)
  · rw [if_pos c, if_pos c, List.map_map]
    refine List.map_congr_left fun e _ => ?_
    show (if e.1 = k then (k, v) else e).1 = e.1
    split
    · rename_i z; exact z.symm
    · rfl
  · rw [if_neg c, if_neg c, List.map_append]; rfl
theorem putE_nodup {es : List (Int × Int)} {k v : Int} (h : (es.map (·.1)).Nodup) : ((putE es k v).map (·.1)).Nodup := by
  rw [putE_keys]
  split
  · exact h
  · rename_i c
    rw [List.nodup_append]
    exact ⟨h, List.nodup_cons.mpr ⟨by simp, List.nodup_nil⟩, fun a ha b hb => by rw [List.mem_singleton.mp hb]; intro z; exact c (z ▸ ha)⟩
theorem putE_mem {es : List (Int × Int)} {k v : Int} {e : Int × Int} (h : e ∈ putE es k v) : e ∈ es ∨ e = (k, v) := by
  unfold putE at h
  split at h
  · obtain ⟨q, hq, z⟩ := List.mem_map.mp h
    split at z
    · exact .inr z.symm
    · exact .inl (z ▸ hq)
  · rcases List.mem_append.mp h with z | z
    · exact .inl z
    · exact .inr (List.mem_singleton.mp z)
theorem nodup_len {l m : List Int} (nd : l.Nodup) (s : ∀ x ∈ l, x ∈ m) : l.length ≤ m.length := by
  induction l generalizing m with
  | nil => exact Nat.zero_le _
  | cons x r ih =>
    obtain ⟨n1, n2⟩ := List.nodup_cons.mp nd
    have hx := s x List.mem_cons_self
    have z := ih (m := m.erase x) n2 fun y hy => (List.mem_erase_of_ne (fun e => n1 (by rw [← e]; exact hy))).mpr (s y (List.mem_cons_of_mem _ hy))
    rw [List.length_erase_of_mem hx] at z
    have := List.length_pos_of_mem hx
    rw [List.length_cons]; omega
theorem tab_len {h : Hd} (ok : h.Ok) {es : List (Int × Int)} (nd : (es.map (·.1)).Nodup) (s : ∀ e ∈ es, e.1 ∈ h.nums) : es.length ≤ 50 := by
  have z := nodup_len nd fun x hx => by obtain ⟨e, he, rfl⟩ := List.mem_map.mp hx; exact s e he
  rw [List.length_map] at z
  have : h.nums.length = h.obs.length := List.length_map _
  have := ok.size
  omega
theorem getD_ok {S : List Int} {fs : List Rf} (h : ∀ r ∈ fs, Rf.ok S r) (i : Nat) : Rf.ok S (fs.getD i none) := fun n e => by
  rw [List.getD_eq_getElem?_getD] at e
  cases q : fs[i]? with
  | none => rw [q] at e; cases e
  | some r => rw [q] at e; exact h r (List.mem_of_getElem? q) n e
theorem findE_ok {S : List Int} {es : List (Int × Int)} (h : ∀ e ∈ es, e.1 ∈ S ∧ e.2 ∈ S) (k : Int) : Rf.ok S (findE es k) := fun n e => by
  unfold findE at e
  cases q : es.find? fun e => decide (e.1 = k) with
  | none => rw [q] at e; cases e
  | some p =>
    rw [q] at e
    rw [← Option.some.inj (show some p.2 = some n from e)]
    exact (h p (List.mem_of_find?_eq_some q)).2
theorem obReg_mem {h : Hd} {i : Nat} {o : Ob} (e : obReg h i = some o) : o ∈ h.obs ∧ reg h i = some o.num := by
  unfold obReg at e
  cases q : reg h i with
  | none => rw [q] at e; cases e
  | some n =>
    rw [q] at e
    obtain ⟨e1, e2⟩ := obj_mem (show obj h n = some o from e)
    exact ⟨e1, by rw [e2]⟩
structure Grow (h h' : Hd) : Prop where
  obs : h'.obs.length ≤ h.obs.length + 1
  wat : h'.wat.length ≤ h.wat.length + 1
  nx : h'.nx ≤ h.nx + 1
  regs : h'.regs.length = h.regs.length
theorem Grow.same (h : Hd) : Grow h h := ⟨Nat.le_succ _, Nat.le_succ _, by omega, rfl⟩
theorem Grow.load {h h' : Hd} (g : Grow h h') (to : Nat) (r : Rf) : Grow h (load h' to r) := ⟨g.obs, g.wat, g.nx, by show (h'.regs.set to r).length = _; rw [List.length_set]; exact g.regs⟩
theorem Grow.keep {h h' : Hd} (g : Grow h h') (r : Rf) : Grow h (keep h' r) := by cases r with
  | none => exact g
  | some n => exact ⟨g.obs, g.wat, g.nx, g.regs⟩
theorem Grow.made {h h' : Hd} (to : Nat) (o : Ob) (n : Int) (e1 : h'.obs = h.obs) (e2 : h'.wat = h.wat) (e3 : h'.nx = h.nx) (e4 : h'.regs = h.regs) : Grow h (mkOb h' to o n).1 :=
  Grow.load ⟨by show (h'.obs ++ [o]).length ≤ _; rw [List.length_append, e1]; exact Nat.le_refl _, by show h'.wat.length ≤ _; rw [e2]; omega, by show h'.nx + 1 ≤ _; omega, by show h'.regs.length = _; rw [e4]⟩ to _
theorem Grow.repl (h : Hd) (o : Ob) : Grow h (replOb h o) := ⟨by show (h.obs.map _).length ≤ _; rw [List.length_map]; omega, Nat.le_succ _, by show h.nx ≤ _; omega, rfl⟩
theorem keep_obs (h : Hd) (r : Rf) : (keep h r).obs = h.obs := by cases r <;> rfl
theorem keep_wat (h : Hd) (r : Rf) : (keep h r).wat = h.wat := by cases r <;> rfl
theorem keep_nx (h : Hd) (r : Rf) : (keep h r).nx = h.nx := by cases r <;> rfl
theorem keep_regs (h : Hd) (r : Rf) : (keep h r).regs = h.regs := by cases r <;> rfl
theorem act_grow (h : Hd) (c : Cmd) : Grow h (act h c).1 := by
  cases c with
  | record to size => exact Grow.made _ _ _ rfl rfl rfl rfl
  | weak to of_ => exact Grow.made _ _ _ (keep_obs _ _) (keep_wat _ _) (keep_nx _ _) (keep_regs _ _)
  | table to => exact Grow.made _ _ _ rfl rfl rfl rfl
  | copy to of_ => exact (Grow.same h).load _ _
  | clear to => exact (Grow.same h).load _ _
  | read to of_ ix => simp only [act]; split; exact (Grow.same h).load _ _; exact Grow.same h
  | write into ix of_ => simp only [act]; split; exact Grow.repl h _; exact Grow.same h
  | deref to of_ => simp only [act]; split; exact ((Grow.same h).keep _).load _ _; exact Grow.same h
  | put a k w => simp only [act]; split; exact Grow.repl h _; exact Grow.same h
  | remove a k => simp only [act]; split; exact Grow.repl h _; exact Grow.same h
  | lookup to a k => simp only [act]; split; exact (Grow.same h).load _ _; exact Grow.same h
  | watch of_ tok =>
    simp only [act]
    split
    · exact ⟨Nat.le_succ _, by show (h.wat ++ [_]).length ≤ _; rw [List.length_append]; exact Nat.le_refl _, by show h.nx ≤ _; omega, rfl⟩
    · exact Grow.same h
  | drain => exact Grow.same h
  | end_ => exact ⟨Nat.le_succ _, Nat.le_succ _, by show h.nx ≤ _; omega, rfl⟩
theorem act_ok {h : Hd} (ok : h.Ok) {c : Cmd} (hc : c.ok h.regs.length) (hs : h.obs.length < 50) (hw : h.wat.length < 50) (hn : h.nx < 999) : (act h c).1.Ok := by
  have sub : ∀ n ∈ h.nums, n ∈ h.nums ++ [h.nx] := fun n z => List.mem_append_left _ z
  cases c with
  | record to size => exact mkOb_ok ok rfl ⟨by rw [List.length_replicate]; exact hc.2, fun r hr i e => by rw [(List.mem_replicate.mp hr).2] at e; cases e⟩ hs hn
  | weak to of_ =>
    have z := keep_ok ok (reg_ok ok of_)
    have e1 := keep_nx h (reg h of_)
    have := mkOb_ok (to := to) z (o := .weak h.nx (reg h of_)) e1.symm (fun i e => by rw [keep_nums]; exact List.mem_append_left _ (reg_ok ok of_ i e)) (by rw [keep_obs]; exact hs) (by rw [e1]; exact hn)
    rw [e1] at this
    exact this
  | table to => exact mkOb_ok ok rfl ⟨Nat.zero_le _, List.nodup_nil, fun e he => by simp at he⟩ hs hn
  | copy to of_ => exact load_ok ok (reg_ok ok of_)
  | clear to => exact load_ok ok fun i e => by cases e
  | read to of_ ix =>
    simp only [act]; split
    · rename_i n fs e
      exact load_ok ok (getD_ok (ok.obs _ (obReg_mem e).1).2 ix)
    · exact ok
  | write into ix of_ =>
    simp only [act]; split
    · rename_i n fs e
      have z := ok.obs _ (obReg_mem e).1
      exact replOb_ok ok ⟨by rw [List.length_set]; exact z.1, fun r hr => (List.mem_or_eq_of_mem_set hr).elim (z.2 r) fun e => e ▸ reg_ok ok of_⟩
    · exact ok
  | deref to of_ =>
    simp only [act]; split
    · rename_i n t e
      have z : Rf.ok h.nums t := ok.obs _ (obReg_mem e).1
      exact load_ok (keep_ok ok z) (by rw [keep_nums]; exact z)
    · exact ok
  | put a k w =>
    simp only [act]; split
    · rename_i n es i j e1 e2 e3
      have z := ok.obs _ (obReg_mem e1).1
      have m : ∀ e ∈ putE es i j, e.1 ∈ h.nums ∧ e.2 ∈ h.nums := fun e he => (putE_mem he).elim (z.2.2 e) fun q => by rw [q]; exact ⟨reg_ok ok k i e2, reg_ok ok w j e3⟩
      have nd := putE_nodup (k := i) (v := j) z.2.1
      exact replOb_ok ok ⟨Nat.le_trans (tab_len ok nd fun e he => (m e he).1) (by decide), nd, m⟩
    · exact ok
  | remove a k =>
    simp only [act]; split
    · rename_i n es i e1 e2
      have z := ok.obs _ (obReg_mem e1).1
      exact replOb_ok ok ⟨Nat.le_trans (List.length_filter_le _ _) z.1, (List.Sublist.map _ List.filter_sublist).nodup z.2.1, fun e he => z.2.2 e (List.mem_filter.mp he).1⟩
    · exact ok
  | lookup to a k =>
    simp only [act]; split
    · rename_i n es i e1 e2
      exact load_ok ok (findE_ok (ok.obs _ (obReg_mem e1).1).2.2 i)
    · exact ok
  | watch of_ tok =>
    simp only [act]; split
    · rename_i n e
      exact { ok with
        wat := fun e' he => by
          rcases List.mem_append.mp (show e' ∈ h.wat ++ [_] from he) with z | z
          · exact ok.wat e' z
          · rw [List.mem_singleton.mp z]; exact reg_ok ok of_ n e
        tok := fun e' he => by
          rcases List.mem_append.mp (show e' ∈ h.wat ++ [_] from he) with z | z
          · exact ok.tok e' z
          · rw [List.mem_singleton.mp z]; have := hc.2; show 0 ≤ (tok : Int) ∧ (tok : Int) ≤ 999; omega
        nwat := by show (h.wat ++ [_]).length ≤ 50; rw [List.length_append]; exact hw }
    · exact ok
  | drain => exact ok
  | end_ => exact { ok with kept := fun i hi => by simp [act] at hi, kup := List.Pairwise.nil }
end Wc
/-! Two heaps on which all commands have the same results: they are alike in what can come into a register. -/
namespace Wc
open PySem L2
def Rin (S : Int → Prop) (r : Rf) : Prop := ∀ i, r = some i → S i
/-- alike for objects of S -/
inductive OSim (S : Int → Prop) : Ob → Ob → Prop where
  | rcd (n : Int) (fs : List Rf) (h : ∀ r ∈ fs, Rin S r) : OSim S (.rcd n fs) (.rcd n fs)
  | weak (n : Int) (t : Rf) (h : Rin S t) : OSim S (.weak n t) (.weak n t)
  | tab (n : Int) (es es' : List (Int × Int)) (h : ∀ k, S k → findE es k = findE es' k ∧ Rin S (findE es k)) : OSim S (.tab n es) (.tab n es')
structure HSim (S : Int → Prop) (h h' : Hd) : Prop where
  regs : h.regs = h'.regs
  nx : h.nx = h'.nx
  rin : ∀ r ∈ h.regs, Rin S r
  obs : ∀ n, S n → ∃ o o', obj h n = some o ∧ obj h' n = some o' ∧ OSim S o o'
theorem OSim.num {S : Int → Prop} {o o' : Ob} (x : OSim S o o') : o.num = o'.num := by cases x <;> rfl
theorem findE_mem {es : List (Int × Int)} {k : Int} : k ∈ es.map (·.1) ↔ findE es k ≠ none := by
  unfold findE
  cases q : es.find? fun e => decide (e.1 = k) with
  | none =>
    refine ⟨fun m => ?_, fun z => absurd rfl z⟩
    obtain ⟨e, he, rfl⟩ := List.mem_map.mp m
    exact absurd (decide_eq_true rfl) (List.find?_eq_none.mp q e he)
  | some e =>
    refine ⟨fun _ z => (nomatch z), fun _ => ?_⟩
    have z := List.find?_some (p := fun e : Int × Int => decide (e.1 = k)) q
    rw [← of_decide_eq_true z]
    exact List.mem_map_of_mem (List.mem_of_find?_eq_some q)
theorem findE_put {es : List (Int × Int)} {i j k : Int} : findE (putE es i j) k = if k = i then some j else findE es k := by
  have key : ∀ l : List (Int × Int), findE (l.map fun e => if e.1 = i then (i, j) else e) k = if k = i then (if i ∈ l.map (·.1) then some j else none) else findE l k := fun l => by
    induction l with
    | nil => by_cases c : k = i <;> simp [findE, c]
    | cons e r ih =>
      unfold findE at ih ⊢
      rw [List.map_cons, List.find?_cons, List.find?_cons]
      by_cases c : k = i
      · subst c
        simp only [if_pos rfl] at ih ⊢
        by_cases d : e.1 = k
        · rw [if_pos d, decide_eq_true rfl]
          simp [d]
        · rw [if_neg d, decide_eq_false d]
          simp only [] at ih ⊢
          rw [ih, if_pos trivial, List.map_cons]
          have z : (k ∈ e.1 :: r.map (·.1)) ↔ k ∈ r.map (·.1) := by rw [List.mem_cons]; exact ⟨fun y => y.resolve_left (Ne.symm d), .inr⟩
          by_cases m : k ∈ r.map (·.1)
          · rw [if_pos m, if_pos (z.mpr m), if_pos trivial]
          · rw [if_neg m, if_neg (fun y => m (z.mp y)), if_pos trivial]
      · simp only [if_neg c] at ih ⊢
        by_cases d : e.1 = i
        · rw [if_pos d, decide_eq_false (Ne.symm c), decide_eq_false (fun z => c (z.symm.trans d))]
          exact ih
        · rw [if_neg d]
          cases decide (e.1 = k)
          · exact ih
          · rfl
  unfold putE
  by_cases m : i ∈ es.map (·.1)
  · rw [if_pos m, key, if_pos m]
  · rw [if_neg m]
    unfold findE
    rw [List.find?_append]
    by_cases c : k = i
    · subst c
      have z : es.find? (fun e => decide (e.1 = k)) = none := List.find?_eq_none.mpr fun e he y => m (of_decide_eq_true y ▸ List.mem_map_of_mem he)
      rw [z, if_pos rfl]
      simp
    · rw [if_neg c]
      cases q : es.find? (fun e => decide (e.1 = k)) with
      | some e => rfl
      | none => simp [Ne.symm c]
theorem findE_rem {es : List (Int × Int)} {i k : Int} : findE (es.filter fun e => decide (e.1 ≠ i)) k = if k = i then none else findE es k := by
  unfold findE
  induction es with
  | nil => simp
  | cons e r ih =>
    rw [List.filter_cons, List.find?_cons]
    by_cases d : e.1 = i
    · rw [if_neg (by simp [d]), ih]
      by_cases c : k = i
      · rw [if_pos c, if_pos c]
      · rw [if_neg c, if_neg c, decide_eq_false (fun z => c (z.symm.trans d))]
    · rw [if_pos (by simp [d]), List.find?_cons]
      by_cases c : k = i
      · rw [if_pos c, decide_eq_false (fun z => d (z.trans c))]
        rw [if_pos c] at ih
        exact ih
      · rw [if_neg c] at ih ⊢
        cases decide (e.1 = k)
        · exact ih
        · rfl
theorem obj_add {h : Hd} {o : Ob} {n : Int} (hn : n ≠ o.num) : obj (addOb h o) n = obj h n := by
  unfold obj addOb
  show List.find? _ (h.obs ++ [o]) = _
  rw [List.find?_append]
  cases q : h.obs.find? fun o => decide (o.num = n) with
  | some e => rfl
  | none => simp [Ne.symm hn]
theorem obj_new {h : Hd} (ok : h.Ok) {o : Ob} (e : o.num = h.nx) : obj (addOb h o) h.nx = some o := by
  unfold obj addOb
  show List.find? _ (h.obs ++ [o]) = _
  rw [List.find?_append]
  have z : h.obs.find? (fun o => decide (o.num = h.nx)) = none := List.find?_eq_none.mpr fun x hx y => by
    have := (ok.low x.num (List.mem_map_of_mem hx)).2
    have := of_decide_eq_true y
    omega
  rw [z]
  simp [e]
theorem obj_repl {h : Hd} {o o1 : Ob} {n : Int} (e : obj h n = some o1) : obj (replOb h o) n = some (if n = o.num then o else o1) := by
  unfold obj replOb at *
  show List.find? _ (h.obs.map _) = _
  generalize h.obs = l at e ⊢
  induction l with
  | nil => cases e
  | cons p r ih =>
    rw [List.find?_cons] at e
    rw [List.map_cons, List.find?_cons]
    by_cases c : p.num = n
    · rw [decide_eq_true c] at e
      obtain rfl := Option.some.inj e
      subst c
      by_cases d : p.num = o.num
      · rw [if_pos d, decide_eq_true d.symm]
      · rw [if_neg d, decide_eq_true rfl]
    · rw [decide_eq_false c] at e
      have z : decide ((if p.num = o.num then o else p).num = n) = false := decide_eq_false fun y => by
        by_cases d : p.num = o.num
        · rw [if_pos d] at y; exact c (d.trans y)
        · rw [if_neg d] at y; exact c y
      rw [z]
      exact ih e
section
variable {S : Int → Prop} {h h' : Hd}
theorem HSim.reg (x : HSim S h h') (i : Nat) : Wc.reg h i = Wc.reg h' i ∧ Rin S (Wc.reg h i) := by
  refine ⟨by unfold Wc.reg; rw [x.regs], fun n e => x.rin _ (reg_mem e) n rfl⟩
theorem HSim.obReg (x : HSim S h h') (i : Nat) : (Wc.reg h i = none ∧ Wc.obReg h i = none ∧ Wc.obReg h' i = none) ∨ ∃ o o', Wc.reg h i = some o.num ∧ S o.num ∧ Wc.obReg h i = some o ∧ Wc.obReg h' i = some o' ∧ OSim S o o' := by
  obtain ⟨e, r⟩ := x.reg i
  unfold Wc.obReg
  rw [← e]
  cases q : Wc.reg h i with
  | none => exact .inl ⟨rfl, rfl, rfl⟩
  | some n =>
    obtain ⟨o, o', h1, h2, h3⟩ := x.obs n (r n q)
    have z := (obj_mem h1).2
    exact .inr ⟨o, o', by rw [z], by rw [z]; exact r n q, h1, h2, h3⟩
theorem HSim.want (x : HSim S h h') {k : Ob → Option Str} (hk : ∀ o o', OSim S o o' → k o = k o') (i : Nat) : wantOb h (Wc.reg h i) k = wantOb h' (Wc.reg h' i) k := by
  obtain ⟨e, r⟩ := x.reg i
  rw [← e]
  cases q : Wc.reg h i with
  | none => rfl
  | some n =>
    obtain ⟨o, o', h1, h2, h3⟩ := x.obs n (r n q)
    simp only [wantOb, h1, h2]
    exact hk o o' h3
theorem HSim.fault (x : HSim S h h') (c : Cmd) : Wc.fault h c = Wc.fault h' c := by
  have f1 : ∀ ix, ∀ o o', OSim S o o' → needRec ix o = needRec ix o' := fun ix o o' z => by cases z <;> rfl
  have f2 : ∀ o o', OSim S o o' → needWeak o = needWeak o' := fun o o' z => by cases z <;> rfl
  have f3 : ∀ o o', OSim S o o' → needTab o = needTab o' := fun o o' z => by cases z <;> rfl
  cases c <;> simp only [Wc.fault, ← (x.reg _).1] <;> first | exact (by rw [x.want (f1 _), (x.reg _).1]) | exact (by rw [x.want f2, (x.reg _).1]) | exact (by rw [x.want f3, (x.reg _).1]) | rfl
theorem HSim.load (x : HSim S h h') {to : Nat} {r : Rf} (hr : Rin S r) : HSim S (Wc.load h to r) (Wc.load h' to r) := by
  refine ⟨by show h.regs.set to r = h'.regs.set to r; rw [x.regs], x.nx, fun q m => ?_, x.obs⟩
  rcases List.mem_or_eq_of_mem_set (show q ∈ h.regs.set to r from m) with z | rfl
  · exact x.rin q z
  · exact hr
theorem HSim.core {g g' : Hd} (x : HSim S h h') (r : g.regs = h.regs) (r' : g'.regs = h'.regs) (n : g.nx = h.nx) (n' : g'.nx = h'.nx) (o : g.obs = h.obs) (o' : g'.obs = h'.obs) : HSim S g g' := by
  refine ⟨by rw [r, r', x.regs], by rw [n, n', x.nx], by rw [r]; exact x.rin, fun m hm => ?_⟩
  unfold obj
  rw [o, o']
  exact x.obs m hm
theorem HSim.keep (x : HSim S h h') (r r' : Rf) : HSim S (Wc.keep h r) (Wc.keep h' r') := x.core (keep_regs _ _) (keep_regs _ _) (keep_nx _ _) (keep_nx _ _) (keep_obs _ _) (keep_obs _ _)
theorem HSim.repl (x : HSim S h h') {o o' : Ob} (ho : OSim S o o') : HSim S (replOb h o) (replOb h' o') := by
  refine ⟨x.regs, x.nx, x.rin, fun n hn => ?_⟩
  obtain ⟨p, p', h1, h2, h3⟩ := x.obs n hn
  refine ⟨_, _, obj_repl h1, obj_repl h2, ?_⟩
  rw [← ho.num]
  by_cases c : n = o.num
  · rw [if_pos c, if_pos c]; exact ho
  · rw [if_neg c, if_neg c]; exact h3
theorem findE_low {h : Hd} (ok : h.Ok) {n : Int} {es : List (Int × Int)} (m : Ob.tab n es ∈ h.obs) : findE es h.nx = none := by
  refine Classical.byContradiction fun c => ?_
  obtain ⟨e, he, z⟩ := List.mem_map.mp (findE_mem.mpr c)
  have := (ok.low _ ((ok.obs _ m).2.2 e he).1).2
  omega
theorem HSim.add (x : HSim S h h') (ok : h.Ok) (ok' : h'.Ok) {o : Ob} (e : o.num = h.nx) (ho : OSim (fun n => S n ∨ n = h.nx) o o) : HSim (fun n => S n ∨ n = h.nx) (addOb h o) (addOb h' o) := by
  have rm : ∀ {r}, Rin S r → Rin (fun n => S n ∨ n = h.nx) r := fun z i y => .inl (z i y)
  refine ⟨x.regs, by show h.nx + 1 = h'.nx + 1; rw [x.nx], fun r m => rm (x.rin r m), fun n hn => ?_⟩
  by_cases c : n = h.nx
  · subst c
    exact ⟨o, o, obj_new ok e, by rw [x.nx]; exact obj_new ok' (e.trans x.nx), ho⟩
  · obtain ⟨p, p', h1, h2, h3⟩ := x.obs n (hn.resolve_right c)
    refine ⟨p, p', by rw [obj_add (by rw [e]; exact c)]; exact h1, by rw [obj_add (by rw [e]; exact c)]; exact h2, ?_⟩
    cases h3 with
    | rcd n fs z => exact .rcd n fs fun r m => rm (z r m)
    | weak n t z => exact .weak n t (rm z)
    | tab n es es' z =>
      refine .tab n es es' fun k hk => ?_
      rcases hk with hk | rfl
      · exact ⟨(z k hk).1, rm (z k hk).2⟩
      · rw [findE_low ok (obj_mem h1).1]
        refine ⟨?_, fun i y => nomatch y⟩
        rw [x.nx, findE_low ok' (obj_mem h2).1]
end
end Wc
/-! The law's def where it is called: nothing is being shown there (repr). -/
namespace L2
open PySem PySem.Spec PyProof.Rows
/-- a promise of a def that is called by the row itself -/
def FnAt (P : Program) (w : World) (K : PySem.W.Frag) (mg : Str → Option Value) (base : Heap) (CX : CXT) (f : Addr) (fd : FuncData) (ps : List Str) (sp : Sp) : Prop :=
  ∀ (s : Shared) (H : Hp) (args : Args) (us : List Value) (vs : List V) (Q : VK) (E : XK), Env0 P w K mg base callerA [] s H → BindsTo s fd args (ps.zip us) → Vals vs us → sp vs H Q E →
    codeAny (model P w) callerA (.call (.ref f) args) (CR CX [] P w H s Q E) s
section
variable {CX : CXT} {P : Program} {w : World} {K : PySem.W.Frag} {mg : Str → Option Value} {base : Heap} {k : Nat} {f : Addr}
theorem fnAt_of {name qual : Str} {params : Arguments} {body : List Stmt} {sco : Scope} {dV kV doc pm cd ct oc : Value} {an od : Option Addr} {osl : Array (Option Value)} {N ps : List Str} {sp : Sp}
    (lk : K.lookup f = some ⟨oc, od, .func (PySem.W.fnOf name qual params body sco dV kV doc pm an cd ct), osl⟩) (hcd : PySem.W.codeIn K cd qual = true) (S : FnScope N ps sco) (len : ∀ vs H Q E, sp vs H Q E → vs.length = ps.length) (hr : Room (k + 1) callerA)
    (hbody : ∀ (s : Shared) (H : Hp) (vs : List V) (Q : VK) (E : XK), Room k (callerA.deeper (envOfC qual sco s.heap.objs.size f cd)) → sp vs H Q E →
      ∃ t, PSs (cxOf CX P w K mg base N qual sco f cd callerA [] s H E) body t ∧ t { nx := fun _ H' => Q .non H', rt := Q } (start N vs) H) :
    FnAt P w K mg base CX f (PySem.W.fnOf name qual params body sco dV kV doc pm an cd ct) ps sp := fun s H args us vs Q E e0 hb r hsp => by
  have kin : K.In s.heap := e0.mod.kin.keeps fun b o e => (e0.bs b o e).1
  have nol : s.heap.NoLimit := e0.mod.nolimit.keeps fun b o e => (e0.bs b o e).1
  have par : ∀ y ∈ ps.zip us, sco.names.lookup y.1 = some .local ∨ (sco.names.lookup y.1 = some .cell ∧ ((cellsFrom (s.heap.objs.size + 1) sco.names []).lookup y.1).isSome = true) := fun ⟨n, v⟩ hy =>
    (S.par n (List.of_mem_zip hy).1).elim .inl fun q => .inr ⟨q, PySem.W.cellsFrom_some _ _ _ (.inl q)⟩
  refine codeAny_call_function hr.depth (kin _ _ lk) rfl S.co S.gen rfl (PySem.W.codeRec_of kin hcd) (hb _ _ _ _ (wpAny_newFunctionEnv_cells S.kind par fun env he s1 x => ?_)); subst he
  obtain ⟨t, ht, hq⟩ := hbody s H vs Q E (hr.deeper _) hsp
  refine ⟨nol.keeps x.toInCall.keep, codeAny_func (wpAny_mono (ht.run [] s1 (start N vs) H _ (inv_start S hr.hd e0 (len _ _ _ _ hsp) r x) hq) (fun fl s' hs => ?_) fun e s' hs => hs)⟩
  have fin : ∀ {σ' : St} {H' : Hp} {v : V} {u : Value}, Inv (cxOf CX P w K mg base N qual sco f cd callerA [] s H E) [] σ' H' s' → RelV v u → Q v H' → CE [] P w H s Q u s' := fun {σ' H' v u} J rv q => ⟨v, H', J.os, J.bare, J.base, J.hok, rv, q⟩
  cases fl with
  | ret u => exact let ⟨v, σ', H', J, rv, q⟩ := hs; fin J rv q
  | next => exact let ⟨σ', H', J, q⟩ := hs; fin (v := V.non) (u := Value.none) J rfl q
  | brk => exact let ⟨_, _, _, q⟩ := hs; False.elim q
  | cont => exact let ⟨_, _, _, q⟩ := hs; False.elim q
theorem callG {mb : Str → Option Value} {fa a : Addr} {fd : FuncData} {x : Str} {sp : Sp} {s₁ : Shared} {vs : List Value} {ns : List Int} (KX : K.In s₁.heap) (hns : s₁.heap.Ns mainGlobals mg) (hb : s₁.heap.Ns builtinsNs mb)
    (hbb : ∀ x : Str, x ≠ "__name__" → mb x = bootBuiltins x) (hlim : s₁.heap.NoLimit) (hg : s₁.gens = #[]) (ha : s₁.heap.get? a = some { cls := .type "list", data := .seq vs.toArray }) (hi : IntsAre vs ns) (hl : ns.length ≤ sizeLine)
    (F : ∀ base : Heap, K.In base → base.Ns mainGlobals mg → FnAt P w K mg base CX fa fd [x] sp) (hbind : ∀ (s : Shared) (u : Value), BindsTo s fd ⟨[u], []⟩ [(x, u)])
    (hsp : ∀ H : Hp, Only H → SqL K H a (ns.map V.int) → sp [.ref a] H (fun v _ => v = .bl true) fun _ _ _ => False) (hCX : ∀ H e s', CX [] H s₁ (fun _ _ _ => False) e s' → False) :
    codeAny (model P w) callerA (.call (.ref fa) ⟨[.ref a], []⟩) (fun r s' => r = .ok (.ret (.bool true)) ∧ OldK s₁.heap s'.heap ∧ s'.os = s₁.os ∧ AllBare s'.gens) s₁ := by
  have main : ∀ H : Hp, Only H → SqL K H a (ns.map V.int) → HOk P w H s₁.heap → (∀ b, H b ≠ none → b = a) → (H a ≠ none → K.lookup a = none) →
      codeAny (model P w) callerA (.call (.ref fa) ⟨[.ref a], []⟩) (fun r s' => r = .ok (.ret (.bool true)) ∧ OldK s₁.heap s'.heap ∧ s'.os = s₁.os ∧ AllBare s'.gens) s₁ := fun H hO hS hok hA hK => by
    have free : ∀ {b : Addr}, (b = a → False) → H b = none := fun {b} n => by
      cases q : H b with
      | none => rfl
      | some u => exact (n (hA b (by rw [q]; simp))).elim
    have dic : ∀ {b : Addr} {o : Obj} {es : Array DictEntry} {ep : Nat}, s₁.heap.get? b = some o → o.data = .dict es ep → H b = none := fun {b o es ep} e d => free fun z => by
      subst z; rw [ha] at e; cases e; cases (show Data.seq vs.toArray _ = Data.dict es ep from d)
    have nsH : ∀ {b : Addr} {m : Str → Option Value}, s₁.heap.Ns b m → (hidT s₁.heap H).Ns b m := fun {b m} ⟨o, es, ep, e, d, r⟩ => ⟨o, es, ep, hidT_get e (dic e d), d, r⟩
    have inH : K.In (hidT s₁.heap H) := fun b o e => hidT_get (KX b o e) (by
      cases q : H b with
      | none => rfl
      | some u =>
        have z := hA b (by rw [q]; simp)
        subst z; rw [hK (by rw [q]; simp)] at e; cases e)
    have md : Mod K mg (hidT s₁.heap H) := ⟨inH, nsH hns, ⟨mb, nsH hb, hbb⟩, let ⟨mc, h1, h2⟩ := hlim; ⟨mc, nsH h1, h2⟩⟩
    have e0 : Env0 P w K mg (hidT s₁.heap H) callerA [] s₁ H := ⟨rfl, md, fun b o e => of_hidT e, Nat.le_of_eq (hidT_size _ _), trivial, (fun b z => nomatch (show b ∈ ([] : List Addr) from z)), hok, .of_eq hg⟩
    refine codeAny_mono (F _ inH (nsH hns) s₁ H ⟨[.ref a], []⟩ [.ref a] [.ref a] _ _ e0 (hbind s₁ (.ref a)) (.cons rfl .nil) (hsp H hO hS)) fun r s' h => ?_
    match r, h with
    | .error e, h => exact (hCX H e s' h).elim
    | .ok (.ret u), h =>
      obtain ⟨v, H', os, bare, un, hok', rv, rfl⟩ := h
      obtain rfl : u = Value.bool true := rv
      refine ⟨rfl, OldK.of_keep fun b o e => ?_, os, bare⟩
      cases q : H b with
      | none => exact un.keep b o e q (fun z => nomatch (show b ∈ ([] : List Addr) from z)) (by simp)
      | some u =>
        rcases hO b with z | ⟨ob, xs, z⟩
        · rw [q] at z; cases z
        · obtain ⟨y1, _⟩ := hok b _ z; obtain ⟨y2, _⟩ := hok' b _ (un.frzs b ob _ z)
          rw [e] at y1; cases y1; exact y2
  cases hk : K.lookup a with
  | some o =>
    have e := KX a o hk
    rw [ha] at e; cases e
    exact main (fun _ => none) (fun _ => .inl rfl) (.inr ⟨_, vs.toArray, _, hk, rfl, rfl, rfl, by rw [List.size_toArray, hi.length]; exact hl, by simpa using vals_ints hi⟩) (fun b u z => nomatch (show (none : Option HO) = some u from z)) (fun b z => absurd rfl z) fun z => absurd rfl z
  | none =>
    have at_ : ∀ b, (fun b => if b = a then some (HO.frz { cls := .type "list", data := .seq vs.toArray } (.lst (ns.map V.int))) else none) b = none ∨ b = a := fun b => if c : b = a then .inr c else .inl (if_neg c)
    refine main (fun b => if b = a then some (.frz { cls := .type "list", data := .seq vs.toArray } (.lst (ns.map V.int))) else none) (fun b => (at_ b).elim .inl fun c => .inr ⟨_, _, if_pos c⟩) (.inl (.inr ⟨_, if_pos rfl⟩)) (fun b u z => ?_) (fun b z => (at_ b).elim (fun y => absurd y z) id) fun _ => hk
    rcases at_ b with y | c
    · rw [y] at z; cases z
    · subst c
      cases (if_pos rfl).symm.trans z
      exact ⟨ha, by rw [List.length_map]; exact hl, vs, _, vals_ints hi, ha⟩
end
theorem walkG {l : PySem.W.OpenLaw} {n : Nat} {q : Program} {loose : List Str} {XP : (Str → Option Value) → Heap → Prop} {YP : World → Heap → Prop} {d : DefRec} {K : Params → PySem.W.Frag} {CX : CXT} {sp : PySem.W.Frag → Sp} {x : Str} (hn : l.most = some n) (hn2 : n ≤ sizeLine)
    (hdf : d.params.defaults = []) (hY : ∀ (w : World) (h : Heap), YP w h → (K w.params).In h)
    (F : ∀ (w : World) (mg : Str → Option Value) (fa : Addr) (h : Heap), (K w.params).In h → h.Ns mainGlobals mg → mg d.name = some (.ref fa) →
      ∃ fd : FuncData, (∀ (s : Shared) (u : Value), BindsTo s fd ⟨[u], []⟩ [(x, u)]) ∧ ∀ base : Heap, (K w.params).In base → base.Ns mainGlobals mg → FnAt l.prog w (K w.params) mg base CX fa fd [x] (sp (K w.params)))
    (hsp : ∀ (K : PySem.W.Frag) (H : Hp) (a : Addr) (ns : List Int), ns.length ≤ n → Only H → SqL K H a (ns.map V.int) → sp K [.ref a] H (fun v _ => v = .bl true) fun _ _ _ => False)
    (hCX : ∀ (H : Hp) (s : Shared) (e : Value) (s' : Shared), CX [] H s (fun _ _ _ => False) e s' → False) : PySem.W.WalkO q loose XP YP l.row.toRowW d [] (fun f vs => PySem.call f vs) := by
  refine Att.attach_call hn hdf fun w s₀ s₁ mg mb fa o pm cd doc a vs ns G Y ho hd hcd hmg hobj hints hlen hg => ?_
  obtain ⟨fd, hb, hF⟩ := F w mg fa _ (hY w _ Y) G.T.g hmg
  exact callG (hY w _ Y) G.T.g G.T.b G.T.builtins G.T.nolimit hg hobj hints (Nat.le_trans hlen hn2) hF hb (fun H hO hS => hsp _ H a ns hlen hO hS) fun H e s' => hCX H s₁ e s'
/-- repr of data, where nothing is being shown -/
def rRepr (X : Cx) : List V → Hp → VK → Prop := fun xs H Q => ∃ (a : Addr) (d : PyData), xs = [.ref a] ∧ Dp X.K H (.ref a) d ∧ d.showable = true ∧ d.hasDict = false ∧ d.shown.length ≤ sizeLine ∧ X.A.units + (d.depth + 1) < cLine ∧ Q (.str d.shown) H
theorem call_repr {X : Cx} (hg : X.A.guards = some []) : CallR X (.builtin "repr") (rRepr X) := by
  intro pins s σ H xs us Q I r h
  obtain ⟨a, d, rfl, hd, h1, h2, h3, h4, q⟩ := h
  rw [Vals.ref1 r]
  obtain ⟨as, rd⟩ := Dp.reads I d (.ref a) (.ref a) hd rfl
  exact repr_of_reads' rd h1 (PyData.noDict_hsm h2) hg h4 (fun _ _ e => e) (fun h' u tk hk => ⟨.str d.shown, H, I.kept (t' := tk) hk, ⟨u, rfl⟩, q⟩) h3
end L2
namespace Wc
open PySem L2
/-- a def where it stands, called by the row itself -/
structure DfG (K : PySem.W.Frag) (x : Str) (st : Stmt) (f : Addr) (fd : FuncData) (cd : Value) : Prop where
  ok : ∀ {P : Program} {w : World} {mg : Str → Option Value} {base : PySem.Heap} {N ps : List Str} {k : Nat} {sp : Sp}, Room (k + 1) callerA → FnScope N ps (defScope st) → (∀ vs H Q E, sp vs H Q E → vs.length = ps.length) →
    (∀ (s : Shared) (H : Hp) (vs : List V) (Q : VK) (E : XK), Room k (callerA.deeper (PyProof.Rows.envOfC x (defScope st) s.heap.objs.size f cd)) → sp vs H Q E →
      ∃ t, PSs (cxOf CX0 P w K mg base N x (defScope st) f cd callerA [] s H E).nox (defBody st) t ∧ t { nx := fun _ H' => Q .non H', rt := Q } (start N vs) H) → FnAt P w K mg base CX0 f fd ps sp
theorem DfG.of {K : PySem.W.Frag} {x : Str} {st : Stmt} {f : Addr} {oc : Value} {od an : Option Addr} {dV kV doc pm cd ct : Value} {osl : Array (Option Value)}
    (lk : K.lookup f = some ⟨oc, od, .func (PySem.W.fnOf x x (defArgs st) (defBody st) (defScope st) dV kV doc pm an cd ct), osl⟩) (hcd : PySem.W.codeIn K cd x = true) : DfG K x st f (PySem.W.fnOf x x (defArgs st) (defBody st) (defScope st) dV kV doc pm an cd ct) cd :=
  ⟨fun hr S len hb => fnAt_of lk hcd S len hr fun s H vs Q E r h => let ⟨t, h1, q⟩ := hb s H vs Q E r h; ⟨t, h1.nox, q⟩⟩
end Wc
/-! The end of a law whose program has classes of its own: what is looked at of a class and of its __init__. -/
namespace Wc
open PySem PySem.Spec PyProof.Rows L2
abbrev iniAd (K : PySem.W.Frag) (x : Str) : Addr := He.ma K (He.ga K x) "__init__"
def ccAd (K : PySem.W.Frag) (x : Str) : Addr := match K.lookup (iniAd K x) with
  | some ⟨_, _, .func fd, _⟩ => (match fd.closure with
    | [(_, c)] => c
    | _ => 0)
  | _ => 0
def cdAd (K : PySem.W.Frag) (x : Str) : Addr := match K.lookup (iniAd K x) with
  | some ⟨_, _, .func fd, _⟩ => (match fd.code with
    | .ref c => c
    | _ => 0)
  | _ => 0
abbrev FnI : Type := Option (Str × Str × Arguments × FuncBody × Scope × Addr × List Str × Addr)
def fnI (K : PySem.W.Frag) (x : Str) : FnI := match K.lookup (iniAd K x) with
  | some ⟨_, _, .func fd, _⟩ => some (fd.name, fd.qualname, fd.params, fd.body, fd.scope, fd.globals, fd.closure.map (·.1), fd.builtins)
  | _ => none
/-- a class with its own __init__ -/
structure InD where
  at_ : Str
  qual : Str
  params : Arguments
  body : List Stmt
  scope : Scope
def InD.val (d : InD) : FnI := some ("__init__", d.qual, d.params, .stmts d.body, d.scope, mainGlobals, ["__class__"], builtinsNs)
def exoB (K : PySem.W.Frag) (C : Addr) : Bool := match K.lookup C with
  | some ⟨.type t, _, .cls cd, sl⟩ => decide (t = "type") && (cd.hasDict && (!cd.hasDel && ((match cd.mro with
    | c :: bm => decide (c = .ref C) && PySem.HandSPX.refsVE bm
    | [] => false) && (match sl.toList with
    | [_, _, _, _, some (.builtin n), _] => decide (n = "ValueError.__new__")
    | _ => false))))
  | _ => false
theorem exoB_ok {K : PySem.W.Frag} {C : Addr} (h : exoB K C = true) : ∃ nm q N bs bm sn sub ab col dd k0 k1 k2 k3 k5, K.lookup C = some (excClassObj nm q C N bs bm true sn sub ab col dd k0 k1 k2 k3 k5 "ValueError.__new__") ∧ PySem.HandSPX.refsVE bm = true := by
  unfold exoB at h
  cases q : K.lookup C with
  | none => rw [q] at h; cases h
  | some o =>
    obtain ⟨oc, od, dt, sl⟩ := o
    rw [q] at h
    cases oc with
    | type t =>
      cases dt with
      | cls cd =>
        obtain ⟨nm, bs, mro, ns, qn, hd, sn, sub, ab, col, del⟩ := cd
        obtain ⟨h1, h⟩ := He.ba h
        obtain ⟨h2, h⟩ := He.ba h
        obtain ⟨h3, h⟩ := He.ba h
        obtain ⟨h4, h5⟩ := He.ba h
        obtain rfl : hd = true := h2
        obtain rfl : del = false := by
          cases del with
          | false => rfl
          | true => cases h3
        cases mro with
        | nil => cases h4
        | cons c bm =>
          obtain ⟨h6, h7⟩ := He.ba (show (decide (c = .ref C) && PySem.HandSPX.refsVE bm) = true from h4)
          obtain rfl := of_decide_eq_true h6
          have et := of_decide_eq_true h1
          subst et
          obtain ⟨sll⟩ := sl
          match sll, h5 with
          | [k0, k1, k2, k3, some (.builtin n), k5], h5 =>
            have en : n = "ValueError.__new__" := of_decide_eq_true h5
            subst en
            exact ⟨nm, qn, ns, bs, bm, sn, sub, ab, col, od, k0, k1, k2, k3, k5, rfl, h7⟩
      | _ => cases h
    | _ => cases dt <;> cases h
def codeFB (K : PySem.W.Frag) (P : Program) (c : Addr) : Bool := match K.lookup c with
  | some ⟨_, _, .fields vs, _⟩ => (match (vs[2]? : Option Value) with
    | some (.str file _) => (P.main.file : Str) == file
    | _ => false)
  | _ => false
theorem codeFB_ok {K : PySem.W.Frag} {P : Program} {c : Addr} (h : codeFB K P c = true) : ∃ ccl cdd vs ccs file tf, K.lookup c = some ⟨ccl, cdd, .fields vs, ccs⟩ ∧ vs[2]? = some (.str file tf) ∧ ((P.main.file : Str) == file) = true := by
  unfold codeFB at h
  cases q : K.lookup c with
  | none => rw [q] at h; cases h
  | some o =>
    obtain ⟨oc, od, dt, sl⟩ := o
    rw [q] at h
    cases dt with
    | fields vs =>
      have h : (match (vs[2]? : Option Value) with
        | some (.str file _) => (P.main.file : Str) == file
        | _ => false) = true := h
      cases e : vs[2]? with
      | none => rw [e] at h; cases h
      | some v =>
        rw [e] at h
        cases v with
        | str file tf => exact ⟨oc, od, vs, sl, file, tf, rfl, e, h⟩
        | _ => cases h
    | _ => cases h
def cellB (K : PySem.W.Frag) (c C : Addr) : Bool := match K.lookup c with
  | some ⟨_, _, .cell (some (.ref D)), _⟩ => decide (D = C)
  | _ => false
theorem cellB_ok {K : PySem.W.Frag} {c C : Addr} (h : cellB K c C = true) : ∃ cl cld csl, K.lookup c = some ⟨cl, cld, .cell (some (.ref C)), csl⟩ := by
  unfold cellB at h
  cases q : K.lookup c with
  | none => rw [q] at h; cases h
  | some o =>
    obtain ⟨oc, od, dt, sl⟩ := o
    rw [q] at h
    cases dt with
    | cell v =>
      cases v with
      | none => cases h
      | some v =>
        cases v with
        | ref D =>
          have e : D = C := of_decide_eq_true h
          subst e
          exact ⟨oc, od, sl, rfl⟩
        | _ => cases h
    | _ => cases h
def plainB (u v : Value) : Bool := match u, v with
  | .none, .ref _ => true
  | _, _ => false
theorem plainB_ok {u v : Value} (h : plainB u v = true) : u = .none ∧ ∃ c, v = .ref c := by
  cases u with
  | none => cases v with
    | ref c => exact ⟨rfl, _, rfl⟩
    | _ => cases h
  | _ => cases v <;> cases h
def dflNo (K : PySem.W.Frag) (x : Str) : Bool := match K.lookup (iniAd K x) with
  | some ⟨_, _, .func fd, _⟩ => plainB fd.defaults fd.code
  | _ => false
/-- all that is looked at of a class x and its __init__ -/
def inB (P : Program) (K : PySem.W.Frag) (d : InD) : List Bool := let C := He.ga K d.at_
  [exoB K C, decide (PySem.W.findIn K (.ref C) "__setattr__" = some (some (.builtin "object.__setattr__"))), decide (PySem.W.subIn K (.ref C) (.type "BaseException") = some true), decide (PySem.W.typeIn K (.ref C) = some (.type "type")), PySem.W.keepIn K (.ref C),
   xfB K C, decide (PySem.W.subIn K (.ref C) (.type "ValueError") = some true), decide (PySem.W.exmOne K (.ref C) (.ref C) = some true), decide (PySem.W.findIn K (.ref C) "__init__" = some (some (.ref (iniAd K d.at_)))), decide (PySem.W.typeIn K (.ref (iniAd K d.at_)) = some (.type "function")),
   codeFB K P (cdAd K d.at_), cellB K (ccAd K d.at_) C, decide (PySem.W.mroIn K C (.ref C) = some true), decide (PySem.W.nsIn K cStatics "thirdparty.any" = some none), decide (PySem.W.ks_superIn K C C "__init__" = some (some (.builtin "ValueError.__init__"))),
   PySem.W.codeIn K (.ref (cdAd K d.at_)) d.qual, dflNo K d.at_]
structure InOk (P : Program) (K : PySem.W.Frag) (d : InD) : Prop where
  sup : SupC P K (He.ga K d.at_) (iniAd K d.at_) (ccAd K d.at_) (cdAd K d.at_)
  xf : XfC K (He.ga K d.at_)
  me : PySem.W.exmOne K (.ref (He.ga K d.at_)) (.ref (He.ga K d.at_)) = some true
  find : PySem.W.findIn K (.ref (He.ga K d.at_)) "__init__" = some (some (.ref (iniAd K d.at_)))
  ty : PySem.W.typeIn K (.ref (iniAd K d.at_)) = some (.type "function")
  cd : PySem.W.codeIn K (.ref (cdAd K d.at_)) d.qual = true
  fn : ∃ (oc : Value) (od an : Option Addr) (kV doc pm ct : Value) (osl : Array (Option Value)), K.lookup (iniAd K d.at_) = some ⟨oc, od, .func (PySem.W.ksFn "__init__" d.qual d.params d.body d.scope .none kV doc pm an (.ref (cdAd K d.at_)) ct (ccAd K d.at_)), osl⟩
theorem inOk_of {P : Program} {K : PySem.W.Frag} {d : InD} (h : (inB P K d).all id = true) (hv : fnI K d.at_ = d.val) (top : (P.main.scope.names.lookup ("super" : Str)).isSome = false) : InOk P K d := by
  have a : ∀ i {b : Bool}, (inB P K d)[i]? = some b → b = true := fun i b e => List.all_eq_true.mp h b (List.mem_of_getElem? e)
  have h0 := exoB_ok (a 0 rfl)
  have h17 := a 16 rfl
  refine ⟨⟨⟨h0, of_decide_eq_true (a 1 rfl), of_decide_eq_true (a 2 rfl), of_decide_eq_true (a 3 rfl), a 4 rfl⟩, codeFB_ok (a 10 rfl), cellB_ok (a 11 rfl), of_decide_eq_true (a 12 rfl), of_decide_eq_true (a 6 rfl), of_decide_eq_true (a 13 rfl), of_decide_eq_true (a 14 rfl), top⟩,
    xfB_ok (a 5 rfl), of_decide_eq_true (a 7 rfl), of_decide_eq_true (a 8 rfl), of_decide_eq_true (a 9 rfl), a 15 rfl, ?_⟩
  have c15 := a 15 rfl
  unfold fnI at hv
  unfold dflNo at h17
  cases q : K.lookup (iniAd K d.at_) with
  | none => rw [q] at hv; cases hv
  | some o =>
    obtain ⟨oc, od, dt, osl⟩ := o
    rw [q] at hv h17
    cases dt with
    | func fd =>
      obtain ⟨n1, n2, n3, n4, n5, n6, n7, n8, n9, n10, n11, n12, n13, n14, n15⟩ := fd
      have e2 : (some (n1, n2, n3, n4, n5, n6, n7.map (·.1), n15) : FnI) = (some (("__init__" : Str), d.qual, d.params, FuncBody.stmts d.body, d.scope, mainGlobals, [("__class__" : Str)], builtinsNs) : FnI) := hv
      simp only [Option.some.injEq, Prod.mk.injEq] at e2
      obtain ⟨h1, h2, h3, h4, h5, h6, h7, h8⟩ := e2
      subst h1 h2 h3 h4 h5 h6 h8
      have h17 : plainB n8 n13 = true := h17
      match n7, h7 with
      | [(y, c)], h7 =>
        obtain rfl : y = "__class__" := (List.cons.inj h7).1
        have e8 := plainB_ok h17
        obtain ⟨rfl, ed⟩ := e8
        have ec : ccAd K d.at_ = c := by unfold ccAd; rw [q]
        obtain ⟨cc, rfl⟩ := ed
        have ed2 : cdAd K d.at_ = cc := by unfold cdAd; rw [q]
        rw [ec, ed2]
        exact ⟨oc, od, n12, n9, n10, n11, n14, osl, rfl⟩
    | _ => cases hv
/-! ### what is looked at -/
abbrev asY (g : Addr → Option Obj) (n : Nat) : List Addr := cStatics :: He.asD g n
abbrev frY (g : Addr → Option Obj) (n : Nat) : PySem.W.Frag := He.frT g (asY g n)
abbrev AlY : Type := He.AlT × List FnI × Bool
section
variable (P : Program) (fa : List He.Fa) (fn : List He.DefD) (ts : List He.Tab) (tf : List He.Defn) (ds : List InD) (ex : PySem.W.Frag → Bool)
def moreY (g : Addr → Option Obj) (K : PySem.W.Frag) : Bool := ex K && (He.tabsB g tf K && ds.all fun d => (inB P K d).all id)
def obsK (g : Addr → Option Obj) (K : PySem.W.Frag) : AlY := (He.obsT fa fn ts K, ds.map fun d => fnI K d.at_, moreY P tf ds ex g K)
def obsY (n : Nat) (g : Addr → Option Obj) : AlY := obsK P fa fn ts tf ds ex g (frY g n)
def valY (w : World) : AlY := (He.valT fn ts w, ds.map InD.val, true)
structure SaysY (w : World) (h : PySem.Heap) (K : PySem.W.Frag) : Prop where
  x : He.SaysX fa fn ts tf ex w h K
  ini : ∀ d ∈ ds, (inB P K d).all id = true ∧ fnI K d.at_ = d.val
theorem saysY_of {n : Nat} {w : World} {h : PySem.Heap} (e : obsY P fa fn ts tf ds ex n h.get? = valY fn ts ds w) : SaysY P fa fn ts tf ds ex w h (frY h.get? n) := by
  generalize ek : frY h.get? n = K at *
  have e : obsK P fa fn ts tf ds ex h.get? K = valY fn ts ds w := by rw [← ek]; exact e
  have p1 := congrArg Prod.fst e
  have p2 := congrArg (fun z : AlY => z.2.1) e
  have p3 : moreY P tf ds ex h.get? K = true := congrArg (fun z : AlY => z.2.2) e
  obtain ⟨q1, p3⟩ := He.ba p3
  obtain ⟨q2, q3⟩ := He.ba p3
  have tb : ∀ p, p ∈ tf → PySem.W.codeHdIn K (He.cT K p).1 (He.cT K p).2 = true ∧ ∃ o, h.get? (He.cT K p).2 = some o ∧ He.emptyTab o = true := by
    intro p m
    have z := He.ba (List.all_eq_true.mp q2 p m)
    refine ⟨z.1, ?_⟩
    have z2 := z.2
    generalize h.get? (He.cT K p).2 = r at z2 ⊢
    cases r with
    | some o => exact ⟨o, rfl, z2⟩
    | none => cases z2
  have un : ∀ p, p ∈ tf → K.lookup (He.cT K p).2 = none := fun p m => by
    obtain ⟨o, y1, y2⟩ := (tb p m).2
    have z := He.frT_none (as := asY h.get? n) y1 y2
    rwa [show He.frT h.get? (asY h.get? n) = K from ek] at z
  have em : ∀ p, p ∈ tf → h.get? (He.cT K p).2 = some { cls := .none, data := .fields #[] } := fun p m => by
    obtain ⟨o, y1, y2⟩ := (tb p m).2
    rw [y1]
    exact congrArg some (He.emptyTab_eq y2)
  refine ⟨⟨p1, q1, fun p m => (tb p m).1, un, em⟩, fun d hd => ⟨List.all_eq_true.mp q3 d hd, ?_⟩⟩
  obtain ⟨i, hi, rfl⟩ := List.mem_iff_getElem.mp hd
  have y := congrArg (fun l : List FnI => l[i]?) p2
  simp only [obsK, valY, List.getElem?_map, List.getElem?_eq_getElem hi, Option.map_some] at y
  exact Option.some.inj y
def hookY (n : Nat) : PySem.W.Hook where
  α := AlY
  obs := fun s => obsY P fa fn ts tf ds ex n s.heap.get?
  val := valY fn ts ds
  says := fun w h => ∃ K : PySem.W.Frag, K.In h ∧ SaysY P fa fn ts tf ds ex w h K
  of := fun _ _ e => ⟨_, He.frT_in, saysY_of P fa fn ts tf ds ex e⟩
  keeps := fun _ _ _ z k => z.elim fun K y => ⟨K, y.1.keeps k, ⟨⟨y.2.x.t, y.2.x.more, y.2.x.hd, y.2.x.out, fun p m => k _ _ (y.2.x.empty p m)⟩, y.2.ini⟩⟩
theorem obsY_eq {n : Nat} {g : Addr → Option Obj} {s : Shared} (h : ∀ a, g a = s.heap.get? a) : obsY P fa fn ts tf ds ex n g = (hookY P fa fn ts tf ds ex n).obs s := by
  obtain rfl : g = s.heap.get? := funext h
  rfl
end
/-! ### the law's def, where what is looked at is not told by the world's numbers alone -/
theorem walkY {l : PySem.W.OpenLaw} {n : Nat} {q : Program} {loose : List Str} {XP : (Str → Option Value) → PySem.Heap → Prop} {YP : World → PySem.Heap → Prop} {d : DefRec} {CX : CXT} {sp : PySem.W.Frag → Sp} {x : Str} (hn : l.most = some n) (hn2 : n ≤ sizeLine) (hdf : d.params.defaults = [])
    (F : ∀ (w : World) (mg : Str → Option Value) (fa : Addr) (h : PySem.Heap), YP w h → h.Ns mainGlobals mg → mg d.name = some (.ref fa) → ∃ K : PySem.W.Frag, K.In h ∧ ∃ fd : FuncData, (∀ (s : Shared) (u : Value), BindsTo s fd ⟨[u], []⟩ [(x, u)]) ∧
      ∀ base : PySem.Heap, K.In base → base.Ns mainGlobals mg → FnAt l.prog w K mg base CX fa fd [x] (sp K))
    (hsp : ∀ (K : PySem.W.Frag) (H : Hp) (a : Addr) (ns : List Int), ns.length ≤ n → Only H → SqL K H a (ns.map V.int) → sp K [.ref a] H (fun v _ => v = .bl true) fun _ _ _ => False)
    (hCX : ∀ (H : Hp) (s : Shared) (e : Value) (s' : Shared), CX [] H s (fun _ _ _ => False) e s' → False) : PySem.W.WalkO q loose XP YP l.row.toRowW d [] (fun f vs => PySem.call f vs) := by
  refine Att.attach_call hn hdf fun w s₀ s₁ mg mb fa o pm cd doc a vs ns G Y ho hd hcd hmg hobj hints hlen hg => ?_
  obtain ⟨K, KX, fd, hb, hF⟩ := F w mg fa _ Y G.T.g hmg
  refine callG KX G.T.g G.T.b G.T.builtins G.T.nolimit hg hobj hints (Nat.le_trans hlen hn2) hF hb (fun H y z => hsp K H a ns hlen y z) fun H e s' => ?_
  exact hCX H s₁ e s'
theorem roomHm {A : Around} {h : Option Value} {k : Nat} (r : Room k A) : L2H.RoomH k (A.mark h) := L2H.RoomH.mk r.dp r.un
/-! ### repr within a try -/
def rReprK (K : PySem.W.Frag) (A : Around) : List V → Hp → VK → Prop := fun xs H Q => ∃ (a : Addr) (d : PyData), xs = [.ref a] ∧ Dp K H (.ref a) d ∧ d.showable = true ∧ d.hasDict = false ∧ d.shown.length ≤ sizeLine ∧ A.units + (d.depth + 1) < cLine ∧ Q (.str d.shown) H
theorem call_reprK {X : Cx} {K : PySem.W.Frag} {A : Around} {k : Nat} (hr : Room k A) (hK : X.K = K) (hA : X.A = A) (hg : A.guards = some []) : CallR X (.builtin "repr") (rReprK K A) := by
  subst hK hA
  exact call_repr hg
theorem FnOk.at_ {P : Program} {w : World} {K : PySem.W.Frag} {mg : Str → Option Value} {base : PySem.Heap} {CX : CXT} {k : Nat} {f : Addr} {fd : FuncData} {ps : List Str} {sp : Sp} (h : FnOk P w K mg base CX k f fd ps sp) (hr : Room k callerA) : FnAt P w K mg base CX f fd ps sp :=
  fun s H args us vs Q E e0 hb r hsp => h.2 callerA [] s H args us vs Q E hr e0 hb r hsp
/-! ### a def told of by He's facts -/
theorem Dn.ofD {K : PySem.W.Frag} {x qual : Str} {st : Stmt} {f : Addr} {fd : FuncData} (F : FunD K x qual (defArgs st) (defBody st) (defScope st) [] [] f fd) : ∃ cd, Dn K x qual st f fd cd := by
  obtain ⟨oc, od, dV, kV, doc, pm, an, cd, ct, osl, e, lk, hcd, _⟩ := F.ex
  exact ⟨cd, ⟨oc, od, an, dV, kV, doc, pm, ct, osl, e, lk, hcd⟩⟩
theorem DfG.ofD {K : PySem.W.Frag} {x : Str} {st : Stmt} {f : Addr} {fd : FuncData} (F : FunD K x x (defArgs st) (defBody st) (defScope st) [] [] f fd) : ∃ cd, DfG K x st f fd cd := by
  obtain ⟨oc, od, dV, kV, doc, pm, an, cd, ct, osl, rfl, lk, hcd, _⟩ := F.ex
  exact ⟨cd, DfG.of lk hcd⟩
theorem InOk.binds {P : Program} {K : PySem.W.Frag} {d : InD} (h : InOk P K d) {ps : List Str} (hb : ∀ (kV doc pm : Value) (an : Option Addr) (cdv ct : Value) (cc : Addr) (us : List Value), us.length = ps.length → bindArgs (PySem.W.ksFn "__init__" d.qual d.params d.body d.scope .none kV doc pm an cdv ct cc) { pos := us } = pure (ps.zip us)) :
    ∀ {an : Option Addr} {kV doc pm ct : Value}, Binds K (PySem.W.ksFn "__init__" d.qual d.params d.body d.scope .none kV doc pm an (.ref (cdAd K d.at_)) ct (ccAd K d.at_)) ps [] := by
  intro an kV doc pm ct s us hK hl
  rw [List.append_nil] at hl ⊢
  exact .of_eq (hb _ _ _ _ _ _ _ us hl)
end Wc
namespace Wc
open PySem L2
def topS (i : Nat) : Stmt := PySem.Challenge.pw_weakcourt_k33_what_is_obtainable_is_load.main.body.getD i (.Pass ⟨0, 0, 0, 0⟩)
abbrev s_following_of : Stmt := topS 1
abbrev N_following_of : List Str := ["heap"]
theorem sc_following_of : FnScope N_following_of ["heap"] (defScope s_following_of) := ⟨rfl, rfl, rfl, by decide +kernel, rfl, by decide +kernel, by decide +kernel⟩
abbrev s_registers_of : Stmt := topS 2
abbrev N_registers_of : List Str := ["heap"]
theorem sc_registers_of : FnScope N_registers_of ["heap"] (defScope s_registers_of) := ⟨rfl, rfl, rfl, by decide +kernel, rfl, by decide +kernel, by decide +kernel⟩
abbrev s_objects_of : Stmt := topS 3
abbrev N_objects_of : List Str := ["heap"]
theorem sc_objects_of : FnScope N_objects_of ["heap"] (defScope s_objects_of) := ⟨rfl, rfl, rfl, by decide +kernel, rfl, by decide +kernel, by decide +kernel⟩
abbrev s_by_number : Stmt := topS 4
abbrev N_by_number : List Str := ["heap", "thing"]
theorem sc_by_number : FnScope N_by_number ["heap"] (defScope s_by_number) := ⟨rfl, rfl, rfl, by decide +kernel, rfl, by decide +kernel, by decide +kernel⟩
abbrev s_objects_among : Stmt := topS 5
abbrev N_objects_among : List Str := ["references", "number"]
theorem sc_objects_among : FnScope N_objects_among ["references"] (defScope s_objects_among) := ⟨rfl, rfl, rfl, by decide +kernel, rfl, by decide +kernel, by decide +kernel⟩
abbrev s_holding : Stmt := topS 6
abbrev N_holding : List Str := ["heap", "place", "reference", "word", "following", "registers", "kept", "objects", "watches", "held"]
theorem sc_holding : FnScope N_holding ["heap", "place", "reference"] (defScope s_holding) := ⟨rfl, rfl, rfl, by decide +kernel, rfl, by decide +kernel, by decide +kernel⟩
abbrev s_keeping : Stmt := topS 7
abbrev N_keeping : List Str := ["heap", "number", "word", "following", "registers", "kept", "objects", "watches"]
theorem sc_keeping : FnScope N_keeping ["heap", "number"] (defScope s_keeping) := ⟨rfl, rfl, rfl, by decide +kernel, rfl, by decide +kernel, by decide +kernel⟩
abbrev s_keeping_nothing : Stmt := topS 8
abbrev N_keeping_nothing : List Str := ["heap", "word", "following", "registers", "_", "objects", "watches"]
theorem sc_keeping_nothing : FnScope N_keeping_nothing ["heap"] (defScope s_keeping_nothing) := ⟨rfl, rfl, rfl, by decide +kernel, rfl, by decide +kernel, by decide +kernel⟩
abbrev s_adding : Stmt := topS 9
abbrev N_adding : List Str := ["heap", "kind", "inside", "word", "following", "registers", "kept", "objects", "watches", "thing"]
theorem sc_adding : FnScope N_adding ["heap", "kind", "inside"] (defScope s_adding) := ⟨rfl, rfl, rfl, by decide +kernel, rfl, by decide +kernel, by decide +kernel⟩
abbrev s_replacing : Stmt := topS 10
abbrev N_replacing : List Str := ["heap", "thing", "word", "following", "registers", "kept", "objects", "watches", "changed", "other"]
theorem sc_replacing : FnScope N_replacing ["heap", "thing"] (defScope s_replacing) := ⟨rfl, rfl, rfl, by decide +kernel, rfl, by decide +kernel, by decide +kernel⟩
abbrev s_watching : Stmt := topS 11
abbrev N_watching : List Str := ["heap", "number", "token", "word", "following", "registers", "kept", "objects", "watches"]
theorem sc_watching : FnScope N_watching ["heap", "number", "token"] (defScope s_watching) := ⟨rfl, rfl, rfl, by decide +kernel, rfl, by decide +kernel, by decide +kernel⟩
abbrev s_led_to : Stmt := topS 13
abbrev N_led_to : List Str := ["thing", "got", "condemned", "key", "value"]
theorem sc_led_to : FnScope N_led_to ["thing", "got", "condemned"] (defScope s_led_to) := ⟨rfl, rfl, rfl, by decide +kernel, rfl, by decide +kernel, by decide +kernel⟩
abbrev s_rounds : Stmt := topS 14
abbrev N_rounds : List Str := ["heap", "condemned", "things", "gone", "number", "got", "depth", "newest", "asked", "found"]
theorem sc_rounds : FnScope N_rounds ["heap", "condemned"] (defScope s_rounds) := ⟨rfl, rfl, rfl, by decide +kernel, rfl, by decide +kernel, by decide +kernel⟩
abbrev s_named : Stmt := topS 16
abbrev N_named : List Str := ["reason"]
theorem sc_named : FnScope N_named ["reason"] (defScope s_named) := ⟨rfl, rfl, rfl, by decide +kernel, rfl, by decide +kernel, by decide +kernel⟩
abbrev s_derive : Stmt := topS 17
abbrev N_derive : List Str := ["heap", "condemned", "number", "depths", "things", "reasons", "waiting", "asked", "other", "ordered", "step"]
theorem sc_derive : FnScope N_derive ["heap", "condemned", "number"] (defScope s_derive) := ⟨rfl, rfl, rfl, by decide +kernel, rfl, by decide +kernel, by decide +kernel⟩
abbrev s_best_reason : Stmt := topS 18
abbrev N_best_reason : List Str := ["heap", "things", "depths", "condemned", "number", "lower", "other", "reasons", "reason"]
theorem sc_best_reason : FnScope N_best_reason ["heap", "things", "depths", "condemned", "number"] (defScope s_best_reason) := ⟨rfl, rfl, rfl, by decide +kernel, rfl, by decide +kernel, by decide +kernel⟩
abbrev s_reason_from : Stmt := topS 19
abbrev N_reason_from : List Str := ["thing", "lower", "condemned", "number", "keys", "key", "value"]
theorem sc_reason_from : FnScope N_reason_from ["thing", "lower", "condemned", "number"] (defScope s_reason_from) := ⟨rfl, rfl, rfl, by decide +kernel, rfl, by decide +kernel, by decide +kernel⟩
abbrev s_compile_derivation : Stmt := topS 20
abbrev N_compile_derivation : List Str := ["heap", "steps", "commands", "places", "place", "number", "reason"]
theorem sc_compile_derivation : FnScope N_compile_derivation ["heap", "steps"] (defScope s_compile_derivation) := ⟨rfl, rfl, rfl, by decide +kernel, rfl, by decide +kernel, by decide +kernel⟩
abbrev s_loading : Stmt := topS 21
abbrev N_loading : List Str := ["place", "reason", "places"]
theorem sc_loading : FnScope N_loading ["place", "reason", "places"] (defScope s_loading) := ⟨rfl, rfl, rfl, by decide +kernel, rfl, by decide +kernel, by decide +kernel⟩
abbrev s_with_registers : Stmt := topS 22
abbrev N_with_registers : List Str := ["heap", "many", "word", "following", "registers", "kept", "objects", "watches"]
theorem sc_with_registers : FnScope N_with_registers ["heap", "many"] (defScope s_with_registers) := ⟨rfl, rfl, rfl, by decide +kernel, rfl, by decide +kernel, by decide +kernel⟩
abbrev s_obtainable : Stmt := topS 24
abbrev N_obtainable : List Str := ["heap", "condemned"]
theorem sc_obtainable : FnScope N_obtainable ["heap", "condemned"] (defScope s_obtainable) := ⟨rfl, rfl, rfl, by decide +kernel, rfl, by decide +kernel, by decide +kernel⟩
abbrev s_in_place : Stmt := topS 32
abbrev N_in_place : List Str := ["heap", "place"]
theorem sc_in_place : FnScope N_in_place ["heap", "place"] (defScope s_in_place) := ⟨rfl, rfl, rfl, by decide +kernel, rfl, by decide +kernel, by decide +kernel⟩
abbrev s_make : Stmt := topS 33
abbrev N_make : List Str := ["heap", "to", "kind", "inside", "number"]
theorem sc_make : FnScope N_make ["heap", "to", "kind", "inside"] (defScope s_make) := ⟨rfl, rfl, rfl, by decide +kernel, rfl, by decide +kernel, by decide +kernel⟩
abbrev s_make_record : Stmt := topS 34
abbrev N_make_record : List Str := ["heap", "command", "_", "to", "size"]
theorem sc_make_record : FnScope N_make_record ["heap", "command"] (defScope s_make_record) := ⟨rfl, rfl, rfl, by decide +kernel, rfl, by decide +kernel, by decide +kernel⟩
abbrev s_make_weak : Stmt := topS 35
abbrev N_make_weak : List Str := ["heap", "command", "_", "to", "of", "target"]
theorem sc_make_weak : FnScope N_make_weak ["heap", "command"] (defScope s_make_weak) := ⟨rfl, rfl, rfl, by decide +kernel, rfl, by decide +kernel, by decide +kernel⟩
abbrev s_make_table : Stmt := topS 36
abbrev N_make_table : List Str := ["heap", "command"]
theorem sc_make_table : FnScope N_make_table ["heap", "command"] (defScope s_make_table) := ⟨rfl, rfl, rfl, by decide +kernel, rfl, by decide +kernel, by decide +kernel⟩
abbrev s_copy_reference : Stmt := topS 37
abbrev N_copy_reference : List Str := ["heap", "command", "_", "to", "of", "held"]
theorem sc_copy_reference : FnScope N_copy_reference ["heap", "command"] (defScope s_copy_reference) := ⟨rfl, rfl, rfl, by decide +kernel, rfl, by decide +kernel, by decide +kernel⟩
abbrev s_clear_place : Stmt := topS 38
abbrev N_clear_place : List Str := ["heap", "command"]
theorem sc_clear_place : FnScope N_clear_place ["heap", "command"] (defScope s_clear_place) := ⟨rfl, rfl, rfl, by decide +kernel, rfl, by decide +kernel, by decide +kernel⟩
abbrev s_read_field : Stmt := topS 39
abbrev N_read_field : List Str := ["heap", "command", "_", "to", "of", "index", "held"]
theorem sc_read_field : FnScope N_read_field ["heap", "command"] (defScope s_read_field) := ⟨rfl, rfl, rfl, by decide +kernel, rfl, by decide +kernel, by decide +kernel⟩
abbrev s_write_field : Stmt := topS 40
abbrev N_write_field : List Str := ["heap", "command", "_", "into", "index", "of", "kind", "number", "fields", "written"]
theorem sc_write_field : FnScope N_write_field ["heap", "command"] (defScope s_write_field) := ⟨rfl, rfl, rfl, by decide +kernel, rfl, by decide +kernel, by decide +kernel⟩
abbrev s_deref_target : Stmt := topS 41
abbrev N_deref_target : List Str := ["heap", "command", "_", "to", "of", "target", "behind"]
theorem sc_deref_target : FnScope N_deref_target ["heap", "command"] (defScope s_deref_target) := ⟨rfl, rfl, rfl, by decide +kernel, rfl, by decide +kernel, by decide +kernel⟩
abbrev s_put_entry : Stmt := topS 42
abbrev N_put_entry : List Str := ["heap", "command", "_", "at", "key", "value", "kind", "number", "inside", "held", "entries"]
theorem sc_put_entry : FnScope N_put_entry ["heap", "command"] (defScope s_put_entry) := ⟨rfl, rfl, rfl, by decide +kernel, rfl, by decide +kernel, by decide +kernel⟩
abbrev s_remove_entry : Stmt := topS 43
abbrev N_remove_entry : List Str := ["heap", "command", "_", "at", "key", "kind", "number", "inside", "removed", "entries", "entry"]
theorem sc_remove_entry : FnScope N_remove_entry ["heap", "command"] (defScope s_remove_entry) := ⟨rfl, rfl, rfl, by decide +kernel, rfl, by decide +kernel, by decide +kernel⟩
abbrev s_lookup_key : Stmt := topS 44
abbrev N_lookup_key : List Str := ["heap", "command", "_", "to", "at", "key", "value"]
theorem sc_lookup_key : FnScope N_lookup_key ["heap", "command"] (defScope s_lookup_key) := ⟨rfl, rfl, rfl, by decide +kernel, rfl, by decide +kernel, by decide +kernel⟩
abbrev s_add_watch : Stmt := topS 45
abbrev N_add_watch : List Str := ["heap", "command", "_", "of", "token"]
theorem sc_add_watch : FnScope N_add_watch ["heap", "command"] (defScope s_add_watch) := ⟨rfl, rfl, rfl, by decide +kernel, rfl, by decide +kernel, by decide +kernel⟩
abbrev s_end_job : Stmt := topS 46
abbrev N_end_job : List Str := ["heap", "_"]
theorem sc_end_job : FnScope N_end_job ["heap", "_"] (defScope s_end_job) := ⟨rfl, rfl, rfl, by decide +kernel, rfl, by decide +kernel, by decide +kernel⟩
abbrev s_do : Stmt := topS 48
abbrev N_do : List Str := ["state", "command", "word", "heap", "pending", "reason", "action", "behind", "result"]
theorem sc_do : FnScope N_do ["state", "command"] (defScope s_do) := ⟨rfl, rfl, rfl, by decide +kernel, rfl, by decide +kernel, by decide +kernel⟩
abbrev s_fault_of : Stmt := topS 49
abbrev N_fault_of : List Str := ["heap", "command", "word", "held", "place", "thing"]
theorem sc_fault_of : FnScope N_fault_of ["heap", "command"] (defScope s_fault_of) := ⟨rfl, rfl, rfl, by decide +kernel, rfl, by decide +kernel, by decide +kernel⟩
abbrev s_index_of : Stmt := topS 50
abbrev N_index_of : List Str := ["command"]
theorem sc_index_of : FnScope N_index_of ["command"] (defScope s_index_of) := ⟨rfl, rfl, rfl, by decide +kernel, rfl, by decide +kernel, by decide +kernel⟩
abbrev s__law_cell : Stmt := topS 52
abbrev N__law_cell : List Str := ["script", "k"]
theorem sc__law_cell : FnScope N__law_cell ["script", "k"] (defScope s__law_cell) := ⟨rfl, rfl, rfl, by decide +kernel, rfl, by decide +kernel, by decide +kernel⟩
abbrev s__law_digits : Stmt := topS 53
abbrev N__law_digits : List Str := ["script", "first", "last", "digits", "k", "cell", "turn", "seed"]
theorem sc__law_digits : FnScope N__law_digits ["script", "first", "last"] (defScope s__law_digits) := ⟨rfl, rfl, rfl, by decide +kernel, rfl, by decide +kernel, by decide +kernel⟩
abbrev s__law_draw : Stmt := topS 54
abbrev N__law_draw : List Str := ["box", "many", "at"]
theorem sc__law_draw : FnScope N__law_draw ["box", "many"] (defScope s__law_draw) := ⟨rfl, rfl, rfl, by decide +kernel, rfl, by decide +kernel, by decide +kernel⟩
abbrev s__law_same : Stmt := topS 55
abbrev N__law_same : List Str := ["actual", "expected", "k"]
theorem sc__law_same : FnScope N__law_same ["actual", "expected"] (defScope s__law_same) := ⟨rfl, rfl, rfl, by decide +kernel, rfl, by decide +kernel, by decide +kernel⟩
abbrev s__law_number : Stmt := topS 56
abbrev N__law_number : List Str := ["box", "numbers"]
theorem sc__law_number : FnScope N__law_number ["box", "numbers"] (defScope s__law_number) := ⟨rfl, rfl, rfl, by decide +kernel, rfl, by decide +kernel, by decide +kernel⟩
abbrev s__law_object : Stmt := topS 57
abbrev N__law_object : List Str := ["box", "number", "numbers", "kind", "k", "entries", "key", "value", "entry"]
theorem sc__law_object : FnScope N__law_object ["box", "number", "numbers"] (defScope s__law_object) := ⟨rfl, rfl, rfl, by decide +kernel, rfl, by decide +kernel, by decide +kernel⟩
abbrev s__law_heap : Stmt := topS 58
abbrev N__law_heap : List Str := ["box", "most", "many", "numbers", "at", "k", "objects", "number", "registers", "kept", "watches"]
theorem sc__law_heap : FnScope N__law_heap ["box", "most"] (defScope s__law_heap) := ⟨rfl, rfl, rfl, by decide +kernel, rfl, by decide +kernel, by decide +kernel⟩
abbrev s__law_numbers : Stmt := topS 59
abbrev N__law_numbers : List Str := ["heap", "row"]
theorem sc__law_numbers : FnScope N__law_numbers ["heap"] (defScope s__law_numbers) := ⟨rfl, rfl, rfl, by decide +kernel, rfl, by decide +kernel, by decide +kernel⟩
abbrev s__law_some : Stmt := topS 60
abbrev N__law_some : List Str := ["box", "numbers", "number"]
theorem sc__law_some : FnScope N__law_some ["box", "numbers"] (defScope s__law_some) := ⟨rfl, rfl, rfl, by decide +kernel, rfl, by decide +kernel, by decide +kernel⟩
abbrev s__law_box : Stmt := topS 61
abbrev N__law_box : List Str := ["script", "first", "last"]
theorem sc__law_box : FnScope N__law_box ["script", "first", "last"] (defScope s__law_box) := ⟨rfl, rfl, rfl, by decide +kernel, rfl, by decide +kernel, by decide +kernel⟩
abbrev s_law : Stmt := topS 62
abbrev N_law : List Str := ["script", "box", "heap", "gone", "objects", "row", "blind", "number", "steps", "commands", "state", "k", "told"]
theorem sc_law : FnScope N_law ["script"] (defScope s_law) := ⟨rfl, rfl, rfl, by decide +kernel, rfl, by decide +kernel, by decide +kernel⟩
structure Txt (mg : Str → Option Value) : Prop where
  bool : mg "bool" = none
  dict : mg "dict" = none
  enumerate : mg "enumerate" = none
  int : mg "int" = none
  isinstance : mg "isinstance" = none
  len : mg "len" = none
  range : mg "range" = none
  set : mg "set" = none
  sorted : mg "sorted" = none
  str : mg "str" = none
  tuple : mg "tuple" = none
/-! ### dicts with number keys -/
def dictOf (os : List Addr) (obs : List Ob) : List (Key × V) := List.zipWith (fun a o => ((Sum.inl o.num : Key), V.ref a)) os obs
theorem key_has {kvs : List (Key × V)} {ks : List Int} (h : kvs.map (·.1) = ks.map Sum.inl) (n : Int) : (valV kvs (Sum.inl n)).isSome = decide (n ∈ ks) := by
  rw [← valV_any]
  induction kvs generalizing ks with
  | nil =>
    cases ks with
    | nil => rfl
    | cons k r => simp at h
  | cons p r ih =>
    cases ks with
    | nil => simp at h
    | cons k t =>
      simp only [List.map_cons, List.cons.injEq] at h
      rw [List.any_cons, ih h.2, h.1]
      by_cases e : k = n
      · subst e; simp
      · have e2 : ¬ ((Sum.inl k : Key) = Sum.inl n) := fun z => e (Sum.inl.inj z)
        have e3 : ¬ n = k := fun z => e z.symm
        simp [e2, e3]
theorem dictOf_keys : ∀ {os : List Addr} {obs : List Ob}, os.length = obs.length → (dictOf os obs).map (·.1) = (obs.map Ob.num).map Sum.inl
  | [], [], _ => rfl
  | [], _ :: _, h => by simp at h
  | _ :: _, [], h => by simp at h
  | a :: os, o :: obs, h => by
    show (Sum.inl o.num : Key) :: (dictOf os obs).map (·.1) = _
    rw [dictOf_keys (by simpa using h)]
    rfl
theorem dictOf_len {os : List Addr} {obs : List Ob} (h : os.length = obs.length) : (dictOf os obs).length = obs.length := by
  unfold dictOf; rw [List.length_zipWith, h, Nat.min_self]
theorem dictOf_at {os : List Addr} {obs : List Ob} {i : Nat} {a : Addr} {o : Ob} (h1 : os[i]? = some a) (h2 : obs[i]? = some o) : (dictOf os obs)[i]? = some (Sum.inl o.num, .ref a) := by
  unfold dictOf; rw [List.getElem?_zipWith, h1, h2]
/-- looked up by its number -/
theorem dictOf_get {K : PySem.W.Frag} {H : Hp} : ∀ {os : List Addr} {obs : List Ob} {n : Int}, Paired (ObAt K H) os obs → n ∈ obs.map Ob.num →
    ∃ a o, valV (dictOf os obs) (Sum.inl n) = some (.ref a) ∧ o ∈ obs ∧ o.num = n ∧ ObAt K H a o
  | _, _, n, .nil, h => by simp at h
  | a :: os, o :: obs, n, .cons r t, h => by
    by_cases e : o.num = n
    · exact ⟨a, o, valV_pos (by show (Sum.inl o.num : Key) = _; rw [e]), List.mem_cons_self, e, r⟩
    · have h' : n ∈ obs.map Ob.num := by
        rcases List.mem_cons.mp h with z | z
        · exact absurd z.symm e
        · exact z
      obtain ⟨a', o', h1, h2, h3, h4⟩ := dictOf_get t h'
      refine ⟨a', o', ?_, List.mem_cons_of_mem _ h2, h3, h4⟩
      show valV ((Sum.inl o.num, V.ref a) :: dictOf os obs) (Sum.inl n) = _
      rw [valV_neg (fun z => e (Sum.inl.inj z))]
      exact h1
theorem take_snoc {α : Type} {l : List α} {i : Nat} {x : α} (h : l[i]? = some x) : l.take (i + 1) = l.take i ++ [x] := by
  rw [List.take_add_one, h]; rfl
theorem num_notin {obs : List Ob} {os : List Addr} {i : Nat} {o : Ob} (hl : os.length = obs.length) (nd : (obs.map Ob.num).Nodup) (h : obs[i]? = some o) : valV ((dictOf os obs).take i) (Sum.inl o.num) = none := by
  have hk : ((dictOf os obs).take i).map (·.1) = ((obs.map Ob.num).take i).map Sum.inl := by
    rw [List.map_take, dictOf_keys hl, List.map_take]
  have q := key_has hk o.num
  cases e : valV ((dictOf os obs).take i) (Sum.inl o.num) with
  | none => rfl
  | some v =>
    rw [e] at q
    have m : o.num ∈ (obs.map Ob.num).take i := of_decide_eq_true q.symm
    obtain ⟨j, hj⟩ := List.getElem?_of_mem m
    have hlt : j < i := by
      have := (List.getElem?_eq_some_iff.mp hj).1
      rw [List.length_take] at this; omega
    rw [List.getElem?_take_of_lt hlt] at hj
    have hi : (obs.map Ob.num)[i]? = some o.num := by rw [List.getElem?_map, h]; rfl
    exact absurd (nd_ix nd hj hi) (Nat.ne_of_lt hlt)
theorem nodup_of_up {l : List Int} (h : l.Pairwise (· < ·)) : l.Nodup := h.imp fun h => Int.ne_of_lt h
section
variable (K : PySem.W.Frag)
def R_registers_of : V1 := fun x H Q => ∃ a h, x = .ref a ∧ HeapAt K H a h ∧ ∀ r, SqZ H r (h.regs.map rV) → Q (.ref r) H
abbrev sp_registers_of : Sp := sp1 (R_registers_of K)
def R_objects_of : V1 := fun x H Q => ∃ a h, x = .ref a ∧ HeapAt K H a h ∧ ∀ o, ObsAt K H o h → Q (.ref o) H
abbrev sp_objects_of : Sp := sp1 (R_objects_of K)
def R_by_number : V1 := fun x H Q => ∃ a h, x = .ref a ∧ HeapAt K H a h ∧ h.Ok ∧ ∀ p H' os, H p = none → ExA H H' → Paired (ObAt K H') os h.obs → H' p = some (.dK (dictOf os h.obs)) → Q (.ref p) H'
abbrev sp_by_number : Sp := sp1 (R_by_number K)
/-- a new list of numbers -/
def NewL (ns : List Int) (H : Hp) (Q : VK) : Prop := ∀ p H', H p = none → ExA H H' → H' p = some (.lst (ns.map .int)) → Q (.ref p) H'
/-- a new tuple of numbers -/
def NewT (ns : List Int) (H : Hp) (Q : VK) : Prop := ∀ p H', H p = none → ExA H H' → H' p = some (.tup (ns.map .int)) → Q (.ref p) H'
def R_objects_among : V1 := fun x H Q => ∃ (a : Addr) (rs : List Rf), x = .ref a ∧ SqT K H a (rs.map rV) ∧ rs.length ≤ 1000 ∧ NewL (rs.filterMap id) H Q
abbrev sp_objects_among : Sp := sp1 (R_objects_among K)
def Ob.small : Ob → Prop
  | .rcd _ fs => fs.length ≤ 1000
  | .weak _ _ => True
  | .tab _ es => es.length ≤ 1000
theorem Ob.ok.small {S : List Int} {o : Ob} (h : o.ok S) : o.small := by
  cases o with
  | rcd n fs => exact h.1
  | weak n t => trivial
  | tab n es => exact h.1
/-- a dict whose keys are these numbers -/
def KeysAt (H : Hp) (g : Addr) (gs : List Int) : Prop := ∃ kvs, H g = some (.dK kvs) ∧ kvs.map (·.1) = gs.map Sum.inl
def R_led_to : V3 := fun x y z H Q => ∃ (a : Addr) (o : Ob) (g : Addr) (gs : List Int) (c : Addr) (cs : List Int), x = .ref a ∧ y = .ref g ∧ z = .ref c ∧ ObAt K H a o ∧ o.small ∧ KeysAt H g gs ∧ KeysAt H c cs ∧ NewL (ledTo o gs cs) H Q
abbrev sp_led_to : Sp := sp3 (R_led_to K)
end
section
variable {P : Program} {w : World} {K : PySem.W.Frag} {mg : Str → Option Value} {base : Heap}
theorem ok_registers_of {f : Addr} {fd : FuncData} {cd : Value} (F : Df K "registers_of" s_registers_of f fd cd) (T : Txt mg) : FnOk P w K mg base CX0 1 f fd ["heap"] (sp_registers_of K) := by
  have nd := sc_registers_of.nd
  refine F.ok sc_registers_of (fun vs H Q E h => ?_) (fun A outer s H vs Q E hr h => ?_)
  · obtain ⟨_, rfl, _⟩ := h; rfl
  have hu := hu_of hr
  obtain ⟨x0, rfl, h⟩ := h
  refine ⟨_, (pss_one (ps_ret (pe_ix (r := rIxT K) ix_tup (pv 0) pe_int (fun _ _ => rfl)))), ?_⟩
  obtain ⟨a, h, rfl, ⟨r, k, o, w, ws, h1, h2, _⟩, q⟩ := h
  exact ⟨_, rfl, a, _, _, _, rfl, rfl, h1, at2, q r h2⟩
theorem ok_objects_of {f : Addr} {fd : FuncData} {cd : Value} (F : Df K "objects_of" s_objects_of f fd cd) (T : Txt mg) : FnOk P w K mg base CX0 1 f fd ["heap"] (sp_objects_of K) := by
  have nd := sc_objects_of.nd
  refine F.ok sc_objects_of (fun vs H Q E h => ?_) (fun A outer s H vs Q E hr h => ?_)
  · obtain ⟨_, rfl, _⟩ := h; rfl
  have hu := hu_of hr
  obtain ⟨x0, rfl, h⟩ := h
  refine ⟨_, (pss_one (ps_ret (pe_ix (r := rIxT K) ix_tup (pv 0) pe_int (fun _ _ => rfl)))), ?_⟩
  obtain ⟨a, h, rfl, ⟨r, k, o, w, ws, h1, h2, h3, h4, _⟩, q⟩ := h
  exact ⟨_, rfl, a, _, _, _, rfl, rfl, h1, at4, q o h4⟩
theorem ok_by_number {f : Addr} {fd : FuncData} {cd : Value} (F : Df K "by_number" s_by_number f fd cd) (T : Txt mg) (C_objects_of : Cal P w K mg base 1 "objects_of" (sp_objects_of K) []) : FnOk P w K mg base CX0 2 f fd ["heap"] (sp_by_number K) := by
  have nd := sc_by_number.nd
  refine F.ok sc_by_number (fun vs H Q E h => ?_) (fun A outer s H vs Q E hr h => ?_)
  · obtain ⟨_, rfl, _⟩ := h; rfl
  have hu := hu_of hr
  obtain ⟨x0, rfl, h⟩ := h
  refine ⟨_, (pss_one (ps_ret (pe_dc (own := [("thing", 1)]) rfl nd (show PI _ _ _ (iTup K _) from pi_tup (pe_c C_objects_of hr (by first | exact Nat.le_refl _ | decide) rfl (pa_cons (pv 0) pa_nil))) (blkOk_by (own := [("thing", 1)]) (N := N_by_number) (sc := defScope s_by_number) (by decide +kernel)) (fun _ _ _ _ _ => (pg_name (i := 1) nd rfl (by first | exact Or.inl rfl | exact Or.inr rfl))) (fun _ _ _ _ _ => pts_nil) (fun _ _ _ _ _ => (pe_ix (r := rIxT K) ix_tup (pv 1) pe_int (fun _ _ => rfl))) (fun _ _ _ _ _ => (pv 1))))), ?_⟩
  obtain ⟨a, h, rfl, hA, ok, q⟩ := h
  refine ⟨_, rfl, _, rfl, a, h, rfl, hA, fun o hO => ?_⟩
  obtain ⟨os, ho, hp⟩ := hO
  have hl := plen hp
  refine ⟨o, rfl, ⟨_, ho⟩, fun D hD => ?_⟩
  refine dcM [] (walk_tup (xs := os.map V.ref)) hD (fun i acc _ => acc = (dictOf os h.obs).take i) rfl (fun H' e => Tk.all e _ _ ho) (fun i x H1 H2 acc hi e h1 h2 hacc y => ?_) (fun H' acc e h1 h2 hacc => ?_)
  · obtain ⟨rfl, hx⟩ := y
    rw [List.getElem?_map] at hx
    cases hos : os[i]? with
    | none => rw [hos] at hx; cases hx
    | some a1 =>
      rw [hos] at hx
      obtain ⟨o1, ho1, hob⟩ := pget hp hos
      obtain rfl : V.ref a1 = x := Option.some.inj hx
      obtain ⟨kn, vn, hn⟩ := (ObAt.mono (Tk.all e) hob).num
      refine ⟨rfl, tyes ⟨_, rfl, a1, _, _, _, rfl, rfl, hn, at1, _, rfl, ?_⟩⟩
      have hi' : i < 50 := by
        have z := (List.getElem?_eq_some_iff.mp ho1).1
        have := ok.size
        omega
      refine DcP.yes (k := Sum.inl o1.num) hD (by simp) (by omega) e h1 h2 rfl (ExM.refl _ _) ?_
      rw [hacc, putK_new _ (num_notin hl (nodup_of_up ok.up) ho1), take_snoc (dictOf_at hos ho1)]
  · refine q D H' os hD e (pmp hp fun _ _ z => ObAt.mono (Tk.all e) z) ?_
    rw [h1, hacc, List.length_map, hl, ← dictOf_len hl, List.take_length]
theorem ok_objects_among {f : Addr} {fd : FuncData} {cd : Value} (F : Df K "objects_among" s_objects_among f fd cd) (T : Txt mg) : FnOk P w K mg base CX0 1 f fd ["references"] (sp_objects_among K) := by
  have nd := sc_objects_among.nd
  refine F.ok sc_objects_among (fun vs H Q E h => ?_) (fun A outer s H vs Q E hr h => ?_)
  · obtain ⟨_, rfl, _⟩ := h; rfl
  have hu := hu_of hr
  obtain ⟨x0, rfl, h⟩ := h
  refine ⟨_, (pss_one (ps_ret (pe_lc (own := [("number", 1)]) rfl nd (show PI _ _ _ (iTup K _) from pi_tup (pv 0)) (blkOk_by (own := [("number", 1)]) (N := N_objects_among) (sc := defScope s_objects_among) (by decide +kernel)) (fun _ _ _ _ _ => (pg_name (i := 1) nd rfl (by first | exact Or.inl rfl | exact Or.inr rfl))) (fun _ _ _ _ _ => (pts_one (pt_cmpR op_notN (pv 1) pe_non (nomark _)))) (fun _ _ _ _ _ => (pv 1))))), ?_⟩
  obtain ⟨a, rs, rfl, hA, hz, q⟩ := h
  refine ⟨_, rfl, a, rfl, ⟨_, hA⟩, fun D hD => ?_⟩
  refine lcM [] (walk_tup (xs := rs.map rV)) hD (fun i acc _ => acc = ((rs.take i).filterMap id).map V.int) rfl (fun H' e => Tk.all e _ _ hA) (fun i x H1 H2 acc hi e h1 h2 hacc y => ?_) (fun H' acc e h1 h2 hacc => ?_)
  · obtain ⟨rfl, hx⟩ := y
    rw [List.length_map] at hi
    obtain ⟨r, hr⟩ : ∃ r, rs[i]? = some r := ⟨rs[i], List.getElem?_eq_getElem hi⟩
    rw [List.getElem?_map, hr] at hx
    obtain rfl : rV r = x := Option.some.inj hx
    refine ⟨rfl, _, rfl, rfl, _, rfl, ?_⟩
    have ht := take_snoc hr
    cases r with
    | none => exact iteF (LcP.no (by simp) e h1 h2 (ExM.refl _ _) (by rw [hacc, ht, List.filterMap_append]; simp))
    | some n => exact iteT ⟨_, rfl, LcP.yes hD (by simp) (by omega) e h1 h2 (ExM.refl _ _) (by rw [hacc, ht, List.filterMap_append, List.map_append]; rfl)⟩
  · refine q D H' hD e ?_
    rw [h1, hacc, List.length_map, List.take_length]
theorem ok_led_to {f : Addr} {fd : FuncData} {cd : Value} (F : Df K "led_to" s_led_to f fd cd) (T : Txt mg) (C_objects_among : Cal P w K mg base 1 "objects_among" (sp_objects_among K) []) : FnOk P w K mg base CX0 2 f fd ["thing", "got", "condemned"] (sp_led_to K) := by
  have nd := sc_led_to.nd
  refine F.ok sc_led_to (fun vs H Q E h => ?_) (fun A outer s H vs Q E hr h => ?_)
  · obtain ⟨_, _, _, rfl, _⟩ := h; rfl
  have hu := hu_of hr
  obtain ⟨x0, x1, x2, rfl, h⟩ := h
  refine ⟨_, (pss_cons (ps_if (pt_cmpR op_eq (pe_ix (r := rIxT K) ix_tup (pv 0) pe_int (fun _ _ => rfl)) pe_str (nomark _)) (pss_one (ps_ret (pe_c C_objects_among hr (by first | exact Nat.le_refl _ | decide) rfl (pa_cons (pe_ix (r := rIxT K) ix_tup (pv 0) pe_int (fun _ _ => rfl)) pa_nil)))) pss_nil)
    (pss_cons (ps_if (pt_cmpR op_eq (pe_ix (r := rIxT K) ix_tup (pv 0) pe_int (fun _ _ => rfl)) pe_str (nomark _)) (pss_one (ps_ret (pe_lc (own := [("key", 3), ("value", 4)]) rfl nd (show PI _ _ _ (iTup K _) from pi_tup (pe_ix (r := rIxT K) ix_tup (pv 0) pe_int (fun _ _ => rfl))) (blkOk_by (own := [("key", 3), ("value", 4)]) (N := N_led_to) (sc := defScope s_led_to) (by decide +kernel)) (fun _ _ _ _ _ => (show PG _ _ (gTup K 2 _) from pg_tup rfl (pgs_cons (pg_name (i := 3) nd rfl (by first | exact Or.inl rfl | exact Or.inr rfl)) (pgs_cons (pg_name (i := 4) nd rfl (by first | exact Or.inl rfl | exact Or.inr rfl)) pgs_nil)))) (fun _ _ _ _ _ => (pts_one (pt_cmp (pc_din hu (pv 3) (pv 1)) rfl))) (fun _ _ _ _ _ => (pv 4))))) pss_nil)
    (pss_cons (ps_if (PW.pt (pw_or (pt_cmpR op_isN (pe_ix (r := rIxT K) ix_tup (pv 0) pe_int (fun _ _ => rfl)) pe_non (nomark _)) (pw_or1 (pt_cmp (pc_din hu (pe_ix (r := rIxT K) ix_tup (pv 0) pe_int (fun _ _ => rfl)) (pv 2)) rfl)))) (pss_one (ps_ret (pe_lst pa_nil))) pss_nil)
    (pss_one (ps_ret (pe_lst (pa_cons (pe_ix (r := rIxT K) ix_tup (pv 0) pe_int (fun _ _ => rfl)) pa_nil))))))), ?_⟩
  obtain ⟨a, o, g, gs, c, cs, rfl, rfl, rfl, hO, sm, ⟨gk, hg, hgk⟩, ⟨ck, hc, hck⟩, q⟩ := h
  cases o with
  | rcd n fs =>
    obtain ⟨t, h1, h2⟩ := hO
    refine ⟨_, rfl, a, _, _, _, rfl, rfl, h1, at0, rfl, _, rfl, iteT ?_⟩
    exact ⟨_, rfl, a, _, _, _, rfl, rfl, h1, at2, _, rfl, t, fs, rfl, h2.sq, sm, q⟩
  | weak n t =>
    have h1 : SqT K H a [.str "weak", .int n, rV t] := hO
    refine ⟨_, rfl, a, _, _, _, rfl, rfl, h1, at0, rfl, _, rfl, iteF ?_⟩
    refine ⟨_, rfl, a, _, _, _, rfl, rfl, h1, at0, rfl, _, rfl, iteF ?_⟩
    refine ⟨_, rfl, a, _, _, _, rfl, rfl, h1, at2, rfl, _, rfl, ?_⟩
    cases t with
    | none => exact iteT (iteT ⟨Nat.zero_le _, fun p hp => q p _ hp (ExM.new hp) upd_same⟩)
    | some i =>
      refine iteF ⟨_, rfl, a, _, _, _, rfl, rfl, h1, at2, _, rfl, c, _, rfl, DGet.k (k := Sum.inl i) hc, _, rfl, ?_⟩
      rw [key_has hck i]
      have q : NewL (if i ∈ cs then [] else [i]) H Q := q
      by_cases m : i ∈ cs
      · rw [decide_eq_true m]
        rw [if_pos m] at q
        exact iteT ⟨Nat.zero_le _, fun p hp => q p _ hp (ExM.new hp) upd_same⟩
      · rw [decide_eq_false m]
        rw [if_neg m] at q
        exact iteF ⟨_, rfl, a, _, _, _, rfl, rfl, h1, at2, sz (by show 1 ≤ 100000; decide), fun p hp => q p _ hp (ExM.new hp) upd_same⟩
  | tab n es =>
    obtain ⟨t, ps, h1, hz2, h3⟩ := hO; have h2 := hz2.sq (K := K)
    refine ⟨_, rfl, a, _, _, _, rfl, rfl, h1, at0, rfl, _, rfl, iteF ?_⟩
    refine ⟨_, rfl, a, _, _, _, rfl, rfl, h1, at0, rfl, _, rfl, iteT ?_⟩
    refine ⟨_, rfl, a, _, _, _, rfl, rfl, h1, at2, t, rfl, ⟨_, h2⟩, fun D hD => ?_⟩
    have hl := plen h3
    have sm' : es.length ≤ 1000 := sm
    refine lcM [] (walk_tup (xs := ps.map V.ref)) hD (fun i acc _ => acc = (((es.take i).filter fun e => decide (e.1 ∈ gs)).map (·.2)).map V.int) rfl (fun H' e => Tk.all e _ _ h2) (fun i x H1 H2 acc hi e k1 k2 hacc y => ?_) (fun H' acc e k1 k2 hacc => ?_)
    · obtain ⟨rfl, hx⟩ := y
      rw [List.length_map] at hi
      obtain ⟨p, hp⟩ : ∃ p, ps[i]? = some p := ⟨ps[i], List.getElem?_eq_getElem hi⟩
      obtain ⟨e1, he1, hpa⟩ := pget h3 hp
      rw [List.getElem?_map, hp] at hx
      obtain rfl : V.ref p = x := Option.some.inj hx
      refine ⟨p, _, rfl, Tk.all e _ _ hpa, rfl, _, _, rfl, _, _, rfl, ⟨rfl, rfl, ?_⟩⟩
      refine ⟨_, rfl, _, rfl, g, _, rfl, DGet.k (k := Sum.inl e1.1) (ExA.at e hg), _, rfl, ?_⟩
      rw [key_has hgk e1.1]
      have ht := take_snoc he1
      by_cases m : e1.1 ∈ gs
      · rw [decide_eq_true m]
        refine iteT ⟨_, rfl, LcP.yes hD (by simp) (by omega) e k1 k2 (ExM.refl _ _) ?_⟩
        rw [hacc, ht, List.filter_append, List.map_append, List.map_append]
        simp [m]
      · rw [decide_eq_false m]
        refine iteF (LcP.no (by simp) e k1 k2 (ExM.refl _ _) ?_)
        rw [hacc, ht, List.filter_append, List.map_append, List.map_append]
        simp [m]
    · refine q D H' hD e ?_
      rw [k1, hacc, List.length_map, hl, List.take_length]
      rfl
end
end Wc
/-! The module's dicts and tuples. -/
namespace Wc
open PySem L2
def exs (K : PySem.W.Frag) : List Bool := [tupAtB K (He.ga K "FILLED") "weak" [.int 2],
  tupAtB K (He.ga K "FILLED") "read" [.int 2],
  tupAtB K (He.ga K "FILLED") "write" [.int 1],
  tupAtB K (He.ga K "FILLED") "deref" [.int 2],
  tupAtB K (He.ga K "FILLED") "put" [.int 1, .int 2, .int 3],
  tupAtB K (He.ga K "FILLED") "remove" [.int 1, .int 2],
  tupAtB K (He.ga K "FILLED") "lookup" [.int 2, .int 3],
  tupAtB K (He.ga K "FILLED") "watch" [.int 1],
  He.eqO (PySem.W.nsIn K (He.ga K "FILLED") "record") (some none),
  He.eqO (PySem.W.nsIn K (He.ga K "FILLED") "table") (some none),
  He.eqO (PySem.W.nsIn K (He.ga K "FILLED") "copy") (some none),
  He.eqO (PySem.W.nsIn K (He.ga K "FILLED") "clear") (some none),
  He.eqO (PySem.W.nsIn K (He.ga K "FILLED") "drain") (some none),
  He.eqO (PySem.W.nsIn K (He.ga K "FILLED") "end") (some none),
  He.valsB K (He.ga K "KINDS") [("read", .str "record")],
  He.valsB K (He.ga K "KINDS") [("write", .str "record")],
  He.valsB K (He.ga K "KINDS") [("deref", .str "weak")],
  He.valsB K (He.ga K "KINDS") [("put", .str "table")],
  He.valsB K (He.ga K "KINDS") [("remove", .str "table")],
  He.valsB K (He.ga K "KINDS") [("lookup", .str "table")],
  He.eqO (PySem.W.nsIn K (He.ga K "KINDS") "record") (some none),
  He.eqO (PySem.W.nsIn K (He.ga K "KINDS") "weak") (some none),
  He.eqO (PySem.W.nsIn K (He.ga K "KINDS") "table") (some none),
  He.eqO (PySem.W.nsIn K (He.ga K "KINDS") "copy") (some none),
  He.eqO (PySem.W.nsIn K (He.ga K "KINDS") "clear") (some none),
  He.eqO (PySem.W.nsIn K (He.ga K "KINDS") "watch") (some none),
  He.eqO (PySem.W.nsIn K (He.ga K "KINDS") "drain") (some none),
  He.eqO (PySem.W.nsIn K (He.ga K "KINDS") "end") (some none),
  He.valsB K (He.ga K "WRONG_KINDS") [("record", .str "not a record")],
  He.valsB K (He.ga K "WRONG_KINDS") [("weak", .str "not a weak reference")],
  He.valsB K (He.ga K "WRONG_KINDS") [("table", .str "not a table")],
  He.valsB K (He.ga K "ACTIONS") [("record", .glo "make_record")],
  He.valsB K (He.ga K "ACTIONS") [("weak", .glo "make_weak")],
  He.valsB K (He.ga K "ACTIONS") [("table", .glo "make_table")],
  He.valsB K (He.ga K "ACTIONS") [("copy", .glo "copy_reference")],
  He.valsB K (He.ga K "ACTIONS") [("clear", .glo "clear_place")],
  He.valsB K (He.ga K "ACTIONS") [("read", .glo "read_field")],
  He.valsB K (He.ga K "ACTIONS") [("write", .glo "write_field")],
  He.valsB K (He.ga K "ACTIONS") [("deref", .glo "deref_target")],
  He.valsB K (He.ga K "ACTIONS") [("put", .glo "put_entry")],
  He.valsB K (He.ga K "ACTIONS") [("remove", .glo "remove_entry")],
  He.valsB K (He.ga K "ACTIONS") [("lookup", .glo "lookup_key")],
  He.valsB K (He.ga K "ACTIONS") [("watch", .glo "add_watch")],
  He.valsB K (He.ga K "ACTIONS") [("end", .glo "end_job")]]
theorem exs_at {K : PySem.W.Frag} (h : (exs K).all id = true) (i : Nat) {b : Bool} (e : (exs K)[i]? = some b) : b = true := List.all_eq_true.mp h b (List.mem_of_getElem? e)
structure Tb (K : PySem.W.Frag) (w : World) (mg : Str → Option Value) : Prop where
  g_FILLED : mg "FILLED" = some (.ref (He.ga K "FILLED"))
  d_FILLED : MdAt K w mg "FILLED" (He.ga K "FILLED")
  k_FILLED_weak : KTup K (He.ga K "FILLED") "weak" [.int 2]
  k_FILLED_read : KTup K (He.ga K "FILLED") "read" [.int 2]
  k_FILLED_write : KTup K (He.ga K "FILLED") "write" [.int 1]
  k_FILLED_deref : KTup K (He.ga K "FILLED") "deref" [.int 2]
  k_FILLED_put : KTup K (He.ga K "FILLED") "put" [.int 1, .int 2, .int 3]
  k_FILLED_remove : KTup K (He.ga K "FILLED") "remove" [.int 1, .int 2]
  k_FILLED_lookup : KTup K (He.ga K "FILLED") "lookup" [.int 2, .int 3]
  k_FILLED_watch : KTup K (He.ga K "FILLED") "watch" [.int 1]
  n_FILLED_record : KNot K (He.ga K "FILLED") "record"
  n_FILLED_table : KNot K (He.ga K "FILLED") "table"
  n_FILLED_copy : KNot K (He.ga K "FILLED") "copy"
  n_FILLED_clear : KNot K (He.ga K "FILLED") "clear"
  n_FILLED_drain : KNot K (He.ga K "FILLED") "drain"
  n_FILLED_end : KNot K (He.ga K "FILLED") "end"
  g_KINDS : mg "KINDS" = some (.ref (He.ga K "KINDS"))
  d_KINDS : MdAt K w mg "KINDS" (He.ga K "KINDS")
  k_KINDS_read : KHas K (He.ga K "KINDS") "read" (.str "record")
  k_KINDS_write : KHas K (He.ga K "KINDS") "write" (.str "record")
  k_KINDS_deref : KHas K (He.ga K "KINDS") "deref" (.str "weak")
  k_KINDS_put : KHas K (He.ga K "KINDS") "put" (.str "table")
  k_KINDS_remove : KHas K (He.ga K "KINDS") "remove" (.str "table")
  k_KINDS_lookup : KHas K (He.ga K "KINDS") "lookup" (.str "table")
  n_KINDS_record : KNot K (He.ga K "KINDS") "record"
  n_KINDS_weak : KNot K (He.ga K "KINDS") "weak"
  n_KINDS_table : KNot K (He.ga K "KINDS") "table"
  n_KINDS_copy : KNot K (He.ga K "KINDS") "copy"
  n_KINDS_clear : KNot K (He.ga K "KINDS") "clear"
  n_KINDS_watch : KNot K (He.ga K "KINDS") "watch"
  n_KINDS_drain : KNot K (He.ga K "KINDS") "drain"
  n_KINDS_end : KNot K (He.ga K "KINDS") "end"
  g_WRONG_KINDS : mg "WRONG_KINDS" = some (.ref (He.ga K "WRONG_KINDS"))
  d_WRONG_KINDS : MdAt K w mg "WRONG_KINDS" (He.ga K "WRONG_KINDS")
  k_WRONG_KINDS_record : KHas K (He.ga K "WRONG_KINDS") "record" (.str "not a record")
  k_WRONG_KINDS_weak : KHas K (He.ga K "WRONG_KINDS") "weak" (.str "not a weak reference")
  k_WRONG_KINDS_table : KHas K (He.ga K "WRONG_KINDS") "table" (.str "not a table")
  g_ACTIONS : mg "ACTIONS" = some (.ref (He.ga K "ACTIONS"))
  d_ACTIONS : MdAt K w mg "ACTIONS" (He.ga K "ACTIONS")
  k_ACTIONS_record : KHas K (He.ga K "ACTIONS") "record" (.ref (He.ga K "make_record"))
  k_ACTIONS_weak : KHas K (He.ga K "ACTIONS") "weak" (.ref (He.ga K "make_weak"))
  k_ACTIONS_table : KHas K (He.ga K "ACTIONS") "table" (.ref (He.ga K "make_table"))
  k_ACTIONS_copy : KHas K (He.ga K "ACTIONS") "copy" (.ref (He.ga K "copy_reference"))
  k_ACTIONS_clear : KHas K (He.ga K "ACTIONS") "clear" (.ref (He.ga K "clear_place"))
  k_ACTIONS_read : KHas K (He.ga K "ACTIONS") "read" (.ref (He.ga K "read_field"))
  k_ACTIONS_write : KHas K (He.ga K "ACTIONS") "write" (.ref (He.ga K "write_field"))
  k_ACTIONS_deref : KHas K (He.ga K "ACTIONS") "deref" (.ref (He.ga K "deref_target"))
  k_ACTIONS_put : KHas K (He.ga K "ACTIONS") "put" (.ref (He.ga K "put_entry"))
  k_ACTIONS_remove : KHas K (He.ga K "ACTIONS") "remove" (.ref (He.ga K "remove_entry"))
  k_ACTIONS_lookup : KHas K (He.ga K "ACTIONS") "lookup" (.ref (He.ga K "lookup_key"))
  k_ACTIONS_watch : KHas K (He.ga K "ACTIONS") "watch" (.ref (He.ga K "add_watch"))
  k_ACTIONS_end : KHas K (He.ga K "ACTIONS") "end" (.ref (He.ga K "end_job"))
theorem Tb.of {K : PySem.W.Frag} {w : World} {mg : Str → Option Value} (g_FILLED : mg "FILLED" = some (.ref (He.ga K "FILLED"))) (g_KINDS : mg "KINDS" = some (.ref (He.ga K "KINDS"))) (g_WRONG_KINDS : mg "WRONG_KINDS" = some (.ref (He.ga K "WRONG_KINDS"))) (g_ACTIONS : mg "ACTIONS" = some (.ref (He.ga K "ACTIONS"))) (d_FILLED : ∃ es n, KDict K w (He.ga K "FILLED") es n) (d_KINDS : ∃ es n, KDict K w (He.ga K "KINDS") es n) (d_WRONG_KINDS : ∃ es n, KDict K w (He.ga K "WRONG_KINDS") es n) (d_ACTIONS : ∃ es n, KDict K w (He.ga K "ACTIONS") es n) (h : (exs K).all id = true) : Tb K w mg :=
  { g_FILLED := g_FILLED,
    d_FILLED := ⟨g_FILLED, d_FILLED⟩,
    k_FILLED_weak := ktup_of (exs_at h 0 rfl),
    k_FILLED_read := ktup_of (exs_at h 1 rfl),
    k_FILLED_write := ktup_of (exs_at h 2 rfl),
    k_FILLED_deref := ktup_of (exs_at h 3 rfl),
    k_FILLED_put := ktup_of (exs_at h 4 rfl),
    k_FILLED_remove := ktup_of (exs_at h 5 rfl),
    k_FILLED_lookup := ktup_of (exs_at h 6 rfl),
    k_FILLED_watch := ktup_of (exs_at h 7 rfl),
    n_FILLED_record := knot_of (exs_at h 8 rfl),
    n_FILLED_table := knot_of (exs_at h 9 rfl),
    n_FILLED_copy := knot_of (exs_at h 10 rfl),
    n_FILLED_clear := knot_of (exs_at h 11 rfl),
    n_FILLED_drain := knot_of (exs_at h 12 rfl),
    n_FILLED_end := knot_of (exs_at h 13 rfl),
    g_KINDS := g_KINDS,
    d_KINDS := ⟨g_KINDS, d_KINDS⟩,
    k_KINDS_read := khas_of (exs_at h 14 rfl) (List.mem_singleton.mpr rfl),
    k_KINDS_write := khas_of (exs_at h 15 rfl) (List.mem_singleton.mpr rfl),
    k_KINDS_deref := khas_of (exs_at h 16 rfl) (List.mem_singleton.mpr rfl),
    k_KINDS_put := khas_of (exs_at h 17 rfl) (List.mem_singleton.mpr rfl),
    k_KINDS_remove := khas_of (exs_at h 18 rfl) (List.mem_singleton.mpr rfl),
    k_KINDS_lookup := khas_of (exs_at h 19 rfl) (List.mem_singleton.mpr rfl),
    n_KINDS_record := knot_of (exs_at h 20 rfl),
    n_KINDS_weak := knot_of (exs_at h 21 rfl),
    n_KINDS_table := knot_of (exs_at h 22 rfl),
    n_KINDS_copy := knot_of (exs_at h 23 rfl),
    n_KINDS_clear := knot_of (exs_at h 24 rfl),
    n_KINDS_watch := knot_of (exs_at h 25 rfl),
    n_KINDS_drain := knot_of (exs_at h 26 rfl),
    n_KINDS_end := knot_of (exs_at h 27 rfl),
    g_WRONG_KINDS := g_WRONG_KINDS,
    d_WRONG_KINDS := ⟨g_WRONG_KINDS, d_WRONG_KINDS⟩,
    k_WRONG_KINDS_record := khas_of (exs_at h 28 rfl) (List.mem_singleton.mpr rfl),
    k_WRONG_KINDS_weak := khas_of (exs_at h 29 rfl) (List.mem_singleton.mpr rfl),
    k_WRONG_KINDS_table := khas_of (exs_at h 30 rfl) (List.mem_singleton.mpr rfl),
    g_ACTIONS := g_ACTIONS,
    d_ACTIONS := ⟨g_ACTIONS, d_ACTIONS⟩,
    k_ACTIONS_record := khas_of (exs_at h 31 rfl) (List.mem_singleton.mpr rfl),
    k_ACTIONS_weak := khas_of (exs_at h 32 rfl) (List.mem_singleton.mpr rfl),
    k_ACTIONS_table := khas_of (exs_at h 33 rfl) (List.mem_singleton.mpr rfl),
    k_ACTIONS_copy := khas_of (exs_at h 34 rfl) (List.mem_singleton.mpr rfl),
    k_ACTIONS_clear := khas_of (exs_at h 35 rfl) (List.mem_singleton.mpr rfl),
    k_ACTIONS_read := khas_of (exs_at h 36 rfl) (List.mem_singleton.mpr rfl),
    k_ACTIONS_write := khas_of (exs_at h 37 rfl) (List.mem_singleton.mpr rfl),
    k_ACTIONS_deref := khas_of (exs_at h 38 rfl) (List.mem_singleton.mpr rfl),
    k_ACTIONS_put := khas_of (exs_at h 39 rfl) (List.mem_singleton.mpr rfl),
    k_ACTIONS_remove := khas_of (exs_at h 40 rfl) (List.mem_singleton.mpr rfl),
    k_ACTIONS_lookup := khas_of (exs_at h 41 rfl) (List.mem_singleton.mpr rfl),
    k_ACTIONS_watch := khas_of (exs_at h 42 rfl) (List.mem_singleton.mpr rfl),
    k_ACTIONS_end := khas_of (exs_at h 43 rfl) (List.mem_singleton.mpr rfl) }
end Wc
/-! Heaps that differ in one thing: holding, keeping, adding, replacing, watching. -/
namespace Wc
open PySem L2
/-- a heap of this data, made anew -/
def NewHd (K : PySem.W.Frag) (h : Hd) (H : Hp) (Q : VK) : Prop := ∀ H' p, ExA H H' → HeapAt K H' p h → Q (.ref p) H'
section
variable (K : PySem.W.Frag)
def R_following_of : V1 := fun x H Q => ∃ a h, x = .ref a ∧ HeapAt K H a h ∧ Q (.int h.nx) H
abbrev sp_following_of : Sp := sp1 (R_following_of K)
def R_holding : V3 := fun x y z H Q => ∃ (a : Addr) (h : Hd) (i : Nat) (r : Rf), x = .ref a ∧ y = .int (i : Int) ∧ z = rV r ∧ HeapAt K H a h ∧ i < h.regs.length ∧ h.regs.length ≤ 1000 ∧ NewHd K (load h i r) H Q
abbrev sp_holding : Sp := sp3 (R_holding K)
def R_keeping : V2 := fun x y H Q => ∃ (a : Addr) (h : Hd) (n : Int), x = .ref a ∧ y = .int n ∧ HeapAt K H a h ∧ h.Ok ∧ n ∈ h.nums ∧ NewHd K (keep h (some n)) H Q
abbrev sp_keeping : Sp := sp2 (R_keeping K)
def R_keeping_nothing : V1 := fun x H Q => ∃ (a : Addr) (h : Hd), x = .ref a ∧ HeapAt K H a h ∧ NewHd K { h with kept := [] } H Q
abbrev sp_keeping_nothing : Sp := sp1 (R_keeping_nothing K)
def R_adding : V3 := fun x y z H Q => ∃ (a : Addr) (h : Hd) (o : Ob) (k : Str), x = .ref a ∧ y = .str k ∧ HeapAt K H a h ∧ h.obs.length ≤ 1000 ∧ (∀ H' p, ExA H H' → SqT K H' p [.str k, .int h.nx, z] → ObAt K H' p o) ∧ NewHd K (addOb h o) H Q
abbrev sp_adding : Sp := sp3 (R_adding K)
def R_replacing : V2 := fun x y H Q => ∃ (a : Addr) (h : Hd) (t : Addr) (o : Ob), x = .ref a ∧ y = .ref t ∧ HeapAt K H a h ∧ h.obs.length ≤ 1000 ∧ ObAt K H t o ∧ NewHd K (replOb h o) H Q
abbrev sp_replacing : Sp := sp2 (R_replacing K)
def R_watching : V3 := fun x y z H Q => ∃ (a : Addr) (h : Hd) (n t : Int), x = .ref a ∧ y = .int n ∧ z = .int t ∧ HeapAt K H a h ∧ h.wat.length ≤ 1000 ∧ NewHd K { h with wat := h.wat ++ [(n, t)] } H Q
abbrev sp_watching : Sp := sp3 (R_watching K)
end
section
variable {P : Program} {w : World} {K : PySem.W.Frag} {mg : Str → Option Value} {base : Heap}
theorem ok_holding {f : Addr} {fd : FuncData} {cd : Value} (F : Df K "holding" s_holding f fd cd) (T : Txt mg) : FnOk P w K mg base CX0 1 f fd ["heap", "place", "reference"] (sp_holding K) := by
  have nd := sc_holding.nd
  refine F.ok sc_holding (fun vs H Q E h => ?_) (fun A outer s H vs Q E hr h => ?_)
  · obtain ⟨_, _, _, rfl, _⟩ := h; rfl
  have hu := hu_of hr
  obtain ⟨x0, x1, x2, rfl, h⟩ := h
  refine ⟨_, (pss_cons (ps_asg (pv 0) (show PG _ _ (gTup K 6 _) from pg_tup rfl (pgs_cons (pg_name (i := 3) nd rfl (by first | exact Or.inl rfl | exact Or.inr rfl)) (pgs_cons (pg_name (i := 4) nd rfl (by first | exact Or.inl rfl | exact Or.inr rfl)) (pgs_cons (pg_name (i := 5) nd rfl (by first | exact Or.inl rfl | exact Or.inr rfl)) (pgs_cons (pg_name (i := 6) nd rfl (by first | exact Or.inl rfl | exact Or.inr rfl)) (pgs_cons (pg_name (i := 7) nd rfl (by first | exact Or.inl rfl | exact Or.inr rfl)) (pgs_cons (pg_name (i := 8) nd rfl (by first | exact Or.inl rfl | exact Or.inr rfl)) pgs_nil))))))))
    (pss_cons (ps_set (i := 9) nd rfl (by first | exact Or.inl rfl | exact Or.inr rfl) (pe_op (r := rCatZ K) op_catZ (pe_op (r := rCatZ K) op_catZ (pe_slice (r := rSlA K) sl_tupA (pv 5) po_none (po_some (pv 1))) (pe_tupZ (pa_cons (pv 2) pa_nil))) (pe_slice (r := rSlA K) sl_tupA (pv 5) (po_some (pe_op op_add (pv 1) pe_int)) po_none)))
    (pss_one (ps_ret (pe_tupZ (pa_cons (pv 3) (pa_cons (pv 4) (pa_cons (pv 9) (pa_cons (pv 6) (pa_cons (pv 7) (pa_cons (pv 8) pa_nil))))))))))), ?_⟩
  obtain ⟨a, h, i, r, rfl, rfl, rfl, hA, li, lr, q⟩ := h
  obtain ⟨ra, ka, oa, wa, ws, h1, h2, h3, h4, h5, h6⟩ := id hA
  refine ⟨_, rfl, a, _, rfl, h1, rfl, _, _, rfl, _, _, rfl, _, _, rfl, _, _, rfl, _, _, rfl, _, _, rfl, rfl, ?_⟩
  refine nxI (σ' := [some (.ref a), some (.int i), some (rV r), some (.str "heap"), some (.int h.nx), some (.ref ra), some (.ref ka), some (.ref oa), some (.ref wa), none]) rfl ?_
  have lm : (h.regs.map rV).length = h.regs.length := List.length_map _
  refine ⟨_, rfl, _, rfl, _, rfl, slA_to h2.sq (show i ≤ (h.regs.map rV).length by omega) fun p1 H1 e1 s1 => ?_⟩
  refine ⟨_, rfl, sz (by show 1 ≤ 100000; decide), fun p2 o2 f2 n2 => ?_⟩
  have s1' := Tk.new (K := K) (o := .frz o2 (.tup [rV r])) f2 _ _ s1
  refine rCatZ.right s1' (SqZ.of n2 upd_same) (by simp) (sz (by rw [List.length_take]; simp; omega)) fun p3 H3 e3 z3 => ?_
  have t2 : ExA H H3 := (e1.put (ExA.free e1 f2)).trans e3
  refine ⟨_, rfl, _, rfl, _, _, rfl, rfl, _, rfl, ?_⟩
  have e4 : ((i : Int) + 1) = ((i + 1 : Nat) : Int) := by omega
  rw [e4]
  dsimp only [tNoPart]
  refine slA_from (Tk.all t2 _ _ h2.sq) (show i + 1 ≤ (h.regs.map rV).length by omega) fun p4 H4 e4 s4 => ?_
  refine rCatZ.left (z3.mono (Tk.all (K := K) e4)) s4 (by simp) (sz (by simp; omega)) fun p5 H5 e5 z5 => ?_
  rw [set_cut (by omega), ← List.map_set] at z5
  refine gI (σ' := [some (.ref a), some (.int i), some (rV r), some (.str "heap"), some (.int h.nx), some (.ref ra), some (.ref ka), some (.ref oa), some (.ref wa), some (.ref p5)]) rfl ?_
  have eE : ExA H H5 := (t2.trans e4).trans e5
  refine ⟨_, rfl, _, rfl, _, rfl, _, rfl, _, rfl, _, rfl, sz (by show 6 ≤ 100000; decide), fun p o fp no => ?_⟩
  have T : Tk K H5 (upd H5 p _) := Tk.new (o := .frz o (.tup [.str "heap", .int h.nx, .ref p5, .ref ka, .ref oa, .ref wa])) fp
  have TE : Tk K H (upd H5 p _) := Tk.trans (Tk.all eE) T
  exact q _ p (eE.put (ExA.free eE fp)) ⟨p5, ka, oa, wa, ws, (SqZ.of no upd_same).sq, z5.mono T, TE _ _ h3, h4.mono TE, TE _ _ h5, pmp h6 fun _ _ z => PairAt.mono TE z⟩
theorem ok_following_of {f : Addr} {fd : FuncData} {cd : Value} (F : Df K "following_of" s_following_of f fd cd) (T : Txt mg) : FnOk P w K mg base CX0 1 f fd ["heap"] (sp_following_of K) := by
  have nd := sc_following_of.nd
  refine F.ok sc_following_of (fun vs H Q E h => ?_) (fun A outer s H vs Q E hr h => ?_)
  · obtain ⟨_, rfl, _⟩ := h; rfl
  have hu := hu_of hr
  obtain ⟨x0, rfl, h⟩ := h
  refine ⟨_, (pss_one (ps_ret (pe_ix (r := rIxT K) ix_tup (pv 0) pe_int (fun _ _ => rfl)))), ?_⟩
  obtain ⟨a, h, rfl, ⟨r, k, o, w, ws, h1, _⟩, q⟩ := h
  exact ⟨_, rfl, a, _, _, _, rfl, rfl, h1, at1, q⟩
theorem ok_keeping_nothing {f : Addr} {fd : FuncData} {cd : Value} (F : Df K "keeping_nothing" s_keeping_nothing f fd cd) (T : Txt mg) : FnOk P w K mg base CX0 1 f fd ["heap"] (sp_keeping_nothing K) := by
  have nd := sc_keeping_nothing.nd
  refine F.ok sc_keeping_nothing (fun vs H Q E h => ?_) (fun A outer s H vs Q E hr h => ?_)
  · obtain ⟨_, rfl, _⟩ := h; rfl
  have hu := hu_of hr
  obtain ⟨x0, rfl, h⟩ := h
  refine ⟨_, (pss_cons (ps_asg (pv 0) (show PG _ _ (gTup K 6 _) from pg_tup rfl (pgs_cons (pg_name (i := 1) nd rfl (by first | exact Or.inl rfl | exact Or.inr rfl)) (pgs_cons (pg_name (i := 2) nd rfl (by first | exact Or.inl rfl | exact Or.inr rfl)) (pgs_cons (pg_name (i := 3) nd rfl (by first | exact Or.inl rfl | exact Or.inr rfl)) (pgs_cons (pg_name (i := 4) nd rfl (by first | exact Or.inl rfl | exact Or.inr rfl)) (pgs_cons (pg_name (i := 5) nd rfl (by first | exact Or.inl rfl | exact Or.inr rfl)) (pgs_cons (pg_name (i := 6) nd rfl (by first | exact Or.inl rfl | exact Or.inr rfl)) pgs_nil))))))))
    (pss_one (ps_ret (pe_tup (pa_cons (pv 1) (pa_cons (pv 2) (pa_cons (pv 3) (pa_cons (pe_tup pa_nil) (pa_cons (pv 5) (pa_cons (pv 6) pa_nil)))))))))), ?_⟩
  obtain ⟨a, h, rfl, hA, q⟩ := h
  obtain ⟨ra, ka, oa, wa, ws, h1, h2, h3, h4, h5, h6⟩ := id hA
  refine ⟨_, rfl, a, _, rfl, h1, rfl, _, _, rfl, _, _, rfl, _, _, rfl, _, _, rfl, _, _, rfl, _, _, rfl, rfl, ?_⟩
  refine nxI (σ' := [some (.ref a), some (.str "heap"), some (.int h.nx), some (.ref ra), some (.ref ka), some (.ref oa), some (.ref wa)]) rfl ?_
  refine ⟨_, rfl, _, rfl, _, rfl, sz (by show 0 ≤ 100000; decide), fun p1 f1 => ⟨_, rfl, _, rfl, sz (by show 6 ≤ 100000; decide), fun p fp => ?_⟩⟩
  have T : Tk K (upd H p1 (.tup [])) (upd (upd H p1 (.tup [])) p _) := Tk.new (o := .tup [.str "heap", .int h.nx, .ref ra, .ref p1, .ref oa, .ref wa]) fp
  have TE : Tk K H (upd (upd H p1 (.tup [])) p _) := Tk.trans (Tk.new f1) T
  exact q _ p ((ExM.new f1).trans (ExM.new fp)) ⟨ra, p1, oa, wa, ws, SqT.of upd_same, h2.mono TE, T _ _ (SqT.of upd_same), h4.mono TE, TE _ _ h5, pmp h6 fun _ _ z => PairAt.mono TE z⟩
theorem ok_adding {f : Addr} {fd : FuncData} {cd : Value} (F : Df K "adding" s_adding f fd cd) (T : Txt mg) : FnOk P w K mg base CX0 1 f fd ["heap", "kind", "inside"] (sp_adding K) := by
  have nd := sc_adding.nd
  refine F.ok sc_adding (fun vs H Q E h => ?_) (fun A outer s H vs Q E hr h => ?_)
  · obtain ⟨_, _, _, rfl, _⟩ := h; rfl
  have hu := hu_of hr
  obtain ⟨x0, x1, x2, rfl, h⟩ := h
  refine ⟨_, (pss_cons (ps_asg (pv 0) (show PG _ _ (gTup K 6 _) from pg_tup rfl (pgs_cons (pg_name (i := 3) nd rfl (by first | exact Or.inl rfl | exact Or.inr rfl)) (pgs_cons (pg_name (i := 4) nd rfl (by first | exact Or.inl rfl | exact Or.inr rfl)) (pgs_cons (pg_name (i := 5) nd rfl (by first | exact Or.inl rfl | exact Or.inr rfl)) (pgs_cons (pg_name (i := 6) nd rfl (by first | exact Or.inl rfl | exact Or.inr rfl)) (pgs_cons (pg_name (i := 7) nd rfl (by first | exact Or.inl rfl | exact Or.inr rfl)) (pgs_cons (pg_name (i := 8) nd rfl (by first | exact Or.inl rfl | exact Or.inr rfl)) pgs_nil))))))))
    (pss_cons (ps_set (i := 9) nd rfl (by first | exact Or.inl rfl | exact Or.inr rfl) (pe_tup (pa_cons (pv 1) (pa_cons (pv 4) (pa_cons (pv 2) pa_nil)))))
    (pss_one (ps_ret (pe_tup (pa_cons (pv 3) (pa_cons (pe_op op_add (pv 4) pe_int) (pa_cons (pv 5) (pa_cons (pv 6) (pa_cons (pe_tup (StX.pa_star (pv 7) (pa_cons (pv 9) pa_nil))) (pa_cons (pv 8) pa_nil))))))))))), ?_⟩
  obtain ⟨a, h, o, k, rfl, rfl, hA, zo, hO, q⟩ := h
  obtain ⟨ra, ka, oa, wa, ws, h1, h2, h3, ⟨os, ho, hobs⟩, h5, h6⟩ := id hA
  refine ⟨_, rfl, a, _, rfl, h1, rfl, _, _, rfl, _, _, rfl, _, _, rfl, _, _, rfl, _, _, rfl, _, _, rfl, rfl, ?_⟩
  refine nxI (σ' := [some (.ref a), some (.str k), some x2, some (.str "heap"), some (.int h.nx), some (.ref ra), some (.ref ka), some (.ref oa), some (.ref wa), none]) rfl ?_
  refine ⟨_, rfl, _, rfl, _, rfl, sz (by show 3 ≤ 100000; decide), fun p1 f1 => ?_⟩
  have e1 : ExA H (upd H p1 (.tup [.str k, .int h.nx, x2])) := ExM.new f1
  have hO1 := hO _ p1 e1 (SqT.of upd_same)
  generalize upd H p1 (.tup [.str k, .int h.nx, x2]) = H1 at e1 hO1 ⊢
  have T1 := Tk.all (K := K) e1
  refine gI (σ' := [some (.ref a), some (.str k), some x2, some (.str "heap"), some (.int h.nx), some (.ref ra), some (.ref ka), some (.ref oa), some (.ref wa), some (.ref p1)]) rfl ?_
  have zl := plen hobs
  refine ⟨_, rfl, _, rfl, _, _, rfl, rfl, _, rfl, _, rfl, _, rfl, oa, _, rfl, .inl (T1 _ _ ho), _, rfl, sz (by simp; omega), fun p2 f2 => ⟨_, rfl, sz (by show 6 ≤ 100000; decide), fun p fp => ?_⟩⟩
  have T2 : Tk K H1 (upd H1 p2 _) := Tk.new (o := .tup (os.map V.ref ++ [.ref p1])) f2
  have T3 := Tk.new (K := K) (o := .tup [.str "heap", .int (h.nx + 1), .ref ra, .ref ka, .ref p2, .ref wa]) fp
  have T23 := T2.trans T3
  have TE := T1.trans T23
  refine q _ p (e1.trans ((ExM.new f2).trans (ExM.new fp))) ⟨ra, ka, p2, wa, ws, SqT.of upd_same, h2.mono TE, TE _ _ h3, ⟨os ++ [p1], ?_, ?_⟩, TE _ _ h5, pmp h6 fun _ _ z => PairAt.mono TE z⟩
  · rw [List.map_append]
    exact T3 _ _ (SqT.of upd_same)
  · exact psnoc (hO1.mono T23) (pmp hobs fun _ _ z => ObAt.mono TE z)
theorem ok_replacing {f : Addr} {fd : FuncData} {cd : Value} (F : Df K "replacing" s_replacing f fd cd) (T : Txt mg) : FnOk P w K mg base CX0 1 f fd ["heap", "thing"] (sp_replacing K) := by
  have nd := sc_replacing.nd
  refine F.ok sc_replacing (fun vs H Q E h => ?_) (fun A outer s H vs Q E hr h => ?_)
  · obtain ⟨_, _, rfl, _⟩ := h; rfl
  have hu := hu_of hr
  obtain ⟨x0, x1, rfl, h⟩ := h
  refine ⟨_, (pss_cons (ps_asg (pv 0) (show PG _ _ (gTup K 6 _) from pg_tup rfl (pgs_cons (pg_name (i := 2) nd rfl (by first | exact Or.inl rfl | exact Or.inr rfl)) (pgs_cons (pg_name (i := 3) nd rfl (by first | exact Or.inl rfl | exact Or.inr rfl)) (pgs_cons (pg_name (i := 4) nd rfl (by first | exact Or.inl rfl | exact Or.inr rfl)) (pgs_cons (pg_name (i := 5) nd rfl (by first | exact Or.inl rfl | exact Or.inr rfl)) (pgs_cons (pg_name (i := 6) nd rfl (by first | exact Or.inl rfl | exact Or.inr rfl)) (pgs_cons (pg_name (i := 7) nd rfl (by first | exact Or.inl rfl | exact Or.inr rfl)) pgs_nil))))))))
    (pss_cons (ps_set (i := 8) nd rfl (by first | exact Or.inl rfl | exact Or.inr rfl) (pe_callTy (r := rTupS K) call_tuple_of rfl T.tuple (by decide +kernel) (pa_cons (pe_lc (own := [("other", 9)]) rfl nd (show PI _ _ _ (iTup K _) from pi_tup (pv 6)) (blkOk_by (own := [("other", 9)]) (N := N_replacing) (sc := defScope s_replacing) (by decide +kernel)) (fun _ _ _ _ _ => (pg_name (i := 9) nd rfl (by first | exact Or.inl rfl | exact Or.inr rfl))) (fun _ _ _ _ _ => pts_nil) (fun _ _ _ _ _ => (pe_ifExp (pt_cmpR op_eq (pe_ix (r := rIxT K) ix_tup (pv 9) pe_int (fun _ _ => rfl)) (pe_ix (r := rIxT K) ix_tup (pv 1) pe_int (fun _ _ => rfl)) (nomark _)) (pv 1) (pv 9)))) pa_nil)))
    (pss_one (ps_ret (pe_tup (pa_cons (pv 2) (pa_cons (pv 3) (pa_cons (pv 4) (pa_cons (pv 5) (pa_cons (pv 8) (pa_cons (pv 7) pa_nil))))))))))), ?_⟩
  obtain ⟨a, h, t, o, rfl, rfl, hA, zo, hO, q⟩ := h
  obtain ⟨ra, ka, oa, wa, ws, h1, h2, h3, ⟨os, ho, hobs⟩, h5, h6⟩ := id hA
  refine ⟨_, rfl, a, _, rfl, h1, rfl, _, _, rfl, _, _, rfl, _, _, rfl, _, _, rfl, _, _, rfl, _, _, rfl, rfl, ?_⟩
  refine nxI (σ' := [some (.ref a), some (.ref t), some (.str "heap"), some (.int h.nx), some (.ref ra), some (.ref ka), some (.ref oa), some (.ref wa), none, none]) rfl ?_
  have zl := plen hobs
  refine ⟨_, rfl, oa, rfl, ⟨_, ho⟩, fun D hD => ?_⟩
  obtain ⟨kt, vt, ht⟩ := hO.num
  let F : Addr × Ob → Addr := fun q => if q.2.num = o.num then t else q.1
  refine lcF K (fun q : Addr × Ob => V.ref q.1) (os.zip h.obs) (fun _ => true) (fun q => [some (.ref a), some (.ref t), some (.str "heap"), some (.int h.nx), some (.ref ra), some (.ref ka), some (.ref oa), some (.ref wa), none, some (.ref q.1)]) walk_tup (zip_refs hobs) (by rw [List.length_map, zip_len hobs]) (by rw [zip_len hobs]; omega) (fun q => V.ref (F q)) hD
    (fun H' e => Tk.all e _ _ ho) (fun q H5 _ _ R z => z) (fun _ => rfl) (fun q H5 _ _ R z => tyesR z) (fun q H5 hq _ e R z => ?_) (fun H5 e5 hd => ?_)
  · obtain ⟨kq, vq, hq1⟩ := (zip_all hobs q hq).num
    refine ⟨_, rfl, q.1, _, _, _, rfl, rfl, Tk.all e _ _ hq1, at1, _, rfl, t, _, _, _, rfl, rfl, Tk.all e _ _ ht, at1, rfl, _, rfl, ?_⟩
    have z := z H5 (ExM.refl _ _)
    refine iteD (fun c => ⟨_, rfl, ?_⟩) fun c => ⟨_, rfl, ?_⟩
    · rw [show F q = t from if_pos (V.int.inj c)] at z; exact z
    · rw [show F q = q.1 from if_neg fun y => c (by rw [y])] at z; exact z
  rw [filter_all] at hd
  refine ⟨D, _, rfl, .inl ⟨SqL.of hd, fun p1 f1 => ?_⟩⟩
  refine gI (σ' := [some (.ref a), some (.ref t), some (.str "heap"), some (.int h.nx), some (.ref ra), some (.ref ka), some (.ref oa), some (.ref wa), some (.ref p1), none]) rfl ?_
  refine ⟨_, rfl, _, rfl, _, rfl, _, rfl, _, rfl, _, rfl, sz (by show 6 ≤ 100000; decide), fun p fp => ?_⟩
  have T1 := Tk.new (K := K) (o := .tup ((os.zip h.obs).map fun q => V.ref (F q))) f1
  have T2 := Tk.new (K := K) (o := .tup [.str "heap", .int h.nx, .ref ra, .ref ka, .ref p1, .ref wa]) fp
  have TE := ((Tk.all e5).trans T1).trans T2
  refine q _ p ((e5.put (ExA.free e5 f1)).trans (ExM.new fp)) ⟨ra, ka, p1, wa, ws, SqT.of upd_same, h2.mono TE, TE _ _ h3, ⟨(os.zip h.obs).map F, ?_, ?_⟩, TE _ _ h5, pmp h6 fun _ _ z => PairAt.mono TE z⟩
  · rw [List.map_map]
    exact T2 _ _ (SqT.of upd_same)
  · have key : ∀ {l : List Addr} {m : List Ob}, Paired (ObAt K H) l m → Paired (ObAt K (upd (upd H5 p1 (.tup ((os.zip h.obs).map fun q => V.ref (F q)))) p (.tup [.str "heap", .int h.nx, .ref ra, .ref ka, .ref p1, .ref wa]))) ((l.zip m).map F) (m.map fun p => if p.num = o.num then o else p) := fun {l m} hp => by
      induction hp with
      | nil => exact .nil
      | @cons x y l m r tl ih =>
        refine .cons ?_ ih
        show ObAt K _ (if y.num = o.num then t else x) (if y.num = o.num then o else y)
        split
        · exact hO.mono TE
        · exact r.mono TE
    exact key hobs
theorem ok_watching {f : Addr} {fd : FuncData} {cd : Value} (F : Df K "watching" s_watching f fd cd) (T : Txt mg) : FnOk P w K mg base CX0 1 f fd ["heap", "number", "token"] (sp_watching K) := by
  have nd := sc_watching.nd
  refine F.ok sc_watching (fun vs H Q E h => ?_) (fun A outer s H vs Q E hr h => ?_)
  · obtain ⟨_, _, _, rfl, _⟩ := h; rfl
  have hu := hu_of hr
  obtain ⟨x0, x1, x2, rfl, h⟩ := h
  refine ⟨_, (pss_cons (ps_asg (pv 0) (show PG _ _ (gTup K 6 _) from pg_tup rfl (pgs_cons (pg_name (i := 3) nd rfl (by first | exact Or.inl rfl | exact Or.inr rfl)) (pgs_cons (pg_name (i := 4) nd rfl (by first | exact Or.inl rfl | exact Or.inr rfl)) (pgs_cons (pg_name (i := 5) nd rfl (by first | exact Or.inl rfl | exact Or.inr rfl)) (pgs_cons (pg_name (i := 6) nd rfl (by first | exact Or.inl rfl | exact Or.inr rfl)) (pgs_cons (pg_name (i := 7) nd rfl (by first | exact Or.inl rfl | exact Or.inr rfl)) (pgs_cons (pg_name (i := 8) nd rfl (by first | exact Or.inl rfl | exact Or.inr rfl)) pgs_nil))))))))
    (pss_one (ps_ret (pe_tup (pa_cons (pv 3) (pa_cons (pv 4) (pa_cons (pv 5) (pa_cons (pv 6) (pa_cons (pv 7) (pa_cons (pe_tup (StX.pa_star (pv 8) (pa_cons (pe_tup (pa_cons (pv 1) (pa_cons (pv 2) pa_nil))) pa_nil))) pa_nil)))))))))), ?_⟩
  obtain ⟨a, h, n, t, rfl, rfl, rfl, hA, zw, q⟩ := h
  obtain ⟨ra, ka, oa, wa, ws, h1, h2, h3, h4, h5, h6⟩ := id hA
  refine ⟨_, rfl, a, _, rfl, h1, rfl, _, _, rfl, _, _, rfl, _, _, rfl, _, _, rfl, _, _, rfl, _, _, rfl, rfl, ?_⟩
  refine nxI (σ' := [some (.ref a), some (.int n), some (.int t), some (.str "heap"), some (.int h.nx), some (.ref ra), some (.ref ka), some (.ref oa), some (.ref wa)]) rfl ?_
  have zl := plen h6
  refine ⟨_, rfl, _, rfl, _, rfl, _, rfl, _, rfl, _, rfl, wa, _, rfl, .inl h5, _, rfl, _, rfl, sz (by show 2 ≤ 100000; decide), fun p1 f1 => ⟨sz (by simp; omega), fun p2 f2 => ⟨sz (by show 6 ≤ 100000; decide), fun p fp => ?_⟩⟩⟩
  have T1 := Tk.new (K := K) (o := .tup [.int n, .int t]) f1
  have T2 := Tk.new (K := K) (o := .tup (ws.map V.ref ++ [.ref p1])) f2
  have T3 := Tk.new (K := K) (o := .tup [.str "heap", .int h.nx, .ref ra, .ref ka, .ref oa, .ref p2]) fp
  have T23 := T2.trans T3
  have TE := T1.trans T23
  refine q _ p ((ExM.new f1).trans ((ExM.new f2).trans (ExM.new fp))) ⟨ra, ka, oa, p2, ws ++ [p1], SqT.of upd_same, h2.mono TE, TE _ _ h3, h4.mono TE, ?_, psnoc (F := PairAt K _) (show PairAt K _ p1 (n, t) from T23 _ _ (SqT.of upd_same)) (pmp h6 fun _ _ z => PairAt.mono TE z)⟩
  rw [List.map_append]
  exact T3 _ _ (SqT.of upd_same)
theorem ok_keeping {f : Addr} {fd : FuncData} {cd : Value} (F : Df K "keeping" s_keeping f fd cd) (T : Txt mg) : FnOk P w K mg base CX0 1 f fd ["heap", "number"] (sp_keeping K) := by
  have nd := sc_keeping.nd
  refine F.ok sc_keeping (fun vs H Q E h => ?_) (fun A outer s H vs Q E hr h => ?_)
  · obtain ⟨_, _, rfl, _⟩ := h; rfl
  have hu := hu_of hr
  obtain ⟨x0, x1, rfl, h⟩ := h
  refine ⟨_, (pss_cons (ps_asg (pv 0) (show PG _ _ (gTup K 6 _) from pg_tup rfl (pgs_cons (pg_name (i := 2) nd rfl (by first | exact Or.inl rfl | exact Or.inr rfl)) (pgs_cons (pg_name (i := 3) nd rfl (by first | exact Or.inl rfl | exact Or.inr rfl)) (pgs_cons (pg_name (i := 4) nd rfl (by first | exact Or.inl rfl | exact Or.inr rfl)) (pgs_cons (pg_name (i := 5) nd rfl (by first | exact Or.inl rfl | exact Or.inr rfl)) (pgs_cons (pg_name (i := 6) nd rfl (by first | exact Or.inl rfl | exact Or.inr rfl)) (pgs_cons (pg_name (i := 7) nd rfl (by first | exact Or.inl rfl | exact Or.inr rfl)) pgs_nil))))))))
    (pss_one (ps_ret (pe_tup (pa_cons (pv 2) (pa_cons (pv 3) (pa_cons (pv 4) (pa_cons (pe_callTy (r := rTupS K) call_tuple_of rfl T.tuple (by decide +kernel) (pa_cons (pe_callB (r := rSortedSet w) (cr_sortedSet rfl) rfl T.sorted (by decide +kernel) (pa_cons (pe_callTy (r := rSetI K w) (call_setI rfl) rfl T.set (by decide +kernel) (pa_cons (pe_lst (StX.pa_star (pv 5) (pa_cons (pv 1) pa_nil))) pa_nil)) pa_nil)) pa_nil)) (pa_cons (pv 6) (pa_cons (pv 7) pa_nil)))))))))), ?_⟩
  obtain ⟨a, h, n, rfl, rfl, hA, ok, hn, q⟩ := h
  obtain ⟨ra, ka, oa, wa, ws, h1, h2, h3, h4, h5, h6⟩ := id hA
  refine ⟨_, rfl, a, _, rfl, h1, rfl, _, _, rfl, _, _, rfl, _, _, rfl, _, _, rfl, _, _, rfl, _, _, rfl, rfl, ?_⟩
  refine nxI (σ' := [some (.ref a), some (.int n), some (.str "heap"), some (.int h.nx), some (.ref ra), some (.ref ka), some (.ref oa), some (.ref wa)]) rfl ?_
  have zk : h.kept.length ≤ 50 := by
    have z := nodup_len (ok.kup.imp Int.ne_of_lt) ok.kept
    have : h.nums.length = h.obs.length := List.length_map _
    have := ok.size
    omega
  refine ⟨_, rfl, _, rfl, _, rfl, _, rfl, ka, _, rfl, .inl h3, _, rfl, sz (by simp; omega), fun p1 f1 => ?_⟩
  have e1 : ExA H (upd H p1 (.lst (h.kept.map V.int ++ [.int n]))) := ExM.new f1
  have hl1 : SqL K (upd H p1 (.lst (h.kept.map V.int ++ [.int n]))) p1 ((h.kept ++ [n]).map V.int) := by rw [List.map_append]; exact SqL.of upd_same
  generalize upd H p1 (.lst (h.kept.map V.int ++ [.int n])) = H1 at e1 hl1 ⊢
  have zn : (h.kept ++ [n]).length ≤ 51 := by simp; omega
  refine ⟨p1, h.kept ++ [n], rfl, .inl hl1, by omega, fun sq c fsq hc => ?_⟩
  refine ⟨sq, _, c, rfl, upd_same, by omega, fun us l hup hmem hlen fl => ?_⟩
  have e2 : ExA H1 (upd (upd H1 sq (SetO w sq (fun j => decide (j ∈ h.kept ++ [n])) c)) l (.lst (us.map V.int))) := (ExM.new fsq).trans (ExM.new fl)
  have hl2 : SqL K (upd (upd H1 sq (SetO w sq (fun j => decide (j ∈ h.kept ++ [n])) c)) l (.lst (us.map V.int))) l (us.map V.int) := SqL.of upd_same
  generalize upd (upd H1 sq (SetO w sq (fun j => decide (j ∈ h.kept ++ [n])) c)) l (.lst (us.map V.int)) = H2 at e2 hl2 ⊢
  have eu : us = keepN h.kept n := by
    refine up_same hup (keepN_up ok.kup) fun k => ?_
    rw [hmem k, keepN_mem, decide_eq_true_eq, List.mem_append, List.mem_singleton]
  subst eu
  refine ⟨l, _, rfl, .inl ⟨hl2, fun p2 f2 => ?_⟩⟩
  refine ⟨_, rfl, _, rfl, sz (by show 6 ≤ 100000; decide), fun p fp => ?_⟩
  have T1 := Tk.new (K := K) (o := .tup ((keepN h.kept n).map V.int)) f2
  have T2 := Tk.new (K := K) (o := .tup [.str "heap", .int h.nx, .ref ra, .ref p2, .ref oa, .ref wa]) fp
  have eA := e1.trans e2
  have TE := ((Tk.all eA).trans T1).trans T2
  exact q _ p ((eA.put (ExA.free eA f2)).trans (ExM.new fp)) ⟨ra, p2, oa, wa, ws, SqT.of upd_same, h2.mono TE, T2 _ _ (SqT.of upd_same), h4.mono TE, TE _ _ h5, pmp h6 fun _ _ z => PairAt.mono TE z⟩
end
end Wc
/-! A table's entries as a dict. -/
namespace Wc
open PySem L2
def ent (es : List (Int × Int)) : List (Key × V) := es.map fun e => ((Sum.inl e.1 : Key), V.int e.2)
theorem ent_keys (es : List (Int × Int)) : (ent es).map (·.1) = (es.map (·.1)).map Sum.inl := by unfold ent; rw [List.map_map, List.map_map]; rfl
theorem merge_app {l : List (Key × V)} : ∀ {acc : List (Key × V)}, ((acc ++ l).map (·.1)).Nodup → mergeK acc l = acc ++ l := by
  induction l with
  | nil => exact fun _ => (List.append_nil _).symm
  | cons e r ih =>
    intro acc nd
    have new : valV acc e.1 = none := by
      cases c : valV acc e.1 with
      | none => rfl
      | some v =>
        obtain ⟨p, hp, _⟩ := Option.map_eq_some_iff.mp (show (acc.find? fun kv => decide (kv.1 = e.1)).map (·.2) = some v from c)
        have hk : p.1 = e.1 := of_decide_eq_true (List.find?_some (p := fun kv : Key × V => decide (kv.1 = e.1)) hp)
        rw [List.map_append] at nd
        exact absurd hk ((List.nodup_append.mp nd).2.2 _ (List.mem_map_of_mem (List.mem_of_find?_eq_some hp)) _ (by simp))
    show mergeK (putK acc e.1 e.2) r = _
    rw [putK_new _ new, ih (by rw [List.append_assoc]; exact nd), List.append_assoc]; rfl
theorem merge_ent {es : List (Int × Int)} (nd : (es.map (·.1)).Nodup) : mergeK [] (ent es) = ent es := by
  refine merge_app (acc := []) ?_
  rw [List.nil_append, ent_keys]
  exact nd.map (f := Sum.inl) fun _ _ z w => z (Sum.inl.inj w)
theorem ent_val (k : Int) : ∀ es : List (Int × Int), valV (ent es) (Sum.inl k) = (findE es k).map V.int
  | [] => rfl
  | e :: r => by
    show valV ((Sum.inl e.1, V.int e.2) :: ent r) (Sum.inl k) = _
    unfold findE
    rw [List.find?_cons]
    by_cases c : e.1 = k
    · rw [valV_pos (by show (Sum.inl e.1 : Key) = _; rw [c]), decide_eq_true c]; rfl
    · rw [valV_neg (fun z => c (Sum.inl.inj z)), decide_eq_false c]
      exact ent_val k r
theorem findE_none {k : Int} {es : List (Int × Int)} : findE es k = none ↔ k ∉ es.map (·.1) := by
  unfold findE
  rw [Option.map_eq_none_iff, List.find?_eq_none]
  constructor
  · intro h m
    obtain ⟨e, he, z⟩ := List.mem_map.mp m
    exact h e he (decide_eq_true z)
  · intro h e he z
    exact h (of_decide_eq_true z ▸ List.mem_map_of_mem he)
theorem ent_put (es : List (Int × Int)) (k v : Int) : putK (ent es) (Sum.inl k) (V.int v) = ent (putE es k v) := by
  unfold putK putE
  rw [valV_any, ent_val]
  by_cases c : k ∈ es.map (·.1)
  · rw [if_pos c, if_pos]
    · unfold ent
      rw [List.map_map, List.map_map]
      refine List.map_congr_left fun e _ => ?_
      show (if (Sum.inl e.1 : Key) = Sum.inl k then ((Sum.inl e.1 : Key), V.int v) else (Sum.inl e.1, V.int e.2)) = ((Sum.inl (if e.1 = k then (k, v) else e).1 : Key), V.int (if e.1 = k then (k, v) else e).2)
      by_cases z : e.1 = k
      · rw [if_pos (by rw [z]), if_pos z, z]
      · rw [if_neg (fun y => z (Sum.inl.inj y)), if_neg z]
    · cases q : findE es k with
      | none => exact absurd c (findE_none.mp q)
      | some j => rfl
  · rw [if_neg c, if_neg]
    · unfold ent; rw [List.map_append]; rfl
    · rw [findE_none.mpr c]; decide
theorem filter_len {es : List (Int × Int)} {i : Int} : (es.filter fun e => decide (e.1 ≠ i)).length < es.length ↔ i ∈ es.map (·.1) := by
  constructor
  · intro h
    refine Classical.byContradiction fun c => ?_
    have z : (es.filter fun e => decide (e.1 ≠ i)) = es := List.filter_eq_self.mpr fun e he => decide_eq_true fun y => c (y ▸ List.mem_map_of_mem he)
    rw [z] at h
    omega
  · intro h
    obtain ⟨e, he, z⟩ := List.mem_map.mp h
    refine List.length_filter_lt_length_iff_exists.mpr ⟨e, he, ?_⟩
    rw [decide_eq_true_eq]
    exact fun y => y z
/-- the items' tuples are pairs -/
theorem ent_pairs {K : PySem.W.Frag} {H : Hp} : ∀ {ts : List Addr} {es : List (Int × Int)}, Paired (fun (t : Addr) (q : Key × V) => H t = some (.tup [kV q.1, q.2])) ts (ent es) → Paired (PairAt K H) ts es
  | [], [], _ => .nil
  | _ :: _, [], h => nomatch (show Paired _ (_ :: _) [] from h)
  | [], _ :: _, h => nomatch (show Paired _ [] (_ :: _) from h)
  | t :: ts, e :: es, h => by
    cases (show Paired (fun (t : Addr) (q : Key × V) => H t = some (.tup [kV q.1, q.2])) (t :: ts) (((Sum.inl e.1 : Key), V.int e.2) :: ent es) from h) with
    | cons r tl => exact .cons (SqT.of (show H t = some (.tup [V.int e.1, V.int e.2]) from r)) (ent_pairs tl)
end Wc
/-! The actions of a program's commands. -/
namespace Wc
open PySem L2
section
variable (K : PySem.W.Frag) (H : Hp)
/-- a result where it stands -/
def RzAt (v : V) : Rz → Prop
  | .ref r => v = rV r
  | .bl b => v = .bl b
  | .toks ts => ∃ a, v = .ref a ∧ SqT K H a (ts.map V.int)
def ResAt (p : Addr) (q : Hd × Rz) : Prop := ∃ a v, SqT K H p [.ref a, v] ∧ HeapAt K H a q.1 ∧ RzAt K H v q.2
end
theorem RzAt.mono {K : PySem.W.Frag} {H H' : Hp} (t : Tk K H H') {v : V} {r : Rz} (h : RzAt K H v r) : RzAt K H' v r := by
  cases r with
  | ref r => exact h
  | bl b => exact h
  | toks ts => obtain ⟨a, e, s⟩ := h; exact ⟨a, e, t _ _ s⟩
section
variable (K : PySem.W.Frag)
def R_in_place : V2 := fun x y H Q => ∃ (a : Addr) (h : Hd) (i : Nat) (o : Ob), x = .ref a ∧ y = .int (i : Int) ∧ HeapAt K H a h ∧ h.Ok ∧ i < h.regs.length ∧ obReg h i = some o ∧ ∀ H' p, ExA H H' → ObAt K H' p o → Q (.ref p) H'
abbrev sp_in_place : Sp := sp2 (R_in_place K)
def R_make : V4 := fun x y z u H Q => ∃ (a : Addr) (h : Hd) (to : Nat) (o : Ob) (k : Str), x = .ref a ∧ y = .int (to : Int) ∧ z = .str k ∧ HeapAt K H a h ∧ h.obs.length ≤ 1000 ∧ to < h.regs.length ∧ h.regs.length ≤ 1000 ∧
  (∀ H' p, ExA H H' → SqT K H' p [.str k, .int h.nx, u] → ObAt K H' p o) ∧ ∀ H' p, ExA H H' → ResAt K H' p (mkOb h to o h.nx) → Q (.ref p) H'
abbrev sp_make : Sp := sp4 (R_make K)
/-- what an action promises -/
def R_act (P : Cmd → Prop) : V2 := fun x y H Q => ∃ (a b : Addr) (h : Hd) (c : Cmd), x = .ref a ∧ y = .ref b ∧ HeapAt K H a h ∧ CmdAt K H b c ∧ h.Ok ∧ c.ok h.regs.length ∧ fault h c = none ∧ P c ∧ ∀ H' p, ExA H H' → ResAt K H' p (act h c) → Q (.ref p) H'
abbrev sp_make_record : Sp := sp2 (R_act K fun c => ∃ a b, c = .record a b)
abbrev sp_make_weak : Sp := sp2 (R_act K fun c => ∃ a b, c = .weak a b)
abbrev sp_make_table : Sp := sp2 (R_act K fun c => ∃ a, c = .table a)
abbrev sp_copy_reference : Sp := sp2 (R_act K fun c => ∃ a b, c = .copy a b)
abbrev sp_clear_place : Sp := sp2 (R_act K fun c => ∃ a, c = .clear a)
abbrev sp_read_field : Sp := sp2 (R_act K fun c => ∃ a b d, c = .read a b d)
abbrev sp_write_field : Sp := sp2 (R_act K fun c => ∃ a b d, c = .write a b d)
abbrev sp_deref_target : Sp := sp2 (R_act K fun c => ∃ a b, c = .deref a b)
abbrev sp_put_entry : Sp := sp2 (R_act K fun c => ∃ a b d, c = .put a b d)
abbrev sp_remove_entry : Sp := sp2 (R_act K fun c => ∃ a b, c = .remove a b)
abbrev sp_lookup_key : Sp := sp2 (R_act K fun c => ∃ a b d, c = .lookup a b d)
abbrev sp_add_watch : Sp := sp2 (R_act K fun c => ∃ a b, c = .watch a b)
abbrev sp_end_job : Sp := sp2 (R_act K fun c => c = .end_)
end
theorem fault_rec {h : Hd} {i ix : Nat} (hf : wantOb h (reg h i) (needRec ix) = none) (ok : ∀ n, reg h i = some n → n ∈ h.nums) : ∃ n fs, obReg h i = some (.rcd n fs) ∧ ix < fs.length := by
  unfold wantOb at hf
  cases q : reg h i with
  | none => rw [q] at hf; cases hf
  | some n =>
    rw [q] at hf
    obtain ⟨o, ho⟩ := obj_some (ok n q)
    have e : obReg h i = some o := by unfold obReg; rw [q]; exact ho
    simp only [ho] at hf
    cases o with
    | rcd m fs =>
      refine ⟨m, fs, e, ?_⟩
      have z : (if ix < fs.length then none else some rField) = none := hf
      by_cases c : ix < fs.length
      · exact c
      · rw [if_neg c] at z; cases z
    | weak m t => cases hf
    | tab m es => cases hf
theorem fault_weak {h : Hd} {i : Nat} (hf : wantOb h (reg h i) needWeak = none) (ok : ∀ n, reg h i = some n → n ∈ h.nums) : ∃ n t, obReg h i = some (.weak n t) := by
  unfold wantOb at hf
  cases q : reg h i with
  | none => rw [q] at hf; cases hf
  | some n =>
    rw [q] at hf
    obtain ⟨o, ho⟩ := obj_some (ok n q)
    have e : obReg h i = some o := by unfold obReg; rw [q]; exact ho
    simp only [ho] at hf
    cases o with
    | rcd m fs => cases hf
    | weak m t => exact ⟨m, t, e⟩
    | tab m es => cases hf
theorem fault_tab {h : Hd} {i : Nat} (hf : wantOb h (reg h i) needTab = none) (ok : ∀ n, reg h i = some n → n ∈ h.nums) : ∃ n es, obReg h i = some (.tab n es) := by
  unfold wantOb at hf
  cases q : reg h i with
  | none => rw [q] at hf; cases hf
  | some n =>
    rw [q] at hf
    obtain ⟨o, ho⟩ := obj_some (ok n q)
    have e : obReg h i = some o := by unfold obReg; rw [q]; exact ho
    simp only [ho] at hf
    cases o with
    | rcd m fs => cases hf
    | weak m t => cases hf
    | tab m es => exact ⟨m, es, e⟩
theorem fault_read {h : Hd} {i ix : Nat} (hf : wantOb h (reg h i) (needRec ix) = none) (ok : ∀ n, reg h i = some n → n ∈ h.nums) : ∃ n fs, obReg h i = some (.rcd n fs) ∧ ix < fs.length := fault_rec hf ok
theorem fault_deref {h : Hd} {i : Nat} (hf : wantOb h (reg h i) needWeak = none) (ok : ∀ n, reg h i = some n → n ∈ h.nums) : ∃ n t, obReg h i = some (.weak n t) := fault_weak hf ok
theorem iff_none {c : Prop} [Decidable c] {x : Str} {y : Option Str} (h : (if c then some x else y) = none) : ¬ c ∧ y = none := by
  by_cases q : c
  · rw [if_pos q] at h; cases h
  · rw [if_neg q] at h; exact ⟨q, h⟩
theorem some_of {r : Rf} (h : ¬ r = none) : ∃ n, r = some n := by
  cases r with
  | none => exact absurd rfl h
  | some n => exact ⟨n, rfl⟩
section
variable {P : Program} {w : World} {K : PySem.W.Frag} {mg : Str → Option Value} {base : Heap}
theorem ok_in_place {f : Addr} {fd : FuncData} {cd : Value} (F : Df K "in_place" s_in_place f fd cd) (T : Txt mg) (C_registers_of : Cal P w K mg base 1 "registers_of" (sp_registers_of K) []) (C_by_number : Cal P w K mg base 2 "by_number" (sp_by_number K) []) : FnOk P w K mg base CX0 3 f fd ["heap", "place"] (sp_in_place K) := by
  have nd := sc_in_place.nd
  refine F.ok sc_in_place (fun vs H Q E h => ?_) (fun A outer s H vs Q E hr h => ?_)
  · obtain ⟨_, _, rfl, _⟩ := h; rfl
  have hu := hu_of hr
  obtain ⟨x0, x1, rfl, h⟩ := h
  refine ⟨_, (pss_one (ps_ret (pe_dget hu (pe_c C_by_number hr (by first | exact Nat.le_refl _ | decide) rfl (pa_cons (pv 0) pa_nil)) (pe_ix (r := rIxT K) ix_tup (pe_c C_registers_of hr (by first | exact Nat.le_refl _ | decide) rfl (pa_cons (pv 0) pa_nil)) (pv 1) (fun _ _ => rfl)) (fun _ _ => rfl)))), ?_⟩
  obtain ⟨a, h, i, o, rfl, rfl, hA, ok, li, ho, q⟩ := h
  obtain ⟨ho1, ho2⟩ := obReg_mem ho
  refine ⟨_, rfl, _, rfl, a, h, rfl, hA, ok, fun d H1 os fd e1 hos hd => ?_⟩
  refine ⟨_, rfl, _, rfl, a, h, rfl, hA.mono (Tk.all e1), fun r hr => ⟨_, rfl, r, _, _, .int o.num, rfl, rfl, hr.sq, atI_nat (by rw [List.getElem?_map, reg_at li, ho2]; rfl), ?_⟩⟩
  obtain ⟨p, o', q1, q2, q3, q4⟩ := dictOf_get hos (List.mem_map_of_mem (f := Ob.num) ho1)
  have eo : o' = o := by
    have z1 := obj_of ok q2
    have z2 := obj_of ok ho1
    rw [q3] at z1
    exact Option.some.inj (z1.symm.trans z2)
  subst eo
  exact ⟨d, _, rfl, by rw [← q1]; exact DGet.k (k := Sum.inl o'.num) hd, q H1 p e1 q4⟩
theorem ok_make {f : Addr} {fd : FuncData} {cd : Value} (F : Df K "make" s_make f fd cd) (T : Txt mg) (C_following_of : Cal P w K mg base 1 "following_of" (sp_following_of K) []) (C_holding : Cal P w K mg base 1 "holding" (sp_holding K) []) (C_adding : Cal P w K mg base 1 "adding" (sp_adding K) []) : FnOk P w K mg base CX0 2 f fd ["heap", "to", "kind", "inside"] (sp_make K) := by
  have nd := sc_make.nd
  refine F.ok sc_make (fun vs H Q E h => ?_) (fun A outer s H vs Q E hr h => ?_)
  · obtain ⟨_, _, _, _, rfl, _⟩ := h; rfl
  have hu := hu_of hr
  obtain ⟨x0, x1, x2, x3, rfl, h⟩ := h
  refine ⟨_, (pss_cons (ps_set (i := 4) nd rfl (by first | exact Or.inl rfl | exact Or.inr rfl) (pe_c C_following_of hr (by first | exact Nat.le_refl _ | decide) rfl (pa_cons (pv 0) pa_nil)))
    (pss_one (ps_ret (pe_tup (pa_cons (pe_c C_holding hr (by first | exact Nat.le_refl _ | decide) rfl (pa_cons (pe_c C_adding hr (by first | exact Nat.le_refl _ | decide) rfl (pa_cons (pv 0) (pa_cons (pv 2) (pa_cons (pv 3) pa_nil)))) (pa_cons (pv 1) (pa_cons (pv 4) pa_nil)))) (pa_cons (pv 4) pa_nil)))))), ?_⟩
  obtain ⟨a, h, to, o, k, rfl, rfl, rfl, hA, zo, lt, lr, hO, q⟩ := h
  refine ⟨_, rfl, _, rfl, a, h, rfl, hA, ?_⟩
  refine nxI (σ' := [some (.ref a), some (.int to), some (.str k), some x3, some (.int h.nx)]) rfl ?_
  refine ⟨_, rfl, _, rfl, _, rfl, _, _, _, rfl, a, h, o, k, rfl, rfl, hA, zo, hO, fun H1 p1 e1 hA1 => ?_⟩
  refine ⟨_, rfl, _, rfl, _, _, _, rfl, p1, addOb h o, to, some h.nx, rfl, rfl, rfl, hA1, lt, lr, fun H2 p2 e2 hA2 => ?_⟩
  refine ⟨_, rfl, sz (by show 2 ≤ 100000; decide), fun p fp => ?_⟩
  exact q _ p ((e1.trans e2).trans (ExM.new fp)) ⟨p2, _, SqT.of upd_same, hA2.mono (Tk.new fp), rfl⟩
theorem ok_make_record {f : Addr} {fd : FuncData} {cd : Value} (F : Df K "make_record" s_make_record f fd cd) (T : Txt mg) (C_make : Cal P w K mg base 2 "make" (sp_make K) []) : FnOk P w K mg base CX0 3 f fd ["heap", "command"] (sp_make_record K) := by
  have nd := sc_make_record.nd
  refine F.ok sc_make_record (fun vs H Q E h => ?_) (fun A outer s H vs Q E hr h => ?_)
  · obtain ⟨_, _, rfl, _⟩ := h; rfl
  have hu := hu_of hr
  obtain ⟨x0, x1, rfl, h⟩ := h
  refine ⟨_, (pss_cons (ps_asg (pv 1) (show PG _ _ (gTup K 3 _) from pg_tup rfl (pgs_cons (pg_name (i := 2) nd rfl (by first | exact Or.inl rfl | exact Or.inr rfl)) (pgs_cons (pg_name (i := 3) nd rfl (by first | exact Or.inl rfl | exact Or.inr rfl)) (pgs_cons (pg_name (i := 4) nd rfl (by first | exact Or.inl rfl | exact Or.inr rfl)) pgs_nil)))))
    (pss_one (ps_ret (pe_c C_make hr (by first | exact Nat.le_refl _ | decide) rfl (pa_cons (pv 0) (pa_cons (pv 3) (pa_cons pe_str (pa_cons (pe_op (r := rRepY K) op_repY (pe_tupZ (pa_cons pe_non pa_nil)) (pv 4)) pa_nil)))))))), ?_⟩
  obtain ⟨a, b, h, c, rfl, rfl, hA, hC, ok, hc, hf, ⟨to, size, rfl⟩, q⟩ := h
  refine ⟨_, rfl, b, _, rfl, hC, rfl, _, _, rfl, _, _, rfl, _, _, rfl, rfl, ?_⟩
  refine nxI (σ' := [some (.ref a), some (.ref b), some (.str "record"), some (.int (to : Int)), some (.int (size : Int))]) rfl ?_
  have zz := ok.size
  have hsz := hc.2
  refine ⟨_, rfl, _, rfl, sz (by show 1 ≤ 100000; decide), fun p1 o1 f1 n1 => ?_⟩
  have e1 : ExA H (upd H p1 (.frz o1 (.tup [.non]))) := ExM.new f1
  have z1 : SqZ (upd H p1 (.frz o1 (.tup [.non]))) p1 [.non] := SqZ.of n1 upd_same
  generalize upd H p1 (.frz o1 (.tup [.non])) = H1 at e1 z1 ⊢
  refine ⟨_, rfl, p1, _, _, rfl, rfl, z1, by omega, by omega, fun p2 H2 e2 z2 => ?_⟩
  have e12 := e1.trans e2
  refine ⟨_, _, _, _, rfl, a, h, to, .rcd h.nx (List.replicate size none), "record", rfl, rfl, rfl, hA.mono (Tk.all e12), by omega, hc.1, ok.nreg, fun H' p e s => ⟨p2, s, ?_⟩, fun H3 p e3 hR => q H3 p (e12.trans e3) hR⟩
  have z3 := z2.mono (Tk.all (K := K) e)
  rw [List.map_replicate]
  exact z3
theorem ok_make_weak {f : Addr} {fd : FuncData} {cd : Value} (F : Df K "make_weak" s_make_weak f fd cd) (T : Txt mg) (C_registers_of : Cal P w K mg base 1 "registers_of" (sp_registers_of K) []) (C_keeping : Cal P w K mg base 1 "keeping" (sp_keeping K) []) (C_make : Cal P w K mg base 2 "make" (sp_make K) []) : FnOk P w K mg base CX0 3 f fd ["heap", "command"] (sp_make_weak K) := by
  have nd := sc_make_weak.nd
  refine F.ok sc_make_weak (fun vs H Q E h => ?_) (fun A outer s H vs Q E hr h => ?_)
  · obtain ⟨_, _, rfl, _⟩ := h; rfl
  have hu := hu_of hr
  obtain ⟨x0, x1, rfl, h⟩ := h
  refine ⟨_, (pss_cons (ps_asg (pv 1) (show PG _ _ (gTup K 3 _) from pg_tup rfl (pgs_cons (pg_name (i := 2) nd rfl (by first | exact Or.inl rfl | exact Or.inr rfl)) (pgs_cons (pg_name (i := 3) nd rfl (by first | exact Or.inl rfl | exact Or.inr rfl)) (pgs_cons (pg_name (i := 4) nd rfl (by first | exact Or.inl rfl | exact Or.inr rfl)) pgs_nil)))))
    (pss_cons (ps_set (i := 5) nd rfl (by first | exact Or.inl rfl | exact Or.inr rfl) (pe_ix (r := rIxT K) ix_tup (pe_c C_registers_of hr (by first | exact Nat.le_refl _ | decide) rfl (pa_cons (pv 0) pa_nil)) (pv 4) (fun _ _ => rfl)))
    (pss_one (ps_ret (pe_c C_make hr (by first | exact Nat.le_refl _ | decide) rfl (pa_cons (pe_c C_keeping hr (by first | exact Nat.le_refl _ | decide) rfl (pa_cons (pv 0) (pa_cons (pv 5) pa_nil))) (pa_cons (pv 3) (pa_cons pe_str (pa_cons (pv 5) pa_nil))))))))), ?_⟩
  obtain ⟨a, b, h, c, rfl, rfl, hA, hC, ok, hc, hf, ⟨to, of_, rfl⟩, q⟩ := h
  refine ⟨_, rfl, b, _, rfl, hC, rfl, _, _, rfl, _, _, rfl, _, _, rfl, rfl, ?_⟩
  refine nxI (σ' := [some (.ref a), some (.ref b), some (.str "weak"), some (.int (to : Int)), some (.int (of_ : Int)), none]) rfl ?_
  have zz := ok.size
  cases hr : reg h of_ with
  | none => simp [fault, hr] at hf
  | some n =>
  refine ⟨_, rfl, _, rfl, a, h, rfl, hA, fun r hR => ⟨_, rfl, r, _, _, .int n, rfl, rfl, hR.sq, atI_nat (by rw [List.getElem?_map, reg_at hc.2, hr]; rfl), ?_⟩⟩
  refine gI (σ' := [some (.ref a), some (.ref b), some (.str "weak"), some (.int (to : Int)), some (.int (of_ : Int)), some (.int n)]) rfl ?_
  refine ⟨_, rfl, _, rfl, _, _, rfl, a, h, n, rfl, rfl, hA, ok, reg_ok ok of_ n hr, fun H1 p1 e1 hA1 => ?_⟩
  refine ⟨_, rfl, _, rfl, _, _, _, _, rfl, p1, keep h (some n), to, .weak h.nx (some n), "weak", rfl, rfl, rfl, hA1, by show h.obs.length ≤ 1000; omega, hc.1, ok.nreg, fun H' p e s => s, fun H3 p e3 hR => q H3 p (e1.trans e3) ?_⟩
  show ResAt K H3 p (mkOb (keep h (reg h of_)) to (.weak h.nx (reg h of_)) h.nx)
  rw [hr]; exact hR
theorem ok_make_table {f : Addr} {fd : FuncData} {cd : Value} (F : Df K "make_table" s_make_table f fd cd) (T : Txt mg) (C_make : Cal P w K mg base 2 "make" (sp_make K) []) : FnOk P w K mg base CX0 3 f fd ["heap", "command"] (sp_make_table K) := by
  have nd := sc_make_table.nd
  refine F.ok sc_make_table (fun vs H Q E h => ?_) (fun A outer s H vs Q E hr h => ?_)
  · obtain ⟨_, _, rfl, _⟩ := h; rfl
  have hu := hu_of hr
  obtain ⟨x0, x1, rfl, h⟩ := h
  refine ⟨_, (pss_one (ps_ret (pe_c C_make hr (by first | exact Nat.le_refl _ | decide) rfl (pa_cons (pv 0) (pa_cons (pe_ix (r := rIxT K) ix_tup (pv 1) pe_int (fun _ _ => rfl)) (pa_cons pe_str (pa_cons (pe_tupZ pa_nil) pa_nil))))))), ?_⟩
  obtain ⟨a, b, h, c, rfl, rfl, hA, hC, ok, hc, hf, ⟨to, rfl⟩, q⟩ := h
  have zz := ok.size
  refine ⟨_, rfl, _, rfl, b, _, _, _, rfl, rfl, hC, at1, ?_⟩
  refine ⟨sz (by show 0 ≤ 100000; decide), fun p1 o1 f1 n1 => ?_⟩
  have e1 : ExA H (upd H p1 (.frz o1 (.tup []))) := ExM.new f1
  have z1 : SqZ (upd H p1 (.frz o1 (.tup []))) p1 [] := SqZ.of n1 upd_same
  generalize upd H p1 (.frz o1 (.tup [])) = H1 at e1 z1 ⊢
  refine ⟨_, _, _, _, rfl, a, h, to, .tab h.nx [], "table", rfl, rfl, rfl, hA.mono (Tk.all e1), by omega, hc, ok.nreg, fun H' p e s => ⟨p1, [], s, z1.mono (Tk.all (K := K) e), .nil⟩, fun H3 p e3 hR => q H3 p (e1.trans e3) hR⟩
theorem ok_copy_reference {f : Addr} {fd : FuncData} {cd : Value} (F : Df K "copy_reference" s_copy_reference f fd cd) (T : Txt mg) (C_registers_of : Cal P w K mg base 1 "registers_of" (sp_registers_of K) []) (C_holding : Cal P w K mg base 1 "holding" (sp_holding K) []) : FnOk P w K mg base CX0 2 f fd ["heap", "command"] (sp_copy_reference K) := by
  have nd := sc_copy_reference.nd
  refine F.ok sc_copy_reference (fun vs H Q E h => ?_) (fun A outer s H vs Q E hr h => ?_)
  · obtain ⟨_, _, rfl, _⟩ := h; rfl
  have hu := hu_of hr
  obtain ⟨x0, x1, rfl, h⟩ := h
  refine ⟨_, (pss_cons (ps_asg (pv 1) (show PG _ _ (gTup K 3 _) from pg_tup rfl (pgs_cons (pg_name (i := 2) nd rfl (by first | exact Or.inl rfl | exact Or.inr rfl)) (pgs_cons (pg_name (i := 3) nd rfl (by first | exact Or.inl rfl | exact Or.inr rfl)) (pgs_cons (pg_name (i := 4) nd rfl (by first | exact Or.inl rfl | exact Or.inr rfl)) pgs_nil)))))
    (pss_cons (ps_set (i := 5) nd rfl (by first | exact Or.inl rfl | exact Or.inr rfl) (pe_ix (r := rIxT K) ix_tup (pe_c C_registers_of hr (by first | exact Nat.le_refl _ | decide) rfl (pa_cons (pv 0) pa_nil)) (pv 4) (fun _ _ => rfl)))
    (pss_one (ps_ret (pe_tup (pa_cons (pe_c C_holding hr (by first | exact Nat.le_refl _ | decide) rfl (pa_cons (pv 0) (pa_cons (pv 3) (pa_cons (pv 5) pa_nil)))) (pa_cons (pv 5) pa_nil))))))), ?_⟩
  obtain ⟨a, b, h, c, rfl, rfl, hA, hC, ok, hc, hf, ⟨to, of_, rfl⟩, q⟩ := h
  refine ⟨_, rfl, b, _, rfl, hC, rfl, _, _, rfl, _, _, rfl, _, _, rfl, rfl, ?_⟩
  refine nxI (σ' := [some (.ref a), some (.ref b), some (.str "copy"), some (.int (to : Int)), some (.int (of_ : Int)), none]) rfl ?_
  refine ⟨_, rfl, _, rfl, a, h, rfl, hA, fun r hR => ⟨_, rfl, r, _, _, rV (reg h of_), rfl, rfl, hR.sq, atI_nat (by rw [List.getElem?_map, reg_at hc.2]; rfl), ?_⟩⟩
  refine gI (σ' := [some (.ref a), some (.ref b), some (.str "copy"), some (.int (to : Int)), some (.int (of_ : Int)), some (rV (reg h of_))]) rfl ?_
  refine ⟨_, rfl, _, rfl, _, rfl, _, _, _, rfl, a, h, to, reg h of_, rfl, rfl, rfl, hA, hc.1, ok.nreg, fun H1 p1 e1 hA1 => ?_⟩
  exact ⟨_, rfl, sz (by show 2 ≤ 100000; decide), fun p fp => q _ p (e1.trans (ExM.new fp)) ⟨p1, _, SqT.of upd_same, hA1.mono (Tk.new fp), rfl⟩⟩
theorem ok_clear_place {f : Addr} {fd : FuncData} {cd : Value} (F : Df K "clear_place" s_clear_place f fd cd) (T : Txt mg) (C_holding : Cal P w K mg base 1 "holding" (sp_holding K) []) : FnOk P w K mg base CX0 2 f fd ["heap", "command"] (sp_clear_place K) := by
  have nd := sc_clear_place.nd
  refine F.ok sc_clear_place (fun vs H Q E h => ?_) (fun A outer s H vs Q E hr h => ?_)
  · obtain ⟨_, _, rfl, _⟩ := h; rfl
  have hu := hu_of hr
  obtain ⟨x0, x1, rfl, h⟩ := h
  refine ⟨_, (pss_one (ps_ret (pe_tup (pa_cons (pe_c C_holding hr (by first | exact Nat.le_refl _ | decide) rfl (pa_cons (pv 0) (pa_cons (pe_ix (r := rIxT K) ix_tup (pv 1) pe_int (fun _ _ => rfl)) (pa_cons pe_non pa_nil)))) (pa_cons pe_non pa_nil))))), ?_⟩
  obtain ⟨a, b, h, c, rfl, rfl, hA, hC, ok, hc, hf, ⟨to, rfl⟩, q⟩ := h
  refine ⟨_, rfl, _, rfl, b, _, _, _, rfl, rfl, hC, at1, _, _, _, rfl, a, h, to, none, rfl, rfl, rfl, hA, hc, ok.nreg, fun H1 p1 e1 hA1 => ?_⟩
  exact ⟨sz (by show 2 ≤ 100000; decide), fun p fp => q _ p (e1.trans (ExM.new fp)) ⟨p1, _, SqT.of upd_same, hA1.mono (Tk.new fp), rfl⟩⟩
theorem ok_read_field {f : Addr} {fd : FuncData} {cd : Value} (F : Df K "read_field" s_read_field f fd cd) (T : Txt mg) (C_holding : Cal P w K mg base 1 "holding" (sp_holding K) []) (C_in_place : Cal P w K mg base 3 "in_place" (sp_in_place K) []) : FnOk P w K mg base CX0 4 f fd ["heap", "command"] (sp_read_field K) := by
  have nd := sc_read_field.nd
  refine F.ok sc_read_field (fun vs H Q E h => ?_) (fun A outer s H vs Q E hr h => ?_)
  · obtain ⟨_, _, rfl, _⟩ := h; rfl
  have hu := hu_of hr
  obtain ⟨x0, x1, rfl, h⟩ := h
  refine ⟨_, (pss_cons (ps_asg (pv 1) (show PG _ _ (gTup K 4 _) from pg_tup rfl (pgs_cons (pg_name (i := 2) nd rfl (by first | exact Or.inl rfl | exact Or.inr rfl)) (pgs_cons (pg_name (i := 3) nd rfl (by first | exact Or.inl rfl | exact Or.inr rfl)) (pgs_cons (pg_name (i := 4) nd rfl (by first | exact Or.inl rfl | exact Or.inr rfl)) (pgs_cons (pg_name (i := 5) nd rfl (by first | exact Or.inl rfl | exact Or.inr rfl)) pgs_nil))))))
    (pss_cons (ps_set (i := 6) nd rfl (by first | exact Or.inl rfl | exact Or.inr rfl) (pe_ix (r := rIxT K) ix_tup (pe_ix (r := rIxT K) ix_tup (pe_c C_in_place hr (by first | exact Nat.le_refl _ | decide) rfl (pa_cons (pv 0) (pa_cons (pv 4) pa_nil))) pe_int (fun _ _ => rfl)) (pv 5) (fun _ _ => rfl)))
    (pss_one (ps_ret (pe_tup (pa_cons (pe_c C_holding hr (by first | exact Nat.le_refl _ | decide) rfl (pa_cons (pv 0) (pa_cons (pv 3) (pa_cons (pv 6) pa_nil)))) (pa_cons (pv 6) pa_nil))))))), ?_⟩
  obtain ⟨a, b, h, c, rfl, rfl, hA, hC, ok, hc, hf, ⟨to, of_, ix, rfl⟩, q⟩ := h
  obtain ⟨n, fs, ho, lix⟩ := fault_read hf (fun n e => reg_ok ok of_ n e)
  refine ⟨_, rfl, b, _, rfl, hC, rfl, _, _, rfl, _, _, rfl, _, _, rfl, _, _, rfl, rfl, ?_⟩
  refine nxI (σ' := [some (.ref a), some (.ref b), some (.str "read"), some (.int (to : Int)), some (.int (of_ : Int)), some (.int (ix : Int)), none]) rfl ?_
  refine ⟨_, rfl, _, rfl, _, _, rfl, a, h, of_, .rcd n fs, rfl, rfl, hA, ok, hc.2.1, ho, fun H1 p1 e1 hO => ?_⟩
  obtain ⟨t, s1, z1⟩ := hO
  refine ⟨p1, _, _, _, rfl, rfl, s1, at2, _, rfl, t, _, _, rV (fs.getD ix none), rfl, rfl, z1.sq, atI_nat (by rw [List.getElem?_map, List.getD_eq_getElem?_getD, List.getElem?_eq_getElem lix]; rfl), ?_⟩
  refine gI (σ' := [some (.ref a), some (.ref b), some (.str "read"), some (.int (to : Int)), some (.int (of_ : Int)), some (.int (ix : Int)), some (rV (fs.getD ix none))]) rfl ?_
  refine ⟨_, rfl, _, rfl, _, rfl, _, _, _, rfl, a, h, to, fs.getD ix none, rfl, rfl, rfl, hA.mono (Tk.all e1), hc.1, ok.nreg, fun H2 p2 e2 hA2 => ?_⟩
  refine ⟨_, rfl, sz (by show 2 ≤ 100000; decide), fun p fp => q _ p ((e1.trans e2).trans (ExM.new fp)) ⟨p2, _, SqT.of upd_same, ?_, ?_⟩⟩
  · simp only [act, ho]; exact hA2.mono (Tk.new fp)
  · simp only [act, ho]; rfl
theorem ok_write_field {f : Addr} {fd : FuncData} {cd : Value} (F : Df K "write_field" s_write_field f fd cd) (T : Txt mg) (C_registers_of : Cal P w K mg base 1 "registers_of" (sp_registers_of K) []) (C_replacing : Cal P w K mg base 1 "replacing" (sp_replacing K) []) (C_in_place : Cal P w K mg base 3 "in_place" (sp_in_place K) []) : FnOk P w K mg base CX0 4 f fd ["heap", "command"] (sp_write_field K) := by
  have nd := sc_write_field.nd
  refine F.ok sc_write_field (fun vs H Q E h => ?_) (fun A outer s H vs Q E hr h => ?_)
  · obtain ⟨_, _, rfl, _⟩ := h; rfl
  have hu := hu_of hr
  obtain ⟨x0, x1, rfl, h⟩ := h
  refine ⟨_, (pss_cons (ps_asg (pv 1) (show PG _ _ (gTup K 4 _) from pg_tup rfl (pgs_cons (pg_name (i := 2) nd rfl (by first | exact Or.inl rfl | exact Or.inr rfl)) (pgs_cons (pg_name (i := 3) nd rfl (by first | exact Or.inl rfl | exact Or.inr rfl)) (pgs_cons (pg_name (i := 4) nd rfl (by first | exact Or.inl rfl | exact Or.inr rfl)) (pgs_cons (pg_name (i := 5) nd rfl (by first | exact Or.inl rfl | exact Or.inr rfl)) pgs_nil))))))
    (pss_cons (ps_asg (pe_c C_in_place hr (by first | exact Nat.le_refl _ | decide) rfl (pa_cons (pv 0) (pa_cons (pv 3) pa_nil))) (show PG _ _ (gTup K 3 _) from pg_tup rfl (pgs_cons (pg_name (i := 6) nd rfl (by first | exact Or.inl rfl | exact Or.inr rfl)) (pgs_cons (pg_name (i := 7) nd rfl (by first | exact Or.inl rfl | exact Or.inr rfl)) (pgs_cons (pg_name (i := 8) nd rfl (by first | exact Or.inl rfl | exact Or.inr rfl)) pgs_nil)))))
    (pss_cons (ps_set (i := 9) nd rfl (by first | exact Or.inl rfl | exact Or.inr rfl) (pe_op (r := rCatZ K) op_catZ (pe_op (r := rCatZ K) op_catZ (pe_slice (r := rSlA K) sl_tupA (pv 8) po_none (po_some (pv 4))) (pe_tupZ (pa_cons (pe_ix (r := rIxT K) ix_tup (pe_c C_registers_of hr (by first | exact Nat.le_refl _ | decide) rfl (pa_cons (pv 0) pa_nil)) (pv 5) (fun _ _ => rfl)) pa_nil))) (pe_slice (r := rSlA K) sl_tupA (pv 8) (po_some (pe_op op_add (pv 4) pe_int)) po_none)))
    (pss_one (ps_ret (pe_tupZ (pa_cons (pe_c C_replacing hr (by first | exact Nat.le_refl _ | decide) rfl (pa_cons (pv 0) (pa_cons (pe_tupZ (pa_cons (pv 6) (pa_cons (pv 7) (pa_cons (pv 9) pa_nil)))) pa_nil))) (pa_cons pe_non pa_nil)))))))), ?_⟩
  obtain ⟨a, b, h, c, rfl, rfl, hA, hC, ok, hc, hf, ⟨into, ix, of_, rfl⟩, q⟩ := h
  obtain ⟨n, fs, ho, lix⟩ := fault_read hf (fun n e => reg_ok ok into n e)
  have zz := ok.size
  have zf := (ok.obs _ (obReg_mem ho).1).1
  refine ⟨_, rfl, b, _, rfl, hC, rfl, _, _, rfl, _, _, rfl, _, _, rfl, _, _, rfl, rfl, ?_⟩
  refine nxI (σ' := [some (.ref a), some (.ref b), some (.str "write"), some (.int (into : Int)), some (.int (ix : Int)), some (.int (of_ : Int)), none, none, none, none]) rfl ?_
  refine ⟨_, rfl, _, rfl, _, _, rfl, a, h, into, .rcd n fs, rfl, rfl, hA, ok, hc.1, ho, fun H1 p1 e1 hO => ?_⟩
  obtain ⟨t, s1, z1⟩ := hO
  refine ⟨p1, _, rfl, s1, rfl, _, _, rfl, _, _, rfl, _, _, rfl, rfl, ?_⟩
  refine nxI (σ' := [some (.ref a), some (.ref b), some (.str "write"), some (.int (into : Int)), some (.int (ix : Int)), some (.int (of_ : Int)), some (.str "record"), some (.int n), some (.ref t), none]) rfl ?_
  have hA1 := hA.mono (Tk.all e1)
  have lm : (fs.map rV).length = fs.length := List.length_map _
  refine ⟨_, rfl, _, rfl, _, rfl, slA_to z1.sq (show ix ≤ (fs.map rV).length by omega) fun p2 H2 e2 s2 => ?_⟩
  have hA2 := hA1.mono (Tk.all e2)
  refine ⟨_, rfl, _, rfl, a, h, rfl, hA2, fun r hR => ⟨_, rfl, r, _, _, rV (reg h of_), rfl, rfl, hR.sq, atI_nat (by rw [List.getElem?_map, reg_at hc.2.2]; rfl), ?_⟩⟩
  refine ⟨sz (by show 1 ≤ 100000; decide), fun p3 o3 f3 n3 => ?_⟩
  have s2' := Tk.new (K := K) (o := .frz o3 (.tup [rV (reg h of_)])) f3 _ _ s2
  refine rCatZ.right s2' (SqZ.of n3 upd_same) (by simp) (sz (by rw [List.length_take]; simp; omega)) fun p4 H4 e4 z4 => ?_
  have t2 : ExA H1 H4 := (e2.put (ExA.free e2 f3)).trans e4
  refine ⟨_, rfl, _, rfl, _, _, rfl, rfl, _, rfl, ?_⟩
  have e5 : ((ix : Int) + 1) = ((ix + 1 : Nat) : Int) := by omega
  rw [e5]
  dsimp only [tNoPart]
  refine slA_from (Tk.all t2 _ _ z1.sq) (show ix + 1 ≤ (fs.map rV).length by omega) fun p5 H5 e5 s5 => ?_
  refine rCatZ.left (z4.mono (Tk.all (K := K) e5)) s5 (by simp) (sz (by simp; omega)) fun p6 H6 e6 z6 => ?_
  rw [set_cut (by omega), ← List.map_set] at z6
  refine gI (σ' := [some (.ref a), some (.ref b), some (.str "write"), some (.int (into : Int)), some (.int (ix : Int)), some (.int (of_ : Int)), some (.str "record"), some (.int n), some (.ref t), some (.ref p6)]) rfl ?_
  have eA : ExA H H6 := ((e1.trans t2).trans e5).trans e6
  refine ⟨_, rfl, _, rfl, _, rfl, _, rfl, sz (by show 3 ≤ 100000; decide), fun p7 o7 f7 n7 => ?_⟩
  have T7 := Tk.new (K := K) (o := .frz o7 (.tup [.str "record", .int n, .ref p6])) f7
  refine ⟨_, _, rfl, a, h, p7, .rcd n (fs.set ix (reg h of_)), rfl, rfl, (hA.mono (Tk.all eA)).mono T7, by omega, ⟨p6, (SqZ.of n7 upd_same).sq, z6.mono T7⟩, fun H8 p8 e8 hA8 => ?_⟩
  refine ⟨sz (by show 2 ≤ 100000; decide), fun p o fp no => q _ p (((eA.put (ExA.free eA f7)).trans e8).trans (ExM.new fp)) ⟨p8, _, (SqZ.of no upd_same).sq, ?_, ?_⟩⟩
  · simp only [act, ho]; exact hA8.mono (Tk.new fp)
  · simp only [act, ho]; rfl
theorem ok_deref_target {f : Addr} {fd : FuncData} {cd : Value} (F : Df K "deref_target" s_deref_target f fd cd) (T : Txt mg) (C_holding : Cal P w K mg base 1 "holding" (sp_holding K) []) (C_keeping : Cal P w K mg base 1 "keeping" (sp_keeping K) []) (C_in_place : Cal P w K mg base 3 "in_place" (sp_in_place K) []) : FnOk P w K mg base CX0 4 f fd ["heap", "command"] (sp_deref_target K) := by
  have nd := sc_deref_target.nd
  refine F.ok sc_deref_target (fun vs H Q E h => ?_) (fun A outer s H vs Q E hr h => ?_)
  · obtain ⟨_, _, rfl, _⟩ := h; rfl
  have hu := hu_of hr
  obtain ⟨x0, x1, rfl, h⟩ := h
  refine ⟨_, (pss_cons (ps_asg (pv 1) (show PG _ _ (gTup K 3 _) from pg_tup rfl (pgs_cons (pg_name (i := 2) nd rfl (by first | exact Or.inl rfl | exact Or.inr rfl)) (pgs_cons (pg_name (i := 3) nd rfl (by first | exact Or.inl rfl | exact Or.inr rfl)) (pgs_cons (pg_name (i := 4) nd rfl (by first | exact Or.inl rfl | exact Or.inr rfl)) pgs_nil)))))
    (pss_cons (ps_set (i := 5) nd rfl (by first | exact Or.inl rfl | exact Or.inr rfl) (pe_ix (r := rIxT K) ix_tup (pe_c C_in_place hr (by first | exact Nat.le_refl _ | decide) rfl (pa_cons (pv 0) (pa_cons (pv 4) pa_nil))) pe_int (fun _ _ => rfl)))
    (pss_cons (ps_set (i := 6) nd rfl (by first | exact Or.inl rfl | exact Or.inr rfl) (pe_ifExp (pt_cmpR op_isN (pv 5) pe_non (nomark _)) (pv 0) (pe_c C_keeping hr (by first | exact Nat.le_refl _ | decide) rfl (pa_cons (pv 0) (pa_cons (pv 5) pa_nil)))))
    (pss_one (ps_ret (pe_tup (pa_cons (pe_c C_holding hr (by first | exact Nat.le_refl _ | decide) rfl (pa_cons (pv 6) (pa_cons (pv 3) (pa_cons (pv 5) pa_nil)))) (pa_cons (pv 5) pa_nil)))))))), ?_⟩
  obtain ⟨a, b, h, c, rfl, rfl, hA, hC, ok, hc, hf, ⟨to, of_, rfl⟩, q⟩ := h
  obtain ⟨n, tg, ho⟩ := fault_deref hf (fun n e => reg_ok ok of_ n e)
  have ht : Rf.ok h.nums tg := ok.obs _ (obReg_mem ho).1
  refine ⟨_, rfl, b, _, rfl, hC, rfl, _, _, rfl, _, _, rfl, _, _, rfl, rfl, ?_⟩
  refine nxI (σ' := [some (.ref a), some (.ref b), some (.str "deref"), some (.int (to : Int)), some (.int (of_ : Int)), none, none]) rfl ?_
  refine ⟨_, rfl, _, rfl, _, _, rfl, a, h, of_, .weak n tg, rfl, rfl, hA, ok, hc.2, ho, fun H1 p1 e1 hO => ?_⟩
  have s1 : SqT K H1 p1 [.str "weak", .int n, rV tg] := hO
  refine ⟨p1, _, _, _, rfl, rfl, s1, at2, ?_⟩
  refine gI (σ' := [some (.ref a), some (.ref b), some (.str "deref"), some (.int (to : Int)), some (.int (of_ : Int)), some (rV tg), none]) rfl ?_
  have hA1 := hA.mono (Tk.all e1)
  have hkeep : ∀ H2 p2, ExA H1 H2 → HeapAt K H2 p2 (keep h tg) → ∀ p3 H3, ExA H2 H3 → HeapAt K H3 p3 (load (keep h tg) to tg) → ∀ p, H3 p = none → Q (.ref p) (upd H3 p (.tup [.ref p3, rV tg])) := fun H2 p2 e2 hA2 p3 H3 e3 hA3 p fp => by
    refine q _ p (((e1.trans e2).trans e3).trans (ExM.new fp)) ⟨p3, _, SqT.of upd_same, ?_, ?_⟩
    · simp only [act, ho]; exact hA3.mono (Tk.new fp)
    · simp only [act, ho]; rfl
  have lk : (keep h tg).regs.length = h.regs.length := by rw [keep_regs]
  cases tg with
  | none =>
    refine ⟨_, rfl, rfl, _, rfl, iteT ⟨_, rfl, ?_⟩⟩
    refine gI (σ' := [some (.ref a), some (.ref b), some (.str "deref"), some (.int (to : Int)), some (.int (of_ : Int)), some .non, some (.ref a)]) rfl ?_
    refine ⟨_, rfl, _, rfl, _, rfl, _, _, _, rfl, a, h, to, none, rfl, rfl, rfl, hA1, hc.1, ok.nreg, fun H2 p2 e2 hA2 => ?_⟩
    exact ⟨_, rfl, sz (by show 2 ≤ 100000; decide), fun p fp => hkeep H1 a (ExM.refl _ _) hA1 p2 H2 e2 hA2 p fp⟩
  | some m =>
    refine ⟨_, rfl, rfl, _, rfl, iteF ⟨_, rfl, _, rfl, _, _, rfl, a, h, m, rfl, rfl, hA1, ok, ht m rfl, fun H2 p2 e2 hA2 => ?_⟩⟩
    refine gI (σ' := [some (.ref a), some (.ref b), some (.str "deref"), some (.int (to : Int)), some (.int (of_ : Int)), some (.int m), some (.ref p2)]) rfl ?_
    refine ⟨_, rfl, _, rfl, _, rfl, _, _, _, rfl, p2, keep h (some m), to, some m, rfl, rfl, rfl, hA2, by rw [lk]; exact hc.1, by rw [lk]; exact ok.nreg, fun H3 p3 e3 hA3 => ?_⟩
    exact ⟨_, rfl, sz (by show 2 ≤ 100000; decide), fun p fp => hkeep H2 p2 e2 hA2 p3 H3 e3 hA3 p fp⟩
theorem ok_put_entry {f : Addr} {fd : FuncData} {cd : Value} (F : Df K "put_entry" s_put_entry f fd cd) (T : Txt mg) (C_registers_of : Cal P w K mg base 1 "registers_of" (sp_registers_of K) []) (C_replacing : Cal P w K mg base 1 "replacing" (sp_replacing K) []) (C_in_place : Cal P w K mg base 3 "in_place" (sp_in_place K) []) : FnOk P w K mg base CX0 4 f fd ["heap", "command"] (sp_put_entry K) := by
  have nd := sc_put_entry.nd
  refine F.ok sc_put_entry (fun vs H Q E h => ?_) (fun A outer s H vs Q E hr h => ?_)
  · obtain ⟨_, _, rfl, _⟩ := h; rfl
  have hu := hu_of hr
  obtain ⟨x0, x1, rfl, h⟩ := h
  refine ⟨_, (pss_cons (ps_asg (pv 1) (show PG _ _ (gTup K 4 _) from pg_tup rfl (pgs_cons (pg_name (i := 2) nd rfl (by first | exact Or.inl rfl | exact Or.inr rfl)) (pgs_cons (pg_name (i := 3) nd rfl (by first | exact Or.inl rfl | exact Or.inr rfl)) (pgs_cons (pg_name (i := 4) nd rfl (by first | exact Or.inl rfl | exact Or.inr rfl)) (pgs_cons (pg_name (i := 5) nd rfl (by first | exact Or.inl rfl | exact Or.inr rfl)) pgs_nil))))))
    (pss_cons (ps_asg (pe_c C_in_place hr (by first | exact Nat.le_refl _ | decide) rfl (pa_cons (pv 0) (pa_cons (pv 3) pa_nil))) (show PG _ _ (gTup K 3 _) from pg_tup rfl (pgs_cons (pg_name (i := 6) nd rfl (by first | exact Or.inl rfl | exact Or.inr rfl)) (pgs_cons (pg_name (i := 7) nd rfl (by first | exact Or.inl rfl | exact Or.inr rfl)) (pgs_cons (pg_name (i := 8) nd rfl (by first | exact Or.inl rfl | exact Or.inr rfl)) pgs_nil)))))
    (pss_cons (ps_set (i := 9) nd rfl (by first | exact Or.inl rfl | exact Or.inr rfl) (pe_c C_registers_of hr (by first | exact Nat.le_refl _ | decide) rfl (pa_cons (pv 0) pa_nil)))
    (pss_cons (ps_set (i := 10) nd rfl (by first | exact Or.inl rfl | exact Or.inr rfl) (pe_callTy (r := rDictT K) (call_dictT rfl) rfl T.dict (by decide +kernel) (pa_cons (pv 8) pa_nil)))
    (pss_cons (ps_dput hu (pv 10) (pe_ix (r := rIxT K) ix_tup (pv 9) (pv 4) (fun _ _ => rfl)) (pe_ix (r := rIxT K) ix_tup (pv 9) (pv 5) (fun _ _ => rfl)) rfl)
    (pss_one (ps_ret (pe_tup (pa_cons (pe_c C_replacing hr (by first | exact Nat.le_refl _ | decide) rfl (pa_cons (pv 0) (pa_cons (pe_tup (pa_cons (pv 6) (pa_cons (pv 7) (pa_cons (pe_tupItems rfl (pv 10) rfl T.tuple) pa_nil)))) pa_nil))) (pa_cons pe_non pa_nil)))))))))), ?_⟩
  obtain ⟨a, b, h, c, rfl, rfl, hA, hC, ok, hc, hf, ⟨at_, ky, wth, rfl⟩, q⟩ := h
  obtain ⟨nf, hf2⟩ := iff_none hf
  obtain ⟨n, es, ho⟩ := fault_tab hf2 (fun n e => reg_ok ok at_ n e)
  obtain ⟨i, hi⟩ := some_of (fun z => nf (.inr (.inl z)))
  obtain ⟨j, hj⟩ := some_of (fun z => nf (.inr (.inr z)))
  have zo := ok.obs _ (obReg_mem ho).1
  have zz := ok.size
  refine ⟨_, rfl, b, _, rfl, hC, rfl, _, _, rfl, _, _, rfl, _, _, rfl, _, _, rfl, rfl, ?_⟩
  refine nxI (σ' := [some (.ref a), some (.ref b), some (.str "put"), some (.int (at_ : Int)), some (.int (ky : Int)), some (.int (wth : Int)), none, none, none, none, none]) rfl ?_
  refine ⟨_, rfl, _, rfl, _, _, rfl, a, h, at_, .tab n es, rfl, rfl, hA, ok, hc.1, ho, fun H1 p1 e1 hO => ?_⟩
  obtain ⟨t, ps, s1, z1, hp⟩ := hO
  refine ⟨p1, _, rfl, s1, rfl, _, _, rfl, _, _, rfl, _, _, rfl, rfl, ?_⟩
  refine nxI (σ' := [some (.ref a), some (.ref b), some (.str "put"), some (.int (at_ : Int)), some (.int (ky : Int)), some (.int (wth : Int)), some (.str "table"), some (.int n), some (.ref t), none, none]) rfl ?_
  refine ⟨_, rfl, _, rfl, a, h, rfl, hA.mono (Tk.all e1), fun r hR => ?_⟩
  refine gI (σ' := [some (.ref a), some (.ref b), some (.str "put"), some (.int (at_ : Int)), some (.int (ky : Int)), some (.int (wth : Int)), some (.str "table"), some (.int n), some (.ref t), some (.ref r), none]) rfl ?_
  refine ⟨_, rfl, t, ps, es, rfl, z1, hp, zo.1, fun d fd => ?_⟩
  refine gI (σ' := [some (.ref a), some (.ref b), some (.str "put"), some (.int (at_ : Int)), some (.int (ky : Int)), some (.int (wth : Int)), some (.str "table"), some (.int n), some (.ref t), some (.ref r), some (.ref d)]) rfl ?_
  have em := merge_ent zo.2.1
  have ec : (es.map fun e => ((Sum.inl e.1 : Key), V.int e.2)) = ent es := rfl
  rw [ec, em]
  have hR2 : SqT K (upd H1 d (.dK (ent es))) r (h.regs.map rV) := (Tk.new fd) _ _ hR.sq
  refine ⟨_, rfl, _, rfl, r, _, _, .int j, rfl, rfl, hR2, atI_nat (by rw [List.getElem?_map, reg_at hc.2.2, hj]; rfl), _, rfl, _, rfl, _, rfl, r, _, _, .int i, rfl, rfl, hR2, atI_nat (by rw [List.getElem?_map, reg_at hc.2.1, hi]; rfl), ?_⟩
  refine ⟨d, _, rfl, DPut.k (k := Sum.inl i) upd_same (by unfold ent; rw [List.length_map]; exact szl (by have := zo.1; omega)), ?_⟩
  rw [ent_put, upd_upd]
  have eA : ExA H (upd H1 d (.dK (ent (putE es i j)))) := e1.put (ExA.free e1 fd)
  have hd : upd H1 d (.dK (ent (putE es i j))) d = some (.dK (ent (putE es i j))) := upd_same
  generalize upd H1 d (.dK (ent (putE es i j))) = H2 at eA hd ⊢
  refine ⟨_, rfl, _, rfl, _, rfl, _, rfl, d, _, rfl, hd, fun H3 p3 o3 ts e3 f3 n3 h3 hts => ?_⟩
  have z3 : SqZ H3 p3 (ts.map V.ref) := SqZ.of n3 h3
  have hps := ent_pairs (K := K) hts
  refine ⟨sz (by show 3 ≤ 100000; decide), fun p7 f7 => ?_⟩
  have T7 := Tk.new (K := K) (o := .tup [.str "table", .int n, .ref p3]) f7
  have eB := eA.trans e3
  refine ⟨_, _, rfl, a, h, p7, .tab n (putE es i j), rfl, rfl, (hA.mono (Tk.all eB)).mono T7, by omega, ⟨p3, ts, SqT.of upd_same, z3.mono T7, pmp hps fun _ _ z => PairAt.mono T7 z⟩, fun H8 p8 e8 hA8 => ?_⟩
  refine ⟨sz (by show 2 ≤ 100000; decide), fun p fp => q _ p ((((eB.put (ExA.free eB f7)).trans e8)).trans (ExM.new fp)) ⟨p8, _, SqT.of upd_same, ?_, ?_⟩⟩
  · simp only [act, ho, hi, hj]; exact hA8.mono (Tk.new fp)
  · simp only [act, ho, hi, hj]; rfl
theorem ok_remove_entry {f : Addr} {fd : FuncData} {cd : Value} (F : Df K "remove_entry" s_remove_entry f fd cd) (T : Txt mg) (C_registers_of : Cal P w K mg base 1 "registers_of" (sp_registers_of K) []) (C_replacing : Cal P w K mg base 1 "replacing" (sp_replacing K) []) (C_in_place : Cal P w K mg base 3 "in_place" (sp_in_place K) []) : FnOk P w K mg base CX0 4 f fd ["heap", "command"] (sp_remove_entry K) := by
  have nd := sc_remove_entry.nd
  refine F.ok sc_remove_entry (fun vs H Q E h => ?_) (fun A outer s H vs Q E hr h => ?_)
  · obtain ⟨_, _, rfl, _⟩ := h; rfl
  have hu := hu_of hr
  obtain ⟨x0, x1, rfl, h⟩ := h
  refine ⟨_, (pss_cons (ps_asg (pv 1) (show PG _ _ (gTup K 3 _) from pg_tup rfl (pgs_cons (pg_name (i := 2) nd rfl (by first | exact Or.inl rfl | exact Or.inr rfl)) (pgs_cons (pg_name (i := 3) nd rfl (by first | exact Or.inl rfl | exact Or.inr rfl)) (pgs_cons (pg_name (i := 4) nd rfl (by first | exact Or.inl rfl | exact Or.inr rfl)) pgs_nil)))))
    (pss_cons (ps_asg (pe_c C_in_place hr (by first | exact Nat.le_refl _ | decide) rfl (pa_cons (pv 0) (pa_cons (pv 3) pa_nil))) (show PG _ _ (gTup K 3 _) from pg_tup rfl (pgs_cons (pg_name (i := 5) nd rfl (by first | exact Or.inl rfl | exact Or.inr rfl)) (pgs_cons (pg_name (i := 6) nd rfl (by first | exact Or.inl rfl | exact Or.inr rfl)) (pgs_cons (pg_name (i := 7) nd rfl (by first | exact Or.inl rfl | exact Or.inr rfl)) pgs_nil)))))
    (pss_cons (ps_set (i := 8) nd rfl (by first | exact Or.inl rfl | exact Or.inr rfl) (pe_ix (r := rIxT K) ix_tup (pe_c C_registers_of hr (by first | exact Nat.le_refl _ | decide) rfl (pa_cons (pv 0) pa_nil)) (pv 4) (fun _ _ => rfl)))
    (pss_cons (ps_set (i := 9) nd rfl (by first | exact Or.inl rfl | exact Or.inr rfl) (pe_callTy (r := rTupZ K) call_tupleZ rfl T.tuple (by decide +kernel) (pa_cons (pe_lc (own := [("entry", 10)]) rfl nd (show PI _ _ _ (iTup K _) from pi_tup (pv 7)) (blkOk_by (own := [("entry", 10)]) (N := N_remove_entry) (sc := defScope s_remove_entry) (by decide +kernel)) (fun _ _ _ _ _ => (pg_name (i := 10) nd rfl (by first | exact Or.inl rfl | exact Or.inr rfl))) (fun _ _ _ _ _ => (pts_one (pt_cmpR op_ne (pe_ix (r := rIxT K) ix_tup (pv 10) pe_int (fun _ _ => rfl)) (pv 8) (nomark _)))) (fun _ _ _ _ _ => (pv 10))) pa_nil)))
    (pss_one (ps_ret (pe_tup (pa_cons (pe_c C_replacing hr (by first | exact Nat.le_refl _ | decide) rfl (pa_cons (pv 0) (pa_cons (pe_tup (pa_cons (pv 5) (pa_cons (pv 6) (pa_cons (pv 9) pa_nil)))) pa_nil))) (pa_cons (pe_cmpR op_lt (pe_callB (r := Evl.rLenS K) call_len_seq rfl T.len PySem.boot_len (pa_cons (pv 9) pa_nil)) (pe_callB (r := Evl.rLenS K) call_len_seq rfl T.len PySem.boot_len (pa_cons (pv 7) pa_nil)) (nomark _)) pa_nil))))))))), ?_⟩
  obtain ⟨a, b, h, c, rfl, rfl, hA, hC, ok, hc, hf, ⟨at_, ky, rfl⟩, q⟩ := h
  obtain ⟨nf, hf2⟩ := iff_none hf
  obtain ⟨n, es, ho⟩ := fault_tab hf2 (fun n e => reg_ok ok at_ n e)
  obtain ⟨i, hi⟩ := some_of (fun z => nf (.inr z))
  have zo := ok.obs _ (obReg_mem ho).1
  have zz := ok.size
  refine ⟨_, rfl, b, _, rfl, hC, rfl, _, _, rfl, _, _, rfl, _, _, rfl, rfl, ?_⟩
  refine nxI (σ' := [some (.ref a), some (.ref b), some (.str "remove"), some (.int (at_ : Int)), some (.int (ky : Int)), none, none, none, none, none, none]) rfl ?_
  refine ⟨_, rfl, _, rfl, _, _, rfl, a, h, at_, .tab n es, rfl, rfl, hA, ok, hc.1, ho, fun H1 p1 e1 hO => ?_⟩
  obtain ⟨t, ps, s1, z1, hp⟩ := hO
  refine ⟨p1, _, rfl, s1, rfl, _, _, rfl, _, _, rfl, _, _, rfl, rfl, ?_⟩
  refine nxI (σ' := [some (.ref a), some (.ref b), some (.str "remove"), some (.int (at_ : Int)), some (.int (ky : Int)), some (.str "table"), some (.int n), some (.ref t), none, none, none]) rfl ?_
  refine ⟨_, rfl, _, rfl, a, h, rfl, hA.mono (Tk.all e1), fun r hR => ⟨_, rfl, r, _, _, .int i, rfl, rfl, hR.sq, atI_nat (by rw [List.getElem?_map, reg_at hc.2, hi]; rfl), ?_⟩⟩
  refine gI (σ' := [some (.ref a), some (.ref b), some (.str "remove"), some (.int (at_ : Int)), some (.int (ky : Int)), some (.str "table"), some (.int n), some (.ref t), some (.int i), none, none]) rfl ?_
  refine ⟨_, rfl, t, rfl, ⟨_, z1.sq⟩, fun D hD => ?_⟩
  have zl := plen hp
  refine lcF K (fun q : Addr × (Int × Int) => V.ref q.1) (ps.zip es) (fun q => decide (q.2.1 ≠ i)) (fun q => [some (.ref a), some (.ref b), some (.str "remove"), some (.int (at_ : Int)), some (.int (ky : Int)), some (.str "table"), some (.int n), some (.ref t), some (.int i), none, some (.ref q.1)]) walk_tup (zip_refs hp) (by rw [List.length_map, zip_len hp])
    (by rw [zip_len hp]; have := zo.1; omega) (fun q => V.ref q.1) hD (fun H' e => Tk.all e _ _ z1.sq) (fun q H5 _ _ R z => z) (fun _ => rfl) (fun q H5 hq e R z => ?_) (fun q H5 hq c e R z => ⟨_, rfl, z _ (ExM.refl _ _)⟩) (fun H5 e5 hd => ?_)
  · refine ⟨_, rfl, q.1, _, _, _, rfl, rfl, Tk.all e _ _ (zip_all hp q hq), at0, _, rfl, rfl, _, rfl, ?_⟩
    have z := z H5 (ExM.refl _ _)
    refine cast (congrArg (fun b => R b H5) ?_) z
    rw [decide_not]
    exact congrArg _ (decide_eq_decide.mpr ⟨fun y => congrArg V.int y, fun y => V.int.inj y⟩)
  have hA5 := hA.mono (Tk.all (K := K) (e1.trans e5))
  refine ⟨D, _, rfl, SqL.of hd, fun p2 o2 f2 n2 => ?_⟩
  have eA : ExA H (upd H5 p2 (.frz o2 (.tup ((List.filter (fun q => decide (q.2.1 ≠ i)) (ps.zip es)).map fun q => V.ref q.1)))) := (e1.trans e5).trans (ExM.new f2)
  have zE : SqZ (upd H5 p2 (.frz o2 (.tup ((List.filter (fun q => decide (q.2.1 ≠ i)) (ps.zip es)).map fun q => V.ref q.1)))) p2 (((List.filter (fun q => decide (q.2.1 ≠ i)) (ps.zip es)).map (·.1)).map V.ref) := SqZ.of n2 (by rw [List.map_map]; exact upd_same)
  have z1' : SqZ (upd H5 p2 (.frz o2 (.tup ((List.filter (fun q => decide (q.2.1 ≠ i)) (ps.zip es)).map fun q => V.ref q.1)))) t (ps.map V.ref) := z1.mono ((Tk.all (K := K) e5).trans (Tk.new f2))
  have hp' : Paired (PairAt K (upd H5 p2 (.frz o2 (.tup ((List.filter (fun q => decide (q.2.1 ≠ i)) (ps.zip es)).map fun q => V.ref q.1))))) ((List.filter (fun q => decide (q.2.1 ≠ i)) (ps.zip es)).map (·.1)) (es.filter fun e => decide (e.1 ≠ i)) := by
    have key : ∀ {l : List Addr} {m : List (Int × Int)}, Paired (PairAt K H1) l m → Paired (PairAt K H1) ((List.filter (fun q => decide (q.2.1 ≠ i)) (l.zip m)).map (·.1)) (m.filter fun e => decide (e.1 ≠ i)) := fun {l m} h => by
      induction h with
      | nil => exact .nil
      | @cons x y l m r tl ih =>
        show Paired _ ((List.filter _ ((x, y) :: l.zip m)).map (·.1)) _
        rw [List.filter_cons, List.filter_cons]
        by_cases c : y.1 ≠ i
        · rw [decide_eq_true c, if_pos rfl, if_pos rfl]; exact .cons r ih
        · rw [decide_eq_false c, if_neg (by decide), if_neg (by decide)]; exact ih
    exact pmp (key hp) fun _ _ z => PairAt.mono ((Tk.all e5).trans (Tk.new f2)) z
  generalize upd H5 p2 (.frz o2 (.tup ((List.filter (fun q => decide (q.2.1 ≠ i)) (ps.zip es)).map fun q => V.ref q.1))) = H6 at eA zE hp' z1' ⊢
  generalize (List.filter (fun q => decide (q.2.1 ≠ i)) (ps.zip es)).map (·.1) = ps' at zE hp' ⊢
  refine gI (σ' := [some (.ref a), some (.ref b), some (.str "remove"), some (.int (at_ : Int)), some (.int (ky : Int)), some (.str "table"), some (.int n), some (.ref t), some (.int i), some (.ref p2), none]) rfl ?_
  refine ⟨_, rfl, _, rfl, _, rfl, _, rfl, sz (by show 3 ≤ 100000; decide), fun p7 f7 => ?_⟩
  have T7 := Tk.new (K := K) (o := .tup [.str "table", .int n, .ref p2]) f7
  refine ⟨_, _, rfl, a, h, p7, .tab n (es.filter fun e => decide (e.1 ≠ i)), rfl, rfl, (hA.mono (Tk.all eA)).mono T7, by omega, ⟨p2, ps', SqT.of upd_same, zE.mono T7, pmp hp' fun _ _ z => PairAt.mono T7 z⟩, fun H8 p8 e8 hA8 => ?_⟩
  have T8 : Tk K H6 H8 := T7.trans (Tk.all e8)
  have l1 : (ps'.map V.ref).length = (es.filter fun e => decide (e.1 ≠ i)).length := by rw [List.length_map]; exact plen hp'
  have l2 : (ps.map V.ref).length = es.length := by rw [List.length_map]; exact zl
  refine ⟨_, rfl, p2, _, rfl, .inr ((zE.mono T8).sq), _, rfl, t, _, rfl, .inr ((z1'.mono T8).sq), _, _, rfl, rfl, ?_⟩
  rw [l1, l2]
  refine ⟨sz (by show 2 ≤ 100000; decide), fun p fp => q _ p ((((eA.put (ExA.free eA f7)).trans e8)).trans (ExM.new fp)) ⟨p8, _, SqT.of upd_same, ?_, ?_⟩⟩
  · simp only [act, ho, hi]; exact hA8.mono (Tk.new fp)
  · simp only [act, ho, hi]
    refine congrArg V.bl (decide_eq_decide.mpr ?_)
    rw [← filter_len]
    exact ⟨fun z => by omega, fun z => by omega⟩
theorem ok_lookup_key {f : Addr} {fd : FuncData} {cd : Value} (F : Df K "lookup_key" s_lookup_key f fd cd) (T : Txt mg) (C_registers_of : Cal P w K mg base 1 "registers_of" (sp_registers_of K) []) (C_holding : Cal P w K mg base 1 "holding" (sp_holding K) []) (C_in_place : Cal P w K mg base 3 "in_place" (sp_in_place K) []) : FnOk P w K mg base CX0 4 f fd ["heap", "command"] (sp_lookup_key K) := by
  have nd := sc_lookup_key.nd
  refine F.ok sc_lookup_key (fun vs H Q E h => ?_) (fun A outer s H vs Q E hr h => ?_)
  · obtain ⟨_, _, rfl, _⟩ := h; rfl
  have hu := hu_of hr
  obtain ⟨x0, x1, rfl, h⟩ := h
  refine ⟨_, (pss_cons (ps_asg (pv 1) (show PG _ _ (gTup K 4 _) from pg_tup rfl (pgs_cons (pg_name (i := 2) nd rfl (by first | exact Or.inl rfl | exact Or.inr rfl)) (pgs_cons (pg_name (i := 3) nd rfl (by first | exact Or.inl rfl | exact Or.inr rfl)) (pgs_cons (pg_name (i := 4) nd rfl (by first | exact Or.inl rfl | exact Or.inr rfl)) (pgs_cons (pg_name (i := 5) nd rfl (by first | exact Or.inl rfl | exact Or.inr rfl)) pgs_nil))))))
    (pss_cons (ps_set (i := 6) nd rfl (by first | exact Or.inl rfl | exact Or.inr rfl) (pe_dget1 hu (pe_callTy (r := rDictT K) (call_dictT rfl) rfl T.dict (by decide +kernel) (pa_cons (pe_ix (r := rIxT K) ix_tup (pe_c C_in_place hr (by first | exact Nat.le_refl _ | decide) rfl (pa_cons (pv 0) (pa_cons (pv 4) pa_nil))) pe_int (fun _ _ => rfl)) pa_nil)) (pe_ix (r := rIxT K) ix_tup (pe_c C_registers_of hr (by first | exact Nat.le_refl _ | decide) rfl (pa_cons (pv 0) pa_nil)) (pv 5) (fun _ _ => rfl)) ⟨rfl, rfl, rfl, rfl⟩))
    (pss_one (ps_ret (pe_tup (pa_cons (pe_c C_holding hr (by first | exact Nat.le_refl _ | decide) rfl (pa_cons (pv 0) (pa_cons (pv 3) (pa_cons (pv 6) pa_nil)))) (pa_cons (pv 6) pa_nil))))))), ?_⟩
  obtain ⟨a, b, h, c, rfl, rfl, hA, hC, ok, hc, hf, ⟨to, at_, ky, rfl⟩, q⟩ := h
  obtain ⟨nf, hf2⟩ := iff_none hf
  obtain ⟨n, es, ho⟩ := fault_tab hf2 (fun n e => reg_ok ok at_ n e)
  obtain ⟨i, hi⟩ := some_of (fun z => nf (.inr z))
  have zo := ok.obs _ (obReg_mem ho).1
  refine ⟨_, rfl, b, _, rfl, hC, rfl, _, _, rfl, _, _, rfl, _, _, rfl, _, _, rfl, rfl, ?_⟩
  refine nxI (σ' := [some (.ref a), some (.ref b), some (.str "lookup"), some (.int (to : Int)), some (.int (at_ : Int)), some (.int (ky : Int)), none]) rfl ?_
  refine ⟨_, rfl, _, rfl, _, _, rfl, a, h, at_, .tab n es, rfl, rfl, hA, ok, hc.2.1, ho, fun H1 p1 e1 hO => ?_⟩
  obtain ⟨t, ps, s1, z1, hp⟩ := hO
  refine ⟨p1, _, _, _, rfl, rfl, s1, at2, t, ps, es, rfl, z1, hp, zo.1, fun d fd => ?_⟩
  have em := merge_ent zo.2.1
  have ec : (es.map fun e => ((Sum.inl e.1 : Key), V.int e.2)) = ent es := rfl
  rw [ec, em]
  have eA : ExA H (upd H1 d (.dK (ent es))) := e1.trans (ExM.new fd)
  have hd : upd H1 d (.dK (ent es)) d = some (.dK (ent es)) := upd_same
  generalize upd H1 d (.dK (ent es)) = H2 at eA hd ⊢
  refine ⟨d, rfl, .inl ⟨_, .inl hd⟩, ?_⟩
  refine ⟨_, rfl, _, rfl, a, h, rfl, hA.mono (Tk.all eA), fun r hR => ⟨_, rfl, r, _, _, .int i, rfl, rfl, hR.sq, atI_nat (by rw [List.getElem?_map, reg_at hc.2.2, hi]; rfl), ?_⟩⟩
  refine ⟨_, DGet.k (k := Sum.inl i) hd, ?_⟩
  have ev : (valV (ent es) (Sum.inl i)).getD .non = rV (findE es i) := by
    rw [ent_val]
    cases findE es i <;> rfl
  rw [ev]
  refine gI (σ' := [some (.ref a), some (.ref b), some (.str "lookup"), some (.int (to : Int)), some (.int (at_ : Int)), some (.int (ky : Int)), some (rV (findE es i))]) rfl ?_
  refine ⟨_, rfl, _, rfl, _, rfl, _, _, _, rfl, a, h, to, findE es i, rfl, rfl, rfl, hA.mono (Tk.all eA), hc.1, ok.nreg, fun H3 p3 e3 hA3 => ?_⟩
  refine ⟨_, rfl, sz (by show 2 ≤ 100000; decide), fun p fp => q _ p ((eA.trans e3).trans (ExM.new fp)) ⟨p3, _, SqT.of upd_same, ?_, ?_⟩⟩
  · simp only [act, ho, hi]; exact hA3.mono (Tk.new fp)
  · simp only [act, ho, hi]; rfl
theorem ok_add_watch {f : Addr} {fd : FuncData} {cd : Value} (F : Df K "add_watch" s_add_watch f fd cd) (T : Txt mg) (C_registers_of : Cal P w K mg base 1 "registers_of" (sp_registers_of K) []) (C_watching : Cal P w K mg base 1 "watching" (sp_watching K) []) : FnOk P w K mg base CX0 2 f fd ["heap", "command"] (sp_add_watch K) := by
  have nd := sc_add_watch.nd
  refine F.ok sc_add_watch (fun vs H Q E h => ?_) (fun A outer s H vs Q E hr h => ?_)
  · obtain ⟨_, _, rfl, _⟩ := h; rfl
  have hu := hu_of hr
  obtain ⟨x0, x1, rfl, h⟩ := h
  refine ⟨_, (pss_cons (ps_asg (pv 1) (show PG _ _ (gTup K 3 _) from pg_tup rfl (pgs_cons (pg_name (i := 2) nd rfl (by first | exact Or.inl rfl | exact Or.inr rfl)) (pgs_cons (pg_name (i := 3) nd rfl (by first | exact Or.inl rfl | exact Or.inr rfl)) (pgs_cons (pg_name (i := 4) nd rfl (by first | exact Or.inl rfl | exact Or.inr rfl)) pgs_nil)))))
    (pss_one (ps_ret (pe_tup (pa_cons (pe_c C_watching hr (by first | exact Nat.le_refl _ | decide) rfl (pa_cons (pv 0) (pa_cons (pe_ix (r := rIxT K) ix_tup (pe_c C_registers_of hr (by first | exact Nat.le_refl _ | decide) rfl (pa_cons (pv 0) pa_nil)) (pv 3) (fun _ _ => rfl)) (pa_cons (pv 4) pa_nil)))) (pa_cons pe_non pa_nil)))))), ?_⟩
  obtain ⟨a, b, h, c, rfl, rfl, hA, hC, ok, hc, hf, ⟨of_, tok, rfl⟩, q⟩ := h
  have zw := ok.nwat
  cases hr : reg h of_ with
  | none => simp [fault, hr] at hf
  | some n =>
  refine ⟨_, rfl, b, _, rfl, hC, rfl, _, _, rfl, _, _, rfl, _, _, rfl, rfl, ?_⟩
  refine nxI (σ' := [some (.ref a), some (.ref b), some (.str "watch"), some (.int (of_ : Int)), some (.int (tok : Int))]) rfl ?_
  refine ⟨_, rfl, _, rfl, _, rfl, a, h, rfl, hA, fun r hR => ⟨_, rfl, r, _, _, .int n, rfl, rfl, hR.sq, atI_nat (by rw [List.getElem?_map, reg_at hc.1, hr]; rfl), ?_⟩⟩
  refine ⟨_, rfl, _, _, _, rfl, a, h, n, tok, rfl, rfl, rfl, hA, by omega, fun H1 p1 e1 hA1 => ?_⟩
  refine ⟨sz (by show 2 ≤ 100000; decide), fun p fp => q _ p (e1.trans (ExM.new fp)) ⟨p1, _, SqT.of upd_same, ?_, ?_⟩⟩
  · simp only [act, hr]; exact hA1.mono (Tk.new fp)
  · simp only [act, hr]; rfl
theorem ok_end_job {f : Addr} {fd : FuncData} {cd : Value} (F : Df K "end_job" s_end_job f fd cd) (T : Txt mg) (C_keeping_nothing : Cal P w K mg base 1 "keeping_nothing" (sp_keeping_nothing K) []) : FnOk P w K mg base CX0 2 f fd ["heap", "_"] (sp_end_job K) := by
  have nd := sc_end_job.nd
  refine F.ok sc_end_job (fun vs H Q E h => ?_) (fun A outer s H vs Q E hr h => ?_)
  · obtain ⟨_, _, rfl, _⟩ := h; rfl
  have hu := hu_of hr
  obtain ⟨x0, x1, rfl, h⟩ := h
  refine ⟨_, (pss_one (ps_ret (pe_tup (pa_cons (pe_c C_keeping_nothing hr (by first | exact Nat.le_refl _ | decide) rfl (pa_cons (pv 0) pa_nil)) (pa_cons pe_non pa_nil))))), ?_⟩
  obtain ⟨a, b, h, c, rfl, rfl, hA, hC, ok, hc, hf, rfl, q⟩ := h
  refine ⟨_, rfl, _, rfl, a, h, rfl, hA, fun H1 p1 e1 hA1 => ?_⟩
  exact ⟨sz (by show 2 ≤ 100000; decide), fun p fp => q _ p (e1.trans (ExM.new fp)) ⟨p1, _, SqT.of upd_same, hA1.mono (Tk.new fp), rfl⟩⟩
end
end Wc
/-! When a command fails; do. -/
namespace Wc
open PySem L2
/-- the places in the command of the registers that must be filled -/
def fillPos : Cmd → List Int
  | .weak .. => [2]
  | .read .. => [2]
  | .write .. => [1]
  | .deref .. => [2]
  | .put .. => [1, 2, 3]
  | .remove .. => [1, 2]
  | .lookup .. => [2, 3]
  | .watch .. => [1]
  | _ => []
def argAt (c : Cmd) (p : Int) : Nat := c.args.getD (p.toNat - 1) 0
def heldR (h : Hd) (c : Cmd) : List Rf := (fillPos c).map fun p => reg h (argAt c p)
theorem fill_at (c : Cmd) (p : Int) (hp : p ∈ fillPos c) : atI c.vals p = some (.int (argAt c p : Int)) := by
  cases c <;> simp only [fillPos, List.mem_cons, List.not_mem_nil, or_false] at hp
  all_goals first
    | exact hp.elim
    | (subst hp; exact rfl)
    | (rcases hp with rfl | rfl | rfl <;> exact rfl)
    | (rcases hp with rfl | rfl <;> exact rfl)
theorem fill_lt {c : Cmd} {n : Nat} (hc : c.ok n) {p : Int} (hp : p ∈ fillPos c) : argAt c p < n := by
  cases c <;> simp only [fillPos, List.mem_cons, List.not_mem_nil, or_false] at hp
  all_goals first
    | exact hp.elim
    | (subst hp; first | exact hc.2 | exact hc.2.1 | exact hc.1)
    | (rcases hp with rfl | rfl | rfl; exact hc.1; exact hc.2.1; exact hc.2.2)
    | (rcases hp with rfl | rfl; exact hc.1; exact hc.2)
    | (rcases hp with rfl | rfl; exact hc.2.1; exact hc.2.2)
def faultV : Option Str → V
  | none => .non
  | some s => .str s
theorem inV_non (l : List Rf) : inV .non (l.map rV) = decide (none ∈ l) := by
  induction l with
  | nil => rfl
  | cons r l ih =>
    show (eqV (rV r) .non || inV .non (l.map rV)) = _
    rw [ih]
    cases r with
    | none => simp [rV, eqV]
    | some i => simp [rV, eqV]
theorem flat_rvs (l : List Rf) : (l.map rV).all flatV = true := by
  rw [List.all_eq_true]
  intro x hx
  obtain ⟨r, _, rfl⟩ := List.mem_map.mp hx
  cases r <;> rfl
def Ob.kindS : Ob → Str
  | .rcd .. => "record"
  | .weak .. => "weak"
  | .tab .. => "table"
theorem ObAt.kind {K : PySem.W.Frag} {H : Hp} {a : Addr} {o : Ob} (h : ObAt K H a o) : ∃ v, SqT K H a [.str o.kindS, .int o.num, v] := by
  cases o with
  | rcd n fs => obtain ⟨t, h1, _⟩ := h; exact ⟨_, h1⟩
  | weak n r => exact ⟨_, h⟩
  | tab n es => obtain ⟨t, ps, h1, _⟩ := h; exact ⟨_, h1⟩
theorem flat_non : flatV .non = true := rfl
theorem s_wr : ¬ (("weak" : Str) = "record") := by decide
theorem s_tr : ¬ (("table" : Str) = "record") := by decide
theorem s_rt : ¬ (("record" : Str) = "table") := by decide
theorem s_wt : ¬ (("weak" : Str) = "table") := by decide
theorem s_rw : ¬ (("record" : Str) = "weak") := by decide
theorem s_tw : ¬ (("table" : Str) = "weak") := by decide
theorem fault_empty {h : Hd} {c : Cmd} (cn : none ∈ heldR h c) : fault h c = some rEmpty := by
  have one : ∀ {r : Rf}, none ∈ [r] → r = none := fun z => (List.mem_singleton.mp z).symm
  cases c with
  | weak a b => have z : none ∈ [reg h b] := cn; simp only [fault, one z, if_true]
  | read a b d => have z : none ∈ [reg h b] := cn; simp only [fault, one z, wantOb]
  | write a b d => have z : none ∈ [reg h a] := cn; simp only [fault, one z, wantOb]
  | deref a b => have z : none ∈ [reg h b] := cn; simp only [fault, one z, wantOb]
  | put a k w =>
    have z : none ∈ [reg h a, reg h k, reg h w] := cn
    simp only [List.mem_cons, List.not_mem_nil, or_false] at z
    simp only [fault]
    rw [if_pos]
    rcases z with z | z | z
    · exact .inl z.symm
    · exact .inr (.inl z.symm)
    · exact .inr (.inr z.symm)
  | remove a k =>
    have z : none ∈ [reg h a, reg h k] := cn
    simp only [List.mem_cons, List.not_mem_nil, or_false] at z
    simp only [fault]
    rw [if_pos]
    rcases z with z | z
    · exact .inl z.symm
    · exact .inr z.symm
  | lookup t a k =>
    have z : none ∈ [reg h a, reg h k] := cn
    simp only [List.mem_cons, List.not_mem_nil, or_false] at z
    simp only [fault]
    rw [if_pos]
    rcases z with z | z
    · exact .inl z.symm
    · exact .inr z.symm
  | watch a b => have z : none ∈ [reg h a] := cn; simp only [fault, one z, if_true]
  | record a b => exact absurd (show none ∈ ([] : List Rf) from cn) (by simp)
  | table a => exact absurd (show none ∈ ([] : List Rf) from cn) (by simp)
  | copy a b => exact absurd (show none ∈ ([] : List Rf) from cn) (by simp)
  | clear a => exact absurd (show none ∈ ([] : List Rf) from cn) (by simp)
  | drain => exact absurd (show none ∈ ([] : List Rf) from cn) (by simp)
  | end_ => exact absurd (show none ∈ ([] : List Rf) from cn) (by simp)
theorem want_some {h : Hd} {i : Nat} {n : Int} {o : Ob} {k : Ob → Option Str} (e : reg h i = some n) (ho : obj h n = some o) : wantOb h (reg h i) k = k o := by
  unfold wantOb
  rw [e]
  simp only [ho]
theorem fault_kinds {K : PySem.W.Frag} {w : World} {mg : Str → Option Value} (B : Tb K w mg) {h : Hd} {c : Cmd} (ok : h.Ok) (hc : c.ok h.regs.length) (cn : none ∉ heldR h c) :
    (KNot K (He.ga K "KINDS") c.kind ∧ fault h c = none) ∨
    ∃ n rest k msg o, heldR h c = some n :: rest ∧ obj h n = some o ∧ KHas K (He.ga K "KINDS") c.kind (.str k) ∧ KHas K (He.ga K "WRONG_KINDS") k (.str msg) ∧ (o.kindS ≠ k → fault h c = some msg) ∧ (o.kindS = k → o.kindS ≠ "record" → fault h c = none) ∧
      (o.kindS = k → ∀ m fs, o = .rcd m fs → ∃ ix : Nat, ((∃ a d, c = .read a d ix) ∨ ∃ a d, c = .write a ix d) ∧ fault h c = if ix < fs.length then none else some rField) := by
  have full : ∀ {i : Nat}, none ∉ [reg h i] → ∃ n o, reg h i = some n ∧ obj h n = some o := fun {i} z => by
    obtain ⟨n, e⟩ := some_of (r := reg h i) fun y => z (by rw [y]; exact List.mem_singleton.mpr rfl)
    obtain ⟨o, ho⟩ := obj_some (reg_ok ok i n e)
    exact ⟨n, o, e, ho⟩
  have rec_ : ∀ {o : Ob} {ix : Nat}, (o.kindS ≠ "record" → needRec ix o = some "not a record") ∧ (o.kindS = "record" → o.kindS ≠ "record" → needRec ix o = none) := fun {o ix} => by
    cases o with
    | rcd m fs => exact ⟨fun z => absurd rfl z, fun _ z => absurd rfl z⟩
    | weak m t => exact ⟨fun _ => rfl, fun z => absurd z s_wr⟩
    | tab m es => exact ⟨fun _ => rfl, fun z => absurd z s_tr⟩
  have tab_ : ∀ {o : Ob}, (o.kindS ≠ "table" → needTab o = some "not a table") ∧ (o.kindS = "table" → o.kindS ≠ "record" → needTab o = none) ∧ (o.kindS = "table" → ∀ m fs, o ≠ .rcd m fs) := fun {o} => by
    cases o with
    | rcd m fs => exact ⟨fun _ => rfl, fun z => absurd z s_rt, fun z => absurd z s_rt⟩
    | weak m t => exact ⟨fun _ => rfl, fun z => absurd z s_wt, fun z => absurd z s_wt⟩
    | tab m es => exact ⟨fun z => absurd rfl z, fun _ _ => rfl, fun _ m fs z => nomatch z⟩
  cases c with
  | record a b => exact .inl ⟨B.n_KINDS_record, rfl⟩
  | table a => exact .inl ⟨B.n_KINDS_table, rfl⟩
  | copy a b => exact .inl ⟨B.n_KINDS_copy, rfl⟩
  | clear a => exact .inl ⟨B.n_KINDS_clear, rfl⟩
  | drain => exact .inl ⟨B.n_KINDS_drain, rfl⟩
  | end_ => exact .inl ⟨B.n_KINDS_end, rfl⟩
  | weak a b =>
    obtain ⟨n, o, e, ho⟩ := full (i := b) cn
    exact .inl ⟨B.n_KINDS_weak, by simp only [fault, e]; rfl⟩
  | watch a b =>
    obtain ⟨n, o, e, ho⟩ := full (i := a) cn
    exact .inl ⟨B.n_KINDS_watch, by simp only [fault, e]; rfl⟩
  | read a b d =>
    obtain ⟨n, o, e, ho⟩ := full (i := b) cn
    have ef : fault h (.read a b d) = needRec d o := want_some e ho
    exact .inr ⟨n, [], "record", "not a record", o, by show [reg h b] = _; rw [e], ho, B.k_KINDS_read, B.k_WRONG_KINDS_record, fun z => ef.trans (rec_.1 z), fun z y => ef.trans (rec_.2 z y), fun _ m fs z => ⟨d, .inl ⟨a, b, rfl⟩, by rw [ef, z]; rfl⟩⟩
  | write a d b =>
    obtain ⟨n, o, e, ho⟩ := full (i := a) cn
    have ef : fault h (.write a d b) = needRec d o := want_some e ho
    exact .inr ⟨n, [], "record", "not a record", o, by show [reg h a] = _; rw [e], ho, B.k_KINDS_write, B.k_WRONG_KINDS_record, fun z => ef.trans (rec_.1 z), fun z y => ef.trans (rec_.2 z y), fun _ m fs z => ⟨d, .inr ⟨a, b, rfl⟩, by rw [ef, z]; rfl⟩⟩
  | deref a b =>
    obtain ⟨n, o, e, ho⟩ := full (i := b) cn
    have ef : fault h (.deref a b) = needWeak o := want_some e ho
    refine .inr ⟨n, [], "weak", "not a weak reference", o, by show [reg h b] = _; rw [e], ho, B.k_KINDS_deref, B.k_WRONG_KINDS_weak, fun z => ?_, fun z y => ?_, fun z m fs y => ?_⟩
    · rw [ef]; cases o with
      | rcd m fs => rfl
      | weak m t => exact absurd rfl z
      | tab m es => rfl
    · rw [ef]; cases o with
      | rcd m fs => exact absurd z s_rw
      | weak m t => rfl
      | tab m es => exact absurd z s_tw
    · rw [y] at z; exact absurd z s_rw
  | put a k v =>
    have cn : none ∉ [reg h a, reg h k, reg h v] := cn
    simp only [List.mem_cons, List.not_mem_nil, or_false, not_or] at cn
    obtain ⟨n, o, e, ho⟩ := full (i := a) (by rw [List.mem_singleton]; exact cn.1)
    have ef : fault h (.put a k v) = needTab o := by
      simp only [fault]
      rw [if_neg (by rintro (z | z | z); exact cn.1 z.symm; exact cn.2.1 z.symm; exact cn.2.2 z.symm)]
      exact want_some e ho
    exact .inr ⟨n, [reg h k, reg h v], "table", "not a table", o, by show [reg h a, reg h k, reg h v] = _; rw [e], ho, B.k_KINDS_put, B.k_WRONG_KINDS_table, fun z => ef.trans (tab_.1 z), fun z y => ef.trans (tab_.2.1 z y), fun z m fs y => absurd y (tab_.2.2 z m fs)⟩
  | remove a k =>
    have cn : none ∉ [reg h a, reg h k] := cn
    simp only [List.mem_cons, List.not_mem_nil, or_false, not_or] at cn
    obtain ⟨n, o, e, ho⟩ := full (i := a) (by rw [List.mem_singleton]; exact cn.1)
    have ef : fault h (.remove a k) = needTab o := by
      simp only [fault]
      rw [if_neg (by rintro (z | z); exact cn.1 z.symm; exact cn.2 z.symm)]
      exact want_some e ho
    exact .inr ⟨n, [reg h k], "table", "not a table", o, by show [reg h a, reg h k] = _; rw [e], ho, B.k_KINDS_remove, B.k_WRONG_KINDS_table, fun z => ef.trans (tab_.1 z), fun z y => ef.trans (tab_.2.1 z y), fun z m fs y => absurd y (tab_.2.2 z m fs)⟩
  | lookup t a k =>
    have cn : none ∉ [reg h a, reg h k] := cn
    simp only [List.mem_cons, List.not_mem_nil, or_false, not_or] at cn
    obtain ⟨n, o, e, ho⟩ := full (i := a) (by rw [List.mem_singleton]; exact cn.1)
    have ef : fault h (.lookup t a k) = needTab o := by
      simp only [fault]
      rw [if_neg (by rintro (z | z); exact cn.1 z.symm; exact cn.2 z.symm)]
      exact want_some e ho
    exact .inr ⟨n, [reg h k], "table", "not a table", o, by show [reg h a, reg h k] = _; rw [e], ho, B.k_KINDS_lookup, B.k_WRONG_KINDS_table, fun z => ef.trans (tab_.1 z), fun z y => ef.trans (tab_.2.1 z y), fun z m fs y => absurd y (tab_.2.2 z m fs)⟩
section
variable (K : PySem.W.Frag)
def R_index_of : V1 := fun x H Q => ∃ (b : Addr) (c : Cmd) (ix : Nat), x = .ref b ∧ CmdAt K H b c ∧ ((∃ a d, c = .read a d ix) ∨ ∃ a d, c = .write a ix d) ∧ Q (.int (ix : Int)) H
abbrev sp_index_of : Sp := sp1 (R_index_of K)
def R_fault_of : V2 := fun x y H Q => ∃ (a b : Addr) (h : Hd) (c : Cmd), x = .ref a ∧ y = .ref b ∧ HeapAt K H a h ∧ CmdAt K H b c ∧ h.Ok ∧ c.ok h.regs.length ∧ ∀ H', ExA H H' → Q (faultV (fault h c)) H'
abbrev sp_fault_of : Sp := sp2 (R_fault_of K)
end
theorem fill_get {K : PySem.W.Frag} {w : World} {mg : Str → Option Value} (B : Tb K w mg) (c : Cmd) {i : Nat} {σ : L2.St} {H : Hp} {R : VK} (hi : σ[i]? = some (some (.str c.kind))) (q : ∀ t H', ExA H H' → SqT K H' t ((fillPos c).map V.int) → R (.ref t) H') :
    tKGet2 K (He.ga K "FILLED") (tVar i) (tTup tNil) σ H R := by
  have yes : ∀ {vs : List Int}, KTup K (He.ga K "FILLED") c.kind (vs.map V.int) → fillPos c = vs → tKGet2 K (He.ga K "FILLED") (tVar i) (tTup tNil) σ H R := fun {vs} ⟨t, h1, h2⟩ e =>
    ⟨_, hi, sz (by show 0 ≤ 100000; decide), fun p fp => ⟨_, rfl, .inl ⟨_, h1, q t _ (ExM.new fp) (by rw [e]; exact h2 _)⟩⟩⟩
  have no : KNot K (He.ga K "FILLED") c.kind → fillPos c = [] → tKGet2 K (He.ga K "FILLED") (tVar i) (tTup tNil) σ H R := fun h1 e =>
    ⟨_, hi, sz (by show 0 ≤ 100000; decide), fun p fp => ⟨_, rfl, .inr ⟨h1, q p _ (ExM.new fp) (by rw [e]; exact SqT.of upd_same)⟩⟩⟩
  cases c with
  | record a b => exact no B.n_FILLED_record rfl
  | weak a b => exact yes (vs := [2]) B.k_FILLED_weak rfl
  | table a => exact no B.n_FILLED_table rfl
  | copy a b => exact no B.n_FILLED_copy rfl
  | clear a => exact no B.n_FILLED_clear rfl
  | read a b d => exact yes (vs := [2]) B.k_FILLED_read rfl
  | write a b d => exact yes (vs := [1]) B.k_FILLED_write rfl
  | deref a b => exact yes (vs := [2]) B.k_FILLED_deref rfl
  | put a b d => exact yes (vs := [1, 2, 3]) B.k_FILLED_put rfl
  | remove a b => exact yes (vs := [1, 2]) B.k_FILLED_remove rfl
  | lookup a b d => exact yes (vs := [2, 3]) B.k_FILLED_lookup rfl
  | watch a b => exact yes (vs := [1]) B.k_FILLED_watch rfl
  | drain => exact no B.n_FILLED_drain rfl
  | end_ => exact no B.n_FILLED_end rfl
section
variable {P : Program} {w : World} {K : PySem.W.Frag} {mg : Str → Option Value} {base : Heap}
theorem ok_index_of {f : Addr} {fd : FuncData} {cd : Value} (F : Df K "index_of" s_index_of f fd cd) (T : Txt mg) : FnOk P w K mg base CX0 1 f fd ["command"] (sp_index_of K) := by
  have nd := sc_index_of.nd
  refine F.ok sc_index_of (fun vs H Q E h => ?_) (fun A outer s H vs Q E hr h => ?_)
  · obtain ⟨_, rfl, _⟩ := h; rfl
  have hu := hu_of hr
  obtain ⟨x0, rfl, h⟩ := h
  refine ⟨_, (pss_one (ps_ret (pe_ifExp (pt_cmpR op_eq (pe_ix (r := rIxT K) ix_tup (pv 0) pe_int (fun _ _ => rfl)) pe_str (nomark _)) (pe_ix (r := rIxT K) ix_tup (pv 0) pe_int (fun _ _ => rfl)) (pe_ix (r := rIxT K) ix_tup (pv 0) pe_int (fun _ _ => rfl))))), ?_⟩
  obtain ⟨b, c, ix, rfl, hC, hk, q⟩ := h
  rcases hk with ⟨a, d, rfl⟩ | ⟨a, d, rfl⟩
  · exact ⟨_, rfl, b, _, _, _, rfl, rfl, hC, at0, rfl, _, rfl, iteT ⟨_, rfl, b, _, _, _, rfl, rfl, hC, at3, q⟩⟩
  · exact ⟨_, rfl, b, _, _, _, rfl, rfl, hC, at0, rfl, _, rfl, iteF ⟨_, rfl, b, _, _, _, rfl, rfl, hC, at2, q⟩⟩
theorem ok_fault_of {f : Addr} {fd : FuncData} {cd : Value} (F : Df K "fault_of" s_fault_of f fd cd) (T : Txt mg) (B : Tb K w mg) (C_registers_of : Cal P w K mg base 1 "registers_of" (sp_registers_of K) []) (C_by_number : Cal P w K mg base 2 "by_number" (sp_by_number K) []) (C_index_of : Cal P w K mg base 1 "index_of" (sp_index_of K) []) : FnOk P w K mg base CX0 3 f fd ["heap", "command"] (sp_fault_of K) := by
  have nd := sc_fault_of.nd
  refine F.ok sc_fault_of (fun vs H Q E h => ?_) (fun A outer s H vs Q E hr h => ?_)
  · obtain ⟨_, _, rfl, _⟩ := h; rfl
  have hu := hu_of hr
  obtain ⟨x0, x1, rfl, h⟩ := h
  refine ⟨_, (pss_cons (ps_set (i := 2) nd rfl (by first | exact Or.inl rfl | exact Or.inr rfl) (pe_ix (r := rIxT K) ix_tup (pv 1) pe_int (fun _ _ => rfl)))
    (pss_cons (ps_setLc (i := 3) (own := [("place", 4)]) rfl nd rfl rfl (sw_true rfl rfl rfl (by decide +kernel)) (show PI _ _ _ (iTup K _) from pi_tup (pe_kget2 B.d_FILLED rfl (pv 2) (pe_tup pa_nil) ⟨rfl, rfl, rfl, rfl⟩)) (blkOk_by (own := [("place", 4)]) (N := N_fault_of) (sc := defScope s_fault_of) (by decide +kernel)) (fun _ _ _ _ _ => (pg_name (i := 4) nd rfl (by first | exact Or.inl rfl | exact Or.inr rfl))) (fun _ _ _ _ _ => pts_nil) (fun _ _ _ _ _ => (pe_ix (r := rIxT K) ix_tup (pe_c C_registers_of hr (by first | exact Nat.le_refl _ | decide) rfl (pa_cons (pv 0) pa_nil)) (pe_ix (r := rIxT K) ix_tup (pv 1) (pv 4) (fun _ _ => rfl)) (fun _ _ => rfl))))
    (pss_cons (ps_if (pt_cmpR (r := rIn K false) op_in_seq pe_non (pv 3) (by first | exact nomark _ | rfl)) (pss_one (ps_ret pe_str)) pss_nil)
    (pss_cons (ps_if (pt_cmpR (r := rInKd K (He.ga K "KINDS") true) (op_notInKd B.d_KINDS) (pv 2) (pe_glob (v := .ref (He.ga K "KINDS")) rfl B.g_KINDS rfl) (by first | exact nomark _ | rfl)) (pss_one (ps_ret pe_non)) pss_nil)
    (pss_cons (ps_set (i := 5) nd rfl (by first | exact Or.inl rfl | exact Or.inr rfl) (pe_dget hu (pe_c C_by_number hr (by first | exact Nat.le_refl _ | decide) rfl (pa_cons (pv 0) pa_nil)) (pe_ix (r := rIxL K) ix_list (pv 3) pe_int (fun _ _ => rfl)) (fun _ _ => rfl)))
    (pss_cons (ps_if (pt_cmpR op_ne (pe_ix (r := rIxT K) ix_tup (pv 5) pe_int (fun _ _ => rfl)) (pe_ix (r := rIxD K w) ix_kdict (pe_glob (v := .ref (He.ga K "KINDS")) rfl B.g_KINDS rfl) (pv 2) (fun _ _ => rfl)) (nomark _)) (pss_one (ps_ret (pe_ix (r := rIxD K w) ix_kdict (pe_glob (v := .ref (He.ga K "WRONG_KINDS")) rfl B.g_WRONG_KINDS rfl) (pe_ix (r := rIxD K w) ix_kdict (pe_glob (v := .ref (He.ga K "KINDS")) rfl B.g_KINDS rfl) (pv 2) (fun _ _ => rfl)) (fun _ _ => rfl)))) pss_nil)
    (pss_cons (ps_if (PW.pt (pw_and (pt_cmpR op_eq (pe_ix (r := rIxT K) ix_tup (pv 5) pe_int (fun _ _ => rfl)) pe_str (nomark _)) (pw_and1 (pt_cmpR op_ge (pe_c C_index_of hr (by first | exact Nat.le_refl _ | decide) rfl (pa_cons (pv 1) pa_nil)) (pe_callB (r := Evl.rLenS K) call_len_seq rfl T.len PySem.boot_len (pa_cons (pe_ix (r := rIxT K) ix_tup (pv 5) pe_int (fun _ _ => rfl)) pa_nil)) (nomark _))))) (pss_one (ps_ret pe_str)) pss_nil)
    (pss_one (ps_ret pe_non))))))))), ?_⟩
  obtain ⟨a, b, h, c, rfl, rfl, hA, hC, ok, hc, q⟩ := h
  refine ⟨_, rfl, b, _, _, _, rfl, rfl, hC, at0, ?_⟩
  refine gI (σ' := [some (.ref a), some (.ref b), some (.str c.kind), none, none, none]) rfl ?_
  refine fill_get B c rfl fun t H1 e1 ht => ?_
  refine ⟨t, rfl, ⟨_, ht⟩, fun D hD => ?_⟩
  have hA1 := hA.mono (Tk.all (K := K) e1)
  have hC1 := hC.mono (Tk.all (K := K) e1)
  refine lcF K V.int (fillPos c) (fun _ => true) (fun p => [some (.ref a), some (.ref b), some (.str c.kind), none, some (.int p), none]) walk_tup rfl (List.length_map _) (by cases c <;> simp [fillPos]) (fun p => rV (reg h (argAt c p))) hD
    (fun H' e => Tk.all e _ _ ht) (fun q H5 _ _ R z => z) (fun _ => rfl) (fun q H5 _ _ R z => tyesR z) (fun p H5 hp _ e R z => ?_) (fun H5 e5 hd => ?_)
  · refine ⟨_, rfl, _, rfl, a, h, rfl, hA1.mono (Tk.all e), fun r hR => ?_⟩
    exact ⟨_, rfl, _, rfl, b, _, _, _, rfl, rfl, hC1.mono (Tk.all e), fill_at c p hp, r, _, _, _, rfl, rfl, hR.sq, atI_nat (by rw [List.getElem?_map, reg_at (fill_lt hc hp)]; rfl), z _ (ExM.refl _ _)⟩
  rw [filter_all] at hd
  have hd : H5 D = some (.lst ((heldR h c).map rV)) := by unfold heldR; rw [List.map_map]; exact hd
  have eA := e1.trans e5
  have hA5 := hA.mono (Tk.all (K := K) eA)
  have hC5 := hC.mono (Tk.all (K := K) eA)
  refine gI (σ' := [some (.ref a), some (.ref b), some (.str c.kind), some (.ref D), none, none]) rfl ?_
  refine ⟨_, rfl, D, _, rfl, .inl (SqL.of hd), flat_non, flat_rvs _, _, rfl, ?_⟩
  rw [inV_non]
  refine iteD (fun cn => ?_) fun cn => ?_
  · rw [fault_empty cn] at q
    exact q H5 eA
  rcases fault_kinds B ok hc cn with ⟨k1, k2⟩ | ⟨n, rest, k, msg, o, e1', e2', k1, k2, f1, f2, f3⟩
  · rw [k2] at q
    exact ⟨_, rfl, _, rfl, rfl, .inr ⟨k1, _, rfl, iteT (q H5 eA)⟩⟩
  · refine ⟨_, rfl, _, rfl, rfl, .inl ⟨⟨_, k1⟩, _, rfl, iteF ?_⟩⟩
    refine ⟨_, rfl, _, rfl, a, h, rfl, hA5, ok, fun d H6 os fd e6 hos hd6 => ?_⟩
    have hl6 : SqL K H6 D ((heldR h c).map rV) := SqL.all e6 (SqL.of hd)
    rw [e1'] at hl6
    refine ⟨_, rfl, D, _, _, .int n, rfl, rfl, hl6, at0, ?_⟩
    obtain ⟨m1, m2⟩ := obj_mem e2'
    obtain ⟨p, o', q1, q2, q3, q4⟩ := dictOf_get hos (List.mem_map_of_mem (f := Ob.num) m1)
    have eo : o' = o := by
      have z1 := obj_of ok q2
      have z2 := obj_of ok m1
      rw [q3] at z1
      exact Option.some.inj (z1.symm.trans z2)
    subst eo
    rw [m2] at q1
    refine ⟨d, _, rfl, by rw [← q1]; exact DGet.k (k := Sum.inl n) hd6, ?_⟩
    refine gI (σ' := [some (.ref a), some (.ref b), some (.str c.kind), some (.ref D), none, some (.ref p)]) rfl ?_
    have eB := eA.trans e6
    have hC6 := hC.mono (Tk.all (K := K) eB)
    obtain ⟨vo, so⟩ := q4.kind
    refine ⟨_, rfl, p, _, _, _, rfl, rfl, so, at0, _, rfl, _, _, _, rfl, rfl, MdAt.dct B.d_KINDS k1, rfl, _, rfl, ?_⟩
    refine iteN (fun ck => ?_) fun ck => ?_
    · rw [f1 fun z => ck (by rw [z])] at q
      exact ⟨_, rfl, _, _, _, rfl, rfl, MdAt.dct B.d_KINDS k1, _, _, _, rfl, rfl, MdAt.dct B.d_WRONG_KINDS k2, q H6 eB⟩
    have ck : o'.kindS = k := V.str.inj ck
    refine ⟨_, rfl, p, _, _, _, rfl, rfl, so, at0, rfl, _, rfl, ?_⟩
    refine iteD (fun cr => ?_) fun cr => ?_
    · have cr : o'.kindS = "record" := V.str.inj cr
      cases o' with
      | weak m t => exact absurd cr s_wr
      | tab m es => exact absurd cr s_tr
      | rcd m fs =>
        obtain ⟨ix, hix, ef⟩ := f3 ck m fs rfl
        obtain ⟨t', s1, s2⟩ := q4
        refine ⟨_, rfl, _, rfl, b, c, ix, rfl, hC6, hix, _, rfl, p, _, _, _, rfl, rfl, s1, at2, t', _, rfl, .inr s2.sq, _, _, rfl, rfl, _, rfl, ?_⟩
        rw [List.length_map]
        rw [ef] at q
        refine iteD (fun c1 => ?_) fun c1 => ?_
        · rw [if_neg (by omega)] at q
          exact q H6 eB
        · rw [if_pos (by omega)] at q
          exact q H6 eB
    · have cr : o'.kindS ≠ "record" := fun z => cr (by rw [z])
      rw [f2 ck cr] at q
      exact q H6 eB
end
end Wc
/-! do: a command done on a state. -/
namespace Wc
open PySem L2
section
variable (K : PySem.W.Frag) (H : Hp)
def StateAt (a : Addr) (h : Hd) (ps : List Int) : Prop := ∃ p q, SqT K H a [.str "state", .ref p, .ref q] ∧ HeapAt K H p h ∧ SqT K H q (ps.map V.int)
def DoneAt (p : Addr) (q : (Hd × List Int) × Rz) : Prop := ∃ s v, SqT K H p [.ref s, v] ∧ StateAt K H s q.1.1 q.1.2 ∧ RzAt K H v q.2
end
theorem StateAt.mono {K : PySem.W.Frag} {H H' : Hp} (t : Tk K H H') {a : Addr} {h : Hd} {ps : List Int} (x : StateAt K H a h ps) : StateAt K H' a h ps := by
  obtain ⟨p, q, h1, h2, h3⟩ := x
  exact ⟨p, q, t _ _ h1, h2.mono t, t _ _ h3⟩
theorem DoneAt.mono {K : PySem.W.Frag} {H H' : Hp} (t : Tk K H H') {p : Addr} {q : (Hd × List Int) × Rz} (x : DoneAt K H p q) : DoneAt K H' p q := by
  obtain ⟨s, v, h1, h2, h3⟩ := x
  exact ⟨s, v, t _ _ h1, h2.mono t, h3.mono t⟩
/-- the command done where it does not fail -/
def doH (h : Hd) (ps : List Int) : Cmd → (Hd × List Int) × Rz
  | .drain => ((h, []), .toks ps)
  | c => (((act h c).1, ps), (act h c).2)
/-- the exception of this reason, caught or in the air: its dict is new -/
def FaultIs (K : PySem.W.Frag) (H : Hp) (s : Str) (E : XK) : Prop := ∀ H' d, ExA H H' → H d = none → H' d = some (.xd [("reason", .str s)]) → E (.ref (He.ga K "CommandFault")) (some d) H'
def spx_CommandFault (K : PySem.W.Frag) : Sp := fun vs H Q _ => ∃ (a : Addr) (v : V), vs = [.ref a, v] ∧ H a = some (exo a (He.ga K "CommandFault") none) ∧ ∀ d, H d = none → d ≠ a → Q .non (upd (upd H d (exd d [("reason", v)])) a (exo a (He.ga K "CommandFault") (some d)))
section
variable (K : PySem.W.Frag)
def R_do (x y : V) (H : Hp) (Q : VK) (E : XK) : Prop := ∃ (a b : Addr) (h : Hd) (ps : List Int) (c : Cmd), x = .ref a ∧ y = .ref b ∧ StateAt K H a h ps ∧ CmdAt K H b c ∧ h.Ok ∧ c.ok h.regs.length ∧
  (fault h c = none → ∀ H' p, ExA H H' → DoneAt K H' p (doH h ps c) → Q (.ref p) H') ∧ ∀ s, fault h c = some s → FaultIs K H s E
abbrev sp_do : Sp := fun vs H Q E => ∃ x y, vs = [x, y] ∧ R_do K x y H Q E
end
inductive M_action (K : PySem.W.Frag) : Addr → Sp → Prop
  | make_record : M_action K (He.ga K "make_record") (sp_make_record K)
  | make_weak : M_action K (He.ga K "make_weak") (sp_make_weak K)
  | make_table : M_action K (He.ga K "make_table") (sp_make_table K)
  | copy_reference : M_action K (He.ga K "copy_reference") (sp_copy_reference K)
  | clear_place : M_action K (He.ga K "clear_place") (sp_clear_place K)
  | read_field : M_action K (He.ga K "read_field") (sp_read_field K)
  | write_field : M_action K (He.ga K "write_field") (sp_write_field K)
  | deref_target : M_action K (He.ga K "deref_target") (sp_deref_target K)
  | put_entry : M_action K (He.ga K "put_entry") (sp_put_entry K)
  | remove_entry : M_action K (He.ga K "remove_entry") (sp_remove_entry K)
  | lookup_key : M_action K (He.ga K "lookup_key") (sp_lookup_key K)
  | add_watch : M_action K (He.ga K "add_watch") (sp_add_watch K)
  | end_job : M_action K (He.ga K "end_job") (sp_end_job K)
theorem held_action {P : Program} {w : World} {K : PySem.W.Frag} {mg : Str → Option Value} {base : Heap} (C_make_record : Cal P w K mg base 3 "make_record" (sp_make_record K) []) (g_make_record : mg "make_record" = some (.ref (He.ga K "make_record"))) (C_make_weak : Cal P w K mg base 3 "make_weak" (sp_make_weak K) []) (g_make_weak : mg "make_weak" = some (.ref (He.ga K "make_weak"))) (C_make_table : Cal P w K mg base 3 "make_table" (sp_make_table K) []) (g_make_table : mg "make_table" = some (.ref (He.ga K "make_table"))) (C_copy_reference : Cal P w K mg base 2 "copy_reference" (sp_copy_reference K) []) (g_copy_reference : mg "copy_reference" = some (.ref (He.ga K "copy_reference"))) (C_clear_place : Cal P w K mg base 2 "clear_place" (sp_clear_place K) []) (g_clear_place : mg "clear_place" = some (.ref (He.ga K "clear_place"))) (C_read_field : Cal P w K mg base 4 "read_field" (sp_read_field K) []) (g_read_field : mg "read_field" = some (.ref (He.ga K "read_field"))) (C_write_field : Cal P w K mg base 4 "write_field" (sp_write_field K) []) (g_write_field : mg "write_field" = some (.ref (He.ga K "write_field"))) (C_deref_target : Cal P w K mg base 4 "deref_target" (sp_deref_target K) []) (g_deref_target : mg "deref_target" = some (.ref (He.ga K "deref_target"))) (C_put_entry : Cal P w K mg base 4 "put_entry" (sp_put_entry K) []) (g_put_entry : mg "put_entry" = some (.ref (He.ga K "put_entry"))) (C_remove_entry : Cal P w K mg base 4 "remove_entry" (sp_remove_entry K) []) (g_remove_entry : mg "remove_entry" = some (.ref (He.ga K "remove_entry"))) (C_lookup_key : Cal P w K mg base 4 "lookup_key" (sp_lookup_key K) []) (g_lookup_key : mg "lookup_key" = some (.ref (He.ga K "lookup_key"))) (C_add_watch : Cal P w K mg base 2 "add_watch" (sp_add_watch K) []) (g_add_watch : mg "add_watch" = some (.ref (He.ga K "add_watch"))) (C_end_job : Cal P w K mg base 2 "end_job" (sp_end_job K) []) (g_end_job : mg "end_job" = some (.ref (He.ga K "end_job"))) : ∀ f sp, M_action K f sp → Held P w K mg base 4 f sp
  | _, _, .make_record => held_of C_make_record g_make_record (by decide)
  | _, _, .make_weak => held_of C_make_weak g_make_weak (by decide)
  | _, _, .make_table => held_of C_make_table g_make_table (by decide)
  | _, _, .copy_reference => held_of C_copy_reference g_copy_reference (by decide)
  | _, _, .clear_place => held_of C_clear_place g_clear_place (by decide)
  | _, _, .read_field => held_of C_read_field g_read_field (by decide)
  | _, _, .write_field => held_of C_write_field g_write_field (by decide)
  | _, _, .deref_target => held_of C_deref_target g_deref_target (by decide)
  | _, _, .put_entry => held_of C_put_entry g_put_entry (by decide)
  | _, _, .remove_entry => held_of C_remove_entry g_remove_entry (by decide)
  | _, _, .lookup_key => held_of C_lookup_key g_lookup_key (by decide)
  | _, _, .add_watch => held_of C_add_watch g_add_watch (by decide)
  | _, _, .end_job => held_of C_end_job g_end_job (by decide)
/-- the action of a command -/
theorem action_of {K : PySem.W.Frag} {w : World} {mg : Str → Option Value} (B : Tb K w mg) (c : Cmd) (nd : c ≠ .drain) : ∃ f sp, KHas K (He.ga K "ACTIONS") c.kind (.ref f) ∧ M_action K f sp ∧
    ∀ a b h H Q E, HeapAt K H a h → CmdAt K H b c → h.Ok → c.ok h.regs.length → fault h c = none → (∀ H' p, ExA H H' → ResAt K H' p (act h c) → Q (.ref p) H') → sp [.ref a, .ref b] H Q E := by
  have go : ∀ {P : Cmd → Prop}, P c → ∀ a b h H Q (E : XK), HeapAt K H a h → CmdAt K H b c → h.Ok → c.ok h.regs.length → fault h c = none → (∀ H' p, ExA H H' → ResAt K H' p (act h c) → Q (.ref p) H') → sp2 (R_act K P) [.ref a, .ref b] H Q E :=
    fun {P} hP a b h H Q E h1 h2 h3 h4 h5 q => ⟨_, _, rfl, a, b, h, c, rfl, rfl, h1, h2, h3, h4, h5, hP, q⟩
  cases c with
  | record a b => exact ⟨_, _, B.k_ACTIONS_record, .make_record, go ⟨a, b, rfl⟩⟩
  | weak a b => exact ⟨_, _, B.k_ACTIONS_weak, .make_weak, go ⟨a, b, rfl⟩⟩
  | table a => exact ⟨_, _, B.k_ACTIONS_table, .make_table, go ⟨a, rfl⟩⟩
  | copy a b => exact ⟨_, _, B.k_ACTIONS_copy, .copy_reference, go ⟨a, b, rfl⟩⟩
  | clear a => exact ⟨_, _, B.k_ACTIONS_clear, .clear_place, go ⟨a, rfl⟩⟩
  | read a b d => exact ⟨_, _, B.k_ACTIONS_read, .read_field, go ⟨a, b, d, rfl⟩⟩
  | write a b d => exact ⟨_, _, B.k_ACTIONS_write, .write_field, go ⟨a, b, d, rfl⟩⟩
  | deref a b => exact ⟨_, _, B.k_ACTIONS_deref, .deref_target, go ⟨a, b, rfl⟩⟩
  | put a b d => exact ⟨_, _, B.k_ACTIONS_put, .put_entry, go ⟨a, b, d, rfl⟩⟩
  | remove a b => exact ⟨_, _, B.k_ACTIONS_remove, .remove_entry, go ⟨a, b, rfl⟩⟩
  | lookup a b d => exact ⟨_, _, B.k_ACTIONS_lookup, .lookup_key, go ⟨a, b, d, rfl⟩⟩
  | watch a b => exact ⟨_, _, B.k_ACTIONS_watch, .add_watch, go ⟨a, b, rfl⟩⟩
  | drain => exact absurd rfl nd
  | end_ => exact ⟨_, _, B.k_ACTIONS_end, .end_job, go rfl⟩
theorem kind_drain {c : Cmd} : c.kind = "drain" ↔ c = .drain := by
  cases c <;> first | exact ⟨fun z => absurd z (by show ¬ _ = _; simp only [Cmd.kind]; decide), fun z => nomatch z⟩ | exact ⟨fun _ => rfl, fun _ => rfl⟩
section
variable {P : Program} {w : World} {K : PySem.W.Frag} {mg : Str → Option Value} {base : Heap}
theorem ok_do {f : Addr} {fd : FuncData} {cd : Value} (F : Dn K "do" "do" s_do f fd cd) (T : Txt mg) (B : Tb K w mg) (X_CommandFault : XcAt P w K mg base "CommandFault" (He.ga K "CommandFault") 1 (spx_CommandFault K)) (A_action : ∀ f sp, M_action K f sp → Held P w K mg base 4 f sp) (C_fault_of : Cal P w K mg base 3 "fault_of" (sp_fault_of K) []) : FnOk P w K mg base (L2N.CX P w) 5 f fd ["state", "command"] (sp_do K) := by
  have nd := sc_do.nd
  refine F.okX sc_do (fun vs H Q E h => ?_) (fun A outer s H vs Q E hr h => ?_)
  · obtain ⟨_, _, rfl, _⟩ := h; rfl
  have hu := hu_of hr
  obtain ⟨x0, x1, rfl, h⟩ := h
  refine ⟨_, (pss_cons (ps_asg (pv 0) (show PG _ _ (gTup K 3 _) from pg_tup rfl (pgs_cons (pg_name (i := 2) nd rfl (by first | exact Or.inl rfl | exact Or.inr rfl)) (pgs_cons (pg_name (i := 3) nd rfl (by first | exact Or.inl rfl | exact Or.inr rfl)) (pgs_cons (pg_name (i := 4) nd rfl (by first | exact Or.inl rfl | exact Or.inr rfl)) pgs_nil)))))
    (pss_cons (ps_set (i := 5) nd rfl (by first | exact Or.inl rfl | exact Or.inr rfl) (pe_c C_fault_of hr (by first | exact Nat.le_refl _ | decide) rfl (pa_cons (pv 3) (pa_cons (pv 1) pa_nil))))
    (pss_cons (ps_if (pt_cmpR op_notN (pv 5) pe_non (nomark _)) (pss_one (L2N.ps_raise rfl (L2N.takes_of rfl rfl rfl rfl) (X_CommandFault.make hr (by decide) rfl (pa_cons (pv 5) pa_nil)))) pss_nil)
    (pss_cons (ps_if (pt_cmpR op_eq (pe_ix (r := rIxT K) ix_tup (pv 1) pe_int (fun _ _ => rfl)) pe_str (nomark _)) (pss_one (ps_ret (pe_tup (pa_cons (pe_tup (pa_cons (pv 2) (pa_cons (pv 3) (pa_cons (pe_tup pa_nil) pa_nil)))) (pa_cons (pv 4) pa_nil))))) pss_nil)
    (pss_cons (ps_set (i := 6) nd rfl (by first | exact Or.inl rfl | exact Or.inr rfl) (pe_ix (r := rIxD K w) ix_kdict (pe_glob (v := .ref (He.ga K "ACTIONS")) rfl B.g_ACTIONS rfl) (pe_ix (r := rIxT K) ix_tup (pv 1) pe_int (fun _ _ => rfl)) (fun _ _ => rfl)))
    (pss_cons (ps_asg (pe_callM (i := 6) (M := M_action K) A_action (hr.mono (by decide)) rfl (.inl rfl) (pa_cons (pv 3) (pa_cons (pv 1) pa_nil))) (show PG _ _ (gTup K 2 _) from pg_tup rfl (pgs_cons (pg_name (i := 7) nd rfl (by first | exact Or.inl rfl | exact Or.inr rfl)) (pgs_cons (pg_name (i := 8) nd rfl (by first | exact Or.inl rfl | exact Or.inr rfl)) pgs_nil))))
    (pss_one (ps_ret (pe_tup (pa_cons (pe_tup (pa_cons (pv 2) (pa_cons (pv 7) (pa_cons (pv 4) pa_nil)))) (pa_cons (pv 8) pa_nil))))))))))), ?_⟩
  obtain ⟨a, b, h, ps, c, rfl, rfl, hS, hC, ok, hc, qn, qf⟩ := h
  obtain ⟨p, q, s1, hA, s3⟩ := id hS
  refine ⟨_, rfl, a, _, rfl, s1, rfl, _, _, rfl, _, _, rfl, _, _, rfl, rfl, ?_⟩
  refine nxI (σ' := [some (.ref a), some (.ref b), some (.str "state"), some (.ref p), some (.ref q), none, none, none, none]) rfl ?_
  refine ⟨_, rfl, _, rfl, _, _, rfl, p, b, h, c, rfl, rfl, hA, hC, ok, hc, fun H1 e1 => ?_⟩
  refine gI (σ' := [some (.ref a), some (.ref b), some (.str "state"), some (.ref p), some (.ref q), some (faultV (fault h c)), none, none, none]) rfl ?_
  have hA1 := hA.mono (Tk.all (K := K) e1)
  have hC1 := hC.mono (Tk.all (K := K) e1)
  have s31 := Tk.all (K := K) e1 _ _ s3
  cases hf : fault h c with
  | some s =>
    refine ⟨_, rfl, rfl, _, rfl, iteT ?_⟩
    refine ⟨_, rfl, by show 1 ≤ 1000; decide, fun x nx => ⟨x, .str s, rfl, upd_same, fun d nd nda => ⟨rfl, d, [("reason", .str s)], upd_same, ?_, ?_, ?_⟩⟩⟩
    · rw [upd_ne nda, upd_same]
    · rw [upd_ne nda] at nd; exact nd
    · have nd1 : H1 d = none := by rw [upd_ne nda] at nd; exact nd
      refine qf s hf _ d (fun z o _ e => ?_) ?_ upd_same
      · have e' := e1 z o (by simp) e
        have n1 : z ≠ d := fun y => by rw [y, nd1] at e'; cases e'
        have n2 : z ≠ x := fun y => by rw [y, nx] at e'; cases e'
        rw [upd_ne n1]
        show (if z = x then none else _) = _
        rw [if_neg n2, upd_ne n2, upd_ne n1, upd_ne n2]
        exact e'
      · cases q : H d with
        | none => rfl
        | some o => rw [e1 d o (by simp) q] at nd1; cases nd1
  | none =>
    refine ⟨_, rfl, rfl, _, rfl, iteF ?_⟩
    have qn := qn hf
    refine ⟨_, rfl, b, _, _, _, rfl, rfl, hC1, at0, rfl, _, rfl, ?_⟩
    refine iteD (fun cd => ?_) fun cd => ?_
    · obtain rfl := kind_drain.mp (V.str.inj cd)
      refine ⟨_, rfl, _, rfl, sz (by show 0 ≤ 100000; decide), fun p2 f2 => ⟨sz (by show 3 ≤ 100000; decide), fun p3 f3 => ⟨_, rfl, sz (by show 2 ≤ 100000; decide), fun p4 f4 => ?_⟩⟩⟩
      have T2 := Tk.new (K := K) (o := .tup []) f2
      have T3 := Tk.new (K := K) (o := .tup [.str "state", .ref p, .ref p2]) f3
      have T4 := Tk.new (K := K) (o := .tup [.ref p3, .ref q]) f4
      exact qn _ p4 (((e1.put (ExA.free e1 f2)).trans (ExM.new f3)).trans (ExM.new f4)) ⟨p3, .ref q, SqT.of upd_same, ⟨p, p2, T4 _ _ (SqT.of upd_same), ((hA1.mono T2).mono T3).mono T4, T4 _ _ (T3 _ _ (SqT.of upd_same))⟩, q, rfl, T4 _ _ (T3 _ _ (T2 _ _ s31))⟩
    · have nd : c ≠ .drain := fun z => cd (by rw [kind_drain.mpr z])
      have ed : doH h ps c = (((act h c).1, ps), (act h c).2) := by cases c <;> first | rfl | exact absurd rfl nd
      obtain ⟨f, sp, kf, mf, hsp⟩ := action_of B c nd
      refine ⟨_, rfl, b, _, _, _, rfl, rfl, hC1, at0, _, _, _, rfl, rfl, MdAt.dct B.d_ACTIONS kf, ?_⟩
      refine gI (σ' := [some (.ref a), some (.ref b), some (.str "state"), some (.ref p), some (.ref q), some .non, some (.ref f), none, none]) rfl ?_
      refine ⟨f, sp, rfl, mf, _, rfl, _, rfl, hsp p b h H1 _ _ hA1 hC1 ok hc hf fun H2 r e2 hR => ?_⟩
      obtain ⟨x, v, r1, r2, r3⟩ := hR
      refine ⟨r, _, rfl, r1, rfl, _, _, rfl, _, _, rfl, rfl, ?_⟩
      refine nxI (σ' := [some (.ref a), some (.ref b), some (.str "state"), some (.ref p), some (.ref q), some .non, some (.ref f), some (.ref x), some v]) rfl ?_
      refine ⟨_, rfl, _, rfl, _, rfl, sz (by show 3 ≤ 100000; decide), fun p3 f3 => ⟨_, rfl, sz (by show 2 ≤ 100000; decide), fun p4 f4 => ?_⟩⟩
      have T3 := Tk.new (K := K) (o := .tup [.str "state", .ref x, .ref q]) f3
      have T4 := Tk.new (K := K) (o := .tup [.ref p3, v]) f4
      have eA := e1.trans e2
      refine qn _ p4 ((eA.put (ExA.free eA f3)).trans (ExM.new f4)) ?_
      rw [ed]
      exact ⟨p3, v, SqT.of upd_same, ⟨x, q, T4 _ _ (SqT.of upd_same), (r2.mono T3).mono T4, T4 _ _ (T3 _ _ (Tk.all e2 _ _ s31))⟩, r3.mono (T3.trans T4)⟩
end
end Wc
namespace Wc
open PySem L2
/-! ### comprehensions of two clauses into a dict -/
abbrev dIn (gb : TG) (ub : TT) (tk tv : TE) (vb : List Nat) (σ2 : L2.St) (D : Addr) (Nx : Hp → Prop) (J1 : It) (H4 : Hp) : Prop :=
  ∃ W1 : Nat → Nat → Hp → Prop, (∃ m, W1 0 m H4) ∧ ∀ j k H, W1 j k H →
            (J1.stop j H ∧ Nx H) ∨
            (J1.go j H ∧ ∃ Ny : Hp → Prop, (∀ H', Ny H' → ∃ k', k' < k ∧ W1 (j + 1) k' H') ∧
              ∀ x H', J1.yld j H x H' → gb x (wipe σ2 vb) H' fun σ3 H5 => wipe σ3 vb = wipe σ2 vb ∧ ub σ3 H5 fun c H6 =>
                if c = true then tk σ3 H6 fun y H7 => tv σ3 H7 fun z H8 => ∃ kvs k, y = kV k ∧ H8 D = some (.dK kvs) ∧ kvs.length < sizeLine ∧ Ny (upd H8 D (.dK (putK kvs k z)))
                else Ny H6)
theorem ddI {J1 : It} {n1 : Nat} {G1 : Hp → Prop} {Y1 : Nat → Hp → V → Hp → Prop} (w1 : Walk J1 n1 G1 Y1) {gb : TG} {ub : TT} {tk tv : TE} {vb : List Nat} {σ2 : L2.St} {D : Addr} {Nx : Hp → Prop} {H5 : Hp}
    (Pv : Nat → Hp → Prop) (h0 : Pv 0 H5) (hG : ∀ j H, j ≤ n1 → Pv j H → G1 H)
    (hs : ∀ j x H1 H2, j < n1 → Pv j H1 → Y1 j H1 x H2 → gb x (wipe σ2 vb) H2 fun σ3 H5 => wipe σ3 vb = wipe σ2 vb ∧ ub σ3 H5 fun c H6 =>
      if c = true then tk σ3 H6 fun y H7 => tv σ3 H7 fun z H8 => ∃ kvs k, y = kV k ∧ H8 D = some (.dK kvs) ∧ kvs.length < sizeLine ∧ Pv (j + 1) (upd H8 D (.dK (putK kvs k z))) else Pv (j + 1) H6)
    (hd : ∀ H, Pv n1 H → Nx H) : dIn gb ub tk tv vb σ2 D Nx J1 H5 := by
  refine ⟨fun j k H => k + j = n1 ∧ Pv j H, ⟨n1, rfl, h0⟩, fun j k H q => ?_⟩
  obtain ⟨e, p⟩ := q
  have g := hG j H (by omega) p
  by_cases hj : j < n1
  · exact .inr ⟨w1.goes j H hj g, Pv (j + 1), fun H' p' => ⟨k - 1, by omega, by omega, p'⟩, fun x H' y => hs j x H H' hj p (w1.yields j H x H' hj g y)⟩
  · have ej : j = n1 := by omega
    subst ej
    exact .inl ⟨w1.stops H g, hd H p⟩
theorem ddM {J : It} {n : Nat} {G : Hp → Prop} {Y : Nat → Hp → V → Hp → Prop} (w : Walk J n G Y) {ga gb : TG} {ua ub : TT} {wb : TI} {tk tv : TE} {vs vb : List Nat} {σ : L2.St} {H5 : Hp} {D : Addr} {Qd : Hp → Prop}
    (Pv : Nat → Hp → Prop) (h0 : Pv 0 H5) (hG : ∀ j H, j ≤ n → Pv j H → G H)
    (hs : ∀ i x H1 H2, i < n → Pv i H1 → Y i H1 x H2 → ga x (wipe σ vs) H2 fun σ2 H3 => wipe σ2 vs = wipe σ vs ∧ ua σ2 H3 fun c H4 =>
      if c = true then wb σ2 H4 fun J1 H5 => dIn gb ub tk tv vb σ2 D (Pv (i + 1)) J1 H5 else Pv (i + 1) H4)
    (hd : ∀ H, Pv n H → Qd H) :
    ∃ W : Nat → Nat → Hp → Prop, (∃ m, W 0 m H5) ∧ ∀ i m H, W i m H →
      (J.stop i H ∧ Qd H) ∨
      (J.go i H ∧ ∃ Nx : Hp → Prop, (∀ H', Nx H' → ∃ m', m' < m ∧ W (i + 1) m' H') ∧
        ∀ x H', J.yld i H x H' → ga x (wipe σ vs) H' fun σ2 H2 => wipe σ2 vs = wipe σ vs ∧ ua σ2 H2 fun c H3 =>
          if c = true then wb σ2 H3 fun J1 H4 => dIn gb ub tk tv vb σ2 D Nx J1 H4 else Nx H3) := by
  refine ⟨fun j k H => k + j = n ∧ Pv j H, ⟨n, rfl, h0⟩, fun j k H q => ?_⟩
  obtain ⟨e, p⟩ := q
  have g := hG j H (by omega) p
  by_cases hj : j < n
  · exact .inr ⟨w.goes j H hj g, Pv (j + 1), fun H' p' => ⟨k - 1, by omega, by omega, p'⟩, fun x H' y => hs j x H H' hj p (w.yields j H x H' hj g y)⟩
  · have ej : j = n := by omega
    subst ej
    exact .inl ⟨w.stops H g, hd H p⟩
/-! ### dicts of numbers, of marks -/
def dI (G : List (Int × Int)) : List (Key × V) := G.map fun q => ((Sum.inl q.1 : Key), V.int q.2)
def dB (W : List Int) : List (Key × V) := W.map fun n => ((Sum.inl n : Key), V.bl true)
theorem dI_keys (G : List (Int × Int)) : (dI G).map (·.1) = (G.map (·.1)).map Sum.inl := by unfold dI; rw [List.map_map, List.map_map]; rfl
theorem dB_keys (W : List Int) : (dB W).map (·.1) = W.map Sum.inl := by unfold dB; rw [List.map_map]; rfl
def addK (W : List Int) (n : Int) : List Int := if n ∈ W then W else W ++ [n]
theorem dB_put (W : List Int) (n : Int) : putK (dB W) (Sum.inl n) (.bl true) = dB (addK W n) := by
  have q := key_has (dB_keys W) n
  unfold addK
  by_cases m : n ∈ W
  · rw [if_pos m]
    rw [decide_eq_true m] at q
    unfold putK
    rw [valV_any, q, if_pos rfl]
    unfold dB
    rw [List.map_map]
    refine List.map_congr_left fun k _ => ?_
    show (if (Sum.inl k : Key) = Sum.inl n then ((Sum.inl k : Key), V.bl true) else (Sum.inl k, V.bl true)) = _
    split <;> rfl
  · rw [if_neg m]
    rw [decide_eq_false m] at q
    rw [putK_new _ (by cases e : valV (dB W) (Sum.inl n) with | none => rfl | some v => rw [e] at q; cases q)]
    unfold dB
    rw [List.map_append]
    rfl
theorem dI_put {G : List (Int × Int)} {n d : Int} (h : n ∉ G.map (·.1)) : putK (dI G) (Sum.inl n) (.int d) = dI (G ++ [(n, d)]) := by
  have q := key_has (dI_keys G) n
  rw [decide_eq_false h] at q
  rw [putK_new _ (by cases e : valV (dI G) (Sum.inl n) with | none => rfl | some v => rw [e] at q; cases q)]
  unfold dI
  rw [List.map_append]
  rfl
theorem addK_nd {W : List Int} {n : Int} (h : W.Nodup) : (addK W n).Nodup := by
  unfold addK
  split
  · exact h
  · rename_i m
    exact List.nodup_append.mpr ⟨h, by simp, fun a ha b hb e => m (by have : b = n := by simpa using hb
                                                                      subst this; rw [← e]; exact ha)⟩
theorem mem_addK {W : List Int} {n k : Int} : k ∈ addK W n ↔ k ∈ W ∨ k = n := by
  unfold addK
  split
  · rename_i m
    constructor
    · exact Or.inl
    · rintro (z | rfl)
      · exact z
      · exact m
  · simp
theorem mem_take_snoc {α : Type} {l : List α} {i : Nat} {x y : α} (h : l[i]? = some x) : y ∈ l.take (i + 1) ↔ y ∈ l.take i ∨ y = x := by
  rw [take_snoc h]; simp
theorem dI_len (G : List (Int × Int)) : (dI G).length = G.length := by unfold dI; rw [List.length_map]
theorem dB_len (W : List Int) : (dB W).length = W.length := by unfold dB; rw [List.length_map]
section
variable (K : PySem.W.Frag)
def R_rounds : V2 := fun x y H Q => ∃ (a : Addr) (h : Hd) (c : Addr) (cs : List Int), x = .ref a ∧ y = .ref c ∧ HeapAt K H a h ∧ h.Ok ∧ SqS K H c (cs.map .int) ∧ cs.length ≤ 1000 ∧
  ∀ p H' G, RoundsOf h cs G → H p = none → ExA H H' → H' p = some (.dK (dI G)) → Q (.ref p) H'
abbrev sp_rounds : Sp := sp2 (R_rounds K)
end
/-- what rounds keeps through its loop: the dicts things, gone, got; newest -/
structure Rw (K : PySem.W.Frag) (H0 H : Hp) (h : Hd) (cs : List Int) (th gn gt nw : Addr) (G : List (Int × Int)) (W : List Int) : Prop where
  ex : ExA H0 H
  fg : H0 gt = none
  fw : H0 nw = none
  aT : ∃ os, Paired (ObAt K H) os h.obs ∧ H th = some (.dK (dictOf os h.obs))
  aN : H gn = some (.dK (dB cs))
  aG : H gt = some (.dK (dI G))
  aW : H nw = some (.dK (dB W))
  n1 : th ≠ gt
  n2 : gn ≠ gt
  n3 : th ≠ nw
  n4 : gn ≠ nw
  n5 : gt ≠ nw
/-- .. while one of the two is locked -/
structure Rk (K : PySem.W.Frag) (H0 H : Hp) (h : Hd) (cs : List Int) (th gn gt nw : Addr) (gd wd : HO) : Prop where
  ex : ExA H0 H
  fg : H0 gt = none
  fw : H0 nw = none
  aT : ∃ os, Paired (ObAt K H) os h.obs ∧ H th = some (.dK (dictOf os h.obs))
  aN : H gn = some (.dK (dB cs))
  aG : H gt = some gd
  aW : H nw = some wd
  n1 : th ≠ gt
  n2 : gn ≠ gt
  n3 : th ≠ nw
  n4 : gn ≠ nw
  n5 : gt ≠ nw
section
variable {K : PySem.W.Frag} {H0 H H' : Hp} {h : Hd} {cs : List Int} {th gn gt nw : Addr} {gd wd u : HO} {G : List (Int × Int)} {W : List Int}
theorem Rw.rk (r : Rw K H0 H h cs th gn gt nw G W) : Rk K H0 H h cs th gn gt nw (.dK (dI G)) (.dK (dB W)) := ⟨r.ex, r.fg, r.fw, r.aT, r.aN, r.aG, r.aW, r.n1, r.n2, r.n3, r.n4, r.n5⟩
theorem Rk.rw (r : Rk K H0 H h cs th gn gt nw (.dK (dI G)) (.dK (dB W))) : Rw K H0 H h cs th gn gt nw G W := ⟨r.ex, r.fg, r.fw, r.aT, r.aN, r.aG, r.aW, r.n1, r.n2, r.n3, r.n4, r.n5⟩
theorem Rk.setG (r : Rk K H0 H h cs th gn gt nw gd wd) (t : Tk K H (upd H gt u)) : Rk K H0 (upd H gt u) h cs th gn gt nw u wd := by
  obtain ⟨os, h1, h2⟩ := r.aT
  exact ⟨r.ex.put r.fg, r.fg, r.fw, ⟨os, pmp h1 fun _ _ z => ObAt.mono t z, by rw [upd_ne r.n1]; exact h2⟩, by rw [upd_ne r.n2]; exact r.aN, upd_same, by rw [upd_ne r.n5.symm]; exact r.aW, r.n1, r.n2, r.n3, r.n4, r.n5⟩
theorem Rk.setW (r : Rk K H0 H h cs th gn gt nw gd wd) (t : Tk K H (upd H nw u)) : Rk K H0 (upd H nw u) h cs th gn gt nw gd u := by
  obtain ⟨os, h1, h2⟩ := r.aT
  exact ⟨r.ex.put r.fw, r.fg, r.fw, ⟨os, pmp h1 fun _ _ z => ObAt.mono t z, by rw [upd_ne r.n3]; exact h2⟩, by rw [upd_ne r.n4]; exact r.aN, by rw [upd_ne r.n5]; exact r.aG, upd_same, r.n1, r.n2, r.n3, r.n4, r.n5⟩
theorem Rk.keep (r : Rk K H0 H h cs th gn gt nw gd wd) (e : ExA H H') : Rk K H0 H' h cs th gn gt nw gd wd := by
  obtain ⟨os, h1, h2⟩ := r.aT
  exact ⟨r.ex.trans e, r.fg, r.fw, ⟨os, pmp h1 fun _ _ z => ObAt.mono (Tk.all e) z, ExA.at e h2⟩, ExA.at e r.aN, ExA.at e r.aG, ExA.at e r.aW, r.n1, r.n2, r.n3, r.n4, r.n5⟩
/-- the object of a number, by things -/
theorem Rk.look (r : Rk K H0 H h cs th gn gt nw gd wd) {n : Int} (hn : n ∈ h.nums) : ∃ a o, DGet H th (.int n) (some (.ref a)) ∧ o ∈ h.obs ∧ o.num = n ∧ ObAt K H a o := by
  obtain ⟨os, h1, h2⟩ := r.aT
  obtain ⟨a, o, q, q1, q2, q3⟩ := dictOf_get h1 hn
  exact ⟨a, o, .inl ⟨_, Sum.inl n, .inl h2, rfl, q.symm⟩, q1, q2, q3⟩
end
theorem ob_uniq {h : Hd} (ok : h.Ok) {o p : Ob} (ho : o ∈ h.obs) (hp : p ∈ h.obs) (e : o.num = p.num) : o = p := by
  have key : ∀ (l : List Ob), (l.map Ob.num).Pairwise (· < ·) → o ∈ l → p ∈ l → o = p := by
    intro l
    induction l with
    | nil => intro _ z _; cases z
    | cons x r ih =>
      intro up h1 h2
      obtain ⟨u1, u2⟩ := List.pairwise_cons.mp (show (x.num :: r.map Ob.num).Pairwise (· < ·) from up)
      rcases List.mem_cons.mp h1 with e1 | m1
      · rcases List.mem_cons.mp h2 with e2 | m2
        · rw [e1, e2]
        · have := u1 _ (List.mem_map_of_mem (f := Ob.num) m2); rw [← e1] at this; omega
      · rcases List.mem_cons.mp h2 with e2 | m2
        · have := u1 _ (List.mem_map_of_mem (f := Ob.num) m1); rw [← e2] at this; omega
        · exact ih u2 m1 m2
  exact key h.obs ok.up ho hp
theorem In.same {h : Hd} {cs ds : List Int} (e : ∀ n, n ∈ cs ↔ n ∈ ds) (k : Nat) (n : Int) : In h cs k n ↔ In h ds k n := ⟨In.less fun m z => (e m).mpr z, In.less fun m z => (e m).mp z⟩
theorem RoundsOf.same {h : Hd} {cs ds : List Int} {G : List (Int × Int)} (e : ∀ n, n ∈ cs ↔ n ∈ ds) (r : RoundsOf h cs G) : RoundsOf h ds G :=
  ⟨r.nd, fun n => (r.all n).trans ⟨fun ⟨k, x⟩ => ⟨k, (In.same e k n).mp x⟩, fun ⟨k, x⟩ => ⟨k, (In.same e k n).mpr x⟩⟩, fun n v z => let ⟨k, a, b, c⟩ := r.val n v z; ⟨k, a, (In.same e k n).mp b, fun j hj x => c j hj ((In.same e j n).mpr x)⟩⟩
section
variable {P : Program} {w : World} {K : PySem.W.Frag} {mg : Str → Option Value} {base : Heap}
theorem ok_rounds {f : Addr} {fd : FuncData} {cd : Value} (F : Df K "rounds" s_rounds f fd cd) (T : Txt mg) (C_registers_of : Cal P w K mg base 1 "registers_of" (sp_registers_of K) []) (C_by_number : Cal P w K mg base 2 "by_number" (sp_by_number K) []) (C_objects_among : Cal P w K mg base 1 "objects_among" (sp_objects_among K) []) (C_led_to : Cal P w K mg base 2 "led_to" (sp_led_to K) []) : FnOk P w K mg base CX0 3 f fd ["heap", "condemned"] (sp_rounds K) := by
  have nd := sc_rounds.nd
  refine F.ok sc_rounds (fun vs H Q E h => ?_) (fun A outer s H vs Q E hr h => ?_)
  · obtain ⟨_, _, rfl, _⟩ := h; rfl
  have hu := hu_of hr
  obtain ⟨x0, x1, rfl, h⟩ := h
  refine ⟨_, (pss_cons (ps_set (i := 2) nd rfl (by first | exact Or.inl rfl | exact Or.inr rfl) (pe_c C_by_number hr (by first | exact Nat.le_refl _ | decide) rfl (pa_cons (pv 0) pa_nil)))
    (pss_cons (ps_set (i := 3) nd rfl (by first | exact Or.inl rfl | exact Or.inr rfl) (pe_dc (own := [("number", 4)]) rfl nd (show PI _ _ _ (iSeq K _) from pi_seq (pv 1)) (blkOk_by (own := [("number", 4)]) (N := N_rounds) (sc := defScope s_rounds) (by decide +kernel)) (fun _ _ _ _ _ => (pg_name (i := 4) nd rfl (by first | exact Or.inl rfl | exact Or.inr rfl))) (fun _ _ _ _ _ => pts_nil) (fun _ _ _ _ _ => (pv 4)) (fun _ _ _ _ _ => pe_bl)))
    (pss_cons (ps_set (i := 5) nd rfl (by first | exact Or.inl rfl | exact Or.inr rfl) pe_dnewK)
    (pss_cons (ps_set (i := 6) nd rfl (by first | exact Or.inl rfl | exact Or.inr rfl) pe_int)
    (pss_cons (ps_set (i := 7) nd rfl (by first | exact Or.inl rfl | exact Or.inr rfl) (pe_dc (own := [("number", 4)]) rfl nd (show PI _ _ _ (iList K _) from pi_list (pe_c C_objects_among hr (by first | exact Nat.le_refl _ | decide) rfl (pa_cons (pe_c C_registers_of hr (by first | exact Nat.le_refl _ | decide) rfl (pa_cons (pv 0) pa_nil)) pa_nil))) (blkOk_by (own := [("number", 4)]) (N := N_rounds) (sc := defScope s_rounds) (by decide +kernel)) (fun _ _ _ _ _ => (pg_name (i := 4) nd rfl (by first | exact Or.inl rfl | exact Or.inr rfl))) (fun _ _ _ _ _ => pts_nil) (fun _ _ _ _ _ => (pv 4)) (fun _ _ _ _ _ => pe_bl)))
    (pss_cons (ps_while PassesOwn.never (pt_truth (pv 7) (by intro _; rfl)) (pss_cons (ps_lock (ps_for PassesOwn.never rfl (pi_keys (pv 7)) (pg_name (i := 4) nd rfl (by first | exact Or.inl rfl | exact Or.inr rfl))
    (pss_one (ps_dput hu (pv 5) (pv 4) (pv 6) rfl))))
    (pss_cons (ps_lock (ps_setLc (i := 8) (own := [("number", 4)]) rfl nd rfl rfl (sw_true rfl rfl rfl (by decide +kernel)) (pi_keys (pv 5)) (blkOk_by (own := [("number", 4)]) (N := N_rounds) (sc := defScope s_rounds) (by decide +kernel)) (fun _ _ _ _ _ => (pg_name (i := 4) nd rfl (by first | exact Or.inl rfl | exact Or.inr rfl))) (fun _ _ _ _ _ => (pts_one (PW.pt (pw_or (pt_cmp (pc_din hu (pv 4) (pv 7)) rfl) (pw_or1 (pt_cmpR op_eq (pe_ix (r := rIxT K) ix_tup (pe_dget hu (pv 2) (pv 4) (fun _ _ => rfl)) pe_int (fun _ _ => rfl)) pe_str (nomark _))))))) (fun _ _ _ _ _ => (pv 4))))
    (pss_cons (ps_set (i := 7) nd rfl (by first | exact Or.inl rfl | exact Or.inr rfl) (pe_dc2 (own := [("number", 4), ("found", 9)]) (vs1 := [9]) rfl nd (show PI _ _ _ (iList K _) from pi_list (pv 8)) (blkOk_by (own := [("number", 4), ("found", 9)]) (N := N_rounds) (sc := defScope s_rounds) (by decide +kernel)) (by decide) (fun _ _ _ _ _ => (pg_name (i := 4) nd rfl (by first | exact Or.inl rfl | exact Or.inr rfl))) (fun _ _ _ _ _ => pts_nil) (fun _ _ _ _ _ => (show PI _ _ _ (iList K _) from pi_list (pe_c C_led_to hr (by first | exact Nat.le_refl _ | decide) rfl (pa_cons (pe_dget hu (pv 2) (pv 4) (fun _ _ => rfl)) (pa_cons (pv 5) (pa_cons (pv 3) pa_nil)))))) (fun _ _ _ _ _ => (pg_name (i := 9) nd rfl (by first | exact Or.inl rfl | exact Or.inr rfl))) (fun _ _ _ _ _ => (pts_one (pt_cmp (pc_dnotin hu (pv 9) (pv 5)) rfl))) (fun _ _ _ _ _ => (pv 9)) (fun _ _ _ _ _ => pe_bl)))
    (pss_one (ps_aug (i := 6) nd rfl (by first | exact Or.inl rfl | exact Or.inr rfl) pe_int ip_add))))))
    (pss_one (ps_ret (pv 5))))))))), ?_⟩
  obtain ⟨a, h, c, cs, rfl, rfl, hA, ok, hC, hcz, q⟩ := h
  -- things
  refine ⟨_, rfl, _, rfl, a, h, rfl, hA, ok, fun th H1 os f1 e1 hos hth => ?_⟩
  -- gone
  have hC1 := SqS.all e1 hC
  refine seq_at hC1 (fun _ z => ⟨_, rfl, z⟩) fun J G wk hG gn fgn => ?_
  refine dcM [] wk fgn (fun i acc _ => ∃ ks, acc = dB ks ∧ ∀ n, n ∈ ks ↔ n ∈ cs.take i) ⟨[], rfl, by simp⟩ (fun H' e => hG H' e) (fun i x H2 H3 acc hi e k1 k2 hacc y => ?_) (fun H2 acc e2 k1 k2 hacc => ?_)
  · obtain ⟨rfl, hx⟩ := y
    rw [List.length_map] at hi
    obtain ⟨n, hn⟩ : ∃ n, cs[i]? = some n := ⟨cs[i], List.getElem?_eq_getElem hi⟩
    rw [List.getElem?_map, hn] at hx
    obtain rfl : V.int n = x := Option.some.inj hx
    obtain ⟨ks, rfl, hk⟩ := hacc
    refine ⟨rfl, tyes ⟨_, rfl, ?_⟩⟩
    refine DcP.yes (k := Sum.inl n) fgn (by simp) (by omega) e k1 k2 rfl (ExM.refl _ _) ⟨addK ks n, dB_put ks n, fun m => ?_⟩
    rw [mem_addK, hk, mem_take_snoc hn]
  obtain ⟨ks, rfl, hks⟩ := hacc
  rw [List.length_map, List.take_length] at hks
  have hth2 : H2 th = some (.dK (dictOf os h.obs)) := ExA.at e2 hth
  have hgn2 : H2 gn = some (.dK (dB ks)) := k1
  have nth_gn : th ≠ gn := ne_of_none hth fgn
  -- got, depth
  intro gt fgt
  have hth3 : (upd H2 gt (.dK [])) th = some (.dK (dictOf os h.obs)) := by rw [upd_ne (ne_of_none hth2 fgt)]; exact hth2
  have hgn3 : (upd H2 gt (.dK [])) gn = some (.dK (dB ks)) := by rw [upd_ne (ne_of_none hgn2 fgt)]; exact hgn2
  have hgt3 : (upd H2 gt (.dK [])) gt = some (.dK []) := upd_same
  have n_tg : th ≠ gt := ne_of_none hth2 fgt
  have n_gg : gn ≠ gt := ne_of_none hgn2 fgt
  have E2 : ExA H H2 := e1.trans e2
  have fgt0 : H gt = none := ExA.free E2 fgt
  have E3 : ExA H (upd H2 gt (.dK [])) := E2.put fgt0
  have T3 : Tk K H (upd H2 gt (.dK [])) := Tk.all E3
  have P3 : Paired (ObAt K (upd H2 gt (.dK []))) os h.obs := pmp hos fun _ _ z => ObAt.mono (Tk.trans (Tk.all e2) (Tk.new fgt)) z
  generalize upd H2 gt (.dK []) = H3 at hth3 hgn3 hgt3 E3 T3 P3 ⊢
  -- the registers
  refine ⟨_, rfl, _, rfl, a, h, rfl, HeapAt.mono T3 hA, fun r hr => ?_⟩
  refine ⟨_, rfl, r, h.regs, rfl, hr.sq, ok.nreg, fun l H4 fl e4 hl => ?_⟩
  refine ⟨l, rfl, ⟨_, SqL.of hl⟩, fun nw fnw => ?_⟩
  have hl' : ∀ H', ExA H4 H' → SqL K H' l ((h.regs.filterMap id).map V.int) := fun H' e => SqL.of (ExA.at e hl)
  have mreg : ∀ n, n ∈ h.regs.filterMap id ↔ some n ∈ h.regs := fun n => by simp
  refine dcM [] (walk_list (xs := (h.regs.filterMap id).map V.int)) fnw (fun i acc _ => ∃ ks, acc = dB ks ∧ ks.Nodup ∧ ∀ n, n ∈ ks ↔ n ∈ (h.regs.filterMap id).take i) ⟨[], rfl, by simp, by simp⟩ hl' (fun i x H5 H6 acc hi e k1 k2 hacc y => ?_) (fun H5 acc e5 k1 k2 hacc => ?_)
  · obtain ⟨rfl, hx⟩ := y
    rw [List.length_map] at hi
    have hz : i < 1000 := Nat.lt_of_lt_of_le hi (Nat.le_trans (List.length_filterMap_le _ _) ok.nreg)
    obtain ⟨n, hn⟩ : ∃ n, (h.regs.filterMap id)[i]? = some n := ⟨_, List.getElem?_eq_getElem hi⟩
    rw [List.getElem?_map, hn] at hx
    obtain rfl : V.int n = x := Option.some.inj hx
    obtain ⟨js, rfl, nd1, hk⟩ := hacc
    refine ⟨rfl, tyes ⟨_, rfl, ?_⟩⟩
    refine DcP.yes (k := Sum.inl n) fnw (by simp) (by omega) e k1 k2 rfl (ExM.refl _ _) ⟨addK js n, dB_put js n, addK_nd nd1, fun m => ?_⟩
    rw [mem_addK, hk, mem_take_snoc hn]
  obtain ⟨W, rfl, ndW, hW⟩ := hacc
  rw [List.length_map, List.take_length] at hW
  have E5 : ExA H H5 := (E3.trans e4).trans e5
  have nwE : ∀ {b : Addr} {o : HO}, H3 b = some o → b ≠ nw := fun hb => ne_of_none (ExA.at e4 hb) fnw
  have R0 : Rw K H H5 h ks th gn gt nw [] W := ⟨E5, fgt0, ExA.free (E3.trans e4) fnw, ⟨os, pmp P3 fun _ _ z => ObAt.mono (Tk.all (e4.trans e5)) z, ExA.at (e4.trans e5) hth3⟩, ExA.at (e4.trans e5) hgn3, ExA.at (e4.trans e5) hgt3, k1, n_tg, n_gg, nwE hth3, nwE hgn3, nwE hgt3⟩
  have hcs : ∀ n, n ∈ ks ↔ n ∈ cs := hks
  have I0 : RI h ks 0 [] W := RI.first ndW fun n => (hW n).trans (mreg n)
  -- the loop
  refine ⟨fun m σ' H' => ∃ (d : Nat) (G : List (Int × Int)) (W : List Int) (nw : Addr) (u4 u8 : Option V), m + G.length = h.nums.length + 1 ∧ σ' = [some (.ref a), some (.ref c), some (.ref th), some (.ref gn), u4, some (.ref gt), some (.int (d : Int)), some (.ref nw), u8, none] ∧
      RI h ks d G W ∧ Rw K H H' h ks th gn gt nw G W, ⟨h.nums.length + 1, 0, [], W, nw, none, none, rfl, rfl, I0, R0⟩, ?_⟩
  rintro m σ' H' ⟨d, G, W, nw, u4, u8, hm, rfl, I, R⟩
  refine ⟨_, rfl, !(dB W).isEmpty, .inr (.inr ⟨_, R.aW, rfl⟩), ?_⟩
  by_cases hW : W = []
  · subst hW
    exact iteF ⟨_, rfl, q gt H' G (I.done.same hcs) fgt0 R.ex R.aG⟩
  have hne : (!(dB W).isEmpty) = true := by
    cases W with
    | nil => exact absurd rfl hW
    | cons _ _ => rfl
  rw [hne]
  refine iteT ⟨fun σ2 H2 => ∃ (W' : List Int) (nw' : Addr) (v4 v8 : Option V), σ2 = [some (.ref a), some (.ref c), some (.ref th), some (.ref gn), v4, some (.ref gt), some (.int ((d + 1 : Nat) : Int)), some (.ref nw'), v8, none] ∧
      RI h ks (d + 1) (addW G W d) W' ∧ Rw K H H2 h ks th gn gt nw' (addW G W d) W', ?_, ?_⟩
  · rintro σ2 H2 ⟨W', nw', v4, v8, rfl, I', R'⟩
    have z1 := I.size ok
    have z2 := RI.more (G := G) (d := d) hW
    exact ⟨h.nums.length + 1 - (addW G W d).length, by omega, d + 1, addW G W d, W', nw', v4, v8, by omega, rfl, I', R'⟩
  -- got[number] = depth, for the newest
  refine ⟨nw, _, R.aW, trivial, fun od => ?_⟩
  have Rl : Rk K H (upd H' nw (.frz od (.dK (dB W)))) h ks th gn gt nw (.dK (dI G)) (.frz od (.dK (dB W))) := R.rk.setW (Tk.dic R.aW)
  refine ⟨_, rfl, nw, od, rfl, .inl ⟨_, upd_same, ?_⟩⟩
  generalize upd H' nw (.frz od (.dK (dB W))) = H1 at Rl ⊢
  refine for_it (walk_keys (d := nw) (o := od) (kvs := dB W)) (fun i σ2 H2 => ∃ v4, σ2 = [some (.ref a), some (.ref c), some (.ref th), some (.ref gn), v4, some (.ref gt), some (.int (d : Int)), some (.ref nw), u8, none] ∧
      Rk K H H2 h ks th gn gt nw (.dK (dI (G ++ (W.take i).map fun n => (n, (d : Int))))) (.frz od (.dK (dB W)))) ⟨u4, rfl, by simpa using Rl⟩ (fun i σ2 H2 _ p => p.elim fun _ z => z.2.aW) (fun i x σ2 H2 H3 hi p y => ?_) (fun σ2 H2 p => ?_)
  · obtain ⟨v4, rfl, r⟩ := p
    obtain ⟨rfl, k, v, hk, rfl⟩ := y
    rw [dB_len] at hi
    obtain ⟨n, hn⟩ : ∃ n, W[i]? = some n := ⟨_, List.getElem?_eq_getElem hi⟩
    have hk' : (dB W)[i]? = some (Sum.inl n, .bl true) := by unfold dB; rw [List.getElem?_map, hn]; rfl
    rw [hk'] at hk
    cases hk
    have hnw : n ∈ W := List.mem_of_getElem? hn
    have ng : n ∉ (G ++ (W.take i).map fun n => (n, (d : Int))).map (·.1) := by
      rw [List.map_append, List.map_map, List.mem_append]
      rintro (z | z)
      · exact I.dis hnw z
      · have z' : n ∈ W.take i := by
          obtain ⟨m, hm, e⟩ := List.mem_map.mp z
          have e : m = n := e
          rw [← e]; exact hm
        obtain ⟨j, hj⟩ := List.getElem?_of_mem z'
        have hlt : j < i := by
          have := (List.getElem?_eq_some_iff.mp hj).1
          rw [List.length_take] at this; omega
        rw [List.getElem?_take_of_lt hlt] at hj
        exact absurd (nd_ix I.ndW hj hn) (Nat.ne_of_lt hlt)
    have zl : (dI (G ++ (W.take i).map fun n => (n, (d : Int)))).length < sizeLine := by
      rw [dI_len, List.length_append, List.length_map]
      have z1 := I.size ok
      unfold addW at z1
      rw [List.length_append, List.length_map] at z1
      have z2 : (W.take i).length ≤ W.length := by rw [List.length_take]; omega
      have z3 : h.nums.length ≤ 50 := by unfold Hd.nums; rw [List.length_map]; exact ok.size
      exact szl (by omega)
    refine ⟨_, rfl, _, rfl, _, rfl, gt, _, rfl, DPut.k (k := Sum.inl n) r.aG zl, some (.int n), rfl, ?_⟩
    have r2 := r.setG (u := .dK (putK (dI (G ++ (W.take i).map fun n => (n, (d : Int)))) (Sum.inl n) (.int (d : Int)))) (Tk.dic r.aG)
    rw [dI_put ng] at r2
    rw [dI_put ng, take_snoc hn, List.map_append, ← List.append_assoc]
    rw [List.append_assoc] at r2 ⊢
    simpa using r2
  obtain ⟨v4, rfl, r⟩ := p
  rw [dB_len, List.take_length] at r
  refine ⟨r.aW, ?_⟩
  have R2 : Rw K H (upd H2 nw (.dK (dB W))) h ks th gn gt nw (addW G W d) W := (r.setW (u := .dK (dB W)) (Tk.frz r.aW)).rw
  generalize upd H2 nw (.dK (dB W)) = H3 at R2 ⊢
  -- who is asked
  have keysI : (dI (addW G W d)).map (·.1) = ((addW G W d).map (·.1)).map Sum.inl := dI_keys _
  have zK : ((addW G W d).map (·.1)).length ≤ 50 := by
    rw [List.length_map]
    have z1 := I.size ok
    have z3 : h.nums.length ≤ 50 := by unfold Hd.nums; rw [List.length_map]; exact ok.size
    omega
  have hnum : ∀ n, n ∈ (addW G W d).map (·.1) → n ∈ h.nums := fun n z => In.num ok ((I.memA n).mp z)
  refine ⟨gt, _, R2.aG, trivial, fun od => ?_⟩
  have Rl := R2.rk.setG (u := .frz od (.dK (dI (addW G W d)))) (Tk.dic R2.aG)
  refine ⟨_, rfl, gt, od, rfl, .inl ⟨_, upd_same, fun D hD => ?_⟩⟩
  generalize upd H3 gt (.frz od (.dK (dI (addW G W d)))) = H4 at Rl hD ⊢
  refine lcM [] (walk_keys (d := gt) (o := od) (kvs := dI (addW G W d))) hD (fun i acc _ => ∃ as : List Int, acc = as.map V.int ∧ (∀ m ∈ as, m ∈ (addW G W d).map (·.1)) ∧
      ∀ m, m ∈ ((addW G W d).map (·.1)).take i → (m ∈ W ∨ ∃ k es, Ob.tab k es ∈ h.obs ∧ k = m) → m ∈ as) ⟨[], rfl, by simp, by simp⟩ (fun H' e => ExA.at e Rl.aG) (fun i x H5 H6 acc hi e k1 k2 hacc y => ?_) (fun H5 acc e5 k1 k2 hacc => ?_)
  · obtain ⟨rfl, k, v, hk, rfl⟩ := y
    rw [dI_len] at hi
    obtain ⟨n, hn⟩ : ∃ n, ((addW G W d).map (·.1))[i]? = some n := ⟨_, List.getElem?_eq_getElem (by rw [List.length_map]; exact hi)⟩
    have hk' : ((dI (addW G W d)).map (·.1))[i]? = some (Sum.inl n) := by rw [keysI, List.getElem?_map, hn]; rfl
    rw [List.getElem?_map, hk] at hk'
    obtain rfl : k = Sum.inl n := Option.some.inj hk'
    have hin : n ∈ (addW G W d).map (·.1) := List.mem_of_getElem? hn
    obtain ⟨as, rfl, ha, hb⟩ := hacc
    have r5 := Rl.keep e
    have zi : i ≤ 40000 := by rw [List.length_map] at zK; omega
    have yes : ∀ H7, ExA H6 H7 → ∃ acc', H7 D = some (.lst acc') ∧ acc'.length < sizeLine ∧ LcP [] H4 D (fun i acc _ => ∃ as : List Int, acc = as.map V.int ∧ (∀ m ∈ as, m ∈ (addW G W d).map (·.1)) ∧
      ∀ m, m ∈ ((addW G W d).map (·.1)).take i → (m ∈ W ∨ ∃ k es, Ob.tab k es ∈ h.obs ∧ k = m) → m ∈ as) (i + 1) (upd H7 D (.lst (acc' ++ [.int n]))) := fun H7 e7 => by
      refine LcP.yes hD (by simp) zi e k1 k2 e7 ⟨as ++ [n], by rw [List.map_append]; rfl, fun m hm => ?_, fun m hm hq => ?_⟩
      · rcases List.mem_append.mp hm with z | z
        · exact ha m z
        · have : m = n := by simpa using z
          rw [this]; exact hin
      · rcases (mem_take_snoc hn).mp hm with z | z
        · exact List.mem_append_left _ (hb m z hq)
        · rw [z]; simp
    refine ⟨rfl, _, rfl, _, rfl, nw, _, rfl, DGet.k (k := Sum.inl n) r5.aW, _, rfl, ?_⟩
    rw [key_has (dB_keys W) n]
    by_cases mW : n ∈ W
    · rw [decide_eq_true mW]
      exact iteT (iteT ⟨_, rfl, yes _ (ExM.refl _ _)⟩)
    rw [decide_eq_false mW]
    refine iteF ?_
    obtain ⟨ao, o, hg, ho, hon, hob⟩ := r5.look (hnum n hin)
    refine ⟨_, rfl, _, rfl, th, _, rfl, hg, ?_⟩
    have no : (∀ k es, Ob.tab k es ∈ h.obs → k ≠ n) → LcP [] H4 D (fun i acc _ => ∃ as : List Int, acc = as.map V.int ∧ (∀ m ∈ as, m ∈ (addW G W d).map (·.1)) ∧
      ∀ m, m ∈ ((addW G W d).map (·.1)).take i → (m ∈ W ∨ ∃ k es, Ob.tab k es ∈ h.obs ∧ k = m) → m ∈ as) (i + 1) H6 := fun nt => by
      refine LcP.no (by simp) e k1 k2 (ExM.refl _ _) ⟨as, rfl, ha, fun m hm hq => ?_⟩
      rcases (mem_take_snoc hn).mp hm with z | rfl
      · exact hb m z hq
      · rcases hq with z | ⟨k, es, h1, h2⟩
        · exact absurd z mW
        · exact absurd h2 (nt k es h1)
    cases o with
    | rcd n' fs =>
      obtain ⟨t, h1, _⟩ := hob
      exact ⟨ao, _, _, _, rfl, rfl, h1, at0, rfl, _, rfl, iteF (no fun k es h1 h2 => by cases ob_uniq ok ho h1 (hon.trans h2.symm))⟩
    | weak n' t =>
      have h1 : SqT K H6 ao [.str "weak", .int n', rV t] := hob
      exact ⟨ao, _, _, _, rfl, rfl, h1, at0, rfl, _, rfl, iteF (no fun k es h1 h2 => by cases ob_uniq ok ho h1 (hon.trans h2.symm))⟩
    | tab n' es =>
      obtain ⟨t, ps, h1, _⟩ := hob
      exact ⟨ao, _, _, _, rfl, rfl, h1, at0, rfl, _, rfl, iteT ⟨_, rfl, yes _ (ExM.refl _ _)⟩⟩
  obtain ⟨as, rfl, ha, hb⟩ := hacc
  rw [dI_len, ← List.length_map (f := fun q : Int × Int => q.1), List.take_length] at hb
  rw [dI_len] at k2
  have r5 := Rl.keep e5
  refine ⟨r5.aG, ?_⟩
  have R6 : Rw K H (upd H5 gt (.dK (dI (addW G W d)))) h ks th gn gt nw (addW G W d) W := (r5.setG (u := .dK (dI (addW G W d))) (Tk.frz r5.aG)).rw
  have hask : (upd H5 gt (.dK (dI (addW G W d)))) D = some (.lst (as.map V.int)) := by
    rw [upd_ne (ne_of_none Rl.aG hD).symm]; exact k1
  generalize upd H5 gt (.dK (dI (addW G W d))) = H6 at R6 hask ⊢
  -- what is found
  refine ⟨_, rfl, D, rfl, ⟨_, SqL.of hask⟩, fun N hN => ?_⟩
  have zN : ∀ W' : List Int, W'.Nodup → (∀ n ∈ W', n ∈ h.nums) → (dB W').length < sizeLine := fun W' n1 n2 => by
    have z1 := nd_sub n1 n2
    have z3 : h.nums.length ≤ 50 := by unfold Hd.nums; rw [List.length_map]; exact ok.size
    rw [dB_len]
    exact szl (by omega)
  have Fnd : ∀ (l : List Int) (n : Int), (∃ o ∈ h.obs, o.num ∈ l ∧ o.fol ks (· ∈ (addW G W d).map (·.1)) n) → n ∈ h.nums := fun l n ⟨o, ho, _, hf⟩ => Ob.fol_in (ok.obs o ho) hf
  refine ddM (walk_list (xs := as.map V.int)) (fun i H7 => ExA H6 H7 ∧ ∃ W' : List Int, H7 N = some (.dK (dB W')) ∧ W'.Nodup ∧ ∀ n, n ∈ W' ↔ n ∉ (addW G W d).map (·.1) ∧ ∃ o ∈ h.obs, o.num ∈ as.take i ∧ o.fol ks (· ∈ (addW G W d).map (·.1)) n)
    ⟨ExM.new hN, [], upd_same, List.nodup_nil, fun n => by simp⟩ (fun i H7 _ p => SqL.of (ExA.at p.1 hask)) (fun i x H7 H8 hi p y => ?_) (fun H7 p => ?_)
  · obtain ⟨rfl, hx⟩ := y
    obtain ⟨e7, W', hW', ndW', mW'⟩ := p
    rw [List.length_map] at hi
    obtain ⟨m, hm⟩ : ∃ m, as[i]? = some m := ⟨_, List.getElem?_eq_getElem hi⟩
    rw [List.getElem?_map, hm] at hx
    obtain rfl : V.int m = x := Option.some.inj hx
    have hmK := ha m (List.mem_of_getElem? hm)
    have R7 := R6.rk.keep e7
    obtain ⟨ao, o, hg, ho, hon, hob⟩ := R7.look (hnum m hmK)
    refine ⟨rfl, tyes ?_⟩
    refine ⟨_, rfl, _, rfl, th, _, rfl, hg, _, rfl, _, rfl, ?_⟩
    refine ⟨_, _, _, rfl, ao, o, gt, (addW G W d).map (·.1), gn, ks, rfl, rfl, rfl, hob, (ok.obs o ho).small, ⟨_, R7.aG, keysI⟩, ⟨_, R7.aN, dB_keys ks⟩, fun l H9 fl e9 hl => ?_⟩
    refine ⟨l, rfl, ⟨_, SqL.of hl⟩, ?_⟩
    have nNl : N ≠ l := ne_of_none hW' fl
    refine ddI (walk_list (xs := (ledTo o ((addW G W d).map (·.1)) ks).map V.int)) (fun j H10 => ExA H6 H10 ∧ H10 l = some (.lst ((ledTo o ((addW G W d).map (·.1)) ks).map V.int)) ∧ ∃ W2 : List Int, H10 N = some (.dK (dB W2)) ∧ W2.Nodup ∧
        ∀ n, n ∈ W2 ↔ n ∉ (addW G W d).map (·.1) ∧ ((∃ o ∈ h.obs, o.num ∈ as.take i ∧ o.fol ks (· ∈ (addW G W d).map (·.1)) n) ∨ n ∈ (ledTo o ((addW G W d).map (·.1)) ks).take j))
      ⟨ExM.trans e7 e9, hl, W', ExA.at e9 hW', ndW', fun n => by rw [mW' n]; simp⟩ (fun j H10 _ p => SqL.of p.2.1) (fun j x H10 H11 hj p y => ?_) (fun H10 p => ?_)
    · obtain ⟨rfl, hx⟩ := y
      obtain ⟨e10, hl10, W2, hW2, nd2, mW2⟩ := p
      rw [List.length_map] at hj
      obtain ⟨n, hn⟩ : ∃ n, (ledTo o ((addW G W d).map (·.1)) ks)[j]? = some n := ⟨_, List.getElem?_eq_getElem hj⟩
      rw [List.getElem?_map, hn] at hx
      obtain rfl : V.int n = x := Option.some.inj hx
      have R10 := R6.rk.keep e10
      refine ⟨rfl, _, rfl, _, rfl, gt, _, rfl, DGet.k (k := Sum.inl n) R10.aG, _, rfl, ?_⟩
      rw [key_has keysI n]
      by_cases c : n ∈ (addW G W d).map (·.1)
      · rw [decide_eq_true c]
        refine iteF ⟨e10, hl10, W2, hW2, nd2, fun k => ?_⟩
        rw [mW2 k, mem_take_snoc hn]
        constructor
        · rintro ⟨z1, z2⟩
          exact ⟨z1, z2.elim .inl fun z => .inr (.inl z)⟩
        · rintro ⟨z1, z2 | z2 | rfl⟩
          · exact ⟨z1, .inl z2⟩
          · exact ⟨z1, .inr z2⟩
          · exact absurd c z1
      · rw [decide_eq_false c]
        have nd3 : (addK W2 n).Nodup := addK_nd nd2
        have hm3 : ∀ k, k ∈ addK W2 n ↔ k ∉ (addW G W d).map (·.1) ∧ ((∃ o ∈ h.obs, o.num ∈ as.take i ∧ o.fol ks (· ∈ (addW G W d).map (·.1)) k) ∨ k ∈ (ledTo o ((addW G W d).map (·.1)) ks).take (j + 1)) := fun k => by
          rw [mem_addK, mW2 k, mem_take_snoc hn]
          constructor
          · rintro (⟨z1, z2⟩ | rfl)
            · exact ⟨z1, z2.elim .inl fun z => .inr (.inl z)⟩
            · exact ⟨c, .inr (.inr rfl)⟩
          · rintro ⟨z1, z2 | z2 | z2⟩
            · exact .inl ⟨z1, .inl z2⟩
            · exact .inl ⟨z1, .inr z2⟩
            · exact .inr z2
        have hin2 : ∀ k ∈ W2, k ∈ h.nums := fun k hk => by
          rcases ((mW2 k).mp hk).2 with z | z
          · exact Fnd _ _ z
          · exact Ob.fol_in (ok.obs o ho) (mem_ledTo.mp (List.mem_of_mem_take z))
        refine iteT ⟨_, rfl, dB W2, Sum.inl n, rfl, hW2, zN W2 nd2 hin2, ExM.put e10 (ExA.free (ExM.refl _ _) hN), ?_, addK W2 n, ?_, nd3, hm3⟩
        · rw [upd_ne nNl.symm]; exact hl10
        · rw [dB_put]; exact upd_same
    · obtain ⟨e10, hl10, W2, hW2, nd2, mW2⟩ := p
      rw [List.length_map, List.take_length] at mW2
      refine ⟨e10, W2, hW2, nd2, fun n => ?_⟩
      rw [mW2 n, mem_ledTo]
      constructor
      · rintro ⟨z1, ⟨o1, h1, h2, h3⟩ | z⟩
        · exact ⟨z1, o1, h1, (mem_take_snoc hm).mpr (.inl h2), h3⟩
        · exact ⟨z1, o, ho, (mem_take_snoc hm).mpr (.inr hon), z⟩
      · rintro ⟨z1, o1, h1, h2, h3⟩
        rcases (mem_take_snoc hm).mp h2 with z | z
        · exact ⟨z1, .inl ⟨o1, h1, z, h3⟩⟩
        · have e1 := ob_uniq ok h1 ho (z.trans hon.symm)
          rw [e1] at h3
          exact ⟨z1, .inr h3⟩
  obtain ⟨e7, W', hW', ndW', mW'⟩ := p
  rw [List.length_map, List.take_length] at mW'
  have R7 := R6.rk.keep e7
  have fN : H6 N = none := hN
  refine ⟨.int (d : Int), rfl, _, _, rfl, rfl, W', N, _, _, rfl, I.step ha hb ndW' mW', ?_⟩
  exact ⟨R7.ex, R7.fg, ExA.free R6.ex hN, R7.aT, R7.aN, R7.aG, hW', R7.n1, R7.n2, (let ⟨_, z⟩ := R6.aT; ne_of_none z.2 fN), ne_of_none R6.aN fN, ne_of_none R6.aG fN⟩
end
end Wc
namespace Wc
open PySem L2
/-! ### {x: True for x in xs} -/
def dedup (xs : List Int) : List Int := xs.foldl addK []
theorem dedup_snoc (xs : List Int) (n : Int) : dedup (xs ++ [n]) = addK (dedup xs) n := by unfold dedup; rw [List.foldl_append]; rfl
theorem mem_foldK (xs : List Int) : ∀ acc n, n ∈ xs.foldl addK acc ↔ n ∈ acc ∨ n ∈ xs := by
  induction xs with
  | nil => intro acc n; simp
  | cons x r ih => intro acc n; rw [List.foldl_cons, ih, mem_addK, List.mem_cons]; exact ⟨fun z => z.elim (fun z => z.elim .inl fun e => .inr (.inl e)) fun z => .inr (.inr z), fun z => z.elim (fun z => .inl (.inl z)) fun z => z.elim (fun e => .inl (.inr e)) .inr⟩
theorem mem_dedup {xs : List Int} {n : Int} : n ∈ dedup xs ↔ n ∈ xs := by unfold dedup; rw [mem_foldK]; simp
theorem nd_foldK (xs : List Int) : ∀ acc, acc.Nodup → (xs.foldl addK acc).Nodup := by
  induction xs with
  | nil => intro acc h; exact h
  | cons x r ih => intro acc h; exact ih _ (addK_nd h)
theorem nd_dedup (xs : List Int) : (dedup xs).Nodup := nd_foldK xs [] (by simp)
theorem dedup_self {xs : List Int} (h : xs.Nodup) : dedup xs = xs := by
  have key : ∀ (l acc : List Int), (acc ++ l).Nodup → l.foldl addK acc = acc ++ l := fun l => by
    induction l with
    | nil => intro acc _; rw [List.append_nil]; rfl
    | cons x r ih =>
      intro acc h
      have nx : x ∉ acc := fun z => (List.nodup_append.mp h).2.2 x z x List.mem_cons_self rfl
      rw [List.foldl_cons, show addK acc x = acc ++ [x] by unfold addK; rw [if_neg nx], ih _ (by rw [List.append_assoc]; exact h), List.append_assoc]; rfl
  exact key xs [] (by simpa using h)
theorem dcB {J : It} {G : Hp → Prop} {n : Nat} {zs : List V} (wk : Walk J n G (YAt zs)) (xs : List Int) (hzs : zs = xs.map V.int) (hn : n = xs.length) (hz : xs.length ≤ 40000) (st : Int → L2.St) {g : TG} {tt : TT} {tk tv : TE} {vs : List Nat} {σ : L2.St} {H : Hp} {D : Addr} {Qd : Hp → Prop}
    (hD : H D = none) (hG : ∀ H', ExA H H' → G H') (hg : ∀ x H1, ∀ R : L2.St → Hp → Prop, R (st x) H1 → g (V.int x) (wipe σ vs) H1 R) (hw : ∀ x, wipe (st x) vs = wipe σ vs) (ht : ∀ x H1, ∀ R : Bool → Hp → Prop, R true H1 → tt (st x) H1 R)
    (hk : ∀ x H1, ∀ R : VK, R (V.int x) H1 → tk (st x) H1 R) (hv : ∀ x H1, ∀ R : VK, R (V.bl true) H1 → tv (st x) H1 R) (hd : ∀ H', ExA H H' → H' D = some (.dK (dB (dedup xs))) → Qd H') :
    ∃ W : Nat → Nat → Hp → Prop, (∃ m, W 0 m (upd H D (.dK []))) ∧ ∀ i m H, W i m H →
      (J.stop i H ∧ Qd H) ∨ (J.go i H ∧ ∃ Nx : Hp → Prop, (∀ H', Nx H' → ∃ m', m' < m ∧ W (i + 1) m' H') ∧ ∀ x H', J.yld i H x H' → g x (wipe σ vs) H' fun σ2 H2 => wipe σ2 vs = wipe σ vs ∧ tt σ2 H2 fun b H3 =>
        if b = true then tk σ2 H3 fun y H4 => tv σ2 H4 fun z H5 => ∃ kvs k, y = kV k ∧ H5 D = some (.dK kvs) ∧ kvs.length < sizeLine ∧ Nx (upd H5 D (.dK (putK kvs k z))) else Nx H3) := by
  subst hzs hn
  refine dcM [] wk hD (fun i acc _ => acc = dB (dedup (xs.take i))) rfl (fun H' x => hG H' x) (fun i x H1 H2 acc hi e k1 k2 hacc y => ?_) (fun H' acc e k1 k2 hacc => ?_)
  · obtain ⟨rfl, hx⟩ := y
    obtain ⟨u, hu⟩ : ∃ u, xs[i]? = some u := ⟨_, List.getElem?_eq_getElem hi⟩
    rw [List.getElem?_map, hu] at hx
    obtain rfl : V.int u = x := Option.some.inj hx
    refine hg u _ _ ⟨hw u, ht u _ _ (iteT (hk u _ _ (hv u _ _ ?_)))⟩
    refine DcP.yes (k := Sum.inl u) hD (by simp) (by omega) e k1 k2 rfl (ExM.refl _ _) ?_
    rw [hacc, take_snoc hu, dedup_snoc, dB_put]
  · rw [List.take_length] at hacc
    exact hd H' e (by rw [k1, hacc])
end Wc
namespace Wc
open PySem L2
/-- how great a drawn heap is -/
def HB (m : Int) (h : Hd) : Prop := (h.obs.length : Int) ≤ m ∧ h.wat.length ≤ h.obs.length ∧ h.nx ≤ 3 * m + 1 ∧ h.regs.length ≤ 3
/-- rising, and these -/
def UpSet (ns : List Int) (S : Int → Prop) : Prop := ns.Pairwise (· < ·) ∧ ∀ n, n ∈ ns ↔ S n
section
variable (K : PySem.W.Frag)
def R_obtainable : V2 := fun x y H Q => ∃ (a : Addr) (h : Hd) (c : Addr) (cs : List Int), x = .ref a ∧ y = .ref c ∧ HeapAt K H a h ∧ h.Ok ∧ SqT K H c (cs.map .int) ∧ cs.length ≤ 1000 ∧
  ∀ ns, UpSet ns (Obt h cs) → NewT ns H Q
abbrev sp_obtainable : Sp := sp2 (R_obtainable K)
def R_numbers_of : V1 := fun x H Q => ∃ (a : Addr) (h : Hd), x = .ref a ∧ HeapAt K H a h ∧ h.Ok ∧ NewT h.nums H Q
abbrev sp_numbers_of : Sp := sp1 (R_numbers_of K)
def R_reachable : V1 := fun x H Q => ∃ (a : Addr) (h : Hd), x = .ref a ∧ HeapAt K H a h ∧ h.Ok ∧ ∀ ns, UpSet ns (Obt h h.nums) → NewT ns H Q
abbrev sp_reachable : Sp := sp1 (R_reachable K)
def R__law_cell : V2 := fun x y H Q => ∃ (a : Addr) (ns : List Int) (i : Int), x = .ref a ∧ y = .int i ∧ SqL K H a (ns.map .int) ∧ 0 ≤ i ∧ ∀ v : Int, Q (.int v) H
abbrev sp__law_cell : Sp := sp2 (R__law_cell K)
def R__law_digits : V3 := fun x y z H Q => ∃ (a : Addr) (ns : List Int) (i j : Int), x = .ref a ∧ y = .int i ∧ z = .int j ∧ SqL K H a (ns.map .int) ∧ 0 ≤ i ∧ i ≤ j ∧ j ≤ 1000 ∧ ∀ ds, NewL ds H Q
abbrev sp__law_digits : Sp := sp3 (R__law_digits K)
def R__law_box : V3 := fun x y z H Q => ∃ (a : Addr) (ns : List Int) (i j : Int), x = .ref a ∧ y = .int i ∧ z = .int j ∧ SqL K H a (ns.map .int) ∧ 0 ≤ i ∧ i ≤ j ∧ j ≤ 1000 ∧ ∀ b d ds H', H b = none → ExA H H' → Bx H' b d ds → Q (.ref b) H'
abbrev sp__law_box : Sp := sp3 (R__law_box K)
def R__law_draw (_ : PySem.W.Frag) : V2 := fun x y H Q => ∃ (b d : Addr) (ds : List Int) (m : Int), x = .ref b ∧ y = .int m ∧ 0 < m ∧ Bx H b d ds ∧ ∀ H' (v : Int), ExM [b] H H' → Bx H' b d ds → 0 ≤ v → v < m → Q (.int v) H'
abbrev sp__law_draw : Sp := sp2 (R__law_draw K)
def R__law_number : V2 := fun x y H Q => ∃ (b d : Addr) (ds : List Int) (a : Addr) (ns : List Int), x = .ref b ∧ y = .ref a ∧ Bx H b d ds ∧ Nm K H b a ns ∧ ∀ H' (r : Rf), ExM [b] H H' → Bx H' b d ds → Rf.ok ns r → Q (rV r) H'
abbrev sp__law_number : Sp := sp2 (R__law_number K)
def R__law_object : V3 := fun x y z H Q => ∃ (b d : Addr) (ds : List Int) (n : Int) (a : Addr) (ns : List Int), x = .ref b ∧ y = .int n ∧ z = .ref a ∧ Bx H b d ds ∧ Nm K H b a ns ∧
  ∀ H' p o, ExM [b] H H' → Bx H' b d ds → ObAt K H' p o → o.num = n → o.ok ns → Q (.ref p) H'
abbrev sp__law_object : Sp := sp3 (R__law_object K)
def R__law_heap : V2 := fun x y H Q => ∃ (b d : Addr) (ds : List Int) (m : Int), x = .ref b ∧ y = .int m ∧ 0 ≤ m ∧ m ≤ 49 ∧ Bx H b d ds ∧ ∀ H' p (h : Hd), ExM [b] H H' → Bx H' b d ds → HeapAt K H' p h → h.Ok → HB m h → Q (.ref p) H'
abbrev sp__law_heap : Sp := sp2 (R__law_heap K)
def R__law_numbers : V1 := fun x H Q => ∃ (a : Addr) (h : Hd), x = .ref a ∧ HeapAt K H a h ∧ h.Ok ∧ NewL h.nums H Q
abbrev sp__law_numbers : Sp := sp1 (R__law_numbers K)
def R__law_some : V2 := fun x y H Q => ∃ (b d : Addr) (ds : List Int) (a : Addr) (ns : List Int), x = .ref b ∧ y = .ref a ∧ Bx H b d ds ∧ (Nm K H b a ns ∨ SqT K H a (ns.map .int)) ∧ ns.length ≤ 1000 ∧
  ∀ H' p (ms : List Int), ExM [b] H H' → Bx H' b d ds → ms.Sublist ns → H' p = some (.tup (ms.map V.int)) → Q (.ref p) H'
abbrev sp__law_some : Sp := sp2 (R__law_some K)
end
section
variable {P : Program} {w : World} {K : PySem.W.Frag} {mg : Str → Option Value} {base : Heap}
theorem ok_obtainable {f : Addr} {fd : FuncData} {cd : Value} (F : Df K "obtainable" s_obtainable f fd cd) (T : Txt mg) (C_rounds : Cal P w K mg base 3 "rounds" (sp_rounds K) []) : FnOk P w K mg base CX0 4 f fd ["heap", "condemned"] (sp_obtainable K) := by
  have nd := sc_obtainable.nd
  refine F.ok sc_obtainable (fun vs H Q E h => ?_) (fun A outer s H vs Q E hr h => ?_)
  · obtain ⟨_, _, rfl, _⟩ := h; rfl
  have hu := hu_of hr
  obtain ⟨x0, x1, rfl, h⟩ := h
  refine ⟨_, (pss_one (ps_ret (pe_callTy (r := rTupS K) call_tuple_of rfl T.tuple (by decide +kernel) (pa_cons (pe_callB (call_sortedDI rfl) rfl T.sorted (by decide +kernel) (pa_cons (pe_c C_rounds hr (by first | exact Nat.le_refl _ | decide) rfl (pa_cons (pv 0) (pa_cons (pv 1) pa_nil))) pa_nil)) pa_nil)))), ?_⟩
  obtain ⟨a, h, c, cs, rfl, rfl, hA, ok, hC, hz, q⟩ := h
  refine ⟨_, rfl, _, rfl, _, _, rfl, a, h, c, cs, rfl, rfl, hA, ok, .inr hC, hz, fun p H1 G rG fp e1 hp => ?_⟩
  have zG : (G.map (·.1)).length < 64 := by
    have z1 := nd_sub rG.nd fun n hn => Obt.num ok ((rG.all n).mp hn)
    have z3 : h.nums.length ≤ 50 := by unfold Hd.nums; rw [List.length_map]; exact ok.size
    omega
  refine ⟨p, _, G.map (·.1), rfl, .inl hp, dI_keys G, zG, fun ys l hperm hle fl => ?_⟩
  refine ⟨l, _, rfl, .inl ⟨SqL.of upd_same, fun t ft => ?_⟩⟩
  have fl0 := ExA.free e1 fl
  have e2 : ExA H (upd H1 l (.lst (ys.map V.int))) := e1.put fl0
  refine q ys ⟨up_of hle ((hperm.nodup_iff).mpr rG.nd), fun n => (hperm.mem_iff).trans (rG.all n)⟩ t _ (ExA.free e2 ft) (e2.put (ExA.free e2 ft)) upd_same
theorem ok__law_cell {f : Addr} {fd : FuncData} {cd : Value} (F : Df K "_law_cell" s__law_cell f fd cd) (T : Txt mg) : FnOk P w K mg base CX0 1 f fd ["script", "k"] (sp__law_cell K) := by
  have nd := sc__law_cell.nd
  refine F.ok sc__law_cell (fun vs H Q E h => ?_) (fun A outer s H vs Q E hr h => ?_)
  · obtain ⟨_, _, rfl, _⟩ := h; rfl
  have hu := hu_of hr
  obtain ⟨x0, x1, rfl, h⟩ := h
  refine ⟨_, (pss_cons (ps_if (pt_cmpR op_lt (pv 1) (pe_callB (r := Evl.rLenS K) call_len_seq rfl T.len PySem.boot_len (pa_cons (pv 0) pa_nil)) (nomark _)) (pss_one (ps_ret (pe_ix (r := rIxL K) ix_list (pv 0) (pv 1) (fun _ _ => rfl)))) pss_nil)
    (pss_one (ps_ret pe_int))), ?_⟩
  obtain ⟨a, ns, i, rfl, rfl, hS, h0, q⟩ := h
  obtain ⟨j, rfl⟩ : ∃ j : Nat, i = (j : Int) := ⟨i.toNat, by omega⟩
  refine ⟨_, rfl, _, rfl, a, _, rfl, .inl hS, _, _, rfl, rfl, _, rfl, ite2 (fun c => ?_) (fun c => ?_)⟩
  · have c' : (j : Int) < (((ns.map V.int).length : Nat) : Int) := of_decide_eq_true c
    rw [List.length_map] at c'
    have hj : j < ns.length := by omega
    exact ⟨_, rfl, _, rfl, a, _, _, V.int ns[j], rfl, rfl, hS, atI_nat (by rw [List.getElem?_map]; simp [hj]), q _⟩
  · exact q 0
theorem ok__law_draw {f : Addr} {fd : FuncData} {cd : Value} (F : Df K "_law_draw" s__law_draw f fd cd) (T : Txt mg) : FnOk P w K mg base CX0 1 f fd ["box", "many"] (sp__law_draw K) := by
  have nd := sc__law_draw.nd
  refine F.ok sc__law_draw (fun vs H Q E h => ?_) (fun A outer s H vs Q E hr h => ?_)
  · obtain ⟨_, _, rfl, _⟩ := h; rfl
  have hu := hu_of hr
  obtain ⟨x0, x1, rfl, h⟩ := h
  refine ⟨_, (pss_cons (ps_set (i := 2) nd rfl (by first | exact Or.inl rfl | exact Or.inr rfl) (pe_ix (r := rIxL K) ix_list (pv 0) pe_int (fun _ _ => rfl)))
    (pss_cons (ps_asg (pe_op op_add (pv 2) pe_int) (pg_sub (pv 0) pe_int set_list))
    (pss_cons (ps_if (pt_cmpR op_lt (pv 2) (pe_callB (r := Evl.rLenS K) call_len_seq rfl T.len PySem.boot_len (pa_cons (pe_ix (r := rIxL K) ix_list (pv 0) pe_int (fun _ _ => rfl)) pa_nil)) (nomark _)) (pss_one (ps_ret (pe_op op_mod (pe_callTy call_int1 rfl T.int (by decide +kernel) (pa_cons (pe_ix (r := rIxL K) ix_list (pe_ix (r := rIxL K) ix_list (pv 0) pe_int (fun _ _ => rfl)) (pv 2) (fun _ _ => rfl)) pa_nil)) (pv 1)))) pss_nil)
    (pss_one (ps_ret pe_int))))), ?_⟩
  obtain ⟨b, d, ds, m, rfl, rfl, hm, hb, q⟩ := h
  obtain ⟨⟨n, e1⟩, e2, e3⟩ := id hb
  refine ⟨_, rfl, b, _, _, _, rfl, rfl, SqL.of e1, at1, ?_⟩
  refine ⟨_, rfl, _, _, rfl, rfl, _, rfl, b, _, _, 1, rfl, rfl, e1, rfl, ?_⟩
  have e4 : (upd H b (.lst ([V.ref d, V.int (n : Int)].set 1 (V.int ((n : Int) + 1))))) b = some (.lst [.ref d, .int ((n + 1 : Nat) : Int)]) := by rw [upd_same]; rfl
  have e5 : (upd H b (.lst ([V.ref d, V.int (n : Int)].set 1 (V.int ((n : Int) + 1))))) d = some (.lst (ds.map V.int)) := by rw [upd_ne e3]; exact e2
  have e6 : ExM [b] H (upd H b (.lst ([V.ref d, V.int (n : Int)].set 1 (V.int ((n : Int) + 1))))) := (ExM.refl _ _).mem (by simp)
  have hb' : Bx _ b d ds := ⟨⟨n + 1, e4⟩, e5, e3⟩
  refine ⟨_, rfl, _, rfl, b, _, _, _, rfl, rfl, SqL.of e4, at0, d, _, rfl, .inl (SqL.of e5), _, _, rfl, rfl, _, rfl, ite2 (fun c => ?_) (fun c => ?_)⟩
  · have c' : (n : Int) < (((ds.map V.int).length : Nat) : Int) := of_decide_eq_true c
    rw [List.length_map] at c'
    have hj : n < ds.length := by omega
    refine ⟨_, rfl, b, _, _, _, rfl, rfl, SqL.of e4, at0, _, rfl, d, _, _, V.int ds[n], rfl, rfl, SqL.of e5, atI_nat (by rw [List.getElem?_map]; simp [hj]), .inl ⟨_, rfl, _, rfl, _, _, rfl, rfl, hm, ?_⟩⟩
    exact q _ _ e6 hb' (Int.emod_nonneg _ (by omega)) (Int.emod_lt_of_pos _ hm)
  · exact q _ 0 e6 hb' (Int.le_refl 0) hm
theorem ok__law_number {f : Addr} {fd : FuncData} {cd : Value} (F : Df K "_law_number" s__law_number f fd cd) (T : Txt mg) (C__law_draw : Cal P w K mg base 1 "_law_draw" (sp__law_draw K) []) : FnOk P w K mg base CX0 2 f fd ["box", "numbers"] (sp__law_number K) := by
  have nd := sc__law_number.nd
  refine F.ok sc__law_number (fun vs H Q E h => ?_) (fun A outer s H vs Q E hr h => ?_)
  · obtain ⟨_, _, rfl, _⟩ := h; rfl
  have hu := hu_of hr
  obtain ⟨x0, x1, rfl, h⟩ := h
  refine ⟨_, (pss_cons (ps_if (PW.pt (pw_or (pt_cmpR op_eq (pe_callB (r := Evl.rLenS K) call_len_seq rfl T.len PySem.boot_len (pa_cons (pv 1) pa_nil)) pe_int (nomark _)) (pw_or1 (pt_cmpR op_eq (pe_c C__law_draw hr (by first | exact Nat.le_refl _ | decide) rfl (pa_cons (pv 0) (pa_cons pe_int pa_nil))) pe_int (nomark _))))) (pss_one (ps_ret pe_non)) pss_nil)
    (pss_one (ps_ret (pe_ix (r := rIxL K) ix_list (pv 1) (pe_op op_mod (pe_callTy call_int1 rfl T.int (by decide +kernel) (pa_cons (pe_c C__law_draw hr (by first | exact Nat.le_refl _ | decide) rfl (pa_cons (pv 0) (pa_cons pe_int pa_nil))) pa_nil)) (pe_callB (r := Evl.rLenS K) call_len_seq rfl T.len PySem.boot_len (pa_cons (pv 1) pa_nil))) (fun _ _ => rfl))))), ?_⟩
  obtain ⟨b, d, ds, a, ns, rfl, rfl, hb, hN, q⟩ := h
  refine ⟨_, rfl, a, _, rfl, .inl hN.1, rfl, _, rfl, ite2 (fun c => ?_) (fun c => ?_)⟩
  · exact iteT (q _ none (ExM.refl _ _) hb (fun i z => by cases z))
  have hne : 0 < ns.length := by
    rw [List.length_map] at c
    have c' : ¬ (V.int (ns.length : Int) = V.int 0) := of_decide_eq_false (Bool.eq_false_iff.mpr c)
    rcases Nat.eq_zero_or_pos ns.length with z | z
    · rw [z] at c'; exact absurd rfl c'
    · exact z
  refine ⟨_, rfl, _, _, rfl, b, d, ds, 5, rfl, rfl, by decide, hb, fun H1 v x1 b1 v0 v5 => ?_⟩
  refine ⟨rfl, _, rfl, ite2 (fun c2 => ?_) (fun c2 => ?_)⟩
  · exact q _ none x1 b1 (fun i z => by cases z)
  have N1 := hN.keep x1
  refine ⟨_, rfl, _, rfl, _, _, rfl, b, d, ds, 1000, rfl, rfl, by decide, b1, fun H2 u x2 b2 u0 u5 => ?_⟩
  have N2 := N1.keep x2
  refine .inl ⟨_, rfl, _, rfl, a, _, rfl, .inl N2.1, _, _, rfl, rfl, by rw [List.length_map]; omega, ?_⟩
  have hl : (ns.map V.int).length = ns.length := List.length_map _
  have r0 : 0 ≤ u % ((ns.map V.int).length : Int) := Int.emod_nonneg _ (by omega)
  have r1 : u % ((ns.map V.int).length : Int) < ((ns.map V.int).length : Int) := Int.emod_lt_of_pos _ (by omega)
  obtain ⟨j, hj⟩ : ∃ j : Nat, u % ((ns.map V.int).length : Int) = (j : Int) := ⟨(u % ((ns.map V.int).length : Int)).toNat, by omega⟩
  have hjl : j < ns.length := by omega
  show rIxL K (.ref a) (.int (u % (((ns.map V.int).length : Nat) : Int))) H2 _
  rw [hj]
  refine ⟨a, _, _, V.int ns[j], rfl, rfl, N2.1, atI_nat (by rw [List.getElem?_map]; simp [hjl]), ?_⟩
  exact q _ (some ns[j]) (x1.trans x2) b2 (fun i z => by cases z; exact List.getElem_mem hjl)
theorem ok__law_numbers {f : Addr} {fd : FuncData} {cd : Value} (F : Df K "_law_numbers" s__law_numbers f fd cd) (T : Txt mg) : FnOk P w K mg base CX0 1 f fd ["heap"] (sp__law_numbers K) := by
  have nd := sc__law_numbers.nd
  refine F.ok sc__law_numbers (fun vs H Q E h => ?_) (fun A outer s H vs Q E hr h => ?_)
  · obtain ⟨_, rfl, _⟩ := h; rfl
  have hu := hu_of hr
  obtain ⟨x0, rfl, h⟩ := h
  refine ⟨_, (pss_one (ps_ret (pe_lc (own := [("row", 1)]) rfl nd (show PI _ _ _ (iTup K _) from pi_tup (pe_ix (r := rIxT K) ix_tup (pv 0) pe_int (fun _ _ => rfl))) (blkOk_by (own := [("row", 1)]) (N := N__law_numbers) (sc := defScope s__law_numbers) (by decide +kernel)) (fun _ _ _ _ _ => (pg_name (i := 1) nd rfl (by first | exact Or.inl rfl | exact Or.inr rfl))) (fun _ _ _ _ _ => pts_nil) (fun _ _ _ _ _ => (pe_ix (r := rIxT K) ix_tup (pv 1) pe_int (fun _ _ => rfl)))))), ?_⟩
  obtain ⟨a, h, rfl, ⟨r, k, o, w, ws, h1, h2, h3, ⟨os, ho, hp⟩, _⟩, ok, q⟩ := h
  have hl := plen hp
  refine ⟨_, rfl, a, _, _, _, rfl, rfl, h1, at4, o, rfl, ⟨_, ho⟩, fun D hD => ?_⟩
  refine lcM [] (walk_tup (xs := os.map V.ref)) hD (fun i acc _ => acc = (h.nums.take i).map V.int) rfl (fun H' e => Tk.all e _ _ ho) (fun i x H1 H2 acc hi e h1 h2 hacc y => ?_) (fun H' acc e h1 h2 hacc => ?_)
  · obtain ⟨rfl, hx⟩ := y
    rw [List.length_map] at hi
    obtain ⟨a1, hos⟩ : ∃ a1, os[i]? = some a1 := ⟨_, List.getElem?_eq_getElem hi⟩
    rw [List.getElem?_map, hos] at hx
    obtain rfl : V.ref a1 = x := Option.some.inj hx
    obtain ⟨o1, ho1, hob⟩ := pget hp hos
    obtain ⟨kn, vn, hn⟩ := (ObAt.mono (Tk.all e) hob).num
    have hnum : h.nums[i]? = some o1.num := by unfold Hd.nums; rw [List.getElem?_map, ho1]; rfl
    have zi : i ≤ 40000 := by have := ok.size; omega
    refine ⟨rfl, tyes ⟨_, rfl, a1, _, _, _, rfl, rfl, hn, at1, LcP.yes hD (by simp) zi e h1 h2 (ExM.refl _ _) ?_⟩⟩
    rw [hacc, take_snoc hnum, List.map_append]; rfl
  · have hn : h.nums.length = os.length := by unfold Hd.nums; rw [List.length_map, hl]
    rw [List.length_map, ← hn, List.take_length] at hacc
    exact q D H' hD e (by rw [h1, hacc])
end
end Wc
namespace Wc
open PySem L2
/-- a or b, a and b, where nothing is made: by their answers -/
theorem or_join {t u : TT} {σ : L2.St} {H : Hp} {Q : Bool → Hp → Prop} (b c : Bool) (ht : ∀ Q' : Bool → Hp → Prop, Q' b H → t σ H Q') (hu : b = false → ∀ Q' : Bool → Hp → Prop, Q' c H → u σ H Q') (h : Q (b || c) H) : tOr t u σ H Q := by
  refine ht _ ?_
  cases b with
  | true => exact iteT h
  | false => exact iteF (hu rfl _ h)
theorem gN {i : Nat} {v : V} {σ : L2.St} {H : Hp} {Q : L2.St → Hp → Prop} (h : Q (σ.set i (some v)) H) : gName i v σ H Q := h
theorem and_join {t u : TT} {σ : L2.St} {H : Hp} {Q : Bool → Hp → Prop} (b c : Bool) (ht : ∀ Q' : Bool → Hp → Prop, Q' b H → t σ H Q') (hu : b = true → ∀ Q' : Bool → Hp → Prop, Q' c H → u σ H Q') (h : Q (b && c) H) : tAnd t u σ H Q := by
  refine ht _ ?_
  cases b with
  | true => exact iteT (hu rfl _ h)
  | false => exact iteF h
theorem len0 (ns : List Int) : decide (V.int (((ns.map V.int).length : Nat) : Int) = V.int 0) = decide (ns.length = 0) := by
  rw [List.length_map]
  by_cases c : ns.length = 0
  · rw [c]; rfl
  · rw [decide_eq_false c]
    exact decide_eq_false fun z => c (by have := V.int.inj z; omega)
theorem pick_ok {K : PySem.W.Frag} {H : Hp} {a : Addr} {ns : List Int} (hS : SqL K H a (ns.map V.int)) (hne : 0 < ns.length) (u : Int) {Q : VK} (q : ∀ i, i ∈ ns → Q (.int i) H) :
    rIxL K (.ref a) (.int (u % (((ns.map V.int).length : Nat) : Int))) H Q := by
  have hl : (ns.map V.int).length = ns.length := List.length_map _
  have r0 : 0 ≤ u % ((ns.map V.int).length : Int) := Int.emod_nonneg _ (by omega)
  have r1 : u % ((ns.map V.int).length : Int) < ((ns.map V.int).length : Int) := Int.emod_lt_of_pos _ (by omega)
  obtain ⟨j, hj⟩ : ∃ j : Nat, u % ((ns.map V.int).length : Int) = (j : Int) := ⟨(u % ((ns.map V.int).length : Int)).toNat, by omega⟩
  have hjl : j < ns.length := by omega
  rw [hj]
  exact ⟨a, _, _, V.int ns[j], rfl, rfl, hS, atI_nat (by rw [List.getElem?_map]; simp [hjl]), q _ (List.getElem_mem hjl)⟩
section
variable {P : Program} {w : World} {K : PySem.W.Frag} {mg : Str → Option Value} {base : Heap}
theorem ok__law_digits {f : Addr} {fd : FuncData} {cd : Value} (F : Df K "_law_digits" s__law_digits f fd cd) (T : Txt mg) (C__law_cell : Cal P w K mg base 1 "_law_cell" (sp__law_cell K) []) : FnOk P w K mg base CX0 2 f fd ["script", "first", "last"] (sp__law_digits K) := by
  have nd := sc__law_digits.nd
  refine F.ok sc__law_digits (fun vs H Q E h => ?_) (fun A outer s H vs Q E hr h => ?_)
  · obtain ⟨_, _, _, rfl, _⟩ := h; rfl
  have hu := hu_of hr
  obtain ⟨x0, x1, x2, rfl, h⟩ := h
  refine ⟨_, (pss_cons (ps_set (i := 3) nd rfl (by first | exact Or.inl rfl | exact Or.inr rfl) (pe_lst pa_nil))
    (pss_cons (ps_for PassesOwn.never rfl (pi_range2 rfl T.range (pa_cons (pv 1) (pa_cons (pv 2) pa_nil))) (pg_name (i := 4) nd rfl (by first | exact Or.inl rfl | exact Or.inr rfl))
    (pss_cons (ps_set (i := 5) nd rfl (by first | exact Or.inl rfl | exact Or.inr rfl) (pe_c C__law_cell hr (by first | exact Nat.le_refl _ | decide) rfl (pa_cons (pv 0) (pa_cons (pv 4) pa_nil))))
    (Evl.pss_cut (ps_if (pt_cmpR op_lt (pv 5) pe_int (nomark _)) (pss_one (ps_set (i := 5) nd rfl (by first | exact Or.inl rfl | exact Or.inr rfl) (pe_op op_sub pe_int (pe_op op_mul pe_int (pv 5))))) pss_nil)
    (pss_one (ps_if (pt_cmpR op_ge (pv 5) (pe_op op_pow pe_int pe_int) (nomark _)) (pss_one (ps_for PassesOwn.never rfl (pi_range1 rfl T.range (pa_cons pe_int pa_nil)) (pg_name (i := 6) nd rfl (by first | exact Or.inl rfl | exact Or.inr rfl))
    (pss_one (ps_if (pt_cmpR op_gt (pv 5) pe_int (nomark _)) (pss_cons (ps_expr (pe_bm PySem.F.plainAttrs_list PySem.F.slot_list_append PySem.F.type_list_append mt_append (pv 3) (pa_cons (pe_op op_mod (pe_callTy call_int1 rfl T.int (by decide +kernel) (pa_cons (pv 5) pa_nil)) pe_int) pa_nil)))
    (pss_one (ps_set (i := 5) nd rfl (by first | exact Or.inl rfl | exact Or.inr rfl) (pe_op op_fdiv (pv 5) pe_int)))) pss_nil)))) (pss_cons (ps_set (i := 7) nd rfl (by first | exact Or.inl rfl | exact Or.inr rfl) (pe_op op_mod (pe_callTy call_int1 rfl T.int (by decide +kernel) (pa_cons (pe_op op_add (pe_op op_add (pe_op op_mul (pv 5) pe_int) (pe_op op_mul (pv 4) pe_int)) pe_int) pa_nil)) pe_int))
    (pss_one (ps_for PassesOwn.never rfl (pi_range1 rfl T.range (pa_cons pe_int pa_nil)) (pg_name (i := 6) nd rfl (by first | exact Or.inl rfl | exact Or.inr rfl))
    (pss_cons (ps_set (i := 7) nd rfl (by first | exact Or.inl rfl | exact Or.inr rfl) (pe_op op_mod (pe_callTy call_int1 rfl T.int (by decide +kernel) (pa_cons (pe_op op_add (pe_op op_add (pe_op op_mul (pv 7) pe_int) (pe_op op_mul pe_int (pv 6))) pe_int) pa_nil)) pe_int))
    (pss_one (ps_expr (pe_bm PySem.F.plainAttrs_list PySem.F.slot_list_append PySem.F.type_list_append mt_append (pv 3) (pa_cons (pe_op op_mod (pe_callTy call_int1 rfl T.int (by decide +kernel) (pa_cons (pe_op op_fdiv (pv 7) pe_int) pa_nil)) pe_int) pa_nil)))))))))))))
    (pss_one (ps_ret (pv 3))))), ?_⟩
  obtain ⟨a, ns, i, j, rfl, rfl, rfl, hS, hi0, hij, hj, q⟩ := h
  refine ⟨Nat.zero_le _, fun l fl => ?_⟩
  refine ⟨_, rfl, _, rfl, i, j, rfl, ⟨by omega, by omega, by omega, by omega⟩, ?_⟩
  refine for_range (lo := i) (n := (j - i).toNat) (fun t σ2 H2 => ∃ u4 u5 u6 u7, σ2 = [some (.ref a), some (.int i), some (.int j), some (.ref l), u4, u5, u6, u7] ∧ ExA H H2 ∧ ∃ ds : List Int, H2 l = some (.lst (ds.map V.int)) ∧ ds.length ≤ 60 * t)
    ⟨none, none, none, none, rfl, ExM.new fl, [], upd_same, Nat.le_refl _⟩ (fun t σ2 H2 ht p => ?_) (fun σ2 H2 p => ?_)
  · obtain ⟨u4, u5, u6, u7, rfl, e2, ds, hl, hz⟩ := p
    refine ⟨_, rfl, _, rfl, _, _, rfl, a, ns, _, rfl, rfl, SqL.all e2 hS, by omega, fun v => ?_⟩
    refine ⟨fun σ3 H3 => ∃ c : Int, 0 ≤ c ∧ H3 = H2 ∧ σ3 = [some (.ref a), some (.int i), some (.int j), some (.ref l), some (.int (i + (t : Int))), some (.int c), u6, u7], ?_, ?_⟩
    · refine ⟨_, rfl, _, _, rfl, rfl, _, rfl, ite2 (fun c => ?_) (fun c => ?_)⟩
      · have c' : v < 0 := of_decide_eq_true c
        exact ⟨_, rfl, 2, v, rfl, rfl, .inl ⟨by decide, by decide⟩, 1, _, rfl, rfl, 1 - 2 * v, by omega, rfl, rfl⟩
      · have c' : ¬ v < 0 := of_decide_eq_false (Bool.eq_false_iff.mpr c)
        exact ⟨v, by omega, rfl, rfl⟩
    rintro σ3 H3 ⟨c, c0, rfl, rfl⟩
    have zt : t ≤ 1000 := by omega
    refine ⟨_, rfl, 10, 18, rfl, rfl, ⟨by decide, by decide, by decide⟩, _, _, rfl, rfl, _, rfl, ite2 (fun _ => ?_) (fun _ => ?_)⟩
    · refine ⟨60, rfl, by decide, by decide, ?_⟩
      refine for_range (lo := 0) (n := 60) (fun r σ4 H4 => ∃ (c : Int) (u6 : Option V), σ4 = [some (.ref a), some (.int i), some (.int j), some (.ref l), some (.int (i + (t : Int))), some (.int c), u6, u7] ∧ ExA H H4 ∧ ∃ ds : List Int, H4 l = some (.lst (ds.map V.int)) ∧ ds.length ≤ 60 * t + r)
        ⟨c, u6, rfl, e2, ds, hl, hz⟩ (fun r σ4 H4 hr p => ?_) (fun σ4 H4 p => ?_)
      · obtain ⟨c, u6, rfl, e4, ds, hl, hz⟩ := p
        refine ⟨_, rfl, _, _, rfl, rfl, _, rfl, ite2 (fun _ => ?_) (fun _ => ?_)⟩
        · refine ⟨_, rfl, .inl ⟨rfl, _, SqL.of hl⟩, _, rfl, .inl ⟨_, rfl, _, _, rfl, rfl, (by show (0 : Int) < 1000; decide), l, _, _, rfl, rfl, hl, szl (by rw [List.length_map]; omega), ?_⟩⟩
          refine ⟨_, rfl, _, _, rfl, rfl, ⟨by decide, by decide⟩, _, _, rfl, e4.put fl, ds ++ [c % 1000], ?_, by rw [List.length_append, List.length_singleton]; omega⟩
          rw [upd_same, List.map_append]; rfl
        · exact ⟨c, _, rfl, e4, ds, hl, by omega⟩
      · obtain ⟨c, u6, rfl, e4, ds, hl, hz⟩ := p
        exact ⟨_, _, _, _, rfl, e4, ds, hl, by omega⟩
    · refine ⟨_, rfl, _, _, rfl, rfl, .inr ⟨by decide, by decide⟩, _, rfl, _, _, rfl, rfl, .inr ⟨by decide, by decide⟩, _, _, rfl, rfl, _, _, rfl, rfl, .inl ⟨_, rfl, _, _, rfl, rfl, (by show (0 : Int) < 2147483647; decide), ?_⟩⟩
      refine ⟨12, rfl, by decide, by decide, ?_⟩
      refine for_range (lo := 0) (n := 12) (fun r σ4 H4 => ∃ (e : Int) (u6 : Option V), σ4 = [some (.ref a), some (.int i), some (.int j), some (.ref l), some (.int (i + (t : Int))), some (.int c), u6, some (.int e)] ∧ ExA H H4 ∧ ∃ ds : List Int, H4 l = some (.lst (ds.map V.int)) ∧ ds.length ≤ 60 * t + r)
        ⟨_, u6, rfl, e2, ds, hl, hz⟩ (fun r σ4 H4 hr p => ?_) (fun σ4 H4 p => ?_)
      · obtain ⟨e, u6, rfl, e4, ds, hl, hz⟩ := p
        refine ⟨_, rfl, _, _, rfl, rfl, .inr ⟨by decide, by decide⟩, _, rfl, _, _, rfl, rfl, .inl ⟨by decide, by decide⟩, _, _, rfl, rfl, _, _, rfl, rfl, .inl ⟨_, rfl, _, _, rfl, rfl, (by show (0 : Int) < 2147483647; decide), ?_⟩⟩
        refine ⟨_, rfl, .inl ⟨rfl, _, SqL.of hl⟩, _, rfl, _, _, rfl, rfl, ⟨by decide, by decide⟩, .inl ⟨_, rfl, _, _, rfl, rfl, (by show (0 : Int) < 1000; decide), l, _, _, rfl, rfl, hl, szl (by rw [List.length_map]; omega), ?_⟩⟩
        refine ⟨(e * 16807 + 7 * (0 + (r : Int)) + 1) % 2147483647, _, rfl, e4.put fl, ds ++ [(e * 16807 + 7 * (0 + (r : Int)) + 1) % 2147483647 / 997 % 1000], ?_, by rw [List.length_append, List.length_singleton]; omega⟩
        rw [upd_same, List.map_append]; rfl
      · obtain ⟨e, u6, rfl, e4, ds, hl, hz⟩ := p
        exact ⟨_, _, _, _, rfl, e4, ds, hl, by omega⟩
  · obtain ⟨u4, u5, u6, u7, rfl, e2, ds, hl, hz⟩ := p
    exact ⟨_, rfl, q ds l H2 fl e2 hl⟩
theorem ok__law_box {f : Addr} {fd : FuncData} {cd : Value} (F : Df K "_law_box" s__law_box f fd cd) (T : Txt mg) (C__law_digits : Cal P w K mg base 2 "_law_digits" (sp__law_digits K) []) : FnOk P w K mg base CX0 3 f fd ["script", "first", "last"] (sp__law_box K) := by
  have nd := sc__law_box.nd
  refine F.ok sc__law_box (fun vs H Q E h => ?_) (fun A outer s H vs Q E hr h => ?_)
  · obtain ⟨_, _, _, rfl, _⟩ := h; rfl
  have hu := hu_of hr
  obtain ⟨x0, x1, x2, rfl, h⟩ := h
  refine ⟨_, (pss_one (ps_ret (pe_lst (pa_cons (pe_c C__law_digits hr (by first | exact Nat.le_refl _ | decide) rfl (pa_cons (pv 0) (pa_cons (pv 1) (pa_cons (pv 2) pa_nil)))) (pa_cons pe_int pa_nil))))), ?_⟩
  obtain ⟨a, ns, i, j, rfl, rfl, rfl, hS, hi0, hij, hj, q⟩ := h
  refine ⟨_, rfl, _, rfl, _, rfl, _, _, _, rfl, a, ns, i, j, rfl, rfl, rfl, hS, hi0, hij, hj, fun ds p H1 fp e1 hp => ?_⟩
  refine ⟨sz (by show 2 ≤ 100000; decide), fun b fb => q b p ds _ (ExA.free e1 fb) (e1.put (ExA.free e1 fb)) ⟨⟨0, upd_same⟩, ?_, ne_of_none hp fb⟩⟩
  rw [upd_ne (ne_of_none hp fb)]; exact hp
theorem ok__law_some {f : Addr} {fd : FuncData} {cd : Value} (F : Df K "_law_some" s__law_some f fd cd) (T : Txt mg) (C__law_draw : Cal P w K mg base 1 "_law_draw" (sp__law_draw K) []) : FnOk P w K mg base CX0 2 f fd ["box", "numbers"] (sp__law_some K) := by
  have nd := sc__law_some.nd
  refine F.ok sc__law_some (fun vs H Q E h => ?_) (fun A outer s H vs Q E hr h => ?_)
  · obtain ⟨_, _, rfl, _⟩ := h; rfl
  have hu := hu_of hr
  obtain ⟨x0, x1, rfl, h⟩ := h
  refine ⟨_, (pss_one (ps_ret (pe_callTy (r := rTupS K) call_tuple_of rfl T.tuple (by decide +kernel) (pa_cons (pe_lc (own := [("number", 2)]) rfl nd (show PI _ _ _ (iSeq K _) from pi_seq (pv 1)) (blkOk_by (own := [("number", 2)]) (N := N__law_some) (sc := defScope s__law_some) (by decide +kernel)) (fun _ _ _ _ _ => (pg_name (i := 2) nd rfl (by first | exact Or.inl rfl | exact Or.inr rfl))) (fun _ _ _ _ _ => (pts_one (pt_cmpR op_eq (pe_c C__law_draw hr (by first | exact Nat.le_refl _ | decide) rfl (pa_cons (pv 0) (pa_cons pe_int pa_nil))) pe_int (nomark _)))) (fun _ _ _ _ _ => (pv 2))) pa_nil)))), ?_⟩
  obtain ⟨b, d, ds, a, ns, rfl, rfl, hb, hN, hz, q⟩ := h
  rcases hN with hN | hN
  · refine .inl ⟨_, rfl, a, rfl, ⟨_, hN.1⟩, fun D hD => ?_⟩
    have nD := hb.ne hD
    refine lcM [b] (walk_list (xs := ns.map V.int)) hD (fun i acc H' => Bx H' b d ds ∧ ∃ ms : List Int, acc = ms.map V.int ∧ ms.Sublist (ns.take i)) ⟨hb.new hD, [], rfl, by simp⟩ (fun H' e => (hN.keep e).1) (fun i x H1 H2 acc hi e h1 h2 hacc y => ?_) (fun H' acc e h1 h2 hacc => ?_)
    · obtain ⟨rfl, hx⟩ := y
      rw [List.length_map] at hi
      obtain ⟨n, hn⟩ : ∃ n, ns[i]? = some n := ⟨_, List.getElem?_eq_getElem hi⟩
      rw [List.getElem?_map, hn] at hx
      obtain rfl : V.int n = x := Option.some.inj hx
      obtain ⟨b1, ms, rfl, hms⟩ := hacc
      refine ⟨rfl, _, rfl, _, _, rfl, b, d, ds, 2, rfl, rfl, by decide, b1, fun H5 v x5 b5 v0 v2 => ⟨rfl, _, rfl, ite2 (fun _ => ?_) (fun _ => ?_)⟩⟩
      · refine ⟨_, rfl, LcP.yes hD nD (by omega) e h1 h2 x5 ⟨b5.put hb hD, ms ++ [n], by rw [List.map_append]; rfl, ?_⟩⟩
        rw [take_snoc hn]; exact hms.append (List.Sublist.refl _)
      · refine LcP.no nD e h1 h2 x5 ⟨b5, ms, rfl, ?_⟩
        rw [take_snoc hn]; exact hms.trans (List.sublist_append_left _ _)
    · obtain ⟨b1, ms, rfl, hms⟩ := hacc
      rw [List.length_map, List.take_length] at hms
      exact ⟨D, _, rfl, .inl ⟨SqL.of h1, fun t ft => q _ t ms (e.trans (ExM.new ft)) (b1.new ft) hms upd_same⟩⟩
  · refine .inr ⟨_, rfl, a, rfl, ⟨_, hN⟩, fun D hD => ?_⟩
    have nD := hb.ne hD
    refine lcM [b] (walk_tup (xs := ns.map V.int)) hD (fun i acc H' => Bx H' b d ds ∧ ∃ ms : List Int, acc = ms.map V.int ∧ ms.Sublist (ns.take i)) ⟨hb.new hD, [], rfl, by simp⟩ (fun H' e => hb.tk e _ _ hN) (fun i x H1 H2 acc hi e h1 h2 hacc y => ?_) (fun H' acc e h1 h2 hacc => ?_)
    · obtain ⟨rfl, hx⟩ := y
      rw [List.length_map] at hi
      obtain ⟨n, hn⟩ : ∃ n, ns[i]? = some n := ⟨_, List.getElem?_eq_getElem hi⟩
      rw [List.getElem?_map, hn] at hx
      obtain rfl : V.int n = x := Option.some.inj hx
      obtain ⟨b1, ms, rfl, hms⟩ := hacc
      refine ⟨rfl, _, rfl, _, _, rfl, b, d, ds, 2, rfl, rfl, by decide, b1, fun H5 v x5 b5 v0 v2 => ⟨rfl, _, rfl, ite2 (fun _ => ?_) (fun _ => ?_)⟩⟩
      · refine ⟨_, rfl, LcP.yes hD nD (by omega) e h1 h2 x5 ⟨b5.put hb hD, ms ++ [n], by rw [List.map_append]; rfl, ?_⟩⟩
        rw [take_snoc hn]; exact hms.append (List.Sublist.refl _)
      · refine LcP.no nD e h1 h2 x5 ⟨b5, ms, rfl, ?_⟩
        rw [take_snoc hn]; exact hms.trans (List.sublist_append_left _ _)
    · obtain ⟨b1, ms, rfl, hms⟩ := hacc
      rw [List.length_map, List.take_length] at hms
      exact ⟨D, _, rfl, .inl ⟨SqL.of h1, fun t ft => q _ t ms (e.trans (ExM.new ft)) (b1.new ft) hms upd_same⟩⟩
theorem ok__law_object {f : Addr} {fd : FuncData} {cd : Value} (F : Df K "_law_object" s__law_object f fd cd) (T : Txt mg) (C__law_draw : Cal P w K mg base 1 "_law_draw" (sp__law_draw K) []) (C__law_number : Cal P w K mg base 2 "_law_number" (sp__law_number K) []) : FnOk P w K mg base CX0 3 f fd ["box", "number", "numbers"] (sp__law_object K) := by
  have nd := sc__law_object.nd
  refine F.ok sc__law_object (fun vs H Q E h => ?_) (fun A outer s H vs Q E hr h => ?_)
  · obtain ⟨_, _, _, rfl, _⟩ := h; rfl
  have hu := hu_of hr
  obtain ⟨x0, x1, x2, rfl, h⟩ := h
  refine ⟨_, (pss_cons (ps_set (i := 3) nd rfl (by first | exact Or.inl rfl | exact Or.inr rfl) (pe_c C__law_draw hr (by first | exact Nat.le_refl _ | decide) rfl (pa_cons (pv 0) (pa_cons pe_int pa_nil))))
    (pss_cons (ps_if (PW.pt (pw_or (pt_cmpR op_lt (pv 3) pe_int (nomark _)) (pw_or1 (PW.pt (pw_and (pt_cmpR op_gt (pv 3) pe_int (nomark _)) (pw_and1 (pt_cmpR op_eq (pe_callB (r := Evl.rLenS K) call_len_seq rfl T.len PySem.boot_len (pa_cons (pv 2) pa_nil)) pe_int (nomark _)))))))) (pss_one (ps_ret (pe_tup (pa_cons pe_str (pa_cons (pv 1) (pa_cons (pe_callTy (r := rTupZ K) call_tupleZ rfl T.tuple (by decide +kernel) (pa_cons (pe_lc (own := [("k", 4)]) rfl nd (pi_range1 rfl T.range (pa_cons (pe_c C__law_draw hr (by first | exact Nat.le_refl _ | decide) rfl (pa_cons (pv 0) (pa_cons pe_int pa_nil))) pa_nil)) (blkOk_by (own := [("k", 4)]) (N := N__law_object) (sc := defScope s__law_object) (by decide +kernel)) (fun _ _ _ _ _ => (pg_name (i := 4) nd rfl (by first | exact Or.inl rfl | exact Or.inr rfl))) (fun _ _ _ _ _ => pts_nil) (fun _ _ _ _ _ => (pe_c C__law_number hr (by first | exact Nat.le_refl _ | decide) rfl (pa_cons (pv 0) (pa_cons (pv 2) pa_nil))))) pa_nil)) pa_nil)))))) pss_nil)
    (pss_cons (ps_if (pt_cmpR op_lt (pv 3) pe_int (nomark _)) (pss_one (ps_ret (pe_tup (pa_cons pe_str (pa_cons (pv 1) (pa_cons (pe_c C__law_number hr (by first | exact Nat.le_refl _ | decide) rfl (pa_cons (pv 0) (pa_cons (pv 2) pa_nil))) pa_nil)))))) pss_nil)
    (pss_cons (ps_set (i := 5) nd rfl (by first | exact Or.inl rfl | exact Or.inr rfl) (pe_lst pa_nil))
    (pss_cons (ps_for PassesOwn.never rfl (pi_range1 rfl T.range (pa_cons (pe_c C__law_draw hr (by first | exact Nat.le_refl _ | decide) rfl (pa_cons (pv 0) (pa_cons pe_int pa_nil))) pa_nil)) (pg_name (i := 4) nd rfl (by first | exact Or.inl rfl | exact Or.inr rfl))
    (pss_cons (ps_set (i := 6) nd rfl (by first | exact Or.inl rfl | exact Or.inr rfl) (pe_ix (r := rIxL K) ix_list (pv 2) (pe_op op_mod (pe_callTy call_int1 rfl T.int (by decide +kernel) (pa_cons (pe_c C__law_draw hr (by first | exact Nat.le_refl _ | decide) rfl (pa_cons (pv 0) (pa_cons pe_int pa_nil))) pa_nil)) (pe_callB (r := Evl.rLenS K) call_len_seq rfl T.len PySem.boot_len (pa_cons (pv 2) pa_nil))) (fun _ _ => rfl)))
    (pss_cons (ps_set (i := 7) nd rfl (by first | exact Or.inl rfl | exact Or.inr rfl) (pe_ix (r := rIxL K) ix_list (pv 2) (pe_op op_mod (pe_callTy call_int1 rfl T.int (by decide +kernel) (pa_cons (pe_c C__law_draw hr (by first | exact Nat.le_refl _ | decide) rfl (pa_cons (pv 0) (pa_cons pe_int pa_nil))) pa_nil)) (pe_callB (r := Evl.rLenS K) call_len_seq rfl T.len PySem.boot_len (pa_cons (pv 2) pa_nil))) (fun _ _ => rfl)))
    (pss_one (ps_if (pt_cmpR (r := rIn K true) op_notIn_seq (pv 6) (pe_lc (own := [("entry", 8)]) rfl nd (show PI _ _ _ (iList K _) from pi_list (pv 5)) (blkOk_by (own := [("entry", 8)]) (N := N__law_object) (sc := defScope s__law_object) (by decide +kernel)) (fun _ _ _ _ _ => (pg_name (i := 8) nd rfl (by first | exact Or.inl rfl | exact Or.inr rfl))) (fun _ _ _ _ _ => pts_nil) (fun _ _ _ _ _ => (pe_ix (r := rIxT K) ix_tup (pv 8) pe_int (fun _ _ => rfl)))) (by first | exact nomark _ | rfl)) (pss_one (ps_expr (pe_bm PySem.F.plainAttrs_list PySem.F.slot_list_append PySem.F.type_list_append mt_append (pv 5) (pa_cons (pe_tup (pa_cons (pv 6) (pa_cons (pv 7) pa_nil))) pa_nil)))) pss_nil)))))
    (pss_one (ps_ret (pe_tup (pa_cons pe_str (pa_cons (pv 1) (pa_cons (pe_callTy (r := rTupZ K) call_tupleZ rfl T.tuple (by decide +kernel) (pa_cons (pv 5) pa_nil)) pa_nil))))))))))), ?_⟩
  obtain ⟨b, d, ds, n, a, ns, rfl, rfl, rfl, hb, hN, q⟩ := h
  refine ⟨_, rfl, _, _, rfl, b, d, ds, 7, rfl, rfl, by decide, hb, fun H1 v x1 b1 v0 v7 => ?_⟩
  have N1 := hN.keep x1
  refine gN ?_
  dsimp only
  show tSeq (tIfS (tOr _ _) _ _) _ _ _ _
  refine or_join (decide (v < 3)) (decide (v > 4) && decide (ns.length = 0)) (fun Q' z => ⟨_, rfl, _, _, rfl, rfl, _, rfl, z⟩) (fun _ Q' z => and_join (decide (v > 4)) (decide (ns.length = 0)) (fun Q' z => ⟨_, rfl, _, _, rfl, rfl, _, rfl, z⟩)
    (fun _ Q' z => ⟨_, rfl, a, _, rfl, .inl N1.1, rfl, _, rfl, by rw [len0]; exact z⟩) z) ?_
  refine ite2 (fun c1 => ?_) (fun c1 => ?_)
  · -- a record
    refine ⟨_, rfl, _, rfl, _, _, rfl, b, d, ds, 4, rfl, rfl, by decide, b1, fun H2 k x2 b2 k0 k4 => ?_⟩
    have N2 := N1.keep x2
    refine ⟨k, rfl, by omega, by omega, fun D hD => ?_⟩
    have nD := b2.ne hD
    refine lcM [b] (walk_range (lo := 0) (n := k.toNat)) hD (fun i acc H' => Bx H' b d ds ∧ ∃ rs : List Rf, acc = rs.map rV ∧ ∀ r ∈ rs, Rf.ok ns r) ⟨b2.new hD, [], rfl, by simp⟩ (fun _ _ => trivial) (fun i x H3 H4 acc hi e h1 h2 hacc y => ?_) (fun H3 acc e h1 h2 hacc => ?_)
    · obtain ⟨rfl, rfl⟩ := y
      obtain ⟨b3, rs, rfl, hrs⟩ := hacc
      refine ⟨rfl, tyes ⟨_, rfl, _, rfl, _, _, rfl, b, d, ds, a, ns, rfl, rfl, b3, N2.keep e, fun H5 r x5 b5 hr => ?_⟩⟩
      refine LcP.yes hD nD (by omega) e h1 h2 x5 ⟨b5.put b2 hD, rs ++ [r], by rw [List.map_append]; rfl, fun r' hr' => ?_⟩
      rcases List.mem_append.mp hr' with z | z
      · exact hrs r' z
      · have : r' = r := by simpa using z
        rw [this]; exact hr
    · obtain ⟨b3, rs, rfl, hrs⟩ := hacc
      refine ⟨D, _, rfl, SqL.of h1, fun t zt ft nt => ⟨sz (by show 3 ≤ 100000; decide), fun p fp => ?_⟩⟩
      have np : p ≠ t := fun z => by rw [z, upd_same] at fp; cases fp
      have x3 : ExM [b] H (upd (upd H3 t (.frz zt (.tup (rs.map rV)))) p (.tup [.str "record", .int n, .ref t])) := ((x1.trans x2).trans e).trans ((ExM.new ft).trans (ExM.new fp))
      refine q _ p (.rcd n rs) x3 ((b3.new ft).new fp) ⟨t, SqT.of upd_same, SqZ.of nt (by rw [upd_ne np.symm]; exact upd_same)⟩ rfl ⟨?_, hrs⟩
      rw [List.length_map] at h2
      omega
  have c1' : ¬ v < 3 ∧ (v > 4 → ns.length ≠ 0) := by
    have c2 := Bool.eq_false_iff.mpr c1
    rw [Bool.or_eq_false_iff] at c2
    refine ⟨of_decide_eq_false c2.1, fun hv z => ?_⟩
    have := c2.2
    rw [decide_eq_true hv, decide_eq_true z] at this
    cases this
  refine ⟨_, rfl, _, _, rfl, rfl, _, rfl, ite2 (fun c2 => ?_) (fun c2 => ?_)⟩
  · -- a weak reference
    refine ⟨_, rfl, _, rfl, _, rfl, _, _, rfl, b, d, ds, a, ns, rfl, rfl, b1, N1, fun H2 r x2 b2 hr => ?_⟩
    refine ⟨sz (by show 3 ≤ 100000; decide), fun p fp => ?_⟩
    exact q _ p (.weak n r) ((x1.trans x2).trans (ExM.new fp)) (b2.new fp) (SqT.of upd_same) rfl hr
  -- a table
  have c2' : ¬ v < 5 := of_decide_eq_false (Bool.eq_false_iff.mpr c2)
  have hne : 0 < ns.length := by have := c1'.2 (by omega); omega
  refine ⟨Nat.zero_le _, fun l fl => ?_⟩
  have nl : l ∉ [b] := b1.ne fl
  refine ⟨_, rfl, _, _, rfl, b, d, ds, 4, rfl, rfl, by decide, b1.new fl, fun H2 k x2 b2 k0 k4 => ?_⟩
  have hl2 : H2 l = some (.lst []) := x2 l _ nl upd_same
  have e2 : ExM [b] H1 H2 := (ExM.new fl).trans x2
  refine ⟨k, rfl, by omega, by omega, ?_⟩
  refine for_range (lo := 0) (n := k.toNat) (fun t σ3 H3 => ∃ u4 u6 u7, σ3 = [some (.ref b), some (.int n), some (.ref a), some (.int v), u4, some (.ref l), u6, u7, none] ∧ ExM [b] H1 H3 ∧ Bx H3 b d ds ∧
      ∃ (rs : List Addr) (es : List (Int × Int)), H3 l = some (.lst (rs.map V.ref)) ∧ Paired (PairAt K H3) rs es ∧ es.length ≤ t ∧ (es.map (·.1)).Nodup ∧ ∀ e ∈ es, e.1 ∈ ns ∧ e.2 ∈ ns)
    ⟨none, none, none, rfl, e2, b2, [], [], hl2, .nil, Nat.le_refl _, List.nodup_nil, by simp⟩ (fun t σ3 H3 ht p => ?_) (fun σ3 H3 p => ?_)
  · obtain ⟨u4, u6, u7, rfl, e3, b3, rs, es, hl, hp, hz, hnd, hin⟩ := p
    have N3 := N1.keep e3
    refine ⟨_, rfl, _, rfl, _, _, rfl, b, d, ds, 1000, rfl, rfl, by decide, b3, fun H4 u x4 b4 u0 u1 => .inl ⟨_, rfl, ?_⟩⟩
    have N4 := N3.keep x4
    refine ⟨_, rfl, a, _, rfl, .inl N4.1, _, _, rfl, rfl, by rw [List.length_map]; omega, pick_ok N4.1 hne u fun key hkey => ?_⟩
    refine ⟨_, rfl, _, rfl, _, _, rfl, b, d, ds, 1000, rfl, rfl, by decide, b4, fun H5 u' x5 b5 u0' u1' => .inl ⟨_, rfl, ?_⟩⟩
    have N5 := N4.keep x5
    refine ⟨_, rfl, a, _, rfl, .inl N5.1, _, _, rfl, rfl, by rw [List.length_map]; omega, pick_ok N5.1 hne u' fun val hval => ?_⟩
    have x35 := x4.trans x5
    have hl5 : H5 l = some (.lst (rs.map V.ref)) := x35 l _ nl hl
    have hp5 : Paired (PairAt K H5) rs es := pmp hp fun _ _ z => PairAt.mono (b3.tk x35) z
    have e5 : ExM [b] H1 H5 := e3.trans x35
    have hlen := plen hp
    refine ⟨_, rfl, _, rfl, l, rfl, ⟨_, SqL.of hl5⟩, fun D hD => ?_⟩
    refine lcM [] (walk_list (xs := rs.map V.ref)) hD (fun i acc _ => acc = ((es.take i).map (·.1)).map V.int) rfl (fun H' e => SqL.of (ExA.at e hl5)) (fun i x H6 H7 acc hi e h1 h2 hacc y => ?_) (fun H6 acc e h1 h2 hacc => ?_)
    · obtain ⟨rfl, hx⟩ := y
      rw [List.length_map] at hi
      obtain ⟨r1, hr⟩ : ∃ r1, rs[i]? = some r1 := ⟨_, List.getElem?_eq_getElem hi⟩
      rw [List.getElem?_map, hr] at hx
      obtain rfl : V.ref r1 = x := Option.some.inj hx
      obtain ⟨e1, he1, hpa⟩ := pget hp5 hr
      refine ⟨rfl, tyes ⟨_, rfl, r1, _, _, _, rfl, rfl, Tk.all e _ _ hpa, at0, LcP.yes hD (by simp) (by omega) e h1 h2 (ExM.refl _ _) ?_⟩⟩
      rw [hacc, take_snoc he1, List.map_append, List.map_append]; rfl
    · rw [List.length_map, hlen, List.take_length] at hacc
      subst hacc
      refine ⟨D, _, rfl, .inl (SqL.of h1), rfl, flat_ints _, _, rfl, ?_⟩
      rw [if_pos rfl, inV_int]
      have hl6 := ExA.at e hl5
      have b6 := b5.keep e
      have hp6 : Paired (PairAt K H6) rs es := pmp hp5 fun _ _ z => PairAt.mono (Tk.all e) z
      have e6 : ExM [b] H1 H6 := e5.trans (ExM.of e)
      by_cases m : key ∈ es.map (·.1)
      · rw [decide_eq_true m]
        exact iteF ⟨_, _, _, rfl, e6, b6, rs, es, hl6, hp6, by omega, hnd, hin⟩
      · rw [decide_eq_false m]
        refine iteT ⟨_, rfl, .inl ⟨rfl, _, SqL.of hl6⟩, _, rfl, _, rfl, sz (by show 2 ≤ 100000; decide), fun r2 fr => ?_⟩
        have nr : l ≠ r2 := ne_of_none hl6 fr
        have hl7 : (upd H6 r2 (.tup [V.int key, V.int val])) l = some (.lst (rs.map V.ref)) := by rw [upd_ne nr]; exact hl6
        have hp7 : Paired (PairAt K (upd H6 r2 (.tup [V.int key, V.int val]))) (rs ++ [r2]) (es ++ [(key, val)]) := by
          have hq : Paired (PairAt K (upd H6 r2 (.tup [V.int key, V.int val]))) rs es := pmp hp6 fun _ _ z => PairAt.mono (Tk.new fr) z
          have hr : PairAt K (upd H6 r2 (.tup [V.int key, V.int val])) r2 (key, val) := SqT.of upd_same
          exact psnoc hr hq
        have zl : (rs.map V.ref).length < sizeLine := szl (by rw [List.length_map]; omega)
        refine ⟨l, _, _, rfl, rfl, hl7, zl, _, _, _, rfl, (e6.trans (ExM.new fr)).put fl, (b6.new fr).put b1 fl, rs ++ [r2], es ++ [(key, val)], ?_, ?_, ?_, ?_, ?_⟩
        · rw [upd_same, List.map_append]; rfl
        · exact pmp hp7 fun _ _ z => PairAt.mono (Tk.lst hl7) z
        · rw [List.length_append, List.length_singleton]; omega
        · rw [List.map_append]
          exact List.nodup_append.mpr ⟨hnd, by simp, fun x hx y hy z => m (by have : y = key := by simpa using hy
                                                                              rw [← this, ← z]; exact hx)⟩
        · intro e' he'
          rcases List.mem_append.mp he' with z | z
          · exact hin e' z
          · have : e' = (key, val) := by simpa using z
            rw [this]; exact ⟨hkey, hval⟩
  · obtain ⟨u4, u6, u7, rfl, e3, b3, rs, es, hl, hp, hz, hnd, hin⟩ := p
    refine ⟨_, rfl, _, rfl, l, _, rfl, SqL.of hl, fun t zt ft nt => ⟨sz (by show 3 ≤ 100000; decide), fun p fp => ?_⟩⟩
    have np : p ≠ t := fun z => by rw [z, upd_same] at fp; cases fp
    have tt : Tk K H3 (upd (upd H3 t (.frz zt (.tup (rs.map V.ref)))) p (.tup [.str "table", .int n, .ref t])) := Tk.trans (Tk.new ft) (Tk.new fp)
    refine q _ p (.tab n es) ((x1.trans e3).trans ((ExM.new ft).trans (ExM.new fp))) ((b3.new ft).new fp) ⟨t, rs, SqT.of upd_same, SqZ.of nt (by rw [upd_ne np.symm]; exact upd_same), pmp hp fun _ _ z => PairAt.mono tt z⟩ rfl ⟨by omega, hnd, hin⟩
end
end Wc
namespace Wc
open PySem L2
section
variable {P : Program} {w : World} {K : PySem.W.Frag} {mg : Str → Option Value} {base : Heap}
theorem ok__law_heap {f : Addr} {fd : FuncData} {cd : Value} (F : Df K "_law_heap" s__law_heap f fd cd) (T : Txt mg) (C__law_draw : Cal P w K mg base 1 "_law_draw" (sp__law_draw K) []) (C__law_number : Cal P w K mg base 2 "_law_number" (sp__law_number K) []) (C__law_object : Cal P w K mg base 3 "_law_object" (sp__law_object K) []) : FnOk P w K mg base CX0 4 f fd ["box", "most"] (sp__law_heap K) := by
  have nd := sc__law_heap.nd
  refine F.ok sc__law_heap (fun vs H Q E h => ?_) (fun A outer s H vs Q E hr h => ?_)
  · obtain ⟨_, _, rfl, _⟩ := h; rfl
  have hu := hu_of hr
  obtain ⟨x0, x1, rfl, h⟩ := h
  refine ⟨_, (pss_cons (ps_set (i := 2) nd rfl (by first | exact Or.inl rfl | exact Or.inr rfl) (pe_c C__law_draw hr (by first | exact Nat.le_refl _ | decide) rfl (pa_cons (pv 0) (pa_cons (pe_op op_add (pv 1) pe_int) pa_nil))))
    (pss_cons (ps_set (i := 3) nd rfl (by first | exact Or.inl rfl | exact Or.inr rfl) (pe_lst pa_nil))
    (pss_cons (ps_set (i := 4) nd rfl (by first | exact Or.inl rfl | exact Or.inr rfl) pe_int)
    (pss_cons (ps_for PassesOwn.never rfl (pi_range1 rfl T.range (pa_cons (pv 2) pa_nil)) (pg_name (i := 5) nd rfl (by first | exact Or.inl rfl | exact Or.inr rfl))
    (pss_cons (ps_set (i := 4) nd rfl (by first | exact Or.inl rfl | exact Or.inr rfl) (pe_op op_add (pv 4) (pe_ix (r := rIxL K) ix_list (pe_lst (pa_cons pe_int (pa_cons pe_int (pa_cons pe_int (pa_cons pe_int pa_nil))))) (pe_c C__law_draw hr (by first | exact Nat.le_refl _ | decide) rfl (pa_cons (pv 0) (pa_cons pe_int pa_nil))) (fun _ _ => rfl))))
    (pss_cons (ps_expr (pe_bm PySem.F.plainAttrs_list PySem.F.slot_list_append PySem.F.type_list_append mt_append (pv 3) (pa_cons (pv 4) pa_nil)))
    (pss_one (ps_set (i := 4) nd rfl (by first | exact Or.inl rfl | exact Or.inr rfl) (pe_op op_add (pv 4) pe_int))))))
    (pss_cons (ps_set (i := 6) nd rfl (by first | exact Or.inl rfl | exact Or.inr rfl) (pe_callTy (r := rTupZ K) call_tupleZ rfl T.tuple (by decide +kernel) (pa_cons (pe_lc (own := [("number", 7)]) rfl nd (show PI _ _ _ (iList K _) from pi_list (pv 3)) (blkOk_by (own := [("number", 7)]) (N := N__law_heap) (sc := defScope s__law_heap) (by decide +kernel)) (fun _ _ _ _ _ => (pg_name (i := 7) nd rfl (by first | exact Or.inl rfl | exact Or.inr rfl))) (fun _ _ _ _ _ => pts_nil) (fun _ _ _ _ _ => (pe_c C__law_object hr (by first | exact Nat.le_refl _ | decide) rfl (pa_cons (pv 0) (pa_cons (pv 7) (pa_cons (pv 3) pa_nil)))))) pa_nil)))
    (pss_cons (ps_set (i := 8) nd rfl (by first | exact Or.inl rfl | exact Or.inr rfl) (pe_callTy (r := rTupZ K) call_tupleZ rfl T.tuple (by decide +kernel) (pa_cons (pe_lc (own := [("k", 5)]) rfl nd (pi_range1 rfl T.range (pa_cons (pe_op op_add pe_int (pe_c C__law_draw hr (by first | exact Nat.le_refl _ | decide) rfl (pa_cons (pv 0) (pa_cons pe_int pa_nil)))) pa_nil)) (blkOk_by (own := [("k", 5)]) (N := N__law_heap) (sc := defScope s__law_heap) (by decide +kernel)) (fun _ _ _ _ _ => (pg_name (i := 5) nd rfl (by first | exact Or.inl rfl | exact Or.inr rfl))) (fun _ _ _ _ _ => pts_nil) (fun _ _ _ _ _ => (pe_c C__law_number hr (by first | exact Nat.le_refl _ | decide) rfl (pa_cons (pv 0) (pa_cons (pv 3) pa_nil))))) pa_nil)))
    (pss_cons (ps_set (i := 9) nd rfl (by first | exact Or.inl rfl | exact Or.inr rfl) (pe_callTy (r := rTupZ K) call_tupleZ rfl T.tuple (by decide +kernel) (pa_cons (pe_lc (own := [("number", 7)]) rfl nd (show PI _ _ _ (iList K _) from pi_list (pv 3)) (blkOk_by (own := [("number", 7)]) (N := N__law_heap) (sc := defScope s__law_heap) (by decide +kernel)) (fun _ _ _ _ _ => (pg_name (i := 7) nd rfl (by first | exact Or.inl rfl | exact Or.inr rfl))) (fun _ _ _ _ _ => (pts_one (pt_cmpR op_eq (pe_c C__law_draw hr (by first | exact Nat.le_refl _ | decide) rfl (pa_cons (pv 0) (pa_cons pe_int pa_nil))) pe_int (nomark _)))) (fun _ _ _ _ _ => (pv 7))) pa_nil)))
    (pss_cons (ps_set (i := 10) nd rfl (by first | exact Or.inl rfl | exact Or.inr rfl) (pe_lst pa_nil))
    (pss_cons (ps_for PassesOwn.never rfl (show PI _ _ _ (iList K _) from pi_list (pv 3)) (pg_name (i := 7) nd rfl (by first | exact Or.inl rfl | exact Or.inr rfl))
    (pss_one (ps_if (pt_cmpR op_eq (pe_c C__law_draw hr (by first | exact Nat.le_refl _ | decide) rfl (pa_cons (pv 0) (pa_cons pe_int pa_nil))) pe_int (nomark _)) (pss_one (ps_expr (pe_bm PySem.F.plainAttrs_list PySem.F.slot_list_append PySem.F.type_list_append mt_append (pv 10) (pa_cons (pe_tup (pa_cons (pv 7) (pa_cons (pe_op op_add pe_int (pe_c C__law_draw hr (by first | exact Nat.le_refl _ | decide) rfl (pa_cons (pv 0) (pa_cons pe_int pa_nil)))) pa_nil))) pa_nil)))) pss_nil)))
    (pss_one (ps_ret (pe_tup (pa_cons pe_str (pa_cons (pe_op op_add (pv 4) (pe_c C__law_draw hr (by first | exact Nat.le_refl _ | decide) rfl (pa_cons (pv 0) (pa_cons pe_int pa_nil)))) (pa_cons (pv 8) (pa_cons (pv 9) (pa_cons (pv 6) (pa_cons (pe_callTy (r := rTupZ K) call_tupleZ rfl T.tuple (by decide +kernel) (pa_cons (pv 10) pa_nil)) pa_nil)))))))))))))))))), ?_⟩
  obtain ⟨b, d, ds, m, rfl, rfl, m0, m49, hb, q⟩ := h
  refine ⟨_, rfl, _, rfl, _, _, rfl, rfl, _, _, rfl, b, d, ds, m + 1, rfl, rfl, by omega, hb, fun H1 many x1 b1 v0 v1 => ?_⟩
  refine ⟨Nat.zero_le _, fun l fl => ?_⟩
  have nl : l ∉ [b] := b1.ne fl
  refine ⟨_, rfl, many, rfl, by omega, by omega, ?_⟩
  refine for_range (lo := 0) (n := many.toNat) (fun t σ2 H2 => ∃ (at_ : Int) (u5 : Option V), σ2 = [some (.ref b), some (.int m), some (.int many), some (.ref l), some (.int at_), u5, none, none, none, none, none] ∧ ExM [b] H1 H2 ∧ Bx H2 b d ds ∧
      ∃ ns : List Int, H2 l = some (.lst (ns.map V.int)) ∧ ns.length = t ∧ ns.Pairwise (· < ·) ∧ (∀ n ∈ ns, 0 ≤ n ∧ n < at_) ∧ 0 ≤ at_ ∧ at_ ≤ 3 * t)
    ⟨0, none, rfl, ExM.new fl, b1.new fl, [], upd_same, rfl, .nil, by simp, Int.le_refl 0, by simp⟩ (fun t σ2 H2 ht p => ?_) (fun σ2 H2 p => ?_)
  · obtain ⟨at_, u5, rfl, e2, b2, ns, hl, hz, hup, hlow, a0, a3⟩ := p
    refine ⟨_, rfl, sz (by show 4 ≤ 100000; decide), fun p fp => ?_⟩
    refine ⟨_, rfl, _, _, rfl, b, d, ds, 4, rfl, rfl, by decide, b2.new fp, fun H3 v x3 b3 v0 v4 => ?_⟩
    have np : p ∉ [b] := b2.ne fp
    obtain ⟨w, hw, w0, w2⟩ : ∃ w : Int, atI [V.int 0, V.int 0, V.int 0, V.int 2] v = some (.int w) ∧ 0 ≤ w ∧ w ≤ 2 := by
      have c : v = 0 ∨ v = 1 ∨ v = 2 ∨ v = 3 := by omega
      rcases c with rfl | rfl | rfl | rfl
      · exact ⟨0, at0, by decide, by decide⟩
      · exact ⟨0, at1, by decide, by decide⟩
      · exact ⟨0, at2, by decide, by decide⟩
      · exact ⟨2, at3, by decide, by decide⟩
    refine ⟨p, _, _, _, rfl, rfl, SqL.of (x3 p _ np upd_same), hw, _, _, rfl, rfl, ?_⟩
    have hl3 : H3 l = some (.lst (ns.map V.int)) := x3 l _ nl (by rw [upd_ne (ne_of_none hl fp)]; exact hl)
    have e3 : ExM [b] H1 H3 := (e2.trans (ExM.new fp)).trans x3
    refine ⟨_, rfl, .inl ⟨rfl, _, SqL.of hl3⟩, _, rfl, l, _, _, rfl, rfl, hl3, szl (by rw [List.length_map]; omega), ?_⟩
    refine ⟨_, rfl, _, _, rfl, rfl, at_ + w + 1, _, rfl, e3.put fl, b3.put b1 fl, ns ++ [at_ + w], ?_, ?_, ?_, ?_, by omega, by omega⟩
    · rw [upd_same, List.map_append]; rfl
    · rw [List.length_append, List.length_singleton, hz]
    · refine List.pairwise_append.mpr ⟨hup, List.pairwise_singleton _ _, fun x hx y hy => ?_⟩
      have : y = at_ + w := by simpa using hy
      have := (hlow x hx).2
      omega
    · intro n hn
      rcases List.mem_append.mp hn with z | z
      · have := hlow n z; omega
      · have : n = at_ + w := by simpa using z
        omega
  obtain ⟨at_, u5, rfl, e2, b2, ns, hl, hz, hup, hlow, a0, a3⟩ := p
  have zn : ns.length ≤ 49 := by omega
  have N2 : Nm K H2 b l ns := ⟨SqL.of hl, nl⟩
  -- the objects
  refine ⟨_, rfl, l, rfl, ⟨_, SqL.of hl⟩, fun D fD => ?_⟩
  have nD : D ∉ [b] := b2.ne fD
  refine lcM [b] (walk_list (xs := ns.map V.int)) fD (fun i acc H' => Bx H' b d ds ∧ ∃ (os : List Addr) (obs : List Ob), acc = os.map V.ref ∧ Paired (ObAt K H') os obs ∧ obs.map Ob.num = ns.take i ∧ ∀ o ∈ obs, o.ok ns)
    ⟨b2.new fD, [], [], rfl, .nil, rfl, by simp⟩ (fun H' e => (N2.keep e).1) (fun i x H3 H4 acc hi e h1 h2 hacc y => ?_) (fun H3 acc e h1 h2 hacc => ?_)
  · obtain ⟨rfl, hx⟩ := y
    rw [List.length_map] at hi
    obtain ⟨n, hn⟩ : ∃ n, ns[i]? = some n := ⟨_, List.getElem?_eq_getElem hi⟩
    rw [List.getElem?_map, hn] at hx
    obtain rfl : V.int n = x := Option.some.inj hx
    obtain ⟨b3, os, obs, rfl, hp, hnum, hok⟩ := hacc
    refine ⟨rfl, tyes ⟨_, rfl, _, rfl, _, rfl, _, _, _, rfl, b, d, ds, n, l, ns, rfl, rfl, rfl, b3, N2.keep e, fun H5 p o x5 b5 ho hon hok5 => ?_⟩⟩
    refine LcP.yes fD nD (by omega) e h1 h2 x5 ⟨b5.put b2 fD, os ++ [p], obs ++ [o], by rw [List.map_append]; rfl, ?_, ?_, ?_⟩
    · have t5 : Tk K H4 (upd H5 D (.lst (os.map V.ref ++ [V.ref p]))) := Tk.trans (b3.tk x5) (Tk.lst (x5 D _ nD h1))
      have hq : Paired (ObAt K (upd H5 D (.lst (os.map V.ref ++ [V.ref p])))) os obs := pmp hp fun _ _ z => ObAt.mono t5 z
      have hr : ObAt K (upd H5 D (.lst (os.map V.ref ++ [V.ref p]))) p o := ObAt.mono (Tk.lst (x5 D _ nD h1)) ho
      exact psnoc hr hq
    · rw [List.map_append, hnum, take_snoc hn, ← hon]; rfl
    · intro o' ho'
      rcases List.mem_append.mp ho' with z | z
      · exact hok o' z
      · have : o' = o := by simpa using z
        rw [this]; exact hok5
  obtain ⟨b3, os, obs, rfl, hobs, hnum, hok⟩ := hacc
  rw [List.length_map, List.take_length] at hnum
  refine ⟨D, _, rfl, SqL.of h1, fun o zo fo no => ?_⟩
  have x4 : ExM [b] H2 (upd H3 o (.frz zo (.tup (os.map V.ref)))) := e.trans (ExM.new fo)
  have b4 : Bx (upd H3 o (.frz zo (.tup (os.map V.ref)))) b d ds := b3.new fo
  have ho4 : SqT K (upd H3 o (.frz zo (.tup (os.map V.ref)))) o (os.map V.ref) := (SqZ.of no upd_same).sq
  have hobs4 : Paired (ObAt K (upd H3 o (.frz zo (.tup (os.map V.ref))))) os obs := pmp hobs fun _ _ z => ObAt.mono (Tk.new fo) z
  generalize upd H3 o (.frz zo (.tup (os.map V.ref))) = H4 at x4 b4 ho4 hobs4 ⊢
  have N4 := N2.keep x4
  -- the registers
  refine ⟨_, rfl, _, _, rfl, b, d, ds, 3, rfl, rfl, by decide, b4, fun H5 k x5 b5 k0 k3 => ?_⟩
  have N5 := N4.keep x5
  refine ⟨_, _, rfl, rfl, 1 + k, rfl, by omega, by omega, fun D2 fD2 => ?_⟩
  have nD2 : D2 ∉ [b] := b5.ne fD2
  refine lcM [b] (walk_range (lo := 0) (n := (1 + k).toNat)) fD2 (fun i acc H' => Bx H' b d ds ∧ ∃ rs : List Rf, acc = rs.map rV ∧ rs.length = i ∧ ∀ r ∈ rs, Rf.ok ns r) ⟨b5.new fD2, [], rfl, rfl, by simp⟩ (fun _ _ => trivial) (fun i x H6 H7 acc hi e h1 h2 hacc y => ?_) (fun H6 acc e6 h1 h2 hacc => ?_)
  · obtain ⟨rfl, rfl⟩ := y
    obtain ⟨b6, rs, rfl, hrl, hrs⟩ := hacc
    refine ⟨rfl, tyes ⟨_, rfl, _, rfl, _, _, rfl, b, d, ds, l, ns, rfl, rfl, b6, N5.keep e, fun H8 r x8 b8 hr => ?_⟩⟩
    refine LcP.yes fD2 nD2 (by omega) e h1 h2 x8 ⟨b8.put b5 fD2, rs ++ [r], by rw [List.map_append]; rfl, by rw [List.length_append, List.length_singleton, hrl], fun r' hr' => ?_⟩
    rcases List.mem_append.mp hr' with z | z
    · exact hrs r' z
    · have : r' = r := by simpa using z
      rw [this]; exact hr
  obtain ⟨b6, rs, rfl, hrl, hrs⟩ := hacc
  refine ⟨D2, _, rfl, SqL.of h1, fun r zr fr nr => ?_⟩
  have x7 : ExM [b] H4 (upd H6 r (.frz zr (.tup (rs.map rV)))) := (x5.trans e6).trans (ExM.new fr)
  have b7 : Bx (upd H6 r (.frz zr (.tup (rs.map rV)))) b d ds := b6.new fr
  have hr7 : SqZ (upd H6 r (.frz zr (.tup (rs.map rV)))) r (rs.map rV) := SqZ.of nr upd_same
  generalize upd H6 r (.frz zr (.tup (rs.map rV))) = H7 at x7 b7 hr7 ⊢
  have N7 := N4.keep x7
  -- what is kept
  refine ⟨_, rfl, l, rfl, ⟨_, N7.1⟩, fun D3 fD3 => ?_⟩
  have nD3 : D3 ∉ [b] := b7.ne fD3
  refine lcM [b] (walk_list (xs := ns.map V.int)) fD3 (fun i acc H' => Bx H' b d ds ∧ ∃ ms : List Int, acc = ms.map V.int ∧ ms.Sublist (ns.take i)) ⟨b7.new fD3, [], rfl, by simp⟩ (fun H' e => (N7.keep e).1) (fun i x H8 H9 acc hi e h1 h2 hacc y => ?_) (fun H8 acc e8 h1 h2 hacc => ?_)
  · obtain ⟨rfl, hx⟩ := y
    rw [List.length_map] at hi
    obtain ⟨n, hn⟩ : ∃ n, ns[i]? = some n := ⟨_, List.getElem?_eq_getElem hi⟩
    rw [List.getElem?_map, hn] at hx
    obtain rfl : V.int n = x := Option.some.inj hx
    obtain ⟨b8, ms, rfl, hms⟩ := hacc
    refine ⟨rfl, _, rfl, _, _, rfl, b, d, ds, 6, rfl, rfl, by decide, b8, fun Ha v xa ba v0 v2 => ⟨rfl, _, rfl, ite2 (fun _ => ?_) (fun _ => ?_)⟩⟩
    · refine ⟨_, rfl, LcP.yes fD3 nD3 (by omega) e h1 h2 xa ⟨ba.put b7 fD3, ms ++ [n], by rw [List.map_append]; rfl, ?_⟩⟩
      rw [take_snoc hn]; exact hms.append (List.Sublist.refl _)
    · refine LcP.no nD3 e h1 h2 xa ⟨ba, ms, rfl, ?_⟩
      rw [take_snoc hn]; exact hms.trans (List.sublist_append_left _ _)
  obtain ⟨b8, ks, rfl, hks⟩ := hacc
  rw [List.length_map, List.take_length] at hks
  refine ⟨D3, _, rfl, SqL.of h1, fun kp zk fk nk => ?_⟩
  have x9 : ExM [b] H7 (upd H8 kp (.frz zk (.tup (ks.map V.int)))) := e8.trans (ExM.new fk)
  have b9 : Bx (upd H8 kp (.frz zk (.tup (ks.map V.int)))) b d ds := b8.new fk
  have hk9 : SqT K (upd H8 kp (.frz zk (.tup (ks.map V.int)))) kp (ks.map V.int) := (SqZ.of nk upd_same).sq
  generalize upd H8 kp (.frz zk (.tup (ks.map V.int))) = H9 at x9 b9 hk9 ⊢
  have N9 := N7.keep x9
  -- the watches
  refine ⟨Nat.zero_le _, fun lw flw => ?_⟩
  have nlw : lw ∉ [b] := b9.ne flw
  have N9' : Nm K (upd H9 lw (.lst [])) b l ns := N9.keep (ExM.new flw)
  refine ⟨_, rfl, l, rfl, ⟨_, N9'.1⟩, ?_⟩
  refine for_it (walk_list (xs := ns.map V.int)) (fun i σa Ha => ∃ u7 : Option V, σa = [some (.ref b), some (.int m), some (.int many), some (.ref l), some (.int at_), u5, some (.ref o), u7, some (.ref r), some (.ref kp), some (.ref lw)] ∧ ExM [b] H9 Ha ∧ Bx Ha b d ds ∧
      ∃ (rs : List Addr) (es : List (Int × Int)), Ha lw = some (.lst (rs.map V.ref)) ∧ Paired (PairAt K Ha) rs es ∧ es.length ≤ i ∧ ∀ e ∈ es, e.1 ∈ ns ∧ 0 ≤ e.2 ∧ e.2 ≤ 999)
    ⟨none, rfl, ExM.new flw, b9.new flw, [], [], upd_same, .nil, Nat.le_refl _, by simp⟩ (fun i σa Ha _ p => p.elim fun _ z => (N9.keep z.2.1).1) (fun i x σa Ha Hb hi p y => ?_) (fun σa Ha p => ?_)
  · obtain ⟨rfl, hx⟩ := y
    obtain ⟨u7, rfl, ea, ba, rs', es, hw, hp, hz, hin⟩ := p
    rw [List.length_map] at hi
    obtain ⟨n, hn⟩ : ∃ n, ns[i]? = some n := ⟨_, List.getElem?_eq_getElem hi⟩
    rw [List.getElem?_map, hn] at hx
    obtain rfl : V.int n = x := Option.some.inj hx
    refine ⟨_, rfl, _, _, rfl, b, d, ds, 3, rfl, rfl, by decide, ba, fun Hc v xc bc v0 v3 => ⟨rfl, _, rfl, ite2 (fun _ => ?_) (fun _ => ?_)⟩⟩
    · have hwc := xc lw _ nlw hw
      refine ⟨_, rfl, .inl ⟨rfl, _, SqL.of hwc⟩, _, rfl, _, rfl, _, _, rfl, b, d, ds, 2, rfl, rfl, by decide, bc, fun Hd v' xd bd v0' v2' => ?_⟩
      have hwd := xd lw _ nlw hwc
      refine ⟨_, _, rfl, rfl, sz (by show 2 ≤ 100000; decide), fun r2 fr2 => ?_⟩
      have nr : lw ≠ r2 := ne_of_none hwd fr2
      have hwe : (upd Hd r2 (.tup [V.int n, V.int (7 + v')])) lw = some (.lst (rs'.map V.ref)) := by rw [upd_ne nr]; exact hwd
      have tt : Tk K Hb (upd Hd r2 (.tup [V.int n, V.int (7 + v')])) := Tk.trans (ba.tk (xc.trans xd)) (Tk.new fr2)
      have hpe : Paired (PairAt K (upd Hd r2 (.tup [V.int n, V.int (7 + v')]))) rs' es := pmp hp fun _ _ z => PairAt.mono tt z
      have hre : PairAt K (upd Hd r2 (.tup [V.int n, V.int (7 + v')])) r2 (n, 7 + v') := SqT.of upd_same
      have hlen := plen hp
      refine ⟨lw, _, _, rfl, rfl, hwe, szl (by rw [List.length_map]; omega), _, rfl, (((ea.trans xc).trans xd).trans (ExM.new fr2)).put flw, (bd.new fr2).put b9 flw, rs' ++ [r2], es ++ [(n, 7 + v')], ?_, ?_, ?_, ?_⟩
      · rw [upd_same, List.map_append]; rfl
      · exact pmp (psnoc hre hpe) fun _ _ z => PairAt.mono (Tk.lst hwe) z
      · rw [List.length_append, List.length_singleton]; omega
      · intro e' he'
        rcases List.mem_append.mp he' with z | z
        · exact hin e' z
        · have : e' = (n, 7 + v') := by simpa using z
          rw [this]; exact ⟨List.mem_of_getElem? hn, by show 0 ≤ 7 + v'; omega, by show 7 + v' ≤ 999; omega⟩
    · exact ⟨_, rfl, ea.trans xc, bc, rs', es, xc lw _ nlw hw, pmp hp fun _ _ z => PairAt.mono (ba.tk xc) z, by omega, hin⟩
  obtain ⟨u7, rfl, ea, ba, ws, es, hw, hp, hz, hin⟩ := p
  rw [List.length_map] at hz
  refine ⟨_, rfl, _, rfl, _, _, rfl, b, d, ds, 2, rfl, rfl, by decide, ba, fun Hb v xb bb v0 v2 => ?_⟩
  have hwb := xb lw _ nlw hw
  refine ⟨_, _, rfl, rfl, _, rfl, _, rfl, _, rfl, _, rfl, lw, _, rfl, SqL.of hwb, fun t zt ft nt => ⟨sz (by show 6 ≤ 100000; decide), fun p fp => ?_⟩⟩
  have np : p ≠ t := fun z => by rw [z, upd_same] at fp; cases fp
  have xz : ExM [b] Hb (upd (upd Hb t (.frz zt (.tup (ws.map V.ref)))) p (.tup [.str "heap", .int (at_ + v), .ref r, .ref kp, .ref o, .ref t])) := (ExM.new ft).trans (ExM.new fp)
  have tz := Tk.trans (K := K) (ba.tk xb) (bb.tk xz)
  have t9 := Tk.trans (b9.tk ea) tz
  have t7 := Tk.trans (b7.tk x9) t9
  have t4 := Tk.trans (b4.tk x7) t7
  refine q _ p ⟨at_ + v, rs, ks, obs, es⟩ (((((((x1.trans e2).trans x4).trans x7).trans x9).trans ea).trans xb).trans xz) ((bb.new ft).new fp) ?_ ?_ ?_
  · refine ⟨r, kp, o, t, ws, SqT.of upd_same, hr7.mono t7, t9 _ _ hk9, ⟨os, t4 _ _ ho4, pmp hobs4 fun _ _ z => ObAt.mono t4 z⟩, (SqZ.of nt (by rw [upd_ne np.symm]; exact upd_same)).sq, pmp hp fun _ _ z => PairAt.mono tz z⟩
  · have hnn : (⟨at_ + v, rs, ks, obs, es⟩ : Wc.Hd).nums = ns := hnum
    have hol : obs.length = ns.length := by rw [← hnum, List.length_map]
    refine ⟨by rw [hnn]; exact hup, by show obs.length ≤ 50; omega, by show rs.length ≤ 1000; omega, by rw [hnn]; exact hrs, by rw [hnn]; exact hok, by rw [hnn]; exact fun i hi => hks.subset hi, by rw [hnn]; exact fun e he => (hin e he).1, ?_, ?_, ?_, fun e he => (hin e he).2, by show es.length ≤ 50; omega, ?_⟩
    · rw [hnn]; intro n hn; have := hlow n hn; show 0 ≤ n ∧ n < at_ + v; omega
    · show 0 ≤ at_ + v ∧ at_ + v ≤ 999; omega
    · exact hup.sublist hks
    · intro z
      have z' : rs = [] := z
      rw [z'] at hrl
      have : (0 : Nat) = (1 + k).toNat := hrl
      omega
  · have hol : obs.length = ns.length := by rw [← hnum, List.length_map]
    refine ⟨?_, ?_, ?_, ?_⟩
    · show ((obs.length : Nat) : Int) ≤ m
      omega
    · show es.length ≤ obs.length
      omega
    · show at_ + v ≤ 3 * m + 1
      omega
    · show rs.length ≤ 3
      omega
end
end Wc
namespace Wc
open PySem L2
section
variable (K : PySem.W.Frag)
def R__law_follows : V3 := fun x y z H Q => ∃ (a : Addr) (o : Ob) (g : Addr) (gs : List Int) (c : Addr) (cs : List Int), x = .ref a ∧ y = .ref g ∧ z = .ref c ∧ ObAt K H a o ∧ o.small ∧ SqL K H g (gs.map V.int) ∧
  (SqL K H c (cs.map V.int) ∨ SqT K H c (cs.map V.int)) ∧ NewL (ledTo o gs cs) H Q
abbrev sp__law_follows : Sp := sp3 (R__law_follows K)
def R__law_obtainable : V2 := fun x y H Q => ∃ (a : Addr) (h : Hd) (c : Addr) (cs : List Int), x = .ref a ∧ y = .ref c ∧ HeapAt K H a h ∧ h.Ok ∧ (SqL K H c (cs.map V.int) ∨ SqT K H c (cs.map V.int)) ∧
  ∀ ns, UpSet ns (Obt h cs) → NewL ns H Q
abbrev sp__law_obtainable : Sp := sp2 (R__law_obtainable K)
def R_same (n : Nat) : V2 := fun x y H Q => ∃ d : Dt, Is K H d x ∧ Is K H d y ∧ d.dep < n ∧ d.thin ∧ Q (.bl true) H
abbrev sp__law_same : Sp := sp2 (R_same K 9)
end
theorem ledTo_len {o : Ob} {gs cs : List Int} (sm : o.small) : (ledTo o gs cs).length ≤ 1000 := by
  cases o with
  | rcd n fs => exact Nat.le_trans (List.length_filterMap_le _ _) sm
  | weak n t =>
    cases t with
    | none => exact Nat.zero_le _
    | some i =>
      show (if i ∈ cs then [] else [i]).length ≤ 1000
      split <;> simp
  | tab n es =>
    show ((es.filter fun e => decide (e.1 ∈ gs)).map (·.2)).length ≤ 1000
    rw [List.length_map]
    exact Nat.le_trans (List.length_filter_le _ _) sm
/-! ### the law's own walk: closed behind as many turns as there are objects, and one more -/
def Shut (h : Hd) (cs G : List Int) : Prop := ∀ o ∈ h.obs, o.num ∈ G → ∀ n, o.fol cs (· ∈ G) n → n ∈ G
def cnt (h : Hd) (G : List Int) : Nat := (h.nums.filter fun n => decide (n ∈ G)).length
theorem filter_lt {l : List Int} {p q : Int → Bool} (s : ∀ n, p n = true → q n = true) {x : Int} (hx : x ∈ l) (h1 : p x = false) (h2 : q x = true) : (l.filter p).length < (l.filter q).length := by
  have le : ∀ l : List Int, (l.filter p).length ≤ (l.filter q).length := by
    intro l
    induction l with
    | nil => exact Nat.le_refl _
    | cons y r ih =>
      rw [List.filter_cons, List.filter_cons]
      cases hp : p y with
      | true =>
        rw [s y hp]
        simp only [if_true, List.length_cons]
        omega
      | false =>
        simp only [Bool.false_eq_true, if_false]
        split
        · rw [List.length_cons]; omega
        · exact ih
  induction l with
  | nil => cases hx
  | cons y r ih =>
    rw [List.filter_cons, List.filter_cons]
    rcases List.mem_cons.mp hx with rfl | hx
    · rw [h1, h2]
      simp only [Bool.false_eq_true, if_false, if_true, List.length_cons]
      have := le r
      omega
    · have := ih hx
      cases hp : p y with
      | true =>
        rw [s y hp]
        simp only [if_true, List.length_cons]
        omega
      | false =>
        simp only [Bool.false_eq_true, if_false]
        split
        · rw [List.length_cons]; omega
        · exact this
theorem cnt_lt {h : Hd} {G G' : List Int} (s : ∀ n ∈ G, n ∈ G') {n : Int} (hn : n ∈ h.nums) (h1 : n ∉ G) (h2 : n ∈ G') : cnt h G < cnt h G' :=
  filter_lt (fun m z => decide_eq_true (s m (of_decide_eq_true z))) hn (decide_eq_false h1) (decide_eq_true h2)
theorem cnt_le (h : Hd) (G : List Int) : cnt h G ≤ h.obs.length := by
  unfold cnt
  refine Nat.le_trans (List.length_filter_le _ _) ?_
  unfold Hd.nums
  rw [List.length_map]
  exact Nat.le_refl _
section
variable {P : Program} {w : World} {K : PySem.W.Frag} {mg : Str → Option Value} {base : Heap}
end
end Wc
namespace Wc
open PySem L2
section
variable {P : Program} {w : World} {K : PySem.W.Frag} {mg : Str → Option Value} {base : Heap}
theorem step__law_same {f : Addr} {fd : FuncData} {cd : Value} {n : Nat} (F : Df K "_law_same" s__law_same f fd cd) (T : Txt mg) (C__law_same : Cal P w K mg base n "_law_same" (sp2 (R_same K n)) []) :
    FnOk P w K mg base CX0 (n + 1) f fd ["actual", "expected"] (sp2 (R_same K (n + 1))) := by
  have nd := sc__law_same.nd
  refine F.ok sc__law_same (fun vs H Q E h => ?_) (fun A outer s H vs Q E hr h => ?_)
  · obtain ⟨_, _, rfl, _⟩ := h; rfl
  have hu := hu_of hr
  obtain ⟨x0, x1, rfl, h⟩ := h
  refine ⟨_, (pss_cons (ps_if (pt_val (pe_callB (r := rIsi K) call_isi rfl T.isinstance (by decide +kernel) (pa_cons (pv 1) (pa_cons (pe_bltn (v := .ty "tuple") rfl T.tuple (by decide +kernel) rfl) pa_nil)))) (pss_cons (ps_if (PW.pt (pw_or (pt_not (pt_val (pe_callB (r := rIsi K) call_isi rfl T.isinstance (by decide +kernel) (pa_cons (pv 0) (pa_cons (pe_bltn (v := .ty "tuple") rfl T.tuple (by decide +kernel) rfl) pa_nil))))) (pw_or1 (pt_cmpR op_ne (pe_callB (r := Evl.rLenS K) call_len_seq rfl T.len PySem.boot_len (pa_cons (pv 0) pa_nil)) (pe_callB (r := Evl.rLenS K) call_len_seq rfl T.len PySem.boot_len (pa_cons (pv 1) pa_nil)) (nomark _))))) (pss_one (ps_ret pe_bl)) pss_nil)
    (pss_cons (ps_for PassesOwn.never rfl (pi_range1 rfl T.range (pa_cons (pe_callB (r := Evl.rLenS K) call_len_seq rfl T.len PySem.boot_len (pa_cons (pv 1) pa_nil)) pa_nil)) (pg_name (i := 2) nd rfl (by first | exact Or.inl rfl | exact Or.inr rfl))
    (pss_one (ps_if (pt_not (pt_val (pe_c C__law_same hr (by first | exact Nat.le_refl _ | decide) rfl (pa_cons (pe_ix (r := rIxT K) ix_tup (pv 0) (pv 2) (fun _ _ => rfl)) (pa_cons (pe_ix (r := rIxT K) ix_tup (pv 1) (pv 2) (fun _ _ => rfl)) pa_nil))))) (pss_one (ps_ret pe_bl)) pss_nil)))
    (pss_one (ps_ret pe_bl)))) pss_nil)
    (pss_cons (ps_if (pt_cmpR op_isN (pv 1) pe_non (nomark _)) (pss_one (ps_ret (pe_cmpR op_isN (pv 0) pe_non (nomark _)))) pss_nil)
    (pss_cons (ps_if (pt_val (pe_callB (r := rIsi K) call_isi rfl T.isinstance (by decide +kernel) (pa_cons (pv 1) (pa_cons (pe_bltn (v := .ty "bool") rfl T.bool (by decide +kernel) rfl) pa_nil)))) (pss_one (ps_ret (pe_and (pe_callB (r := rIsi K) call_isi rfl T.isinstance (by decide +kernel) (pa_cons (pv 0) (pa_cons (pe_bltn (v := .ty "bool") rfl T.bool (by decide +kernel) rfl) pa_nil))) (pe_one (pe_cmpR op_eq (pv 0) (pv 1) (nomark _)))))) pss_nil)
    (pss_cons (ps_if (pt_val (pe_callB (r := rIsi K) call_isi rfl T.isinstance (by decide +kernel) (pa_cons (pv 1) (pa_cons (pe_bltn (v := .ty "int") rfl T.int (by decide +kernel) rfl) pa_nil)))) (pss_one (ps_ret (pe_and (pe_callB (r := rIsi K) call_isi rfl T.isinstance (by decide +kernel) (pa_cons (pv 0) (pa_cons (pe_bltn (v := .ty "int") rfl T.int (by decide +kernel) rfl) pa_nil))) (pe_and (pe_not (pe_callB (r := rIsi K) call_isi rfl T.isinstance (by decide +kernel) (pa_cons (pv 0) (pa_cons (pe_bltn (v := .ty "bool") rfl T.bool (by decide +kernel) rfl) pa_nil)))) (pe_one (pe_cmpR op_eq (pv 0) (pv 1) (nomark _))))))) pss_nil)
    (pss_one (ps_ret (pe_and (pe_callB (r := rIsi K) call_isi rfl T.isinstance (by decide +kernel) (pa_cons (pv 0) (pa_cons (pe_bltn (v := .ty "str") rfl T.str (by decide +kernel) rfl) pa_nil))) (pe_one (pe_cmpR op_eq (pv 0) (pv 1) (nomark _))))))))))
    , ?_⟩
  obtain ⟨d, hx, hy, hd, hth, q⟩ := h
  cases d with
  | tup ds =>
    obtain ⟨a, xs, rfl, ha, hxs⟩ := hx
    obtain ⟨b, ys, rfl, hb, hys⟩ := hy
    have lx := hxs.len
    have ly := hys.len
    have zl : ds.length ≤ 100000 := hth.1
    refine ⟨_, rfl, _, _, _, _, true, rfl, .ty "tuple", tyx_tup hb, kit_ty (by decide +kernel), _, rfl, iteT ?_⟩
    refine ⟨_, rfl, _, _, _, _, true, rfl, .ty "tuple", tyx_tup ha, kit_ty (by decide +kernel), _, rfl, iteF ?_⟩
    refine ⟨_, rfl, a, _, rfl, .inr ha, _, rfl, b, _, rfl, .inr hb, rfl, _, rfl, iteNS (by rw [lx, ly]) ?_⟩
    refine ⟨_, rfl, b, _, rfl, .inr hb, _, rfl, by omega, by omega, ?_⟩
    refine for_range (lo := 0) (n := ((ys.length : Nat) : Int).toNat) (fun i σ2 H2 => ∃ u, σ2 = [some (.ref a), some (.ref b), u] ∧ H2 = H) ⟨none, rfl, rfl⟩ (fun i σ2 H2 hi p => ?_) (fun σ2 H2 p => ?_)
    · obtain ⟨u, rfl, rfl⟩ := p
      have hi' : i < ds.length := by omega
      obtain ⟨d', hd'⟩ : ∃ d', ds[i]? = some d' := ⟨_, List.getElem?_eq_getElem hi'⟩
      obtain ⟨x, hx1, hx2⟩ := hxs.get hd'
      obtain ⟨y, hy1, hy2⟩ := hys.get hd'
      have e0 : (0 : Int) + (i : Int) = (i : Int) := Int.zero_add _
      have dd : d'.dep < n := by
        have z1 := dep_get hd'
        have z2 : 1 + Dt.depL ds < n + 1 := hd
        omega
      refine ⟨_, rfl, _, rfl, a, _, _, x, rfl, rfl, ha, by rw [e0]; exact atI_nat hx1, _, rfl, _, rfl, b, _, _, y, rfl, rfl, hb, by rw [e0]; exact atI_nat hy1, ?_⟩
      exact ⟨_, _, rfl, d', hx2, hy2, dd, thin_get hth.2 hd', _, rfl, iteF ⟨_, rfl, rfl⟩⟩
    · obtain ⟨u, rfl, rfl⟩ := p
      exact q
  | non =>
    have hx : x0 = .non := hx
    have hy : x1 = .non := hy
    subst hx hy
    refine ⟨_, rfl, _, _, _, _, false, rfl, .ty "tuple", .base .non, kit_ty (by decide +kernel), _, rfl, iteF ?_⟩
    exact ⟨_, rfl, rfl, _, rfl, iteT ⟨_, rfl, rfl, q⟩⟩
  | bl v =>
    have hx : x0 = .bl v := hx
    have hy : x1 = .bl v := hy
    subst hx hy
    refine ⟨_, rfl, _, _, _, _, false, rfl, .ty "tuple", .base (.bl v), kit_ty (by decide +kernel), _, rfl, iteF ?_⟩
    refine ⟨_, rfl, rfl, _, rfl, iteF ?_⟩
    refine ⟨_, rfl, _, _, _, _, true, rfl, .ty "bool", .base (.bl v), kit_ty (by decide +kernel), _, rfl, iteT ?_⟩
    refine ⟨_, rfl, _, _, _, _, true, rfl, .ty "bool", .base (.bl v), kit_ty (by decide +kernel), _, rfl, iteT ⟨_, rfl, _, rfl, rfl, ?_⟩⟩
    rw [decide_eq_true (rfl : V.bl v = V.bl v)]
    exact q
  | int v =>
    have hx : x0 = .int v := hx
    have hy : x1 = .int v := hy
    subst hx hy
    refine ⟨_, rfl, _, _, _, _, false, rfl, .ty "tuple", .base (.int v), kit_ty (by decide +kernel), _, rfl, iteF ?_⟩
    refine ⟨_, rfl, rfl, _, rfl, iteF ?_⟩
    refine ⟨_, rfl, _, _, _, _, false, rfl, .ty "bool", .base (.int v), kit_ty (by decide +kernel), _, rfl, iteF ?_⟩
    refine ⟨_, rfl, _, _, _, _, true, rfl, .ty "int", .base (.int v), kit_ty (by decide +kernel), _, rfl, iteT ?_⟩
    refine ⟨_, rfl, _, _, _, _, true, rfl, .ty "int", .base (.int v), kit_ty (by decide +kernel), _, rfl, iteT ?_⟩
    refine ⟨_, rfl, _, _, _, _, false, rfl, .ty "bool", .base (.int v), kit_ty (by decide +kernel), _, rfl, _, rfl, iteT ⟨_, rfl, _, rfl, rfl, ?_⟩⟩
    rw [decide_eq_true (rfl : V.int v = V.int v)]
    exact q
  | str v =>
    have hx : x0 = .str v := hx
    have hy : x1 = .str v := hy
    subst hx hy
    refine ⟨_, rfl, _, _, _, _, false, rfl, .ty "tuple", .base (.str v), kit_ty (by decide +kernel), _, rfl, iteF ?_⟩
    refine ⟨_, rfl, rfl, _, rfl, iteF ?_⟩
    refine ⟨_, rfl, _, _, _, _, false, rfl, .ty "bool", .base (.str v), kit_ty (by decide +kernel), _, rfl, iteF ?_⟩
    refine ⟨_, rfl, _, _, _, _, false, rfl, .ty "int", .base (.str v), kit_ty (by decide +kernel), _, rfl, iteF ?_⟩
    refine ⟨_, rfl, _, _, _, _, true, rfl, .ty "str", .base (.str v), kit_ty (by decide +kernel), _, rfl, iteT ⟨_, rfl, _, rfl, rfl, ?_⟩⟩
    rw [decide_eq_true (rfl : V.str v = V.str v)]
    exact q
theorem all__law_same {f : Addr} {fd : FuncData} {cd : Value} (F : Df K "_law_same" s__law_same f fd cd) (T : Txt mg) (b : Binds K fd ["actual", "expected"] []) (m : mg "_law_same" = some (.ref f)) (kp : PySem.W.keepIn K (.ref f) = true) :
    ∀ n, FnOk P w K mg base CX0 n f fd ["actual", "expected"] (sp2 (R_same K n))
  | 0 => by
    have no : ∀ vs H Q E, ¬ sp2 (R_same K 0) vs H Q E := fun vs H Q E h => by
      obtain ⟨_, _, _, d, _, _, hd, _⟩ := h
      omega
    exact ⟨fun vs H Q E h => absurd h (no vs H Q E), fun A outer s H args us vs Q E _ _ _ _ h => absurd h (no vs H Q E)⟩
  | n + 1 => step__law_same F T (Cal.mk0 (all__law_same F T b m kp n) m kp b)
theorem ok__law_same {f : Addr} {fd : FuncData} {cd : Value} (F : Df K "_law_same" s__law_same f fd cd) (T : Txt mg) (b : Binds K fd ["actual", "expected"] []) (m : mg "_law_same" = some (.ref f)) (kp : PySem.W.keepIn K (.ref f) = true) :
    Cal P w K mg base 9 "_law_same" (sp__law_same K) [] := Cal.mk0 (all__law_same F T b m kp 9) m kp b
end
end Wc
namespace Wc
open PySem L2
/-- a dict whose keys are these numbers, also where it is locked -/
def LowAt (H : Hp) (l : Addr) (ls : List Int) : Prop := ∃ kvs, Rd H l (.dK kvs) ∧ kvs.map (·.1) = ls.map Sum.inl
theorem LowAt.get {H : Hp} {l : Addr} {ls : List Int} (h : LowAt H l ls) (n : Int) : ∃ r, DGet H l (.int n) r ∧ r.isSome = decide (n ∈ ls) := by
  obtain ⟨kvs, h1, h2⟩ := h
  exact ⟨_, .inl ⟨kvs, Sum.inl n, h1, rfl, rfl⟩, key_has h2 n⟩
theorem RsAt.at0 {K : PySem.W.Frag} {H : Hp} {a : Addr} {r : Rs} (h : RsAt K H a r) : ∃ t, SqT K H a r.row ∧ atI r.row (0 : Int) = some (.str t) ∧ (t = "register" ∨ t = "field" ∨ t = "entry" ∨ t = "deref") := by
  cases r with
  | reg k => exact ⟨_, h, Wc.at0, .inl rfl⟩
  | fld n k => exact ⟨_, h, Wc.at0, .inr (.inl rfl)⟩
  | ent n k => exact ⟨_, h, Wc.at0, .inr (.inr (.inl rfl))⟩
  | drf n => exact ⟨_, h, Wc.at0, .inr (.inr (.inr rfl))⟩
theorem LowAt.all {H H' : Hp} {l : Addr} {ls : List Int} (h : LowAt H l ls) (e : ExA H H') : LowAt H' l ls := by
  obtain ⟨kvs, h1, h2⟩ := h
  rcases h1 with h1 | ⟨o, h1⟩
  · exact ⟨kvs, .inl (ExA.at e h1), h2⟩
  · exact ⟨kvs, .inr ⟨o, ExA.at e h1⟩, h2⟩
theorem int_eq (i n : Int) : decide (V.int i = V.int n) = decide (i = n) := decide_eq_decide.mpr ⟨V.int.inj, fun e => by rw [e]⟩
theorem rf_eq (t : Rf) (n : Int) : decide (rV t = V.int n) = decide (t = some n) := by
  cases t with
  | none => rfl
  | some i => exact decide_eq_decide.mpr ⟨fun e => by rw [V.int.inj e], fun e => by cases e; rfl⟩
/-- looked up in the dict of rounds -/
theorem RoundsOf.look {h : Hd} {cs : List Int} {G : List (Int × Int)} (r : RoundsOf h cs G) {n : Int} (x : Obt h cs n) : valV (dI G) (Sum.inl n) = some (.int (rnk h cs n : Nat)) := by
  have key : ∀ (L : List (Int × Int)), (∀ q ∈ L, q ∈ G) → n ∈ L.map (·.1) → valV (dI L) (Sum.inl n) = some (.int (rnk h cs n : Nat)) := by
    intro L
    induction L with
    | nil => intro _ z; cases z
    | cons q t ih =>
      intro hs hm
      by_cases e : q.1 = n
      · obtain ⟨k, hk, h1, h2⟩ := r.val q.1 q.2 (hs q List.mem_cons_self)
        show valV ((Sum.inl q.1, V.int q.2) :: dI t) (Sum.inl n) = _
        rw [valV_pos (by show (Sum.inl q.1 : Key) = _; rw [e]), hk]
        have a : Rnk h cs k n := by rw [← e]; exact ⟨h1, h2⟩
        rw [a.eq]
      · show valV ((Sum.inl q.1, V.int q.2) :: dI t) (Sum.inl n) = _
        rw [valV_neg (fun z => e (Sum.inl.inj z))]
        refine ih (fun q' h' => hs q' (List.mem_cons_of_mem _ h')) ?_
        rcases List.mem_cons.mp hm with z | z
        · exact absurd z.symm e
        · exact z
  exact key G (fun _ z => z) ((r.all n).mpr x)
/-- the objects of a rising row of numbers, in their order -/
theorem obs_of {h : Hd} (ok : h.Ok) {ls : List Int} (up : ls.Pairwise (· < ·)) (hin : ∀ m ∈ ls, m ∈ h.nums) : (h.obs.filter fun o => decide (o.num ∈ ls)).map Ob.num = ls := by
  refine up_same ?_ up fun m => ?_
  · have q := ok.up
    unfold Hd.nums at q
    rw [List.pairwise_map] at q ⊢
    exact q.sublist List.filter_sublist
  · rw [List.mem_map]
    constructor
    · rintro ⟨o, h1, rfl⟩
      exact of_decide_eq_true (List.mem_filter.mp h1).2
    · intro z
      obtain ⟨o, h1, h2⟩ := List.mem_map.mp (hin m z)
      exact ⟨o, List.mem_filter.mpr ⟨h1, decide_eq_true (by rw [h2]; exact z)⟩, h2⟩
section
variable (K : PySem.W.Frag)
def R_named : V1 := fun x H Q => ∃ (a : Addr), x = .ref a ∧ ((∃ r : Rs, RsAt K H a r ∧ NewT r.names H Q) ∨ ∃ i : Int, SqT K H a [.str "register", .int i] ∧ NewT [] H Q)
abbrev sp_named : Sp := sp1 (R_named K)
def R_reason_from : V4 := fun x y z u H Q => ∃ (a : Addr) (o : Ob) (l : Addr) (ls : List Int) (c : Addr) (cs : List Int) (n : Int), x = .ref a ∧ y = .ref l ∧ z = .ref c ∧ u = .int n ∧ ObAt K H a o ∧ o.small ∧ LowAt H l ls ∧ SqT K H c (cs.map V.int) ∧
  ∀ H' v, ExA H H' → RsV K H' (rsFrom ls cs n o) v → Q v H'
abbrev sp_reason_from : Sp := sp4 (R_reason_from K)
def R_best_reason : V5 := fun x y z u v H Q => ∃ (a : Addr) (h : Hd) (th : Addr) (os : List Addr) (d : Addr) (G : List (Int × Int)) (c : Addr) (cs : List Int) (n : Int), x = .ref a ∧ y = .ref th ∧ z = .ref d ∧ u = .ref c ∧ v = .int n ∧
  HeapAt K H a h ∧ h.Ok ∧ H th = some (.dK (dictOf os h.obs)) ∧ Paired (ObAt K H) os h.obs ∧ H d = some (.dK (dI G)) ∧ RoundsOf h cs G ∧ SqT K H c (cs.map V.int) ∧ Obt h cs n ∧
  ∀ H' p, ExA H H' → RsAt K H' p (bst h cs n) → Q (.ref p) H'
abbrev sp_best_reason : Sp := sp5 (R_best_reason K)
end
section
variable {P : Program} {w : World} {K : PySem.W.Frag} {mg : Str → Option Value} {base : PySem.Heap}
theorem ok_named {f : Addr} {fd : FuncData} {cd : Value} (F : Df K "named" s_named f fd cd) (T : Txt mg) : FnOk P w K mg base CX0 1 f fd ["reason"] (sp_named K) := by
  have nd := sc_named.nd
  refine F.ok sc_named (fun vs H Q E h => ?_) (fun A outer s H vs Q E hr h => ?_)
  · obtain ⟨_, rfl, _⟩ := h; rfl
  have hu := hu_of hr
  obtain ⟨x0, rfl, h⟩ := h
  refine ⟨_, (pss_cons (ps_if (pt_cmpR op_eq (pe_ix (r := rIxT K) ix_tup (pv 0) pe_int (fun _ _ => rfl)) pe_str (nomark _)) (pss_one (ps_ret (pe_tup pa_nil))) pss_nil)
    (pss_cons (ps_if (pt_cmpR op_eq (pe_ix (r := rIxT K) ix_tup (pv 0) pe_int (fun _ _ => rfl)) pe_str (nomark _)) (pss_one (ps_ret (pe_tup (pa_cons (pe_ix (r := rIxT K) ix_tup (pv 0) pe_int (fun _ _ => rfl)) (pa_cons (pe_ix (r := rIxT K) ix_tup (pv 0) pe_int (fun _ _ => rfl)) pa_nil))))) pss_nil)
    (pss_one (ps_ret (pe_tup (pa_cons (pe_ix (r := rIxT K) ix_tup (pv 0) pe_int (fun _ _ => rfl)) pa_nil)))))), ?_⟩
  obtain ⟨a, rfl, h⟩ := h
  rcases h with ⟨r, hA, q⟩ | ⟨i, h1, q⟩
  rotate_left 1
  · refine ⟨_, rfl, a, _, _, _, rfl, rfl, h1, at0, rfl, _, rfl, iteT ?_⟩
    exact ⟨Nat.zero_le _, fun p hp => q p _ hp (ExM.new hp) upd_same⟩
  cases r with
  | reg k =>
    have h1 : SqT K H a [.str "register", .int (k : Nat)] := hA
    refine ⟨_, rfl, a, _, _, _, rfl, rfl, h1, at0, rfl, _, rfl, iteT ?_⟩
    exact ⟨Nat.zero_le _, fun p hp => q p _ hp (ExM.new hp) upd_same⟩
  | fld n k =>
    have h1 : SqT K H a [.str "field", .int n, .int (k : Nat)] := hA
    refine ⟨_, rfl, a, _, _, _, rfl, rfl, h1, at0, rfl, _, rfl, iteF ?_⟩
    refine ⟨_, rfl, a, _, _, _, rfl, rfl, h1, at0, rfl, _, rfl, iteF ?_⟩
    exact ⟨_, rfl, a, _, _, _, rfl, rfl, h1, at1, sz (by show 1 ≤ 100000; decide), fun p hp => q p _ hp (ExM.new hp) upd_same⟩
  | ent n k =>
    have h1 : SqT K H a [.str "entry", .int n, .int k] := hA
    refine ⟨_, rfl, a, _, _, _, rfl, rfl, h1, at0, rfl, _, rfl, iteF ?_⟩
    refine ⟨_, rfl, a, _, _, _, rfl, rfl, h1, at0, rfl, _, rfl, iteT ?_⟩
    exact ⟨_, rfl, a, _, _, _, rfl, rfl, h1, at1, _, rfl, a, _, _, _, rfl, rfl, h1, at2, sz (by show 2 ≤ 100000; decide), fun p hp => q p _ hp (ExM.new hp) upd_same⟩
  | drf n =>
    have h1 : SqT K H a [.str "deref", .int n] := hA
    refine ⟨_, rfl, a, _, _, _, rfl, rfl, h1, at0, rfl, _, rfl, iteF ?_⟩
    refine ⟨_, rfl, a, _, _, _, rfl, rfl, h1, at0, rfl, _, rfl, iteF ?_⟩
    exact ⟨_, rfl, a, _, _, _, rfl, rfl, h1, at1, sz (by show 1 ≤ 100000; decide), fun p hp => q p _ hp (ExM.new hp) upd_same⟩
theorem ok_reason_from {f : Addr} {fd : FuncData} {cd : Value} (F : Df K "reason_from" s_reason_from f fd cd) (T : Txt mg) : FnOk P w K mg base CX0 1 f fd ["thing", "lower", "condemned", "number"] (sp_reason_from K) := by
  have nd := sc_reason_from.nd
  refine F.ok sc_reason_from (fun vs H Q E h => ?_) (fun A outer s H vs Q E hr h => ?_)
  · obtain ⟨_, _, _, _, rfl, _⟩ := h; rfl
  have hu := hu_of hr
  obtain ⟨x0, x1, x2, x3, rfl, h⟩ := h
  refine ⟨_, (pss_cons (ps_if (pt_cmpR op_eq (pe_ix (r := rIxT K) ix_tup (pv 0) pe_int (fun _ _ => rfl)) pe_str (nomark _)) (pss_one (ps_ret (pe_ifExp (pt_cmpR (r := rIn K false) op_in_seq (pv 3) (pe_ix (r := rIxT K) ix_tup (pv 0) pe_int (fun _ _ => rfl)) (by first | exact nomark _ | rfl)) (pe_tup (pa_cons pe_str (pa_cons (pe_ix (r := rIxT K) ix_tup (pv 0) pe_int (fun _ _ => rfl)) (pa_cons (pe_bmZ PySem.F.plainAttrs_tuple PySem.F.slot_tuple_index PySem.F.type_tuple_index (r := rIndexT K) mt_indexT (pe_ix (r := rIxT K) ix_tup (pv 0) pe_int (fun _ _ => rfl)) (pa_cons (pv 3) pa_nil)) pa_nil)))) pe_non))) pss_nil)
    (pss_cons (ps_if (pt_cmpR op_eq (pe_ix (r := rIxT K) ix_tup (pv 0) pe_int (fun _ _ => rfl)) pe_str (nomark _)) (pss_cons (ps_setLc (i := 4) (own := [("key", 5), ("value", 6)]) rfl nd rfl rfl (sw_true rfl rfl rfl (by decide +kernel)) (show PI _ _ _ (iTup K _) from pi_tup (pe_ix (r := rIxT K) ix_tup (pv 0) pe_int (fun _ _ => rfl))) (blkOk_by (own := [("key", 5), ("value", 6)]) (N := N_reason_from) (sc := defScope s_reason_from) (by decide +kernel)) (fun _ _ _ _ _ => (show PG _ _ (gTup K 2 _) from pg_tup rfl (pgs_cons (pg_name (i := 5) nd rfl (by first | exact Or.inl rfl | exact Or.inr rfl)) (pgs_cons (pg_name (i := 6) nd rfl (by first | exact Or.inl rfl | exact Or.inr rfl)) pgs_nil)))) (fun _ _ _ _ _ => (pts_one (PW.pt (pw_and (pt_cmpR op_eq (pv 6) (pv 3) (nomark _)) (pw_and1 (pt_cmp (pc_din hu (pv 5) (pv 1)) rfl)))))) (fun _ _ _ _ _ => (pv 5)))
    (pss_one (ps_ret (pe_ifExp (pt_truth (pv 4) (by intro _; rfl)) (pe_tup (pa_cons pe_str (pa_cons (pe_ix (r := rIxT K) ix_tup (pv 0) pe_int (fun _ _ => rfl)) (pa_cons (pe_ix (r := rIxL K) ix_list (pv 4) pe_int (fun _ _ => rfl)) pa_nil)))) pe_non)))) pss_nil)
    (pss_cons (ps_if (PW.pt (pw_and (pt_cmpR op_eq (pe_ix (r := rIxT K) ix_tup (pv 0) pe_int (fun _ _ => rfl)) (pv 3) (nomark _)) (pw_and1 (pt_cmpR (r := rIn K true) op_notIn_seq (pv 3) (pv 2) (by first | exact nomark _ | rfl))))) (pss_one (ps_ret (pe_tup (pa_cons pe_str (pa_cons (pe_ix (r := rIxT K) ix_tup (pv 0) pe_int (fun _ _ => rfl)) pa_nil))))) pss_nil)
    (pss_one (ps_ret pe_non))))), ?_⟩
  obtain ⟨a, o, l, ls, c, cs, n, rfl, rfl, rfl, rfl, hO, sm, hL, hC, q⟩ := h
  cases o with
  | rcd m fs =>
    obtain ⟨t, h1, h2⟩ := hO
    refine ⟨_, rfl, a, _, _, _, rfl, rfl, h1, at0, rfl, _, rfl, iteT ?_⟩
    refine ⟨_, rfl, _, rfl, a, _, _, _, rfl, rfl, h1, at2, t, _, rfl, .inr h2.sq, rfl, flat_rfs fs, _, rfl, ?_⟩
    show if inV (V.int n) (fs.map rV) = true then _ else _
    rw [inV_rf]
    have q : ∀ H' v, ExA H H' → RsV K H' (if some n ∈ fs then some (.fld m (ixR fs n)) else none) v → Q v H' := q
    by_cases c1 : some n ∈ fs
    · rw [decide_eq_true c1]
      rw [if_pos c1] at q
      refine iteT ⟨_, rfl, a, _, _, _, rfl, rfl, h1, at1, _, rfl, a, _, _, _, rfl, rfl, h1, at2, ⟨_, _, rfl, h2⟩, _, rfl, ?_⟩
      dsimp only [tNil]
      refine indexT_ok h2.sq c1 ?_
      refine ⟨sz (by show 3 ≤ 100000; decide), fun p hp => ?_⟩
      exact q _ _ (ExM.new hp) ⟨p, rfl, SqT.of upd_same⟩
    · rw [decide_eq_false c1]
      rw [if_neg c1] at q
      exact iteF (q _ _ (ExM.refl _ _) rfl)
  | weak m t =>
    have h1 : SqT K H a [.str "weak", .int m, rV t] := hO
    have q : ∀ H' v, ExA H H' → RsV K H' (if t = some n ∧ n ∉ cs then some (.drf m) else none) v → Q v H' := q
    refine ⟨_, rfl, a, _, _, _, rfl, rfl, h1, at0, rfl, _, rfl, iteF ?_⟩
    refine ⟨_, rfl, a, _, _, _, rfl, rfl, h1, at0, rfl, _, rfl, iteF ?_⟩
    unfold tNext
    dsimp only
    show tSeq (tIfS (tAnd _ _) _ _) _ _ _ _
    refine and_join (decide (t = some n)) (decide (n ∉ cs)) (fun Q' z => ⟨_, rfl, a, _, _, _, rfl, rfl, h1, at2, _, rfl, ?_⟩) (fun _ Q' z => ⟨_, rfl, _, rfl, c, _, rfl, .inr hC, rfl, flat_ints _, _, rfl, ?_⟩) ?_
    · exact ⟨by cases t <;> rfl, _, rfl, rf_eq t n ▸ z⟩
    · rw [if_pos rfl, inV_int, ← decide_not]; exact z
    by_cases c1 : t = some n ∧ n ∉ cs
    · rw [if_pos c1] at q
      rw [decide_eq_true c1.1, decide_eq_true c1.2]
      exact iteT ⟨_, rfl, a, _, _, _, rfl, rfl, h1, at1, sz (by show 2 ≤ 100000; decide), fun p hp => q _ _ (ExM.new hp) ⟨p, rfl, SqT.of upd_same⟩⟩
    · rw [if_neg c1] at q
      have e : (decide (t = some n) && decide (n ∉ cs)) = false := by
        rw [Bool.and_eq_false_iff]
        by_cases c2 : t = some n
        · exact .inr (decide_eq_false fun z => c1 ⟨c2, z⟩)
        · exact .inl (decide_eq_false c2)
      rw [e]
      exact iteF (q _ _ (ExM.refl _ _) rfl)
  | tab m es =>
    obtain ⟨t, ps, h1, hz2, h3⟩ := hO; have h2 := hz2.sq (K := K)
    have q : ∀ H' v, ExA H H' → RsV K H' (((es.filter fun e => decide (e.2 = n) && decide (e.1 ∈ ls)).head?).map fun e => .ent m e.1) v → Q v H' := q
    refine ⟨_, rfl, a, _, _, _, rfl, rfl, h1, at0, rfl, _, rfl, iteF ?_⟩
    refine ⟨_, rfl, a, _, _, _, rfl, rfl, h1, at0, rfl, _, rfl, iteT ?_⟩
    refine ⟨_, rfl, a, _, _, _, rfl, rfl, h1, at2, t, rfl, ⟨_, h2⟩, fun D hD => ?_⟩
    have hl := plen h3
    have sm' : es.length ≤ 1000 := sm
    refine lcM [] (walk_tup (xs := ps.map V.ref)) hD (fun i acc _ => acc = (((es.take i).filter fun e => decide (e.2 = n) && decide (e.1 ∈ ls)).map (·.1)).map V.int) rfl (fun H' e => Tk.all e _ _ h2) (fun i x H1 H2 acc hi e k1 k2 hacc y => ?_) (fun H' acc e k1 k2 hacc => ?_)
    · obtain ⟨rfl, hx⟩ := y
      rw [List.length_map] at hi
      obtain ⟨p, hp⟩ : ∃ p, ps[i]? = some p := ⟨ps[i], List.getElem?_eq_getElem hi⟩
      obtain ⟨e1, he1, hpa⟩ := pget h3 hp
      rw [List.getElem?_map, hp] at hx
      obtain rfl : V.ref p = x := Option.some.inj hx
      refine ⟨p, _, rfl, Tk.all e _ _ hpa, rfl, _, _, rfl, _, _, rfl, ⟨rfl, rfl, ?_⟩⟩
      refine and_join (decide (e1.2 = n)) (decide (e1.1 ∈ ls)) (fun Q' z => ⟨_, rfl, _, rfl, rfl, _, rfl, int_eq e1.2 n ▸ z⟩) (fun _ Q' z => ?_) ?_
      · obtain ⟨r, g1, g2⟩ := (hL.all e).get e1.1
        exact ⟨_, rfl, _, rfl, l, _, rfl, g1, _, rfl, g2 ▸ z⟩
      have ht := take_snoc he1
      by_cases m : (decide (e1.2 = n) && decide (e1.1 ∈ ls)) = true
      · rw [m]
        refine iteT ⟨_, rfl, LcP.yes hD (by simp) (by omega) e k1 k2 (ExM.refl _ _) ?_⟩
        rw [hacc, ht, List.filter_append, List.map_append, List.map_append]
        simp only [List.filter_cons, m, if_true, List.filter_nil, List.map_cons, List.map_nil]
      · rw [Bool.eq_false_iff.mpr m]
        refine iteF (LcP.no (by simp) e k1 k2 (ExM.refl _ _) ?_)
        rw [hacc, ht, List.filter_append, List.map_append, List.map_append]
        simp only [List.filter_cons, m, Bool.false_eq_true, if_false, List.filter_nil, List.map_nil, List.append_nil]
    · rw [List.length_map, hl, List.take_length] at hacc
      have h1' := Tk.all (K := K) e _ _ h1
      cases ef : es.filter (fun e => decide (e.2 = n) && decide (e.1 ∈ ls)) with
      | nil =>
        rw [ef] at hacc q
        subst hacc
        refine ⟨_, rfl, false, .inl ⟨_, SqL.of k1, rfl⟩, iteF (q _ _ e rfl)⟩
      | cons e1 er =>
        rw [ef] at hacc q
        subst hacc
        refine ⟨_, rfl, true, .inl ⟨_, SqL.of k1, rfl⟩, iteT ?_⟩
        refine ⟨_, rfl, a, _, _, _, rfl, rfl, h1', at1, _, rfl, D, _, _, _, rfl, rfl, SqL.of k1, at0, sz (by show 3 ≤ 100000; decide), fun p hp => ?_⟩
        exact q _ _ (ExM.trans e (ExM.new hp)) ⟨p, rfl, SqT.of upd_same⟩
theorem ok_best_reason {f : Addr} {fd : FuncData} {cd : Value} (F : Df K "best_reason" s_best_reason f fd cd) (T : Txt mg) (C_registers_of : Cal P w K mg base 1 "registers_of" (sp_registers_of K) []) (C_reason_from : Cal P w K mg base 1 "reason_from" (sp_reason_from K) []) : FnOk P w K mg base CX0 2 f fd ["heap", "things", "depths", "condemned", "number"] (sp_best_reason K) := by
  have nd := sc_best_reason.nd
  refine F.ok sc_best_reason (fun vs H Q E h => ?_) (fun A outer s H vs Q E hr h => ?_)
  · obtain ⟨_, _, _, _, _, rfl, _⟩ := h; rfl
  have hu := hu_of hr
  obtain ⟨x0, x1, x2, x3, x4, rfl, h⟩ := h
  refine ⟨_, (pss_cons (ps_if (pt_cmpR op_eq (pe_dget hu (pv 2) (pv 4) (fun _ _ => rfl)) pe_int (nomark _)) (pss_one (ps_ret (pe_tup (pa_cons pe_str (pa_cons (pe_bmZ PySem.F.plainAttrs_tuple PySem.F.slot_tuple_index PySem.F.type_tuple_index (r := rIndexT K) mt_indexT (pe_c C_registers_of hr (by first | exact Nat.le_refl _ | decide) rfl (pa_cons (pv 0) pa_nil)) (pa_cons (pv 4) pa_nil)) pa_nil))))) pss_nil)
    (pss_cons (ps_set (i := 5) nd rfl (by first | exact Or.inl rfl | exact Or.inr rfl) (pe_dc (own := [("other", 6)]) rfl nd (show PI _ _ _ (iList K _) from pi_list (pe_callB (call_sortedDI rfl) rfl T.sorted (by decide +kernel) (pa_cons (pv 2) pa_nil))) (blkOk_by (own := [("other", 6)]) (N := N_best_reason) (sc := defScope s_best_reason) (by decide +kernel)) (fun _ _ _ _ _ => (pg_name (i := 6) nd rfl (by first | exact Or.inl rfl | exact Or.inr rfl))) (fun _ _ _ _ _ => (pts_one (pt_cmpR op_lt (pe_dget hu (pv 2) (pv 6) (fun _ _ => rfl)) (pe_dget hu (pv 2) (pv 4) (fun _ _ => rfl)) (nomark _)))) (fun _ _ _ _ _ => (pv 6)) (fun _ _ _ _ _ => pe_bl)))
    (pss_cons (ps_lock (ps_setLc (i := 7) (own := [("other", 6)]) rfl nd rfl rfl (sw_true rfl rfl rfl (by decide +kernel)) (pi_keys (pv 5)) (blkOk_by (own := [("other", 6)]) (N := N_best_reason) (sc := defScope s_best_reason) (by decide +kernel)) (fun _ _ _ _ _ => (pg_name (i := 6) nd rfl (by first | exact Or.inl rfl | exact Or.inr rfl))) (fun _ _ _ _ _ => pts_nil) (fun _ _ _ _ _ => (pe_c C_reason_from hr (by first | exact Nat.le_refl _ | decide) rfl (pa_cons (pe_dget hu (pv 1) (pv 6) (fun _ _ => rfl)) (pa_cons (pv 5) (pa_cons (pv 3) (pa_cons (pv 4) pa_nil))))))))
    (pss_one (ps_ret (pe_ix (r := rIxL K) ix_list (pe_lc (own := [("reason", 8)]) rfl nd (show PI _ _ _ (iList K _) from pi_list (pv 7)) (blkOk_by (own := [("reason", 8)]) (N := N_best_reason) (sc := defScope s_best_reason) (by decide +kernel)) (fun _ _ _ _ _ => (pg_name (i := 8) nd rfl (by first | exact Or.inl rfl | exact Or.inr rfl))) (fun _ _ _ _ _ => (pts_one (pt_cmpR op_notN (pv 8) pe_non (nomark _)))) (fun _ _ _ _ _ => (pv 8))) pe_int (fun _ _ => rfl))))))), ?_⟩
  obtain ⟨a, h, th, os, d, G, c, cs, n, rfl, rfl, rfl, rfl, rfl, hA, ok, hth, hos, hd, rG, hC, hx, q⟩ := h
  have hl := plen hos
  refine ⟨_, rfl, _, rfl, d, _, rfl, DGet.k (k := Sum.inl n) hd |> fun z => by rw [rG.look hx] at z; exact z, rfl, _, rfl, ite2 (fun c1 => ?_) (fun c1 => ?_)⟩
  · have e0 : rnk h cs n = 0 := by
      have z := of_decide_eq_true c1
      have z := V.int.inj z
      omega
    rw [bst_zero e0] at q
    have hreg : some n ∈ h.regs := by
      have z := (Obt.rnk hx).1
      rw [e0] at z
      exact z
    refine ⟨_, rfl, _, rfl, a, h, rfl, hA, fun r hr => ⟨⟨_, _, rfl, hr⟩, _, rfl, ?_⟩⟩
    dsimp only [tNil]
    refine indexT_ok hr.sq hreg ?_
    refine ⟨sz (by show 2 ≤ 100000; decide), fun p hp => q _ p (ExM.new hp) (SqT.of upd_same)⟩
  have ne0 : rnk h cs n ≠ 0 := fun e => by
    have z := of_decide_eq_false (Bool.eq_false_iff.mpr c1)
    exact z (by rw [e]; rfl)
  obtain ⟨k, ek⟩ : ∃ k, rnk h cs n = k + 1 := ⟨rnk h cs n - 1, by omega⟩
  have zG : (G.map (·.1)).length < 64 := by
    have z1 := nd_sub rG.nd fun n hn => Obt.num ok ((rG.all n).mp hn)
    have z3 : h.nums.length ≤ 50 := by unfold Hd.nums; rw [List.length_map]; exact ok.size
    omega
  refine ⟨_, rfl, d, _, G.map (·.1), rfl, .inl hd, dI_keys G, zG, fun ys ly hperm hle fly => ?_⟩
  have ndy : ys.Nodup := (hperm.nodup_iff).mpr rG.nd
  have hys : ∀ m, m ∈ ys ↔ Obt h cs m := fun m => (hperm.mem_iff).trans (rG.all m)
  have e1 : ExA H (upd H ly (.lst (ys.map V.int))) := ExM.new fly
  have hly : (upd H ly (.lst (ys.map V.int))) ly = some (.lst (ys.map V.int)) := upd_same
  generalize upd H ly (.lst (ys.map V.int)) = H1 at e1 hly ⊢
  refine ⟨ly, rfl, ⟨_, SqL.of hly⟩, fun lo flo => ?_⟩
  let lt : Int → Bool := fun m => decide (rnk h cs m < rnk h cs n)
  have zys : ys.length < 64 := by rw [hperm.length_eq]; exact zG
  refine dcM [] (walk_list (xs := ys.map V.int)) flo (fun i acc _ => acc = dB ((ys.take i).filter lt)) rfl (fun H' e => SqL.of (ExA.at e hly)) (fun i x H2 H3 acc hi e k1 k2 hacc y => ?_) (fun H2 acc e2 k1 k2 hacc => ?_)
  · obtain ⟨rfl, hx'⟩ := y
    rw [List.length_map] at hi
    obtain ⟨m, hm⟩ : ∃ m, ys[i]? = some m := ⟨_, List.getElem?_eq_getElem hi⟩
    rw [List.getElem?_map, hm] at hx'
    obtain rfl : V.int m = x := Option.some.inj hx'
    have hmO := (hys m).mp (List.mem_of_getElem? hm)
    have hd3 := ExA.at (e1.trans e) hd
    refine ⟨rfl, _, rfl, _, rfl, d, _, rfl, DGet.k (k := Sum.inl m) hd3 |> fun z => by rw [rG.look hmO] at z; exact z, _, rfl, _, rfl, d, _, rfl, DGet.k (k := Sum.inl n) hd3 |> fun z => by rw [rG.look hx] at z; exact z, _, _, rfl, rfl, _, rfl, ?_⟩
    have ht := take_snoc hm
    have dd : decide (((rnk h cs m : Nat) : Int) < ((rnk h cs n : Nat) : Int)) = lt m := decide_eq_decide.mpr (by omega)
    rw [dd]
    by_cases c : lt m = true
    · rw [c]
      refine iteT ⟨_, rfl, DcP.yes (k := Sum.inl m) flo (by simp) (by omega) e k1 k2 rfl (ExM.refl _ _) ?_⟩
      rw [hacc, dB_put, ht, List.filter_append]
      have nm : m ∉ (ys.take i).filter lt := fun z => by
        have z1 := (List.mem_filter.mp z).1
        obtain ⟨j, hj⟩ := List.getElem?_of_mem z1
        have hlt : j < i := by
          have := (List.getElem?_eq_some_iff.mp hj).1
          rw [List.length_take] at this; omega
        rw [List.getElem?_take_of_lt hlt] at hj
        exact absurd (nd_ix ndy hj hm) (Nat.ne_of_lt hlt)
      unfold addK
      rw [if_neg nm]
      simp only [List.filter_cons, c, if_true, List.filter_nil]
    · rw [Bool.eq_false_iff.mpr c]
      refine iteF ⟨e, acc, k1, by omega, ?_⟩
      show acc = dB ((ys.take (i + 1)).filter lt)
      rw [hacc, ht, List.filter_append]
      simp only [List.filter_cons, c, Bool.false_eq_true, if_false, List.filter_nil, List.append_nil]
  rw [List.length_map, List.take_length] at hacc
  subst hacc
  obtain ⟨ls, els⟩ : ∃ ls, ls = ys.filter lt := ⟨_, rfl⟩
  rw [← els] at k1
  have hls : ∀ m, m ∈ ls ↔ In h cs k m := fun m => by
    rw [els, List.mem_filter, hys m]
    constructor
    · rintro ⟨z1, z2⟩
      have z2 : rnk h cs m < rnk h cs n := of_decide_eq_true z2
      exact (in_iff z1).mpr (by omega)
    · intro z
      have z1 : Obt h cs m := ⟨k, z⟩
      exact ⟨z1, decide_eq_true (by have := rnk_le z; omega)⟩
  have upls : ls.Pairwise (· < ·) := by rw [els]; exact (up_of hle ndy).sublist List.filter_sublist
  have hobs := obs_of ok upls fun m hm => In.num ok ((hls m).mp hm)
  obtain ⟨obs, eobs⟩ : ∃ obs, obs = h.obs.filter fun o => decide (o.num ∈ ls) := ⟨_, rfl⟩
  rw [← eobs] at hobs
  have obsIn : ∀ o ∈ obs, o ∈ h.obs := fun o ho => by rw [eobs] at ho; exact (List.mem_filter.mp ho).1
  have lobs : ls.length = obs.length := by rw [← hobs, List.length_map]
  have zobs : obs.length ≤ 50 := by
    have := ok.size
    have z : obs.length ≤ h.obs.length := by rw [eobs]; exact List.length_filter_le _ _
    omega
  -- the reasons, one for each lower object
  have e02 : ExA H H2 := ExM.trans e1 e2
  have nth : th ≠ lo := ne_of_none (ExA.at e1 hth) flo
  refine ⟨lo, _, k1, trivial, fun od => ?_⟩
  refine ⟨_, rfl, lo, od, rfl, .inl ⟨_, upd_same, fun D hD => ?_⟩⟩
  have T4 : Tk K H (upd H2 lo (.frz od (.dK (dB ls)))) := Tk.trans (Tk.all e02) (Tk.dic k1)
  have hth4 : (upd H2 lo (.frz od (.dK (dB ls)))) th = some (.dK (dictOf os h.obs)) := by rw [upd_ne nth]; exact ExA.at e02 hth
  have hlo4 : (upd H2 lo (.frz od (.dK (dB ls)))) lo = some (.frz od (.dK (dB ls))) := upd_same
  have back : ∀ H5, ExA (upd H2 lo (.frz od (.dK (dB ls)))) H5 → ExA H (upd H5 lo (.dK (dB ls))) := fun H5 e b u _ eb => by
    have nb : b ≠ lo := ne_of_none (ExA.at e1 eb) flo
    rw [upd_ne nb]
    refine ExA.at e ?_
    rw [upd_ne nb]
    exact ExA.at e02 eb
  generalize upd H2 lo (.frz od (.dK (dB ls))) = H4 at hD T4 hth4 hlo4 back ⊢
  refine lcM [] (walk_keys (d := lo) (o := od) (kvs := dB ls)) hD (fun i acc H' => Paired (fun v o => RsV K H' (rsFrom ls cs n o) v) acc (obs.take i)) .nil (fun H' e => ExA.at e hlo4) (fun i x H5 H6 acc hi e p1 p2 hacc y => ?_) (fun H5 acc e5 p1 p2 hacc => ?_)
  · obtain ⟨rfl, kk, v, hk, rfl⟩ := y
    rw [dB_len] at hi
    obtain ⟨o, ho⟩ : ∃ o, obs[i]? = some o := ⟨_, List.getElem?_eq_getElem (by omega)⟩
    have hm : ls[i]? = some o.num := by rw [← hobs, List.getElem?_map, ho]; rfl
    have hk' : ((dB ls).map (·.1))[i]? = some (Sum.inl o.num) := by rw [dB_keys, List.getElem?_map, hm]; rfl
    rw [List.getElem?_map, hk] at hk'
    obtain rfl : kk = Sum.inl o.num := Option.some.inj hk'
    have hoh := obsIn o (List.mem_of_getElem? ho)
    have t5 := Tk.trans T4 (Tk.all (K := K) e)
    have hos5 : Paired (ObAt K H6) os h.obs := pmp hos fun _ _ z => ObAt.mono t5 z
    obtain ⟨oa, o', g1, g2, g3, g4⟩ := dictOf_get (n := o.num) hos5 (List.mem_map_of_mem (f := Ob.num) hoh)
    obtain rfl : o' = o := ob_uniq ok g2 hoh g3
    refine ⟨rfl, tyes ?_⟩
    refine ⟨_, rfl, _, rfl, th, _, rfl, DGet.k (k := Sum.inl o'.num) (ExA.at e hth4) |> fun z => by rw [g1] at z; exact z, _, rfl, _, rfl, _, rfl, ?_⟩
    refine ⟨_, _, _, _, rfl, oa, o', lo, ls, c, cs, n, rfl, rfl, rfl, rfl, g4, (ok.obs o' g2).small, ⟨_, .inr ⟨od, ExA.at e hlo4⟩, dB_keys ls⟩, t5 _ _ hC, fun H7 w7 e7 hv => ?_⟩
    refine LcP.yes hD (by simp) (by omega) e p1 p2 e7 ?_
    have h7 := e7 D _ (by simp) p1
    rw [take_snoc ho]
    have acc7 : Paired (fun v o => RsV K (upd H7 D (.lst (acc ++ [w7]))) (rsFrom ls cs n o) v) acc (obs.take i) := pmp (F := fun v o => RsV K H6 (rsFrom ls cs n o) v) hacc fun _ _ z => RsV.mono (Tk.trans (Tk.all e7) (Tk.lst h7)) z
    exact psnoc (F := fun v o => RsV K (upd H7 D (.lst (acc ++ [w7]))) (rsFrom ls cs n o) v) (RsV.mono (Tk.lst h7) hv) acc7
  rw [dB_len] at p2
  rw [dB_len, lobs, List.take_length] at hacc
  refine ⟨ExA.at e5 hlo4, ?_⟩
  have T6 : Tk K H5 (upd H5 lo (.dK (dB ls))) := Tk.frz (ExA.at e5 hlo4)
  have nDlo : D ≠ lo := (ne_of_none hlo4 hD).symm
  have hD6 : (upd H5 lo (.dK (dB ls))) D = some (.lst acc) := by rw [upd_ne nDlo]; exact p1
  have e06 := back H5 e5
  have hr6 : Paired (fun v o => RsV K (upd H5 lo (.dK (dB ls))) (rsFrom ls cs n o) v) acc obs := pmp (F := fun v o => RsV K H5 (rsFrom ls cs n o) v) hacc fun _ _ z => RsV.mono T6 z
  generalize upd H5 lo (.dK (dB ls)) = H6 at hD6 e06 hr6 ⊢
  -- those that are there
  refine ⟨_, rfl, D, rfl, ⟨_, SqL.of hD6⟩, fun D2 fD2 => ?_⟩
  refine lcM [] (walk_list (xs := acc)) fD2 (fun i a2 H' => Paired (fun v r => ∃ ra, v = V.ref ra ∧ RsAt K H' ra r) a2 ((obs.take i).filterMap (rsFrom ls cs n))) .nil (fun H' e => SqL.of (ExA.at e hD6)) (fun i x H7 H8 a2 hi e r1 r2 ha2 y => ?_) (fun H7 a2 e7 r1 r2 ha2 => ?_)
  · obtain ⟨rfl, hx'⟩ := y
    obtain ⟨o, ho, hv⟩ := pget hr6 hx'
    have hv7 := RsV.mono (Tk.all e) hv
    have ht : (obs.take (i + 1)).filterMap (rsFrom ls cs n) = (obs.take i).filterMap (rsFrom ls cs n) ++ (rsFrom ls cs n o).toList := by
      rw [take_snoc ho, List.filterMap_append]
      cases er : rsFrom ls cs n o <;> simp [er]
    have zi : i ≤ 40000 := by have := plen hr6; omega
    cases er : rsFrom ls cs n o with
    | none =>
      rw [er] at hv7 ht
      have hv7 : x = .non := hv7
      subst hv7
      refine ⟨rfl, _, rfl, rfl, _, rfl, iteF (LcP.no (by simp) e r1 r2 (ExM.refl _ _) ?_)⟩
      rw [ht]; simpa using ha2
    | some r =>
      rw [er] at hv7 ht
      obtain ⟨ra, rfl, hra⟩ := hv7
      refine ⟨rfl, _, rfl, rfl, _, rfl, iteT ⟨_, rfl, LcP.yes fD2 (by simp) zi e r1 r2 (ExM.refl _ _) ?_⟩⟩
      rw [ht]
      exact psnoc ⟨ra, rfl, RsAt.mono (Tk.lst r1) hra⟩ (pmp ha2 fun _ _ z => let ⟨ra, z1, z2⟩ := z; ⟨ra, z1, RsAt.mono (Tk.lst r1) z2⟩)
  have lacc := plen hr6
  rw [lacc, List.take_length] at ha2
  obtain ⟨r, t, hrs⟩ := rs_some hx ek hls
  have hb : bst h cs n = r := bst_succ ok ek hls (by rw [hrs]; rfl)
  have e3 : obs.filterMap (rsFrom ls cs n) = r :: t := by rw [eobs]; exact hrs
  rw [e3] at ha2
  cases ha2 with
  | cons hv htl =>
    obtain ⟨ra, rfl, hra⟩ := hv
    refine ⟨D2, _, _, _, rfl, rfl, SqL.of r1, at0, q _ ra (ExM.trans e06 e7) (by rw [hb]; exact hra)⟩
end
end Wc
namespace Wc
open PySem L2
abbrev LT_derive (K : PySem.W.Frag) : List (Addr × Str) := [((He.cT K ("derive", none)).2, ("derive" : Str) ++ ".<locals>." ++ "<lambda>")]
/-! ### data, under a memory that has grown -/
theorem Tk.ext {K : PySem.W.Frag} {H H' : Hp} (h : LamX.ExtN H H') : Tk K H H' := ⟨fun a xs e => by
  rcases e with (e | ⟨v, e⟩) | e
  · exact .inl (.inl (h _ _ e (fun _ z => nomatch z)))
  · exact .inl (.inr ⟨v, h _ _ e (fun _ z => nomatch z)⟩)
  · exact .inr e, fun a v xs e => h _ _ e (fun _ z => nomatch z)⟩
mutual
theorem Is.mono {K : PySem.W.Frag} {H H' : Hp} (t : Tk K H H') : ∀ (d : Dt) (v : V), Is K H d v → Is K H' d v
  | .non, v, h => h
  | .bl b, v, h => h
  | .int i, v, h => h
  | .str s, v, h => h
  | .tup ds, v, h => let ⟨a, xs, e, h1, h2⟩ := h; ⟨a, xs, e, t.sq _ _ h1, IsL.mono t ds xs h2⟩
theorem IsL.mono {K : PySem.W.Frag} {H H' : Hp} (t : Tk K H H') : ∀ (ds : List Dt) (xs : List V), IsL K H ds xs → IsL K H' ds xs
  | [], xs, h => h
  | d :: ds, xs, h => let ⟨x, r, e, h1, h2⟩ := h; ⟨x, r, e, Is.mono t d x h1, IsL.mono t ds r h2⟩
end
theorem IsL.of {α : Type} {K : PySem.W.Frag} {H : Hp} {f : α → Dt} : ∀ {xs : List V} {ms : List α}, Paired (fun v m => Is K H (f m) v) xs ms → IsL K H (ms.map f) xs
  | _, _, .nil => rfl
  | _, _, .cons r t => ⟨_, _, rfl, r, IsL.of t⟩
/-! ### keys of a dict that is written -/
theorem putK_keys {kvs : List (Key × V)} {ks : List Int} (h : kvs.map (·.1) = ks.map Sum.inl) (n : Int) (v : V) : (putK kvs (Sum.inl n) v).map (·.1) = (addK ks n).map Sum.inl := by
  have q := key_has h n
  unfold addK
  by_cases m : n ∈ ks
  · rw [if_pos m, ← h]
    rw [decide_eq_true m] at q
    unfold putK
    rw [valV_any, q, if_pos rfl, List.map_map]
    refine List.map_congr_left fun k _ => ?_
    show (if k.1 = Sum.inl n then (k.1, v) else k).1 = k.1
    split <;> rfl
  · rw [if_neg m]
    rw [decide_eq_false m] at q
    rw [putK_new _ (by cases e : valV kvs (Sum.inl n) with | none => rfl | some v => rw [e] at q; cases q), List.map_append, h, List.map_append]
    rfl
/-! ### who waits, who has a reason -/
structure Wk (h : Hd) (cs : List Int) (n : Int) (ws ks : List Int) : Prop where
  wN : ∀ m ∈ ws, Need h cs n m
  kN : ∀ m ∈ ks, Need h cs n m
  nd : ks.Nodup
  me : n ∈ ks ∨ n ∈ ws
  nx : ∀ m ∈ ks, ∀ k ∈ (bst h cs m).names, k ∈ ks ∨ k ∈ ws
  hi : ∀ j m, ws[j]? = some m → j + 1 + rnk h cs m ≤ h.obs.length + 1
noncomputable def msr (h : Hd) (cs : List Int) (ws : List Int) : Nat := (ws.map fun m => 3 ^ rnk h cs m).sum
theorem msr_lt {h : Hd} {cs : List Int} {r : Nat} : ∀ {l : List Int}, l.length ≤ 2 → (∀ m ∈ l, rnk h cs m < r) → msr h cs l < 3 ^ r
  | [], _, _ => Nat.pow_pos (by decide)
  | [a], _, h2 => by
    have := Nat.pow_lt_pow_right (a := 3) (by decide) (h2 a (by simp))
    simpa [msr] using this
  | [a, b], _, h2 => by
    have ha := h2 a (by simp)
    have hb := h2 b (by simp)
    obtain ⟨s, rfl⟩ : ∃ s, r = s + 1 := ⟨r - 1, by omega⟩
    have h3 := Nat.pow_le_pow_right (n := 3) (by decide) (show rnk h cs a ≤ s by omega)
    have h4 := Nat.pow_le_pow_right (n := 3) (by decide) (show rnk h cs b ≤ s by omega)
    have h5 : 0 < 3 ^ s := Nat.pow_pos (by decide)
    have e : msr h cs [a, b] = 3 ^ rnk h cs a + 3 ^ rnk h cs b := by simp [msr]
    rw [e, Nat.pow_succ]
    omega
  | _ :: _ :: _ :: _, h1, _ => by simp at h1
section
variable {h : Hd} {cs : List Int} {n x : Int} {ws ks : List Int}
theorem msr_app (ws vs : List Int) : msr h cs (ws ++ vs) = msr h cs ws + msr h cs vs := by unfold msr; rw [List.map_append, List.sum_append]
/-- what is put behind the others for x -/
noncomputable def nxt (h : Hd) (cs : List Int) (ks : List Int) (x : Int) : List Int := (bst h cs x).names.filter fun k => decide (k ∉ addK ks x)
theorem nxt_len : (nxt h cs ks x).length ≤ 2 := Nat.le_trans (List.length_filter_le _ _) (Rs.names_len _)
theorem Wk.step (ok : h.Ok) (hn : Obt h cs n) (q : Wk h cs n (ws ++ [x]) ks) : Wk h cs n (ws ++ nxt h cs ks x) (addK ks x) := by
  have hx : Need h cs n x := q.wN x (by simp)
  have ox := Need.obt ok hn hx
  refine ⟨fun m hm => ?_, fun m hm => ?_, addK_nd q.nd, ?_, fun m hm k hk => ?_, fun j m hj => ?_⟩
  · rcases List.mem_append.mp hm with z | z
    · exact q.wN m (List.mem_append_left _ z)
    · exact .step hx (List.mem_filter.mp z).1
  · rcases mem_addK.mp hm with z | rfl
    · exact q.kN m z
    · exact hx
  · rcases q.me with z | z
    · exact .inl (mem_addK.mpr (.inl z))
    · rcases List.mem_append.mp z with z | z
      · exact .inr (List.mem_append_left _ z)
      · have z : n = x := by simpa using z
        exact .inl (mem_addK.mpr (.inr z))
  · have key : m ≠ x → k ∈ ks ∨ k ∈ ws ++ [x] := fun ne => by
      rcases mem_addK.mp hm with z | z
      · exact q.nx m z k hk
      · exact absurd z ne
    by_cases e : m = x
    · subst e
      by_cases c : k ∈ addK ks m
      · exact .inl c
      · exact .inr (List.mem_append_right _ (List.mem_filter.mpr ⟨hk, decide_eq_true c⟩))
    · rcases key e with z | z
      · exact .inl (mem_addK.mpr (.inl z))
      · rcases List.mem_append.mp z with z | z
        · exact .inr (List.mem_append_left _ z)
        · have z : k = x := by simpa using z
          exact .inl (mem_addK.mpr (.inr z))
  · by_cases c : j < ws.length
    · rw [List.getElem?_append_left c] at hj
      exact q.hi j m (by rw [List.getElem?_append_left c]; exact hj)
    · rw [List.getElem?_append_right (by omega)] at hj
      have h1 := q.hi ws.length x (by rw [List.getElem?_append_right (Nat.le_refl _), Nat.sub_self]; rfl)
      have h2 : m ∈ nxt h cs ks x := List.mem_of_getElem? hj
      have h3 := (bst_names ok ox m (List.mem_filter.mp h2).1).2
      have h4 := (List.getElem?_eq_some_iff.mp hj).1
      have h5 : (nxt h cs ks x).length ≤ 2 := nxt_len
      omega
theorem Wk.less (ok : h.Ok) (hn : Obt h cs n) (q : Wk h cs n (ws ++ [x]) ks) : msr h cs (ws ++ nxt h cs ks x) < msr h cs (ws ++ [x]) := by
  rw [msr_app, msr_app]
  have e : msr h cs [x] = 3 ^ rnk h cs x := by simp [msr]
  rw [e]
  have ox := Need.obt ok hn (q.wN x (by simp))
  have := msr_lt (h := h) (cs := cs) (r := rnk h cs x) (l := nxt h cs ks x) nxt_len fun m hm => (bst_names ok ox m (List.mem_filter.mp hm).1).2
  omega
theorem Wk.len (q : Wk h cs n ws ks) : ws.length ≤ h.obs.length + 1 := by
  cases e : ws.length with
  | zero => omega
  | succ k =>
    have hk : k < ws.length := by omega
    have := q.hi k ws[k] (List.getElem?_eq_getElem hk)
    omega
theorem Wk.size (ok : h.Ok) (hn : Obt h cs n) (q : Wk h cs n ws ks) : ks.length ≤ h.obs.length := by
  have := nd_sub q.nd fun m hm => Obt.num ok (Need.obt ok hn (q.kN m hm))
  unfold Hd.nums at this
  rwa [List.length_map] at this
theorem Wk.done (q : Wk h cs n [] ks) (m : Int) : m ∈ ks ↔ Need h cs n m := by
  refine ⟨q.kN m, fun z => ?_⟩
  induction z with
  | base => exact q.me.elim id fun z => nomatch z
  | step _ hk ih => exact (q.nx _ ih _ hk).elim id fun z => nomatch z
theorem Wk.first (ok : h.Ok) (hn : Obt h cs n) : Wk h cs n [n] [] := by
  refine ⟨fun m hm => ?_, fun m hm => (nomatch hm), List.nodup_nil, .inr (by simp), fun m hm => (nomatch hm), fun j m hj => ?_⟩
  · have e : m = n := by simpa using hm
    subst e; exact .base
  · cases j with
    | zero =>
      have e : n = m := by simpa using hj
      subst e
      have := rank_lt ok hn
      omega
    | succ j => simp at hj
/-- sorted by rank and number: the steps -/
theorem Wk.drv (q : Wk h cs n [] ks) : Drv h cs n (ks.mergeSort (rkLe fun m => ((rnk h cs m : Nat) : Int))) := by
  have p := List.mergeSort_perm ks (rkLe fun m => ((rnk h cs m : Nat) : Int))
  refine ⟨rk_of ?_ ((p.nodup_iff).mpr q.nd), fun m => (p.mem_iff).trans (q.done m)⟩
  have s := List.pairwise_mergeSort (le := rkLe fun m => ((rnk h cs m : Nat) : Int)) (fun a b c h1 h2 => ?_) (fun a b => ?_) ks
  · refine s.imp fun {a b} z => ?_
    have z := of_decide_eq_true z
    dsimp only at z
    omega
  · have z1 := of_decide_eq_true h1
    have z2 := of_decide_eq_true h2
    refine decide_eq_true ?_
    dsimp only at z1 z2 ⊢
    omega
  · show (decide _ || decide _) = true
    rw [Bool.or_eq_true, decide_eq_true_iff, decide_eq_true_iff]
    dsimp only
    omega
end
end Wc
namespace Wc
open PySem L2
section
variable (K : PySem.W.Frag)
def R_derive : V3 := fun x y z H Q => ∃ (a : Addr) (h : Hd) (c : Addr) (cs : List Int) (n : Int), x = .ref a ∧ y = .ref c ∧ z = .int n ∧ HeapAt K H a h ∧ h.Ok ∧ SqT K H c (cs.map V.int) ∧ cs.length ≤ 1000 ∧ LamX.Tabs (LT_derive K) H ∧
  (¬ Obt h cs n → ∀ H', ExA H H' → Q .non H') ∧ (Obt h cs n → ∀ L v H', Drv h cs n L → LamX.ExtN H H' → LamX.Tabs (LT_derive K) H' → Is K H' (drvDt h cs L) v → Q v H')
abbrev sp_derive : Sp := sp3 (R_derive K)
end
/-- what stands in memory while derive's loop runs -/
structure Dv (K : PySem.W.Frag) (H0 H : Hp) (h : Hd) (cs : List Int) (G : List (Int × Int)) (os : List Addr) (th d rs wt : Addr) (ws ks : List Int) (kvs : List (Key × V)) : Prop where
  ex : ExA H0 H
  fr : H0 rs = none
  fw : H0 wt = none
  aT : H th = some (.dK (dictOf os h.obs))
  aO : Paired (ObAt K H) os h.obs
  aD : H d = some (.dK (dI G))
  aW : H wt = some (.lst (ws.map V.int))
  aR : H rs = some (.dK kvs)
  keys : kvs.map (·.1) = ks.map Sum.inl
  val : ∀ m ∈ ks, ∃ ra, valV kvs (Sum.inl m) = some (.ref ra) ∧ RsAt K H ra (bst h cs m)
  n1 : th ≠ rs
  n2 : th ≠ wt
  n3 : d ≠ rs
  n4 : d ≠ wt
  n5 : rs ≠ wt
section
variable {K : PySem.W.Frag} {H0 H H' : Hp} {h : Hd} {cs : List Int} {G : List (Int × Int)} {os : List Addr} {th d rs wt : Addr} {ws ks : List Int} {kvs : List (Key × V)}
theorem Dv.keep (r : Dv K H0 H h cs G os th d rs wt ws ks kvs) (e : ExA H H') : Dv K H0 H' h cs G os th d rs wt ws ks kvs :=
  ⟨r.ex.trans e, r.fr, r.fw, ExA.at e r.aT, pmp r.aO fun _ _ z => ObAt.mono (Tk.all e) z, ExA.at e r.aD, ExA.at e r.aW, ExA.at e r.aR, r.keys, fun m hm => let ⟨ra, z1, z2⟩ := r.val m hm; ⟨ra, z1, RsAt.mono (Tk.all e) z2⟩, r.n1, r.n2, r.n3, r.n4, r.n5⟩
theorem Dv.setW (r : Dv K H0 H h cs G os th d rs wt ws ks kvs) (vs : List Int) : Dv K H0 (upd H wt (.lst (vs.map V.int))) h cs G os th d rs wt vs ks kvs :=
  have t : Tk K H (upd H wt (.lst (vs.map V.int))) := Tk.lst r.aW
  ⟨r.ex.put r.fw, r.fr, r.fw, by rw [upd_ne r.n2]; exact r.aT, pmp r.aO fun _ _ z => ObAt.mono t z, by rw [upd_ne r.n4]; exact r.aD, upd_same, by rw [upd_ne r.n5]; exact r.aR, r.keys, fun m hm => let ⟨ra, z1, z2⟩ := r.val m hm; ⟨ra, z1, RsAt.mono t z2⟩, r.n1, r.n2, r.n3, r.n4, r.n5⟩
theorem Dv.setR (r : Dv K H0 H h cs G os th d rs wt ws ks kvs) {x : Int} {ra : Addr} (hx : RsAt K H ra (bst h cs x)) : Dv K H0 (upd H rs (.dK (putK kvs (Sum.inl x) (.ref ra)))) h cs G os th d rs wt ws (addK ks x) (putK kvs (Sum.inl x) (.ref ra)) := by
  have t : Tk K H (upd H rs (.dK (putK kvs (Sum.inl x) (.ref ra)))) := Tk.dic r.aR
  refine ⟨r.ex.put r.fr, r.fr, r.fw, by rw [upd_ne r.n1]; exact r.aT, pmp r.aO fun _ _ z => ObAt.mono t z, by rw [upd_ne r.n3]; exact r.aD, by rw [upd_ne r.n5.symm]; exact r.aW, upd_same, putK_keys r.keys _ _, fun m hm => ?_, r.n1, r.n2, r.n3, r.n4, r.n5⟩
  rw [valV_put]
  by_cases e : m = x
  · subst e
    exact ⟨ra, if_pos rfl, RsAt.mono t hx⟩
  · have e' : ¬ (Sum.inl m : Key) = Sum.inl x := fun z => e (Sum.inl.inj z)
    rw [if_neg e']
    obtain ⟨rb, z1, z2⟩ := r.val m ((mem_addK.mp hm).resolve_right e)
    exact ⟨rb, z1, RsAt.mono t z2⟩
end
section
variable {P : Program} {w : World} {K : PySem.W.Frag} {mg : Str → Option Value} {base : PySem.Heap}
theorem ok_derive {f : Addr} {fd : FuncData} {cd : Value} (F : Df K "derive" s_derive f fd cd) (T : Txt mg) (L : LamAt K base mg "derive" cd) (C_by_number : Cal P w K mg base 2 "by_number" (sp_by_number K) []) (C_rounds : Cal P w K mg base 3 "rounds" (sp_rounds K) []) (C_named : Cal P w K mg base 1 "named" (sp_named K) []) (C_best_reason : Cal P w K mg base 2 "best_reason" (sp_best_reason K) []) : FnOk P w K mg base CX0 5 f fd ["heap", "condemned", "number"] (sp_derive K) := by
  have nd := sc_derive.nd
  refine F.ok sc_derive (fun vs H Q E h => ?_) (fun A outer s H vs Q E hr h => ?_)
  · obtain ⟨_, _, _, rfl, _⟩ := h; rfl
  have hu := hu_of hr
  obtain ⟨x0, x1, x2, rfl, h⟩ := h
  refine ⟨_, (pss_cons (ps_set (i := 3) nd rfl (by first | exact Or.inl rfl | exact Or.inr rfl) (pe_c C_rounds hr (by first | exact Nat.le_refl _ | decide) rfl (pa_cons (pv 0) (pa_cons (pv 1) pa_nil))))
    (pss_cons (ps_if (pt_cmp (pc_dnotin hu (pv 2) (pv 3)) rfl) (pss_one (ps_ret pe_non)) pss_nil)
    (pss_cons (ps_set (i := 4) nd rfl (by first | exact Or.inl rfl | exact Or.inr rfl) (pe_c C_by_number hr (by first | exact Nat.le_refl _ | decide) rfl (pa_cons (pv 0) pa_nil)))
    (pss_cons (ps_set (i := 5) nd rfl (by first | exact Or.inl rfl | exact Or.inr rfl) pe_dnewK)
    (pss_cons (ps_set (i := 6) nd rfl (by first | exact Or.inl rfl | exact Or.inr rfl) (pe_lst (pa_cons (pv 2) pa_nil)))
    (pss_cons (ps_while PassesOwn.never (pt_truth (pv 6) (by intro _; rfl)) (pss_cons (ps_set (i := 7) nd rfl (by first | exact Or.inl rfl | exact Or.inr rfl) (pe_bm0 PySem.F.plainAttrs_list PySem.F.slot_list_pop PySem.F.type_list_pop mt_pop (pv 6)))
    (pss_cons (ps_dput hu (pv 5) (pv 7) (pe_c C_best_reason hr (by first | exact Nat.le_refl _ | decide) rfl (pa_cons (pv 0) (pa_cons (pv 4) (pa_cons (pv 3) (pa_cons (pv 1) (pa_cons (pv 7) pa_nil)))))) rfl)
    (pss_one (ps_expr (pe_bm PySem.F.plainAttrs_list PySem.F.slot_list_extend PySem.F.type_list_extend mt_extend (pv 6) (pa_cons (pe_lc (own := [("other", 8)]) rfl nd (show PI _ _ _ (iTup K _) from pi_tup (pe_c C_named hr (by first | exact Nat.le_refl _ | decide) rfl (pa_cons (pe_dget hu (pv 5) (pv 7) (fun _ _ => rfl)) pa_nil))) (blkOk_by (own := [("other", 8)]) (N := N_derive) (sc := defScope s_derive) (by decide +kernel)) (fun _ _ _ _ _ => (pg_name (i := 8) nd rfl (by first | exact Or.inl rfl | exact Or.inr rfl))) (fun _ _ _ _ _ => (pts_one (pt_cmp (pc_dnotin hu (pv 8) (pv 5)) rfl))) (fun _ _ _ _ _ => (pv 8))) pa_nil)))))))
    (pss_cons (ps_set (i := 9) nd rfl (by first | exact Or.inl rfl | exact Or.inr rfl) (pe_sortLam (T := LT_derive K) (jd := 3) rfl (hr.mono (by decide)) L.tb L.code (List.mem_singleton.mpr rfl) (fun p hp _ => by have e := List.mem_singleton.mp hp; subst e; rfl) rfl rfl rfl rfl (by decide +kernel) (by decide +kernel) (by decide +kernel) (show ∀ y ∈ [(("step" : Str), NameKind.local), ("depths", NameKind.free)], y.2 = NameKind.free → (defScope s_derive).names.lookup y.1 = some NameKind.cell from by decide +kernel) rfl rfl rfl rfl (fun _ _ _ _ _ => rfl) rfl T.sorted (pv 5)))
    (pss_one (ps_ret (pe_callTy (r := rTupS K) call_tuple_of rfl T.tuple (by decide +kernel) (pa_cons (pe_lc (own := [("step", 10)]) rfl nd (show PI _ _ _ (iList K _) from pi_list (pv 9)) (blkOk_by (own := [("step", 10)]) (N := N_derive) (sc := defScope s_derive) (by decide +kernel)) (fun _ _ _ _ _ => (pg_name (i := 10) nd rfl (by first | exact Or.inl rfl | exact Or.inr rfl))) (fun _ _ _ _ _ => pts_nil) (fun _ _ _ _ _ => (pe_tup (pa_cons (pv 10) (pa_cons (pe_dget hu (pv 5) (pv 10) (fun _ _ => rfl)) pa_nil))))) pa_nil))))))))))), ?_⟩
  obtain ⟨a, h, c, cs, n, rfl, rfl, rfl, hA, ok, hC, hz, hT, q0, q1⟩ := h
  refine ⟨_, rfl, _, rfl, _, _, rfl, a, h, c, cs, rfl, rfl, hA, ok, .inr hC, hz, fun d H1 G rG fd1 e1 hd => ?_⟩
  refine ⟨_, rfl, _, rfl, d, _, rfl, DGet.k (k := Sum.inl n) hd, _, rfl, ?_⟩
  rw [key_has (dI_keys G) n]
  by_cases hx : Obt h cs n
  case neg =>
    rw [decide_eq_false fun z => hx ((rG.all n).mp z)]
    exact iteT (q0 hx _ e1)
  rw [decide_eq_true ((rG.all n).mpr hx)]
  refine iteF ?_
  have q := q1 hx
  refine ⟨_, rfl, _, rfl, a, h, rfl, HeapAt.mono (Tk.all e1) hA, ok, fun th H2 os f2 e2 hos hth => ?_⟩
  intro rs frs
  refine ⟨_, rfl, sz (by show 1 ≤ 100000; decide), fun wt fwt => ?_⟩
  have e02 : ExA H H2 := ExM.trans e1 e2
  have hd2 := ExA.at e2 hd
  have nrw : rs ≠ wt := ne_of_none (upd_same (H := H2)) fwt
  have fwt2 : H2 wt = none := by
    rw [upd_ne nrw.symm] at fwt
    exact fwt
  have R0 : Dv K H (upd (upd H2 rs (.dK [])) wt (.lst [V.int n])) h cs G os th d rs wt [n] [] [] := by
    have t : Tk K H2 (upd (upd H2 rs (.dK [])) wt (.lst [V.int n])) := Tk.trans (Tk.new frs) (Tk.new fwt)
    have n1 : th ≠ rs := ne_of_none hth frs
    have n2 : th ≠ wt := ne_of_none hth fwt2
    have n3 : d ≠ rs := ne_of_none hd2 frs
    have n4 : d ≠ wt := ne_of_none hd2 fwt2
    refine ⟨(e02.put (ExA.free e02 frs)).put (ExA.free e02 fwt2), ExA.free e02 frs, ExA.free e02 fwt2, ?_, pmp hos fun _ _ z => ObAt.mono t z, ?_, upd_same, ?_, rfl, fun m hm => (nomatch hm), n1, n2, n3, n4, nrw⟩
    · rw [upd_ne n2, upd_ne n1]; exact hth
    · rw [upd_ne n4, upd_ne n3]; exact hd2
    · rw [upd_ne nrw, upd_same]
  generalize upd (upd H2 rs (.dK [])) wt (.lst [V.int n]) = H3 at R0 ⊢
  refine ⟨fun m σ' H' => ∃ (ws ks : List Int) (kvs : List (Key × V)) (u7 : Option V), m = msr h cs ws ∧ σ' = [some (.ref a), some (.ref c), some (.int n), some (.ref d), some (.ref th), some (.ref rs), some (.ref wt), u7, none, none, none] ∧ Wk h cs n ws ks ∧ Dv K H H' h cs G os th d rs wt ws ks kvs,
    ⟨_, [n], [], [], none, rfl, rfl, Wk.first ok hx, R0⟩, ?_⟩
  rintro m σ' H' ⟨ws, ks, kvs, u7, rfl, rfl, wk, R⟩
  refine ⟨_, rfl, !(ws.map V.int).isEmpty, .inl ⟨_, SqL.of R.aW, rfl⟩, ?_⟩
  rcases List.eq_nil_or_concat ws with rfl | ⟨ws', x, ews⟩
  · -- all have their reasons
    refine iteF ?_
    have zk : ks.length ≤ 50 := Nat.le_trans (wk.size ok hx) ok.size
    have T' : LamX.Tabs (LT_derive K) H' := hT.ext fun b o e => ExA.at R.ex e
    refine ⟨_, rfl, T', rs, d, kvs, dI G, ks, (fun m => ((rnk h cs m : Nat) : Int)), rfl, R.aR, R.keys, by omega, rfl, R.aD, fun m hm => rG.look (Need.obt ok hx ((wk.done m).mp hm)), fun H4 lo x4 T4 flo => ?_⟩
    have hdrv := wk.drv
    have pm := List.mergeSort_perm ks (rkLe fun m => ((rnk h cs m : Nat) : Int))
    generalize ks.mergeSort (rkLe fun m => ((rnk h cs m : Nat) : Int)) = L at hdrv pm ⊢
    have x5 : LamX.ExtN H (upd H4 lo (.lst (L.map V.int))) := ((LamX.ExtN.of fun b o e => ExA.at R.ex e).trans x4).trans (LamX.ExtN.of fun b o e => ExA.at (ExM.new flo) e)
    have aR5 : (upd H4 lo (.lst (L.map V.int))) rs = some (.dK kvs) := ExA.at (ExM.new flo) (x4 _ _ R.aR fun _ z => nomatch z)
    have T5 : LamX.Tabs (LT_derive K) (upd H4 lo (.lst (L.map V.int))) := T4.ext fun b o e => ExA.at (ExM.new flo) e
    have v5 : ∀ m ∈ ks, ∃ ra, valV kvs (Sum.inl m) = some (.ref ra) ∧ RsAt K (upd H4 lo (.lst (L.map V.int))) ra (bst h cs m) := fun m hm => by
      obtain ⟨ra, z1, z2⟩ := R.val m hm
      exact ⟨ra, z1, RsAt.mono (Tk.trans (Tk.ext x4) (Tk.all (ExM.new flo))) z2⟩
    have hlo5 : (upd H4 lo (.lst (L.map V.int))) lo = some (.lst (L.map V.int)) := upd_same
    generalize upd H4 lo (.lst (L.map V.int)) = H5 at x5 aR5 T5 v5 hlo5 ⊢
    have zL : L.length ≤ 50 := by rw [pm.length_eq]; exact zk
    refine ⟨_, rfl, lo, rfl, ⟨_, SqL.of hlo5⟩, fun D hD => ?_⟩
    refine lcM [] (walk_list (xs := L.map V.int)) hD (fun i acc H' => Paired (fun v m => Is K H' (.tup [.int m, (bst h cs m).dt]) v) acc (L.take i)) .nil (fun H' e => SqL.of (ExA.at e hlo5)) (fun i x H6 H7 acc hi e k1 k2 hacc y => ?_) (fun H6 acc e6 k1 k2 hacc => ?_)
    · obtain ⟨rfl, hx'⟩ := y
      rw [List.length_map] at hi
      obtain ⟨m, hm⟩ : ∃ m, L[i]? = some m := ⟨_, List.getElem?_eq_getElem hi⟩
      rw [List.getElem?_map, hm] at hx'
      obtain rfl : V.int m = x := Option.some.inj hx'
      have mk : m ∈ ks := (pm.mem_iff).mp (List.mem_of_getElem? hm)
      obtain ⟨ra, z1, z2⟩ := v5 m mk
      have z3 := RsAt.mono (Tk.all e) z2
      refine ⟨rfl, tyes ⟨_, rfl, _, rfl, _, rfl, rs, _, rfl, DGet.k (k := Sum.inl m) (ExA.at e aR5) |> fun z => by rw [z1] at z; exact z, sz (by show 2 ≤ 100000; decide), fun t ft => ?_⟩⟩
      refine LcP.yes hD (by simp) (by omega) e k1 k2 (ExM.new ft) ?_
      have nDt : D ≠ t := ne_of_none k1 ft
      have hDt : (upd H7 t (.tup [V.int m, V.ref ra])) D = some (.lst acc) := by rw [upd_ne nDt]; exact k1
      have tt : Tk K H7 (upd (upd H7 t (.tup [V.int m, V.ref ra])) D (.lst (acc ++ [V.ref t]))) := Tk.trans (Tk.new ft) (Tk.lst hDt)
      rw [take_snoc hm]
      refine psnoc (F := fun v m => Is K _ (.tup [.int m, (bst h cs m).dt]) v) ?_ (pmp (F := fun v m => Is K H7 (.tup [.int m, (bst h cs m).dt]) v) hacc fun _ _ z => Is.mono tt _ _ z)
      refine ⟨t, _, rfl, SqT.of (by rw [upd_ne nDt.symm]; exact upd_same), _, _, rfl, rfl, _, _, rfl, RsAt.is (RsAt.mono tt z3), rfl⟩
    rw [List.length_map, List.take_length] at hacc
    refine ⟨D, _, rfl, .inl ⟨SqL.of k1, fun t ft => ?_⟩⟩
    have x7 : ExA H5 (upd H6 t (.tup acc)) := ExM.trans e6 (ExM.new ft)
    refine q L _ _ hdrv (x5.trans (LamX.ExtN.of fun b o e => ExA.at x7 e)) (T5.ext fun b o e => ExA.at x7 e) ⟨t, acc, rfl, SqT.of upd_same, IsL.of (pmp (F := fun v m => Is K H6 (.tup [.int m, (bst h cs m).dt]) v) hacc fun _ _ z => Is.mono (Tk.new ft) _ _ z)⟩
  -- one that waits
  rw [List.concat_eq_append] at ews
  subst ews
  have hne : (!((ws' ++ [x]).map V.int).isEmpty) = true := by simp
  rw [hne]
  have ox := Need.obt ok hx (wk.wN x (by simp))
  have wk' := wk.step ok hx
  have ls := wk.less ok hx
  have zk : ks.length ≤ 50 := Nat.le_trans (wk.size ok hx) ok.size
  have zk' : (addK ks x).length ≤ 50 := Nat.le_trans (wk'.size ok hx) ok.size
  have zw' := wk'.len
  have zob := ok.size
  refine iteT ⟨fun σ2 H2 => ∃ (kvs' : List (Key × V)) (u7 : Option V), σ2 = [some (.ref a), some (.ref c), some (.int n), some (.ref d), some (.ref th), some (.ref rs), some (.ref wt), u7, none, none, none] ∧ Dv K H H2 h cs G os th d rs wt (ws' ++ nxt h cs ks x) (addK ks x) kvs', ?_, ?_⟩
  · rintro σ2 H2 ⟨kvs', u7, rfl, R'⟩
    exact ⟨_, ls, _, _, kvs', u7, rfl, rfl, wk', R'⟩
  refine ⟨_, rfl, .inl ⟨rfl, _, SqL.of R.aW⟩, wt, _, V.int x, rfl, rfl, R.aW, by simp, ?_⟩
  have ed : ((ws' ++ [x]).map V.int).dropLast = ws'.map V.int := by simp
  rw [ed]
  have R1 := R.setW ws'
  generalize upd H' wt (.lst (ws'.map V.int)) = H4 at R1 ⊢
  refine ⟨_, rfl, _, rfl, _, rfl, _, rfl, _, rfl, _, _, _, _, _, rfl, a, h, th, os, d, G, c, cs, x, rfl, rfl, rfl, rfl, rfl, HeapAt.mono (Tk.all R1.ex) hA, ok, R1.aT, R1.aO, R1.aD, rG, Tk.all R1.ex _ _ hC, ox, fun H5 ra e5 hra => ?_⟩
  have R2 := R1.keep e5
  have zkv : kvs.length < sizeLine := szl (by
    have z := congrArg List.length R.keys
    rw [List.length_map, List.length_map] at z
    omega)
  refine ⟨_, rfl, _, rfl, rs, _, rfl, DPut.k (k := Sum.inl x) R2.aR zkv, ?_⟩
  have R3 := R2.setR (x := x) hra
  have hra3 : RsAt K (upd H5 rs (.dK (putK kvs (Sum.inl x) (.ref ra)))) ra (bst h cs x) := RsAt.mono (Tk.dic R2.aR) hra
  generalize upd H5 rs (.dK (putK kvs (Sum.inl x) (.ref ra))) = H6 at R3 hra3 ⊢
  have hget : valV (putK kvs (Sum.inl x) (.ref ra)) (Sum.inl x) = some (.ref ra) := by rw [valV_put, if_pos rfl]
  refine ⟨_, rfl, .inl ⟨rfl, _, SqL.of R3.aW⟩, ?_⟩
  refine ⟨_, rfl, _, rfl, rs, _, rfl, DGet.k (k := Sum.inl x) R3.aR |> fun z => by rw [hget] at z; exact z, ?_⟩
  refine ⟨_, rfl, ra, rfl, .inl ⟨bst h cs x, hra3, fun t H7 ft e7 ht => ?_⟩⟩
  have R4 := R3.keep e7
  refine ⟨t, rfl, ⟨_, SqT.of ht⟩, fun D hD => ?_⟩
  have znm := Rs.names_len (bst h cs x)
  refine lcM [] (walk_tup (xs := (bst h cs x).names.map V.int)) hD (fun i acc _ => acc = (((bst h cs x).names.take i).filter fun k => decide (k ∉ addK ks x)).map V.int) rfl (fun H' e => Tk.all e _ _ (SqT.of ht)) (fun i y H8 H9 acc hi e k1 k2 hacc yy => ?_) (fun H8 acc e8 k1 k2 hacc => ?_)
  · obtain ⟨rfl, hx'⟩ := yy
    rw [List.length_map] at hi
    obtain ⟨m, hm⟩ : ∃ m, (bst h cs x).names[i]? = some m := ⟨_, List.getElem?_eq_getElem hi⟩
    rw [List.getElem?_map, hm] at hx'
    obtain rfl : V.int m = y := Option.some.inj hx'
    refine ⟨rfl, _, rfl, _, rfl, rs, _, rfl, DGet.k (k := Sum.inl m) (ExA.at e R4.aR), _, rfl, ?_⟩
    rw [key_has R4.keys m]
    have htk := take_snoc hm
    by_cases c1 : m ∈ addK ks x
    · rw [decide_eq_true c1]
      refine iteF (LcP.no (by simp) e k1 k2 (ExM.refl _ _) ?_)
      rw [hacc, htk, List.filter_append]
      simp [c1]
    · rw [decide_eq_false c1]
      refine iteT ⟨_, rfl, LcP.yes hD (by simp) (by omega) e k1 k2 (ExM.refl _ _) ?_⟩
      rw [hacc, htk, List.filter_append, List.map_append]
      simp [c1]
  rw [List.length_map, List.take_length] at hacc
  have R5 := R4.keep e8
  refine ⟨wt, D, _, _, rfl, rfl, R5.aW, k1, ?_, ?_⟩
  · rw [hacc, List.length_map, List.length_map]
    have z : ((bst h cs x).names.filter fun k => decide (k ∉ addK ks x)).length ≤ 2 := nxt_len
    rw [List.length_append] at zw'
    exact sz (by omega)
  · have R6 := R5.setW (ws' ++ nxt h cs ks x)
    rw [hacc]
    rw [List.map_append] at R6
    exact ⟨_, _, rfl, R6⟩
end
end Wc
namespace Wc
open PySem L2
theorem ps_never {X : Cx} {st : Stmt} : PS X st (fun _ _ _ => False) := ⟨fun _ _ _ _ _ _ h => h.elim⟩
/-! ### a heap whose registers may be any tuple -/
def HpAt (K : PySem.W.Frag) (H : Hp) (a : Addr) (h : Hd) : Prop := ∃ r k o w ws, SqT K H a [.str "heap", .int h.nx, .ref r, .ref k, .ref o, .ref w] ∧ SqT K H r (h.regs.map rV) ∧ SqT K H k (h.kept.map .int) ∧
  ObsAt K H o h ∧ SqT K H w (ws.map .ref) ∧ Paired (PairAt K H) ws h.wat
theorem HeapAt.hp {K : PySem.W.Frag} {H : Hp} {a : Addr} {h : Hd} (x : HeapAt K H a h) : HpAt K H a h := by
  obtain ⟨r, k, o, w, ws, h1, h2, h3, h4, h5, h6⟩ := x
  exact ⟨r, k, o, w, ws, h1, h2.sq, h3, h4, h5, h6⟩
theorem HpAt.mono {K : PySem.W.Frag} {H H' : Hp} {a : Addr} {h : Hd} (t : Tk K H H') (x : HpAt K H a h) : HpAt K H' a h := by
  obtain ⟨r, k, o, w, ws, h1, h2, h3, h4, h5, h6⟩ := x
  exact ⟨r, k, o, w, ws, t _ _ h1, t _ _ h2, t _ _ h3, h4.mono t, t _ _ h5, pmp h6 fun _ _ z => PairAt.mono t z⟩
/-! ### steps, commands -/
def StAt (K : PySem.W.Frag) (H : Hp) (s : Addr) (p : Int × Rs) : Prop := ∃ ra, SqT K H s [.int p.1, .ref ra] ∧ RsAt K H ra p.2
theorem StAt.mono {K : PySem.W.Frag} {H H' : Hp} {s : Addr} {p : Int × Rs} (t : Tk K H H') (x : StAt K H s p) : StAt K H' s p := let ⟨ra, h1, h2⟩ := x; ⟨ra, t _ _ h1, RsAt.mono t h2⟩
def StepsAt (K : PySem.W.Frag) (H : Hp) (a : Addr) (S : List (Int × Rs)) : Prop := ∃ ss, SqT K H a (ss.map V.ref) ∧ Paired (StAt K H) ss S
theorem StepsAt.mono {K : PySem.W.Frag} {H H' : Hp} {a : Addr} {S : List (Int × Rs)} (t : Tk K H H') (x : StepsAt K H a S) : StepsAt K H' a S := let ⟨ss, h1, h2⟩ := x; ⟨ss, t _ _ h1, pmp h2 fun _ _ z => StAt.mono t z⟩
/-- the command that loads by this reason; pl: the registers of the objects that it names -/
def cmRow (to : Int) (pl : Int → Int) : Rs → List V
  | .reg k => [.str "copy", .int to, .int (k : Nat)]
  | .fld n k => [.str "read", .int to, .int (pl n), .int (k : Nat)]
  | .ent n q => [.str "lookup", .int to, .int (pl n), .int (pl q)]
  | .drf n => [.str "deref", .int to, .int (pl n)]
def cmDt (to : Int) (pl : Int → Int) : Rs → Dt
  | .reg k => .tup [.str "copy", .int to, .int (k : Nat)]
  | .fld n k => .tup [.str "read", .int to, .int (pl n), .int (k : Nat)]
  | .ent n q => .tup [.str "lookup", .int to, .int (pl n), .int (pl q)]
  | .drf n => .tup [.str "deref", .int to, .int (pl n)]
theorem cm_is {K : PySem.W.Frag} {H : Hp} {a : Addr} {to : Int} {pl : Int → Int} {r : Rs} (h : SqT K H a (cmRow to pl r)) : Is K H (cmDt to pl r) (.ref a) := by
  cases r with
  | reg k => exact ⟨a, _, rfl, h, _, _, rfl, rfl, _, _, rfl, rfl, _, _, rfl, rfl, rfl⟩
  | fld n k => exact ⟨a, _, rfl, h, _, _, rfl, rfl, _, _, rfl, rfl, _, _, rfl, rfl, _, _, rfl, rfl, rfl⟩
  | ent n k => exact ⟨a, _, rfl, h, _, _, rfl, rfl, _, _, rfl, rfl, _, _, rfl, rfl, _, _, rfl, rfl, rfl⟩
  | drf n => exact ⟨a, _, rfl, h, _, _, rfl, rfl, _, _, rfl, rfl, _, _, rfl, rfl, rfl⟩
theorem cmRow_congr {to : Int} {pl pl' : Int → Int} {r : Rs} (e : ∀ n ∈ r.names, pl n = pl' n) : cmRow to pl r = cmRow to pl' r := by
  cases r with
  | reg k => rfl
  | fld n k => show [V.str "read", .int to, .int (pl n), .int (k : Nat)] = _; rw [e n (by simp [Rs.names])]; rfl
  | ent n k => show [V.str "lookup", .int to, .int (pl n), .int (pl k)] = _; rw [e n (by simp [Rs.names]), e k (by simp [Rs.names])]; rfl
  | drf n => show [V.str "deref", .int to, .int (pl n)] = _; rw [e n (by simp [Rs.names])]; rfl
/-- the register of the first step for n -/
def fp (S : List (Int × Rs)) (base n : Int) : Int := base + (((S.map (·.1)).findIdx (· == n) : Nat) : Int)
/-- each step names what an earlier one is for -/
def Earlier (S : List (Int × Rs)) : Prop := ∀ (j : Nat) (p : Int × Rs), S[j]? = some p → ∀ k ∈ p.2.names, k ∈ (S.take j).map (·.1)
/-- a dict of places -/
def PlAt (H : Hp) (d : Addr) (S : List (Int × Rs)) (base : Int) (j : Nat) : Prop := ∃ (kvs : List (Key × V)) (ks : List Int), H d = some (.dK kvs) ∧ kvs.map (·.1) = ks.map Sum.inl ∧ ks.length ≤ j ∧ (∀ n, n ∈ ks ↔ n ∈ (S.take j).map (·.1)) ∧ ∀ n ∈ ks, valV kvs (Sum.inl n) = some (.int (fp S base n))
section
variable (K : PySem.W.Frag)
def R_loading : V3 := fun x y z H Q => ∃ (to : Int) (ra : Addr) (r : Rs) (d : Addr) (kvs : List (Key × V)) (pl : Int → Int), x = .int to ∧ y = .ref ra ∧ z = .ref d ∧ RsAt K H ra r ∧ H d = some (.dK kvs) ∧ (∀ n ∈ r.names, valV kvs (Sum.inl n) = some (.int (pl n))) ∧
  ∀ p H', H p = none → ExA H H' → H' p = some (.tup (cmRow to pl r)) → Q (.ref p) H'
abbrev sp_loading : Sp := sp3 (R_loading K)
def R_compile_derivation : V2 := fun x y H Q => ∃ (a : Addr) (h : Hd) (st : Addr) (S : List (Int × Rs)), x = .ref a ∧ y = .ref st ∧ HeapAt K H a h ∧ h.regs.length ≤ 1000 ∧ StepsAt K H st S ∧ S.length ≤ 10000 ∧ Earlier S ∧
  ∀ (H' : Hp) (p : Addr) (cs : List Addr), ExA H H' → SqT K H' p (cs.map V.ref) → cs.length = S.length → (∀ (j : Nat) (c : Addr) (q : Int × Rs), cs[j]? = some c → S[j]? = some q → SqT K H' c (cmRow ((h.regs.length : Int) + (j : Int)) (fp S (h.regs.length : Int)) q.2)) → Q (.ref p) H'
abbrev sp_compile_derivation : Sp := sp2 (R_compile_derivation K)
end
section
variable {P : Program} {w : World} {K : PySem.W.Frag} {mg : Str → Option Value} {base : PySem.Heap}
theorem ok_loading {f : Addr} {fd : FuncData} {cd : Value} (F : Df K "loading" s_loading f fd cd) (T : Txt mg) : FnOk P w K mg base CX0 1 f fd ["place", "reason", "places"] (sp_loading K) := by
  have nd := sc_loading.nd
  refine F.ok sc_loading (fun vs H Q E h => ?_) (fun A outer s H vs Q E hr h => ?_)
  · obtain ⟨_, _, _, rfl, _⟩ := h; rfl
  have hu := hu_of hr
  obtain ⟨x0, x1, x2, rfl, h⟩ := h
  refine ⟨_, (pss_cons (ps_if (pt_cmpR op_eq (pe_ix (r := rIxT K) ix_tup (pv 1) pe_int (fun _ _ => rfl)) pe_str (nomark _)) (pss_one (ps_ret (pe_tup (pa_cons pe_str (pa_cons (pv 0) (pa_cons (pe_ix (r := rIxT K) ix_tup (pv 1) pe_int (fun _ _ => rfl)) pa_nil)))))) pss_nil)
    (pss_cons (ps_if (pt_cmpR op_eq (pe_ix (r := rIxT K) ix_tup (pv 1) pe_int (fun _ _ => rfl)) pe_str (nomark _)) (pss_one (ps_ret (pe_tup (pa_cons pe_str (pa_cons (pv 0) (pa_cons (pe_dget hu (pv 2) (pe_ix (r := rIxT K) ix_tup (pv 1) pe_int (fun _ _ => rfl)) (fun _ _ => rfl)) (pa_cons (pe_ix (r := rIxT K) ix_tup (pv 1) pe_int (fun _ _ => rfl)) pa_nil))))))) pss_nil)
    (pss_cons (ps_if (pt_cmpR op_eq (pe_ix (r := rIxT K) ix_tup (pv 1) pe_int (fun _ _ => rfl)) pe_str (nomark _)) (pss_one (ps_ret (pe_tup (pa_cons pe_str (pa_cons (pv 0) (pa_cons (pe_dget hu (pv 2) (pe_ix (r := rIxT K) ix_tup (pv 1) pe_int (fun _ _ => rfl)) (fun _ _ => rfl)) (pa_cons (pe_dget hu (pv 2) (pe_ix (r := rIxT K) ix_tup (pv 1) pe_int (fun _ _ => rfl)) (fun _ _ => rfl)) pa_nil))))))) pss_nil)
    (pss_one (ps_ret (pe_tup (pa_cons pe_str (pa_cons (pv 0) (pa_cons (pe_dget hu (pv 2) (pe_ix (r := rIxT K) ix_tup (pv 1) pe_int (fun _ _ => rfl)) (fun _ _ => rfl)) pa_nil))))))))), ?_⟩
  obtain ⟨to, ra, r, d, kvs, pl, rfl, rfl, rfl, hA, hd, hpl, q⟩ := h
  have get : ∀ n ∈ r.names, DGet H d (.int n) (some (.int (pl n))) := fun n hn => DGet.k (k := Sum.inl n) hd |> fun z => by rw [hpl n hn] at z; exact z
  cases r with
  | reg k =>
    have h1 : SqT K H ra [.str "register", .int (k : Nat)] := hA
    refine ⟨_, rfl, ra, _, _, _, rfl, rfl, h1, at0, rfl, _, rfl, iteT ?_⟩
    exact ⟨_, rfl, _, rfl, ra, _, _, _, rfl, rfl, h1, at1, sz (by show 3 ≤ 100000; decide), fun p hp => q p _ hp (ExM.new hp) upd_same⟩
  | fld n k =>
    have h1 : SqT K H ra [.str "field", .int n, .int (k : Nat)] := hA
    have g1 := get n (by simp [Rs.names])
    refine ⟨_, rfl, ra, _, _, _, rfl, rfl, h1, at0, rfl, _, rfl, iteF ?_⟩
    refine ⟨_, rfl, ra, _, _, _, rfl, rfl, h1, at0, rfl, _, rfl, iteT ?_⟩
    exact ⟨_, rfl, _, rfl, _, rfl, ra, _, _, _, rfl, rfl, h1, at1, d, _, rfl, g1, _, rfl, ra, _, _, _, rfl, rfl, h1, at2, sz (by show 4 ≤ 100000; decide), fun p hp => q p _ hp (ExM.new hp) upd_same⟩
  | ent n k =>
    have h1 : SqT K H ra [.str "entry", .int n, .int k] := hA
    have g1 := get n (by simp [Rs.names])
    have g2 := get k (by simp [Rs.names])
    refine ⟨_, rfl, ra, _, _, _, rfl, rfl, h1, at0, rfl, _, rfl, iteF ?_⟩
    refine ⟨_, rfl, ra, _, _, _, rfl, rfl, h1, at0, rfl, _, rfl, iteF ?_⟩
    refine ⟨_, rfl, ra, _, _, _, rfl, rfl, h1, at0, rfl, _, rfl, iteT ?_⟩
    exact ⟨_, rfl, _, rfl, _, rfl, ra, _, _, _, rfl, rfl, h1, at1, d, _, rfl, g1, _, rfl, _, rfl, ra, _, _, _, rfl, rfl, h1, at2, d, _, rfl, g2, sz (by show 4 ≤ 100000; decide), fun p hp => q p _ hp (ExM.new hp) upd_same⟩
  | drf n =>
    have h1 : SqT K H ra [.str "deref", .int n] := hA
    have g1 := get n (by simp [Rs.names])
    refine ⟨_, rfl, ra, _, _, _, rfl, rfl, h1, at0, rfl, _, rfl, iteF ?_⟩
    refine ⟨_, rfl, ra, _, _, _, rfl, rfl, h1, at0, rfl, _, rfl, iteF ?_⟩
    refine ⟨_, rfl, ra, _, _, _, rfl, rfl, h1, at0, rfl, _, rfl, iteF ?_⟩
    exact ⟨_, rfl, _, rfl, _, rfl, ra, _, _, _, rfl, rfl, h1, at1, d, _, rfl, g1, sz (by show 3 ≤ 100000; decide), fun p hp => q p _ hp (ExM.new hp) upd_same⟩
end
end Wc
namespace Wc
open PySem L2
theorem fp_first {S : List (Int × Rs)} {base : Int} {j : Nat} {p : Int × Rs} (h : S[j]? = some p) (no : p.1 ∉ (S.take j).map (·.1)) : fp S base p.1 = base + (j : Int) := by
  have hj : (S.map (·.1))[j]? = some p.1 := by rw [List.getElem?_map, h]; rfl
  have hl : j < (S.map (·.1)).length := (List.getElem?_eq_some_iff.mp hj).1
  have he : (S.map (·.1))[j] = p.1 := (List.getElem?_eq_some_iff.mp hj).2
  unfold fp
  have e : (S.map (·.1)).findIdx (· == p.1) = j := by
    refine (List.findIdx_eq hl).mpr ⟨by rw [he]; simp, fun i hi => ?_⟩
    rw [beq_eq_false_iff_ne]
    intro z
    refine no ?_
    rw [List.map_take]
    refine List.mem_of_getElem? (i := i) ?_
    rw [List.getElem?_take_of_lt hi, List.getElem?_eq_getElem (by omega), z]
  rw [e]
/-- one more step is looked at -/
theorem pl_step {S : List (Int × Rs)} {base : Int} {j : Nat} {p : Int × Rs} {kvs : List (Key × V)} {ks : List Int} (h : S[j]? = some p) (hk : kvs.map (·.1) = ks.map Sum.inl) (hl : ks.length ≤ j) (hm : ∀ n, n ∈ ks ↔ n ∈ (S.take j).map (·.1))
    (hv : ∀ n ∈ ks, valV kvs (Sum.inl n) = some (.int (fp S base n))) :
    (p.1 ∈ ks → (∀ n, n ∈ ks ↔ n ∈ (S.take (j + 1)).map (·.1))) ∧ (p.1 ∉ ks → (putK kvs (Sum.inl p.1) (.int (base + (j : Int)))).map (·.1) = (addK ks p.1).map Sum.inl ∧ (addK ks p.1).length ≤ j + 1 ∧ (∀ n, n ∈ addK ks p.1 ↔ n ∈ (S.take (j + 1)).map (·.1)) ∧
      ∀ n ∈ addK ks p.1, valV (putK kvs (Sum.inl p.1) (.int (base + (j : Int)))) (Sum.inl n) = some (.int (fp S base n))) := by
  have ht := take_snoc h
  refine ⟨fun hin n => ?_, fun no => ⟨putK_keys hk _ _, ?_, fun n => ?_, fun n hn => ?_⟩⟩
  · rw [ht, List.map_append, List.mem_append, hm n]
    refine ⟨.inl, fun z => z.elim id fun z => ?_⟩
    have z : n = p.1 := by simpa using z
    subst z; exact (hm _).mp hin
  · unfold addK; rw [if_neg no, List.length_append, List.length_singleton]; omega
  · rw [mem_addK, ht, List.map_append, List.mem_append, hm n]; simp
  · rw [valV_put]
    by_cases e : n = p.1
    · subst e
      rw [if_pos rfl, fp_first h fun z => no ((hm _).mpr z)]
    · rw [if_neg fun z => e (Sum.inl.inj z)]
      exact hv n ((mem_addK.mp hn).resolve_right e)
section
variable {P : Program} {w : World} {K : PySem.W.Frag} {mg : Str → Option Value} {base : PySem.Heap}
theorem ok_compile_derivation {f : Addr} {fd : FuncData} {cd : Value} (F : Df K "compile_derivation" s_compile_derivation f fd cd) (T : Txt mg) (C_registers_of : Cal P w K mg base 1 "registers_of" (sp_registers_of K) []) (C_loading : Cal P w K mg base 1 "loading" (sp_loading K) []) : FnOk P w K mg base CX0 2 f fd ["heap", "steps"] (sp_compile_derivation K) := by
  have nd := sc_compile_derivation.nd
  refine F.ok sc_compile_derivation (fun vs H Q E h => ?_) (fun A outer s H vs Q E hr h => ?_)
  · obtain ⟨_, _, rfl, _⟩ := h; rfl
  have hu := hu_of hr
  obtain ⟨x0, x1, rfl, h⟩ := h
  refine ⟨_, (pss_cons (ps_set (i := 2) nd rfl (by first | exact Or.inl rfl | exact Or.inr rfl) (pe_lst pa_nil))
    (pss_cons (ps_set (i := 3) nd rfl (by first | exact Or.inl rfl | exact Or.inr rfl) pe_dnewK)
    (pss_cons (ps_for PassesOwn.never rfl (pi_enumS rfl T.enumerate (pa_cons (pv 1) pa_nil) (pk_cons (pe_callB (r := Evl.rLenS K) call_len_seq rfl T.len PySem.boot_len (pa_cons (pe_c C_registers_of hr (by first | exact Nat.le_refl _ | decide) rfl (pa_cons (pv 0) pa_nil)) pa_nil)) pk_nil)) (show PG _ _ (gTup K 2 _) from pg_tup rfl (pgs_cons (pg_name (i := 4) nd rfl (by first | exact Or.inl rfl | exact Or.inr rfl)) (pgs_cons (show PG _ _ (gTup K 2 _) from pg_tup rfl (pgs_cons (pg_name (i := 5) nd rfl (by first | exact Or.inl rfl | exact Or.inr rfl)) (pgs_cons (pg_name (i := 6) nd rfl (by first | exact Or.inl rfl | exact Or.inr rfl)) pgs_nil))) pgs_nil)))
    (pss_cons (ps_expr (pe_bm PySem.F.plainAttrs_list PySem.F.slot_list_append PySem.F.type_list_append mt_append (pv 2) (pa_cons (pe_c C_loading hr (by first | exact Nat.le_refl _ | decide) rfl (pa_cons (pv 4) (pa_cons (pv 6) (pa_cons (pv 3) pa_nil)))) pa_nil)))
    (pss_one (ps_expr (pe_dsetd (pv 3) (pv 5) (pv 4) ⟨rfl, rfl, rfl, rfl⟩)))))
    (pss_one (ps_ret (pe_callTy (r := rTupS K) call_tuple_of rfl T.tuple (by decide +kernel) (pa_cons (pv 2) pa_nil))))))), ?_⟩
  obtain ⟨a, h, st, S, rfl, rfl, hA, hz, hS, zS, er, q⟩ := h
  obtain ⟨ss, hs1, hs2⟩ := id hS
  have hl := plen hs2
  refine ⟨Nat.zero_le _, fun l fl => ?_⟩
  intro d fd
  have e1 : ExA H (upd H l (.lst [])) := ExM.new fl
  have e2 : ExA H (upd (upd H l (.lst [])) d (.dK [])) := ExM.trans e1 (ExM.new fd)
  have nld : l ≠ d := ne_of_none (upd_same) fd
  have hl2 : (upd (upd H l (.lst [])) d (.dK [])) l = some (.lst []) := by rw [upd_ne nld]; exact upd_same
  have hd2 : (upd (upd H l (.lst [])) d (.dK [])) d = some (.dK []) := upd_same
  have fd0 : H d = none := ExA.free e1 fd
  generalize upd (upd H l (.lst [])) d (.dK []) = H2 at e2 hl2 hd2 ⊢
  have T2 : Tk K H H2 := Tk.all e2
  refine ⟨_, rfl, _, rfl, _, rfl, a, h, rfl, HeapAt.mono T2 hA, fun r hr => ⟨r, _, rfl, .inr hr.sq, ?_⟩⟩
  refine ⟨st, _, _, rfl, rfl, T2 _ _ hs1, by omega, by rw [List.length_map]; omega, ?_⟩
  refine for_it (walk_enumS (xs := ss.map V.ref)) (fun j σ3 H3 => ∃ u4 u5 u6, σ3 = [some (.ref a), some (.ref st), some (.ref l), some (.ref d), u4, u5, u6] ∧ ExA H H3 ∧ PlAt H3 d S (h.regs.length : Int) j ∧ ∃ cs : List Addr, H3 l = some (.lst (cs.map V.ref)) ∧ cs.length = j ∧
      ∀ (i : Nat) (c : Addr) (p : Int × Rs), cs[i]? = some c → S[i]? = some p → SqT K H3 c (cmRow ((h.regs.length : Int) + (i : Int)) (fp S (h.regs.length : Int)) p.2))
    ⟨none, none, none, rfl, e2, ⟨[], [], hd2, rfl, Nat.le_refl _, by simp, fun n hn => (nomatch hn)⟩, [], hl2, rfl, by simp⟩ (fun j σ3 H3 _ p => ?_) (fun j x σ3 H3 H4 hj p y => ?_) (fun σ3 H3 p => ?_)
  · obtain ⟨_, _, _, _, e, _⟩ := p
    exact Tk.all e _ _ hs1
  · obtain ⟨u4, u5, u6, rfl, e, ⟨kvs, ks, hkv, hks, zks, hm, hv⟩, cs, hc, lc, hcs⟩ := p
    obtain ⟨T, x', rfl, fT, rfl, hx⟩ := y
    rw [List.length_map] at hj
    obtain ⟨s1, hsj⟩ : ∃ s1, ss[j]? = some s1 := ⟨_, List.getElem?_eq_getElem hj⟩
    rw [List.getElem?_map, hsj] at hx
    obtain rfl : V.ref s1 = x' := Option.some.inj hx
    obtain ⟨⟨n, r⟩, hSj, ra, hs3, hra⟩ := pget hs2 hsj
    have eT : ExA H3 (upd H3 T (.tup [.int ((((h.regs.map rV).length : Nat) : Int) + (j : Int)), .ref s1])) := ExM.new fT
    have hT : (upd H3 T (.tup [.int ((((h.regs.map rV).length : Nat) : Int) + (j : Int)), .ref s1])) T = some (.tup [.int ((h.regs.length : Int) + (j : Int)), .ref s1]) := by rw [upd_same, List.length_map]
    generalize upd H3 T (.tup [.int ((((h.regs.map rV).length : Nat) : Int) + (j : Int)), .ref s1]) = H4 at eT hT ⊢
    have e4 := ExM.trans e eT
    have zj : j < S.length := by omega
    have hkv4 := ExA.at eT hkv
    have hc4 := ExA.at eT hc
    refine ⟨T, _, rfl, SqT.of hT, rfl, _, _, rfl, _, _, rfl, s1, _, rfl, Tk.all e4 _ _ hs3, rfl, _, _, rfl, _, _, rfl, rfl, rfl, ?_⟩
    have hpl : ∀ m ∈ r.names, valV kvs (Sum.inl m) = some (.int (fp S (h.regs.length : Int) m)) := fun m hm' => hv m ((hm m).mpr (er j (n, r) hSj m hm'))
    refine ⟨_, rfl, .inl ⟨rfl, _, SqL.of hc4⟩, ?_⟩
    refine ⟨_, rfl, _, rfl, _, rfl, _, _, _, rfl, (h.regs.length : Int) + (j : Int), ra, r, d, kvs, fp S (h.regs.length : Int), rfl, rfl, rfl, RsAt.mono (Tk.all e4) hra, hkv4, hpl, fun p H5 fp5 e5 hp => ?_⟩
    have hc5 := ExA.at e5 hc4
    refine ⟨l, _, _, rfl, rfl, hc5, szl (by rw [List.length_map]; omega), ?_⟩
    have ndl : d ≠ l := fun z => by rw [z, hc] at hkv; cases hkv
    have e6 : ExA H (upd H5 l (.lst (cs.map V.ref ++ [V.ref p]))) := (ExM.trans e4 e5).put fl
    have hkv6 : (upd H5 l (.lst (cs.map V.ref ++ [V.ref p]))) d = some (.dK kvs) := by rw [upd_ne ndl]; exact ExA.at e5 hkv4
    have hl6 : (upd H5 l (.lst (cs.map V.ref ++ [V.ref p]))) l = some (.lst ((cs ++ [p]).map V.ref)) := by rw [upd_same, List.map_append]; rfl
    have t36 : Tk K H3 (upd H5 l (.lst (cs.map V.ref ++ [V.ref p]))) := Tk.trans (Tk.all (ExM.trans eT e5)) (Tk.lst hc5)
    have hcs6 : ∀ (i : Nat) (c : Addr) (q : Int × Rs), (cs ++ [p])[i]? = some c → S[i]? = some q → SqT K (upd H5 l (.lst (cs.map V.ref ++ [V.ref p]))) c (cmRow ((h.regs.length : Int) + (i : Int)) (fp S (h.regs.length : Int)) q.2) := fun i c q hi hq => by
      by_cases c1 : i < cs.length
      · rw [List.getElem?_append_left c1] at hi
        exact t36 _ _ (hcs i c q hi hq)
      · rw [List.getElem?_append_right (by omega)] at hi
        have e0 : i = j := by
          have := (List.getElem?_eq_some_iff.mp hi).1
          rw [List.length_singleton] at this
          omega
        subst e0
        rw [lc, Nat.sub_self] at hi
        obtain rfl : p = c := by simpa using hi
        rw [hSj] at hq
        cases hq
        exact Tk.lst hc5 _ _ (SqT.of hp)
    have lc6 : (cs ++ [p]).length = j + 1 := by rw [List.length_append, List.length_singleton, lc]
    generalize upd H5 l (.lst (cs.map V.ref ++ [V.ref p])) = H6 at e6 hkv6 hl6 hcs6 ⊢
    obtain ⟨st1, st2⟩ := pl_step (base := (h.regs.length : Int)) hSj hks zks hm hv
    have zkv : kvs.length < sizeLine := szl (by
      have z := congrArg List.length hks
      rw [List.length_map, List.length_map] at z
      omega)
    refine ⟨_, rfl, d, rfl, .inl ⟨_, .inl hkv6⟩, _, rfl, _, rfl, kvs, Sum.inl n, hkv6, rfl, zkv, fun v hv' => ?_, fun hn => ?_⟩
    · have hin : n ∈ ks := by
        have z := key_has hks n
        rw [hv'] at z
        exact of_decide_eq_true z.symm
      exact ⟨_, _, _, rfl, e6, ⟨kvs, ks, hkv6, hks, by omega, st1 hin, hv⟩, cs ++ [p], hl6, lc6, hcs6⟩
    · have hin : n ∉ ks := fun z => by
        have y := key_has hks n
        rw [hn, decide_eq_true z] at y
        cases y
      obtain ⟨g1, g2, g3, g4⟩ := st2 hin
      have t7 : Tk K H6 (upd H6 d (.dK (putK kvs (Sum.inl n) (.int ((h.regs.length : Int) + (j : Int)))))) := Tk.dic hkv6
      exact ⟨_, _, _, rfl, e6.put fd0, ⟨_, _, upd_same, g1, g2, g3, g4⟩, cs ++ [p], by rw [upd_ne nld]; exact hl6, lc6, fun i c q hi hq => t7 _ _ (hcs6 i c q hi hq)⟩
  · obtain ⟨u4, u5, u6, rfl, e, _, cs, hc, lc, hcs⟩ := p
    rw [List.length_map] at lc
    refine ⟨_, rfl, l, _, rfl, .inl ⟨SqL.of hc, fun t ft => ?_⟩⟩
    exact q _ t cs (ExM.trans e (ExM.new ft)) (SqT.of upd_same) (by omega) fun j c p hj hp => Tk.new ft _ _ (hcs j c p hj hp)
end
end Wc
/-! The exception of a command that fails, made. -/
namespace Wc
open PySem L2
def inS (st : Stmt) (i : Nat) : Stmt := match st with
  | .ClassDef _ _ _ body _ _ _ _ _ _ _ => body.getD i st
  | _ => st
abbrev i_CommandFault : Stmt := inS (topS 27) 0
abbrev in_CommandFault : InD := ⟨"CommandFault", "CommandFault.__init__", defArgs i_CommandFault, defBody i_CommandFault, defScope i_CommandFault⟩
theorem isc_CommandFault : NdefX.NScope ["self", "reason", "__class__"] ["self", "reason"] ["__class__"] (defScope i_CommandFault) := ⟨rfl, rfl, rfl, by decide +kernel, rfl, by decide +kernel, by decide +kernel, by decide +kernel, by decide +kernel⟩
theorem ini_CommandFault {P : Program} {w : World} {K : PySem.W.Frag} {mg : Str → Option Value} {base : Heap} (h : InOk P K in_CommandFault) (hm : mg "super" = none) (N_reason : PySem.W.findIn K (.ref (He.ga K "CommandFault")) "reason" = some none) :
    ∃ fd, FnOk P w K mg base CX0 1 (iniAd K "CommandFault") fd ["self", "reason"] (spx_CommandFault K) ∧ Binds K fd ["self", "reason"] [] := by
  obtain ⟨oc, od, an, kV, doc, pm, ct, osl, lk⟩ := h.fn
  refine ⟨_, initS_of (N := ["self", "reason", "__class__"]) h.sup lk h.cd isc_CommandFault ⟨_, rfl, rfl⟩ hm (by decide +kernel) (fun vs H Q E z => ?_) (fun L => rfl) (fun L => rfl) (fun L => ⟨_, rfl⟩) (fun L => rfl) (fun L => rfl) (fun A outer s H vs Q E hr z => ?_), h.binds (ps := ["self", "reason"]) fun _ _ _ _ _ _ _ us hl => match us, hl with | [_, _], _ => rfl⟩
  · obtain ⟨_, _, rfl, _⟩ := z; rfl
  · obtain ⟨a, v, rfl, ha, q⟩ := z
    refine ⟨a, [v], rfl, ha, _, _, pa_cons (pv 1) pa_nil, pss_one (ps_ost (pv 0) (pv 1)), ?_⟩
    refine ⟨_, rfl, by show 1 ≤ 1000; decide, ha, _, rfl, _, rfl, a, _, rfl, h.sup.oex, N_reason, .inl ⟨ha, fun dx n ne => ?_⟩⟩
    exact q dx n ne
theorem xc_CommandFault {P : Program} {w : World} {K : PySem.W.Frag} {mg : Str → Option Value} {base : Heap} (h : InOk P K in_CommandFault) (hg : mg "CommandFault" = some (.ref (He.ga K "CommandFault"))) (hm : mg "super" = none)
    (N_reason : PySem.W.findIn K (.ref (He.ga K "CommandFault")) "reason" = some none) : XcAt P w K mg base "CommandFault" (He.ga K "CommandFault") 1 (spx_CommandFault K) :=
  let ⟨_, h1, h2⟩ := ini_CommandFault h hm N_reason
  ⟨h.sup.oex, hg, h.xf, h.sup.ve, h.me, _, _, _, h.find, h.ty, h1, h2⟩
end Wc
/-! A heap of the program as data that is shown; as data that is compared. -/
namespace Wc
open PySem L2
/-- shown in few signs -/
structure Nice (c k : Nat) (d : PyData) : Prop where
  nd : d.hasDict = false
  sh : d.showable = true
  ls : d.leavesShort 8 = true
  bk : d.bulk ≤ c
  dp : d.depth ≤ k
structure NiceL (c k : Nat) (l : List PyData) : Prop where
  nd : PyData.hasDictAll l = false
  sh : PyData.showableAll l = true
  ls : PyData.leavesShortAll 8 l = true
  bk : PyData.bulkAll l ≤ c
  dp : PyData.depthAll l ≤ k
theorem NiceL.nil {k : Nat} : NiceL 0 k [] := ⟨rfl, rfl, rfl, Nat.le_refl _, Nat.zero_le _⟩
theorem NiceL.cons {c c' k : Nat} {d : PyData} {l : List PyData} (x : Nice c k d) (y : NiceL c' k l) : NiceL (c + 1 + c') k (d :: l) :=
  ⟨by simp only [PyData.hasDictAll, x.nd, y.nd, Bool.or_self], by simp only [PyData.showableAll, x.sh, y.sh, Bool.and_self], by simp only [PyData.leavesShortAll, x.ls, y.ls, Bool.and_self],
    by have := x.bk; have := y.bk; simp only [PyData.bulkAll]; omega, by have := x.dp; have := y.dp; simp only [PyData.depthAll]; omega⟩
theorem NiceL.tup {c k : Nat} {l : List PyData} (x : NiceL c k l) : Nice c (k + 1) (.tuple l) :=
  ⟨by simp only [PyData.hasDict, x.nd], by simp only [PyData.showable, x.sh], by simp only [PyData.leavesShort, x.ls], by simp only [PyData.bulk]; exact x.bk, by simp only [PyData.depth]; have := x.dp; omega⟩
theorem NiceL.map {α : Type} {f : α → PyData} {c k : Nat} : ∀ {l : List α}, (∀ x ∈ l, Nice c k (f x)) → NiceL ((c + 1) * l.length) k (l.map f)
  | [], _ => .nil
  | x :: l, h => by
    have y := NiceL.cons (h x List.mem_cons_self) (NiceL.map (l := l) fun z hz => h z (List.mem_cons_of_mem _ hz))
    rw [List.length_cons, Nat.mul_add, Nat.mul_one, Nat.add_comm ((c + 1) * l.length)]
    exact y
theorem Nice.mono {c c' k k' : Nat} {d : PyData} (x : Nice c k d) (h : c ≤ c') (h2 : k ≤ k') : Nice c' k' d := ⟨x.nd, x.sh, x.ls, Nat.le_trans x.bk h, Nat.le_trans x.dp h2⟩
theorem NiceL.mono {c c' k k' : Nat} {d : List PyData} (x : NiceL c k d) (h : c ≤ c') (h2 : k ≤ k') : NiceL c' k' d := ⟨x.nd, x.sh, x.ls, Nat.le_trans x.bk h, Nat.le_trans x.dp h2⟩
theorem Nice.int {i : Int} (h0 : 0 ≤ i) (h : i ≤ 999) : Nice 0 0 (.int i) := by
  refine ⟨rfl, ?_, ?_, Nat.le_refl _, Nat.le_refl _⟩
  · simp only [PyData.showable, decide_eq_true_eq]
    have z : i.natAbs < 2 ^ 10 := by omega
    by_cases e : i.natAbs = 0
    · rw [e]; decide
    · have := (Nat.log2_lt e).mpr z
      omega
  · have z := int_text_length_le10 (a := i) (k := 3) (by decide) (by omega)
    have e : (PyData.shown (.int i)).length ≤ 8 := by
      have e2 : (PyData.shown (.int i)) = Str.ofString (toString i) := by simp only [PyData.shown]
      rw [e2, ofString_length]; omega
    simp only [PyData.leavesShort]
    exact decide_eq_true e
theorem Nice.non : Nice 0 0 .none := ⟨rfl, rfl, rfl, Nat.le_refl _, Nat.le_refl _⟩
def rfPy : Rf → PyData
  | none => .none
  | some i => .int i
def prPy (e : Int × Int) : PyData := .tuple [.int e.1, .int e.2]
def obPy : Ob → PyData
  | .rcd n fs => .tuple [.str "record", .int n, .tuple (fs.map rfPy)]
  | .weak n t => .tuple [.str "weak", .int n, rfPy t]
  | .tab n es => .tuple [.str "table", .int n, .tuple (es.map prPy)]
def hdPy (h : Hd) : PyData := .tuple [.str "heap", .int h.nx, .tuple (h.regs.map rfPy), .tuple (h.kept.map PyData.int), .tuple (h.obs.map obPy), .tuple (h.wat.map prPy)]
theorem nice_rf {r : Rf} (h : ∀ i, r = some i → 0 ≤ i ∧ i ≤ 999) : Nice 0 0 (rfPy r) := by
  cases r with
  | none => exact Nice.non
  | some i => exact Nice.int (h i rfl).1 (h i rfl).2
theorem nice_pr {e : Int × Int} (h1 : 0 ≤ e.1 ∧ e.1 ≤ 999) (h2 : 0 ≤ e.2 ∧ e.2 ≤ 999) : Nice 2 1 (prPy e) :=
  ((NiceL.nil.cons (Nice.int h2.1 h2.2)).cons (Nice.int h1.1 h1.2)).tup
theorem nice_str {x : Str} (h : (x.cps.toList.all fun c => decide (c < 16 ^ 8)) = true) (z : x.cps.size ≤ 9) : Nice 9 0 (.str x) := ⟨rfl, rfl, h, z, Nat.le_refl _⟩
theorem nice_ob {S : List Int} {o : Ob} (ok : o.ok S) (hn : 0 ≤ o.num ∧ o.num ≤ 999) (hS : ∀ n ∈ S, 0 ≤ n ∧ n ≤ 999) : Nice 3100 3 (obPy o) := by
  cases o with
  | rcd n fs =>
    have y := (NiceL.map (f := rfPy) (l := fs) (c := 0) (k := 0) fun r hr => nice_rf fun i e => hS i (ok.2 r hr i e)).tup
    have z := (((NiceL.nil.cons (y.mono (c' := 1000) (k' := 1) (by have := ok.1; omega) (by omega))).cons ((Nice.int (i := n) hn.1 hn.2).mono (c' := 0) (k' := 1) (by omega) (by omega))).cons ((nice_str (x := "record") (by decide +kernel) (by decide +kernel)).mono (c' := 9) (k' := 1) (by omega) (by omega))).tup
    exact z.mono (by omega) (by omega)
  | weak n t =>
    have y := nice_rf (r := t) fun i e => hS i (ok i e)
    have z := (((NiceL.nil.cons y).cons (Nice.int (i := n) hn.1 hn.2)).cons (nice_str (x := "weak") (by decide +kernel) (by decide +kernel))).tup
    exact z.mono (by omega) (by omega)
  | tab n es =>
    have y := (NiceL.map (f := prPy) (l := es) (c := 2) (k := 1) fun e he => nice_pr (hS _ (ok.2.2 e he).1) (hS _ (ok.2.2 e he).2)).tup
    have z := (((NiceL.nil.cons (y.mono (c' := 3000) (k' := 2) (by have := ok.1; omega) (by omega))).cons ((Nice.int (i := n) hn.1 hn.2).mono (c' := 0) (k' := 2) (by omega) (by omega))).cons ((nice_str (x := "table") (by decide +kernel) (by decide +kernel)).mono (c' := 9) (k' := 2) (by omega) (by omega))).tup
    exact z.mono (by omega) (by omega)
theorem nice_hd {h : Hd} (ok : h.Ok) (hk : h.kept.length ≤ 1000) : Nice 200000 5 (hdPy h) := by
  have hS : ∀ n ∈ h.nums, 0 ≤ n ∧ n ≤ 999 := fun n hn => by have := ok.low n hn; have := ok.nxl; omega
  have y1 := (NiceL.map (f := rfPy) (l := h.regs) (c := 0) (k := 0) fun r hr => nice_rf fun i e => hS i (ok.regs r hr i e)).tup
  have y2 := (NiceL.map (f := PyData.int) (l := h.kept) (c := 0) (k := 0) fun n hn => Nice.int (hS n (ok.kept n hn)).1 (hS n (ok.kept n hn)).2).tup
  have y3 := (NiceL.map (f := obPy) (l := h.obs) (c := 3100) (k := 3) fun o ho => nice_ob (ok.obs o ho) (hS _ (List.mem_map_of_mem ho)) hS).tup
  have y4 := (NiceL.map (f := prPy) (l := h.wat) (c := 2) (k := 1) fun e he => nice_pr (hS _ (ok.wat e he)) (ok.tok e he)).tup
  have z1 := y1.mono (c' := 1000) (k' := 4) (by have := ok.nreg; omega) (by omega)
  have z2 := y2.mono (c' := 1000) (k' := 4) (by omega) (by omega)
  have z3 := y3.mono (c' := 155100) (k' := 4) (by have := ok.size; omega) (by omega)
  have z4 := y4.mono (c' := 3000) (k' := 4) (by have := ok.nwat; omega) (by omega)
  have z5 := (Nice.int (i := h.nx) ok.nxl.1 ok.nxl.2).mono (c' := 0) (k' := 4) (by omega) (by omega)
  have z6 := (nice_str (x := "heap") (by decide +kernel) (by decide +kernel)).mono (c' := 9) (k' := 4) (by omega) (by omega)
  exact ((((((NiceL.nil.cons z4).cons z3).cons z2).cons z1).cons z5).cons z6).tup.mono (by omega) (by omega)
section
variable {K : PySem.W.Frag} {H : Hp}
theorem dp_rf (r : Rf) : Dp K H (rV r) (rfPy r) := by
  cases r with
  | none => exact .non
  | some i => exact .int i
theorem dpAll_map {α : Type} {e : α → V} {f : α → PyData} : ∀ {l : List α}, (∀ x ∈ l, Dp K H (e x) (f x)) → DpAll K H (l.map e) (l.map f)
  | [], _ => .nil
  | x :: l, h => .cons (h x List.mem_cons_self) (dpAll_map fun y hy => h y (List.mem_cons_of_mem _ hy))
theorem dpAll_refs {α : Type} {f : α → PyData} : ∀ {as : List Addr} {ms : List α}, Paired (fun a m => Dp K H (.ref a) (f m)) as ms → DpAll K H (as.map V.ref) (ms.map f)
  | _, _, .nil => .nil
  | _, _, .cons r t => .cons r (dpAll_refs t)
theorem dp_pr {a : Addr} {e : Int × Int} (h : PairAt K H a e) : Dp K H (.ref a) (prPy e) := .tup h (.cons (.int _) (.cons (.int _) .nil))
theorem dp_ob {a : Addr} {o : Ob} (h : ObAt K H a o) : Dp K H (.ref a) (obPy o) := by
  cases o with
  | rcd n fs =>
    obtain ⟨t, h1, h2⟩ := h
    exact .tup h1 (.cons (.str _) (.cons (.int _) (.cons (.tup h2.sq (dpAll_map fun r _ => dp_rf r)) .nil)))
  | weak n r => exact .tup (show SqT K H a [.str "weak", .int n, rV r] from h) (.cons (.str _) (.cons (.int _) (.cons (dp_rf r) .nil)))
  | tab n es =>
    obtain ⟨t, ps, h1, h2, h3⟩ := h
    exact .tup h1 (.cons (.str _) (.cons (.int _) (.cons (.tup h2.sq (dpAll_refs (pmp h3 fun _ _ z => dp_pr z))) .nil)))
theorem dp_hd {a : Addr} {h : Hd} (x : HeapAt K H a h) : Dp K H (.ref a) (hdPy h) := by
  obtain ⟨r, k, o, w, ws, h1, h2, h3, ⟨os, h4, h4'⟩, h5, h6⟩ := x
  exact .tup h1 (.cons (.str _) (.cons (.int _) (.cons (.tup h2.sq (dpAll_map fun r _ => dp_rf r)) (.cons (.tup h3 (dpAll_map fun n _ => .int n)) (.cons (.tup h4 (dpAll_refs (pmp h4' fun _ _ z => dp_ob z))) (.cons (.tup h5 (dpAll_refs (pmp h6 fun _ _ z => dp_pr z))) .nil))))))
end
/-- the heap can be shown -/
theorem repr_hd {A : Around} {k : Nat} {h : Hd} (hr : Room k A) (ok : h.Ok) (hk : h.kept.length ≤ 1000) : (hdPy h).showable = true ∧ (hdPy h).hasDict = false ∧ (hdPy h).shown.length ≤ sizeLine ∧ A.units + ((hdPy h).depth + 1) < cLine := by
  have n := nice_hd ok hk
  have e : (2 : Nat) ^ 20 = 1048576 := by decide
  exact ⟨n.sh, n.nd, PyData.shown_fits_bulk (B := 8) (by decide) (by decide) n.ls (Nat.le_trans n.bk (by omega)), by have := n.dp; have := hr.units; omega⟩
/-! ### lists of numbers, compared -/
theorem lay_ints (ns : List Int) : PyData.canLayAll0 (ns.map PyData.int) = true := by
  induction ns with
  | nil => rfl
  | cons n r ih => rw [List.map_cons]; simp only [PyData.canLayAll0, PyData.canLay0, ih, Bool.and_self]
theorem dpt_ints (ns : List Int) : PyData.depthAll (ns.map PyData.int) = 0 := by
  induction ns with
  | nil => rfl
  | cons n r ih => rw [List.map_cons]; simp only [PyData.depthAll, PyData.depth, ih, Nat.max_self]
theorem ne_same {K : PySem.W.Frag} {H : Hp} {a b : Addr} {ns : List Int} {Q : VK} (ha : SqL K H a (ns.map V.int)) (hb : SqL K H b (ns.map V.int)) (q : Q (.bl false) H) : rNeD K (.ref a) (.ref b) H Q := by
  have s : SeqAt.shaped (.list (ns.map PyData.int)) = true := by
    unfold SeqAt.shaped
    simp only [PyData.canLay0, PyData.depth, lay_ints, dpt_ints, Bool.true_and]
    decide
  refine ⟨.list (ns.map PyData.int), .list (ns.map PyData.int), .lst ha (dpAll_map fun n _ => .int n), .lst hb (dpAll_map fun n _ => .int n), s, s, ?_⟩
  rw [SeqAt.eqv_refl _ (SeqAt.canLay_of_shaped s)]
  exact q
/-! ### .. as data that the law compares -/
def rfDt : Rf → Dt
  | none => .non
  | some i => .int i
def prDt (e : Int × Int) : Dt := .tup [.int e.1, .int e.2]
def obDt : Ob → Dt
  | .rcd n fs => .tup [.str "record", .int n, .tup (fs.map rfDt)]
  | .weak n t => .tup [.str "weak", .int n, rfDt t]
  | .tab n es => .tup [.str "table", .int n, .tup (es.map prDt)]
def hdDt (h : Hd) : Dt := .tup [.str "heap", .int h.nx, .tup (h.regs.map rfDt), .tup (h.kept.map Dt.int), .tup (h.obs.map obDt), .tup (h.wat.map prDt)]
theorem rf_is {K : PySem.W.Frag} {H : Hp} (r : Rf) : Is K H (rfDt r) (rV r) := by cases r <;> rfl
theorem isL_rfs {K : PySem.W.Frag} {H : Hp} : ∀ rs : List Rf, IsL K H (rs.map rfDt) (rs.map rV)
  | [] => rfl
  | r :: rs => ⟨_, _, rfl, rf_is r, isL_rfs rs⟩
theorem isL_refs {α : Type} {K : PySem.W.Frag} {H : Hp} {f : α → Dt} : ∀ {as : List Addr} {ms : List α}, Paired (fun a m => Is K H (f m) (.ref a)) as ms → IsL K H (ms.map f) (as.map V.ref)
  | _, _, .nil => rfl
  | _, _, .cons r t => ⟨_, _, rfl, r, isL_refs t⟩
theorem pr_is {K : PySem.W.Frag} {H : Hp} {a : Addr} {e : Int × Int} (h : PairAt K H a e) : Is K H (prDt e) (.ref a) := ⟨a, _, rfl, h, _, _, rfl, rfl, _, _, rfl, rfl, rfl⟩
theorem ob_is {K : PySem.W.Frag} {H : Hp} {a : Addr} {o : Ob} (h : ObAt K H a o) : Is K H (obDt o) (.ref a) := by
  cases o with
  | rcd n fs =>
    obtain ⟨t, h1, h2⟩ := h
    exact ⟨a, _, rfl, h1, _, _, rfl, rfl, _, _, rfl, rfl, _, _, rfl, ⟨t, _, rfl, h2.sq, isL_rfs fs⟩, rfl⟩
  | weak n r => exact ⟨a, _, rfl, h, _, _, rfl, rfl, _, _, rfl, rfl, _, _, rfl, rf_is r, rfl⟩
  | tab n es =>
    obtain ⟨t, ps, h1, hz2, h3⟩ := h; have h2 := hz2.sq (K := K)
    exact ⟨a, _, rfl, h1, _, _, rfl, rfl, _, _, rfl, rfl, _, _, rfl, ⟨t, _, rfl, h2, isL_refs (pmp h3 fun _ _ z => pr_is z)⟩, rfl⟩
theorem hd_is {K : PySem.W.Frag} {H : Hp} {a : Addr} {h : Hd} (x : HeapAt K H a h) : Is K H (hdDt h) (.ref a) := by
  obtain ⟨r, k, o, w, ws, h1, h2, h3, ⟨os, h4, h4'⟩, h5, h6⟩ := x
  exact ⟨a, _, rfl, h1, _, _, rfl, rfl, _, _, rfl, rfl, _, _, rfl, ⟨r, _, rfl, h2.sq, isL_rfs _⟩, _, _, rfl, ⟨k, _, rfl, h3, IsL.ints _⟩, _, _, rfl, ⟨o, _, rfl, h4, isL_refs (pmp h4' fun _ _ z => ob_is z)⟩, _, _, rfl, ⟨w, _, rfl, h5, isL_refs (pmp h6 fun _ _ z => pr_is z)⟩, rfl⟩
theorem depL_map {α : Type} {f : α → Dt} {n : Nat} (hf : ∀ x, (f x).dep ≤ n) : ∀ l : List α, Dt.depL (l.map f) ≤ n
  | [] => Nat.zero_le _
  | x :: l => by
    show max (f x).dep (Dt.depL (l.map f)) ≤ n
    have := hf x
    have := depL_map hf l
    omega
theorem rf_dep (r : Rf) : (rfDt r).dep ≤ 0 := by cases r <;> exact Nat.le_refl _
theorem pr_dep (e : Int × Int) : (prDt e).dep ≤ 1 := Nat.le_refl _
theorem ob_dep (o : Ob) : (obDt o).dep ≤ 3 := by
  cases o with
  | rcd n fs =>
    show 1 + max 0 (max 0 (max (1 + Dt.depL (fs.map rfDt)) 0)) ≤ 3
    have := depL_map rf_dep fs
    omega
  | weak n r =>
    show 1 + max 0 (max 0 (max (rfDt r).dep 0)) ≤ 3
    have := rf_dep r
    omega
  | tab n es =>
    show 1 + max 0 (max 0 (max (1 + Dt.depL (es.map prDt)) 0)) ≤ 3
    have := depL_map pr_dep es
    omega
theorem hd_dep (h : Hd) : (hdDt h).dep < 9 := by
  show 1 + max 0 (max 0 (max (1 + Dt.depL (h.regs.map rfDt)) (max (1 + Dt.depL (h.kept.map Dt.int)) (max (1 + Dt.depL (h.obs.map obDt)) (max (1 + Dt.depL (h.wat.map prDt)) 0))))) < 9
  have a := depL_map rf_dep h.regs
  have b := depL_ints h.kept
  have c := depL_map ob_dep h.obs
  have d := depL_map pr_dep h.wat
  omega
theorem thinL_map {α : Type} {f : α → Dt} : ∀ {l : List α}, (∀ x ∈ l, (f x).thin) → Dt.thinL (l.map f)
  | [], _ => trivial
  | x :: l, hf => ⟨hf x List.mem_cons_self, thinL_map fun y hy => hf y (List.mem_cons_of_mem _ hy)⟩
theorem rf_thin (r : Rf) : (rfDt r).thin := by cases r <;> exact trivial
theorem pr_thin (e : Int × Int) : (prDt e).thin := ⟨by show 2 ≤ 100000; decide, trivial, trivial, trivial⟩
theorem ob_thin {o : Ob} (s : o.small) : (obDt o).thin := by
  cases o with
  | rcd n fs => exact ⟨by show 3 ≤ 100000; decide, trivial, trivial, ⟨by rw [List.length_map]; exact Nat.le_trans s (by decide), thinL_map fun x _ => rf_thin x⟩, trivial⟩
  | weak n r => exact ⟨by show 3 ≤ 100000; decide, trivial, trivial, rf_thin r, trivial⟩
  | tab n es => exact ⟨by show 3 ≤ 100000; decide, trivial, trivial, ⟨by rw [List.length_map]; exact Nat.le_trans s (by decide), thinL_map fun x _ => pr_thin x⟩, trivial⟩
theorem hd_thin {h : Hd} (z1 : h.regs.length ≤ 100000) (z2 : h.kept.length ≤ 100000) (z3 : h.obs.length ≤ 100000) (z4 : h.wat.length ≤ 100000) (so : ∀ o ∈ h.obs, o.small) : (hdDt h).thin :=
  ⟨by show 6 ≤ 100000; decide, trivial, trivial, ⟨by rw [List.length_map]; exact z1, thinL_map fun x _ => rf_thin x⟩, ⟨by rw [List.length_map]; exact z2, thinL_map fun x _ => trivial⟩, ⟨by rw [List.length_map]; exact z3, thinL_map fun x hx => ob_thin (so x hx)⟩,
    ⟨by rw [List.length_map]; exact z4, thinL_map fun x _ => pr_thin x⟩, trivial⟩
end Wc
/-! A derivation's commands, done one after the other where weak references to the condemned ones are cleared. -/
namespace Wc
open PySem L2
def Tru (h : Hd) (cs : List Int) (m : Int) : Rs → Prop
  | .reg k => h.regs[k]? = some (some m)
  | .fld n k => ∃ fs, .rcd n fs ∈ h.obs ∧ fs[k]? = some (some m)
  | .ent n q => ∃ es, .tab n es ∈ h.obs ∧ (q, m) ∈ es ∧ (es.map (·.1)).Nodup ∧ es.length ≤ 1000
  | .drf n => .weak n (some m) ∈ h.obs ∧ m ∉ cs
theorem ixR_at {rs : List Rf} {n : Int} (h : some n ∈ rs) : rs[ixR rs n]? = some (some n) := by
  have hl : ixR rs n < rs.length := List.findIdx_lt_length_of_exists ⟨_, h, by simp⟩
  rw [List.getElem?_eq_getElem hl]
  have := List.findIdx_getElem (p := (· == some n)) (w := hl)
  have e : rs[ixR rs n] = some n := beq_iff_eq.mp this
  rw [e]
theorem bst_tru {h : Hd} {cs : List Int} {n : Int} (ok : h.Ok) (x : Obt h cs n) : Tru h cs n (bst h cs n) := by
  cases e : rnk h cs n with
  | zero =>
    rw [bst_zero e]
    refine ixR_at ?_
    have z := (Obt.rnk x).1
    rw [e] at z
    exact z
  | succ k =>
    obtain ⟨r, t, hr⟩ := rs_some x e (ls := low h cs k) fun m => mem_low ok
    rw [bst_succ ok e (ls := low h cs k) (fun m => mem_low ok) (by rw [hr]; rfl)]
    obtain ⟨o, h1, h2, h3⟩ := rsAll_mem.mp (show r ∈ rsAll h (low h cs k) cs n by rw [hr]; exact List.mem_cons_self)
    cases o with
    | rcd m fs =>
      have h3 : (if some n ∈ fs then some (Rs.fld m (ixR fs n)) else none) = some r := h3
      by_cases c : some n ∈ fs
      · rw [if_pos c] at h3
        cases h3
        exact ⟨fs, h1, ixR_at c⟩
      · rw [if_neg c] at h3; cases h3
    | weak m t =>
      have h3 : (if t = some n ∧ n ∉ cs then some (Rs.drf m) else none) = some r := h3
      by_cases c : t = some n ∧ n ∉ cs
      · rw [if_pos c] at h3
        cases h3
        exact ⟨by rw [← c.1]; exact h1, c.2⟩
      · rw [if_neg c] at h3; cases h3
    | tab m es =>
      have h3 : ((es.filter fun e => decide (e.2 = n) && decide (e.1 ∈ low h cs k)).head?).map (fun e => Rs.ent m e.1) = some r := h3
      obtain ⟨q, hq, rfl⟩ := Option.map_eq_some_iff.mp h3
      obtain ⟨q1, q2⟩ := List.mem_filter.mp (List.mem_of_head? hq)
      have q3 : q.2 = n := of_decide_eq_true (Bool.and_eq_true_iff.mp q2).1
      have ot := ok.obs _ h1
      exact ⟨es, h1, by rw [← q3]; exact q1, ot.2.1, ot.1⟩
noncomputable def stepsOf (h : Hd) (cs L : List Int) : List (Int × Rs) := L.map fun m => (m, bst h cs m)
theorem steps_fst (h : Hd) (cs L : List Int) : (stepsOf h cs L).map (·.1) = L := by
  unfold stepsOf; rw [List.map_map]; exact List.map_id' L
theorem drv_earlier {h : Hd} {cs : List Int} {n : Int} {L : List Int} (ok : h.Ok) (x : Obt h cs n) (d : Drv h cs n L) : Earlier (stepsOf h cs L) := by
  intro j p hp k hk
  unfold stepsOf at hp
  rw [List.getElem?_map] at hp
  obtain ⟨m, hm, rfl⟩ := Option.map_eq_some_iff.mp hp
  have hmL := List.mem_of_getElem? hm
  have hn := (d.mem m).mp hmL
  have hkL : k ∈ L := (d.mem k).mpr (.step hn hk)
  have hr := (bst_names ok (Need.obt ok x hn) k hk).2
  rw [List.map_take, steps_fst]
  have hj := (List.getElem?_eq_some_iff.mp hm).1
  have e : L = L.take j ++ L.drop j := (List.take_append_drop j L).symm
  rw [e] at hkL
  rcases List.mem_append.mp hkL with z | z
  · exact z
  · exfalso
    rw [List.drop_eq_getElem_cons hj] at z
    have em : L[j] = m := (List.getElem?_eq_some_iff.mp hm).2
    have up := d.up
    rw [e, List.drop_eq_getElem_cons hj] at up
    have up2 := (List.pairwise_append.mp up).2.1
    rcases List.mem_cons.mp z with z | z
    · rw [z, em] at hr; omega
    · have := (List.pairwise_cons.mp up2).1 k z
      rw [em] at this
      rcases this with q | ⟨q, _⟩ <;> omega
theorem steps_of_is {K : PySem.W.Frag} {H : Hp} {h : Hd} {cs L : List Int} {v : V} (x : Is K H (drvDt h cs L) v) : ∃ dv ss, v = .ref dv ∧ SqT K H dv (ss.map V.ref) ∧ Paired (StAt K H) ss (stepsOf h cs L) := by
  obtain ⟨dv, xs, rfl, h1, h2⟩ := x
  have key : ∀ (l : List Int) (xs : List V), IsL K H (l.map fun m => .tup [.int m, (bst h cs m).dt]) xs → ∃ ss : List Addr, xs = ss.map V.ref ∧ Paired (StAt K H) ss (stepsOf h cs l) := by
    intro l
    induction l with
    | nil => intro xs hx; exact ⟨[], hx, .nil⟩
    | cons m r ih =>
      intro xs hx
      obtain ⟨x, rest, rfl, hx1, hx2⟩ := hx
      obtain ⟨ss, rfl, hp⟩ := ih rest hx2
      obtain ⟨a, ys, rfl, ha, y1, r1, rfl, e1, y2, r2, rfl, e2, e3⟩ := hx1
      have e1 : y1 = .int m := e1
      have e3 : r2 = [] := e3
      subst e1 e3
      obtain ⟨ra, zs, rfl, hz, hz2⟩ : ∃ ra zs, y2 = .ref ra ∧ SqT K H ra zs ∧ zs = (bst h cs m).row := by
        generalize bst h cs m = rs at e2 ⊢
        cases rs with
        | reg k =>
          obtain ⟨ra, zs, rfl, hz, a1, b1, rfl, c1, a2, b2, rfl, c2, c3⟩ := e2
          have c1 : a1 = .str "register" := c1
          have c2 : a2 = .int (k : Nat) := c2
          have c3 : b2 = [] := c3
          subst c1 c2 c3
          exact ⟨ra, _, rfl, hz, rfl⟩
        | fld n k =>
          obtain ⟨ra, zs, rfl, hz, a1, b1, rfl, c1, a2, b2, rfl, c2, a3, b3, rfl, c3, c4⟩ := e2
          have c1 : a1 = .str "field" := c1
          have c2 : a2 = .int n := c2
          have c3 : a3 = .int (k : Nat) := c3
          have c4 : b3 = [] := c4
          subst c1 c2 c3 c4
          exact ⟨ra, _, rfl, hz, rfl⟩
        | ent n k =>
          obtain ⟨ra, zs, rfl, hz, a1, b1, rfl, c1, a2, b2, rfl, c2, a3, b3, rfl, c3, c4⟩ := e2
          have c1 : a1 = .str "entry" := c1
          have c2 : a2 = .int n := c2
          have c3 : a3 = .int k := c3
          have c4 : b3 = [] := c4
          subst c1 c2 c3 c4
          exact ⟨ra, _, rfl, hz, rfl⟩
        | drf n =>
          obtain ⟨ra, zs, rfl, hz, a1, b1, rfl, c1, a2, b2, rfl, c2, c3⟩ := e2
          have c1 : a1 = .str "deref" := c1
          have c2 : a2 = .int n := c2
          have c3 : b2 = [] := c3
          subst c1 c2 c3
          exact ⟨ra, _, rfl, hz, rfl⟩
      subst hz2
      exact ⟨a :: ss, rfl, .cons ⟨ra, ha, hz⟩ hp⟩
  obtain ⟨ss, rfl, hp⟩ := key L xs h2
  exact ⟨dv, ss, rfl, h1, hp⟩
/-! ### tables, where the law's source moves on -/
theorem tabs_exm {T : List (Addr × Str)} {b : Addr} {H H' : Hp} {xs : List V} (h : ExM [b] H H') (hb : H b = some (.lst xs)) (t : LamX.Tabs T H) : LamX.Tabs T H' := by
  have ne : ∀ a o, H a = some o → o ≠ .lst xs → a ∉ [b] := fun a o q z m => by
    have e : a = b := by simpa using m
    rw [e, hb] at q
    exact z (Option.some.inj q).symm
  intro p hp
  obtain ⟨ps, h1, h2, h3⟩ := t p hp
  refine ⟨ps, h _ _ (ne _ _ h1 (fun z => nomatch z)) h1, h2, fun pos cv hc => ?_⟩
  obtain ⟨c, e1, e2⟩ := h3 pos cv hc
  exact ⟨c, e1, h _ _ (ne _ _ e2 (fun z => nomatch z)) e2⟩
theorem Bx.ext {H H' : Hp} {b d : Addr} {ds : List Int} (e : LamX.ExtN H H') (x : Bx H b d ds) : Bx H' b d ds := by
  obtain ⟨⟨n, e1⟩, e2, e3⟩ := x
  exact ⟨⟨n, e _ _ e1 fun _ z => nomatch z⟩, e _ _ e2 (fun _ z => nomatch z), e3⟩
/-- the command of a reason -/
def cmdOf (to : Nat) (pl : Int → Nat) : Rs → Cmd
  | .reg k => .copy to k
  | .fld n k => .read to (pl n) k
  | .ent n q => .lookup to (pl n) (pl q)
  | .drf n => .deref to (pl n)
theorem cmd_at {K : PySem.W.Frag} {H : Hp} {a : Addr} {to : Nat} {pl : Int → Int} {pn : Int → Nat} {r : Rs} (h : SqT K H a (cmRow (to : Int) pl r)) (e : ∀ n ∈ r.names, pl n = (pn n : Int)) : CmdAt K H a (cmdOf to pn r) := by
  cases r with
  | reg k => exact h
  | fld n k =>
    have z := e n (by simp [Rs.names])
    have h : SqT K H a [.str "read", .int to, .int (pl n), .int (k : Nat)] := h
    rw [z] at h; exact h
  | ent n q =>
    have z := e n (by simp [Rs.names])
    have y := e q (by simp [Rs.names])
    have h : SqT K H a [.str "lookup", .int to, .int (pl n), .int (pl q)] := h
    rw [z, y] at h; exact h
  | drf n =>
    have z := e n (by simp [Rs.names])
    have h : SqT K H a [.str "deref", .int to, .int (pl n)] := h
    rw [z] at h; exact h
/-- what must stand in the registers and in the heap -/
def Rdy (g : Hd) (pn : Int → Nat) (m : Int) : Rs → Prop
  | .reg k => reg g k = some m
  | .fld n k => reg g (pn n) = some n ∧ ∃ fs, .rcd n fs ∈ g.obs ∧ fs[k]? = some (some m)
  | .ent n q => reg g (pn n) = some n ∧ reg g (pn q) = some q ∧ ∃ es, .tab n es ∈ g.obs ∧ (q, m) ∈ es ∧ (es.map (·.1)).Nodup
  | .drf n => reg g (pn n) = some n ∧ .weak n (some m) ∈ g.obs
theorem findE_nd {es : List (Int × Int)} {q m : Int} (h : (q, m) ∈ es) (nd : (es.map (·.1)).Nodup) : findE es q = some m := by
  unfold findE
  induction es with
  | nil => cases h
  | cons e r ih =>
    rw [List.find?_cons]
    rw [List.map_cons, List.nodup_cons] at nd
    rcases List.mem_cons.mp h with rfl | h
    · rw [decide_eq_true rfl]; rfl
    · have ne : e.1 ≠ q := fun z => nd.1 (z ▸ List.mem_map_of_mem (f := (·.1)) h)
      rw [decide_eq_false ne]
      exact ih h nd.2
theorem act_ready {g : Hd} (ok : g.Ok) {to : Nat} {pn : Int → Nat} {m : Int} {r : Rs} (h : Rdy g pn m r) : fault g (cmdOf to pn r) = none ∧ (act g (cmdOf to pn r)).2 = .ref (some m) ∧ (act g (cmdOf to pn r)).1.regs = g.regs.set to (some m) ∧
    (act g (cmdOf to pn r)).1.obs = g.obs ∧ (act g (cmdOf to pn r)).1.wat = g.wat ∧ (act g (cmdOf to pn r)).1.nx = g.nx := by
  cases r with
  | reg k =>
    have h : reg g k = some m := h
    show none = none ∧ Rz.ref (reg g k) = .ref (some m) ∧ g.regs.set to (reg g k) = _ ∧ _
    rw [h]
    exact ⟨rfl, rfl, rfl, rfl, rfl, rfl⟩
  | fld n k =>
    obtain ⟨e, fs, ho, hk⟩ := h
    have lk := (List.getElem?_eq_some_iff.mp hk).1
    have hob : obj g n = some (.rcd n fs) := obj_of ok ho
    have hor : obReg g (pn n) = some (.rcd n fs) := by unfold obReg; rw [e]; exact hob
    have hd : fs.getD k none = some m := by rw [List.getD_eq_getElem?_getD, hk]; rfl
    refine ⟨?_, ?_⟩
    · show wantOb g (reg g (pn n)) (needRec k) = none
      rw [e]
      simp only [wantOb, hob, needRec, if_pos lk]
    · simp only [cmdOf, act, hor, hd]
      exact ⟨trivial, rfl, rfl, rfl, rfl⟩
  | ent n q =>
    obtain ⟨e, eq, es, ho, hm, nd⟩ := h
    have hob : obj g n = some (.tab n es) := obj_of ok ho
    have hor : obReg g (pn n) = some (.tab n es) := by unfold obReg; rw [e]; exact hob
    refine ⟨?_, ?_⟩
    · show (if reg g (pn n) = none ∨ reg g (pn q) = none then some rEmpty else wantOb g (reg g (pn n)) needTab) = none
      rw [e, eq, if_neg (by rintro (z | z) <;> cases z)]
      simp only [wantOb, hob, needTab]
    · simp only [cmdOf, act, hor, eq, findE_nd hm nd]
      exact ⟨trivial, rfl, rfl, rfl, rfl⟩
  | drf n =>
    obtain ⟨e, ho⟩ := h
    have hob : obj g n = some (.weak n (some m)) := obj_of ok ho
    have hor : obReg g (pn n) = some (.weak n (some m)) := by unfold obReg; rw [e]; exact hob
    refine ⟨?_, ?_⟩
    · show wantOb g (reg g (pn n)) needWeak = none
      rw [e]
      simp only [wantOb, hob, needWeak]
    · simp only [cmdOf, act, hor]
      exact ⟨trivial, rfl, rfl, rfl, rfl⟩
/-- weak references to these ones are cleared -/
def wkOb (gs : List Int) : Ob → Ob
  | .weak n t => .weak n (clr gs t)
  | o => o
def wkHd (h : Hd) (gs : List Int) : Hd := { h with obs := h.obs.map (wkOb gs) }
theorem wkOb_num (gs : List Int) (o : Ob) : (wkOb gs o).num = o.num := by cases o <;> rfl
theorem wkHd_nums (h : Hd) (gs : List Int) : (wkHd h gs).nums = h.nums := by
  show (h.obs.map (wkOb gs)).map Ob.num = h.obs.map Ob.num
  rw [List.map_map]
  exact List.map_congr_left fun o _ => wkOb_num gs o
theorem wkHd_ok {h : Hd} (ok : h.Ok) (gs : List Int) : (wkHd h gs).Ok := by
  have e := wkHd_nums h gs
  refine ⟨by rw [e]; exact ok.up, by show (h.obs.map _).length ≤ 50; rw [List.length_map]; exact ok.size, ok.nreg, fun r m => by rw [e]; exact ok.regs r m, fun o m => ?_, fun i m => by rw [e]; exact ok.kept i m, fun p m => by rw [e]; exact ok.wat p m, fun n m => ok.low n (by rw [e] at m; exact m), ok.nxl, ok.kup, ok.tok, ok.nwat, ok.rpos⟩
  obtain ⟨p, hp, rfl⟩ := List.mem_map.mp m
  rw [e]
  have z := ok.obs p hp
  cases p with
  | rcd n fs => exact z
  | weak n t => exact fun i e => z i (clr_some.mp e).1
  | tab n es => exact z
theorem wide_ok {h : Hd} (ok : h.Ok) (k : Nat) (hk : h.regs.length + k ≤ 1000) : Hd.Ok { h with regs := h.regs ++ List.replicate k none } := by
  refine ⟨ok.up, ok.size, by show (h.regs ++ _).length ≤ 1000; rw [List.length_append, List.length_replicate]; exact hk, fun r m => ?_, ok.obs, ok.kept, ok.wat, ok.low, ok.nxl, ok.kup, ok.tok, ok.nwat, fun z => ok.rpos (List.append_eq_nil_iff.mp z).1⟩
  rcases List.mem_append.mp m with m | m
  · exact ok.regs r m
  · rw [List.eq_of_mem_replicate m]; exact fun i z => nomatch z
theorem cmd_ok {g : Hd} (ok : g.Ok) {to : Nat} {pn : Int → Nat} {m : Int} {r : Rs} (ht : to < g.regs.length) (h : Rdy g pn m r) : (cmdOf to pn r).ok g.regs.length := by
  have lt : ∀ {i n}, reg g i = some n → i < g.regs.length := fun {i n} e => by
    rcases Nat.lt_or_ge i g.regs.length with z | z
    · exact z
    · unfold reg at e
      rw [List.getD_eq_getElem?_getD, List.getElem?_eq_none z] at e
      cases e
  cases r with
  | reg k => exact ⟨ht, lt h⟩
  | fld n k =>
    obtain ⟨e, fs, ho, hk⟩ := h
    have := (List.getElem?_eq_some_iff.mp hk).1
    have := (ok.obs _ ho).1
    exact ⟨ht, lt e, by omega⟩
  | ent n q => exact ⟨ht, lt h.1, lt h.2.1⟩
  | drf n => exact ⟨ht, lt h.1⟩
theorem Need.rank {h : Hd} {cs : List Int} {n m : Int} (ok : h.Ok) (x : Obt h cs n) (y : Need h cs n m) : m = n ∨ rnk h cs m < rnk h cs n := by
  induction y with
  | base => exact .inl rfl
  | step y z ih =>
    have w := (bst_names ok (Need.obt ok x y) _ z).2
    rcases ih with rfl | ih
    · exact .inr w
    · exact .inr (by omega)
theorem Drv.last {h : Hd} {cs L : List Int} {n : Int} (ok : h.Ok) (x : Obt h cs n) (d : Drv h cs n L) : ∃ l, L = l ++ [n] := by
  have hn : n ∈ L := (d.mem n).mpr .base
  obtain ⟨l, r, rfl⟩ := List.append_of_mem hn
  cases r with
  | nil => exact ⟨l, rfl⟩
  | cons p r =>
    exfalso
    have up := (List.pairwise_append.mp d.up).2.1
    have z := (List.pairwise_cons.mp up).1 p List.mem_cons_self
    have hp : p ∈ l ++ n :: p :: r := by simp
    rcases Need.rank ok x ((d.mem p).mp hp) with rfl | y
    · exact rkLt.irr z
    · rcases z with z | ⟨z, _⟩ <;> omega
end Wc
/-! A heap with more registers, as a heap of the program. -/
namespace Wc
open PySem L2
section
variable (K : PySem.W.Frag)
def R_with_registers : V2 := fun x y H Q => ∃ (a : Addr) (h : Hd) (k : Nat), x = .ref a ∧ y = .int (k : Nat) ∧ HeapAt K H a h ∧ h.regs ≠ [] ∧ h.regs.length ≤ 1000 ∧ k ≤ 1000 ∧ ∀ H' p, ExA H H' → HeapAt K H' p { h with regs := h.regs ++ List.replicate k none } → Q (.ref p) H'
abbrev sp_with_registers : Sp := sp2 (R_with_registers K)
end
section
variable {P : Program} {w : World} {K : PySem.W.Frag} {mg : Str → Option Value} {base : Heap}
theorem ok_with_registers {f : Addr} {fd : FuncData} {cd : Value} (F : Df K "with_registers" s_with_registers f fd cd) (T : Txt mg) : FnOk P w K mg base CX0 1 f fd ["heap", "many"] (sp_with_registers K) := by
  have nd := sc_with_registers.nd
  refine F.ok sc_with_registers (fun vs H Q E h => ?_) (fun A outer s H vs Q E hr h => ?_)
  · obtain ⟨_, _, rfl, _⟩ := h; rfl
  have hu := hu_of hr
  obtain ⟨x0, x1, rfl, h⟩ := h
  refine ⟨_, (pss_cons (ps_asg (pv 0) (show PG _ _ (gTup K 6 _) from pg_tup rfl (pgs_cons (pg_name (i := 2) nd rfl (by first | exact Or.inl rfl | exact Or.inr rfl)) (pgs_cons (pg_name (i := 3) nd rfl (by first | exact Or.inl rfl | exact Or.inr rfl)) (pgs_cons (pg_name (i := 4) nd rfl (by first | exact Or.inl rfl | exact Or.inr rfl)) (pgs_cons (pg_name (i := 5) nd rfl (by first | exact Or.inl rfl | exact Or.inr rfl)) (pgs_cons (pg_name (i := 6) nd rfl (by first | exact Or.inl rfl | exact Or.inr rfl)) (pgs_cons (pg_name (i := 7) nd rfl (by first | exact Or.inl rfl | exact Or.inr rfl)) pgs_nil))))))))
    (pss_one (ps_ret (pe_tupZ (pa_cons (pv 2) (pa_cons (pv 3) (pa_cons (pe_op (r := rCatZ K) op_catZ (pv 4) (pe_op (r := rRepY K) op_repY (pe_tupZ (pa_cons pe_non pa_nil)) (pv 1))) (pa_cons (pv 5) (pa_cons (pv 6) (pa_cons (pv 7) pa_nil)))))))))), ?_⟩
  obtain ⟨a, h, k, rfl, rfl, hA, hne, hz, hk, q⟩ := h
  obtain ⟨r, kp, o, w, ws, h1, h2, h3, h4, h5, h6⟩ := id hA
  refine ⟨_, rfl, a, _, rfl, h1, rfl, _, _, rfl, _, _, rfl, _, _, rfl, _, _, rfl, _, _, rfl, _, _, rfl, rfl, ?_⟩
  refine nxI (σ' := [some (.ref a), some (.int (k : Int)), some (.str "heap"), some (.int h.nx), some (.ref r), some (.ref kp), some (.ref o), some (.ref w)]) rfl ?_
  refine ⟨_, rfl, _, rfl, _, rfl, sz (by show 1 ≤ 100000; decide), fun p1 o1 f1 n1 => ?_⟩
  have e1 : ExA H (upd H p1 (.frz o1 (.tup [.non]))) := ExM.new f1
  have z1 : SqZ (upd H p1 (.frz o1 (.tup [.non]))) p1 [.non] := SqZ.of n1 upd_same
  generalize upd H p1 (.frz o1 (.tup [.non])) = H1 at e1 z1 ⊢
  refine ⟨_, rfl, p1, _, _, rfl, rfl, z1, by omega, by omega, fun p2 H2 e2 z2 => ?_⟩
  have T12 := Tk.all (K := K) (e1.trans e2)
  have hl : (h.regs.map rV).length = h.regs.length := List.length_map _
  have hnr : h.regs.map rV ≠ [] := fun z => hne (List.map_eq_nil_iff.mp z)
  refine rCatZ.left (h2.mono T12) z2.sq hnr (sz (by rw [hl, List.length_replicate]; omega)) fun p3 H3 e3 z3 => ?_
  have e13 := (e1.trans e2).trans e3
  rw [Int.toNat_natCast, show h.regs.map rV ++ List.replicate k V.non = (h.regs ++ List.replicate k none).map rV by rw [List.map_append, List.map_replicate]; rfl] at z3
  refine ⟨_, rfl, _, rfl, _, rfl, sz (by show 6 ≤ 100000; decide), fun p4 o4 f4 n4 => ?_⟩
  have T4 := Tk.new (K := K) (o := .frz o4 (.tup [.str "heap", .int h.nx, .ref p3, .ref kp, .ref o, .ref w])) f4
  have TA := (Tk.all (K := K) e13).trans T4
  exact q _ p4 (e13.trans (ExM.new f4)) ⟨p3, kp, o, w, ws, (SqZ.of n4 upd_same).sq, z3.mono T4, TA _ _ h3, h4.mono TA, TA _ _ h5, pmp h6 fun _ _ z => PairAt.mono TA z⟩
end
end Wc
/-! Commands, states and results as data that is compared. -/
namespace Wc
open PySem L2
def stDt (h : Hd) : Dt := .tup [.str "state", hdDt h, .tup []]
def rzDt : Rz → Dt
  | .ref r => rfDt r
  | .bl b => .bl b
  | .toks ts => .tup (ts.map Dt.int)
theorem st_is {K : PySem.W.Frag} {H : Hp} {a : Addr} {h : Hd} (x : StateAt K H a h []) : Is K H (stDt h) (.ref a) := by
  obtain ⟨p, q, h1, h2, h3⟩ := x
  exact ⟨a, _, rfl, h1, _, _, rfl, rfl, _, _, rfl, hd_is h2, _, _, rfl, ⟨q, _, rfl, h3, rfl⟩, rfl⟩
theorem rz_is {K : PySem.W.Frag} {H : Hp} {v : V} {r : Rz} (x : RzAt K H v r) : Is K H (rzDt r) v := by
  cases r with
  | ref r => obtain rfl : v = rV r := x; exact rf_is r
  | bl b => obtain rfl : v = .bl b := x; rfl
  | toks ts => obtain ⟨a, rfl, s⟩ := x; exact ⟨a, _, rfl, s, IsL.ints _⟩
def cmPy (c : Cmd) : PyData := .tuple (.str c.kind :: c.args.map fun (n : Nat) => .int (n : Int))
theorem dp_cm {K : PySem.W.Frag} {H : Hp} {a : Addr} {c : Cmd} (h : CmdAt K H a c) : Dp K H (.ref a) (cmPy c) := .tup h (.cons (.str _) (dpAll_map fun n _ => .int _))
theorem sh_cm (c : Cmd) : SeqAt.shaped (cmPy c) = true := by
  have e : ∀ ns : List Nat, PyData.canLayAll0 (ns.map fun (n : Nat) => PyData.int (n : Int)) = true ∧ PyData.depthAll (ns.map fun (n : Nat) => PyData.int (n : Int)) = 0 := fun ns => by
    induction ns with
    | nil => exact ⟨rfl, rfl⟩
    | cons n r ih => rw [List.map_cons]; simp only [PyData.canLayAll0, PyData.canLay0, PyData.depthAll, PyData.depth, ih.1, ih.2, Bool.and_self, Nat.max_self, and_self]
  have ek : PyData.strOk c.kind = true := by cases c <;> (show PyData.strOk _ = true; simp only [Cmd.kind]; decide +kernel)
  unfold SeqAt.shaped cmPy
  simp only [PyData.canLay0, PyData.canLayAll0, PyData.depth, PyData.depthAll, (e c.args).1, (e c.args).2, ek, Bool.and_self, Bool.true_and, Nat.max_self]
  decide
theorem eqv_cmN {c : Cmd} (nd : c ≠ .drain) : (cmPy c).eqv (cmPy .drain) = false := by
  have k : (c.kind == ("drain" : Str)) = false := by
    cases q : c.kind == ("drain" : Str) with
    | false => rfl
    | true => exact absurd (kind_drain.mp (beq_iff_eq.mp q)) nd
  have e : (cmPy c).eqv (cmPy .drain) = ((c.kind == ("drain" : Str)) && PyData.eqvAll (c.args.map fun (n : Nat) => .int (n : Int)) []) := by
    unfold cmPy
    simp only [PyData.eqv, PyData.eqvAll, Cmd.kind, Cmd.args, List.map_nil]
  rw [e, k, Bool.false_and]
theorem eqv_drain : (cmPy .drain).eqv (cmPy .drain) = true := by
  unfold cmPy
  simp only [PyData.eqv, PyData.eqvAll, Cmd.kind, Cmd.args, List.map_nil, Bool.and_true]
  decide +kernel
theorem hd_dep6 (h : Hd) : (hdDt h).dep ≤ 6 := by
  have a := depL_map rf_dep h.regs
  have b := depL_ints h.kept
  have c := depL_map ob_dep h.obs
  have d := depL_map pr_dep h.wat
  show 1 + max 0 (max 0 (max (1 + Dt.depL (h.regs.map rfDt)) (max (1 + Dt.depL (h.kept.map Dt.int)) (max (1 + Dt.depL (h.obs.map obDt)) (max (1 + Dt.depL (h.wat.map prDt)) 0))))) ≤ 6
  omega
theorem hd_thinK {h : Hd} (ok : h.Ok) : (hdDt h).thin := by
  have zk : h.kept.length ≤ h.obs.length := by
    have z := nodup_len (ok.kup.imp Int.ne_of_lt) ok.kept
    have : h.nums.length = h.obs.length := List.length_map _
    omega
  have := ok.size
  exact hd_thin (Nat.le_trans ok.nreg (by decide)) (by omega) (by omega) (Nat.le_trans ok.nwat (by decide)) fun o m => (ok.obs o m).small
theorem rz_dep (r : Rz) : (rzDt r).dep ≤ 1 := by
  cases r with
  | ref r => exact Nat.le_trans (rf_dep r) (Nat.zero_le _)
  | bl b => exact Nat.zero_le _
  | toks ts => show 1 + Dt.depL (ts.map Dt.int) ≤ 1; rw [depL_ints]; exact Nat.le_refl _
theorem rz_thin {r : Rz} (h : ∀ ts, r = .toks ts → ts.length ≤ 100000) : (rzDt r).thin := by
  cases r with
  | ref r => exact rf_thin r
  | bl b => trivial
  | toks ts => exact ⟨by rw [List.length_map]; exact h ts rfl, thin_ints ts⟩
def toldDt (h : Hd) (r : Rz) : Dt := .tup [stDt h, rzDt r]
theorem told_dep (h : Hd) (r : Rz) : (toldDt h r).dep < 9 := by
  have a := hd_dep6 h
  have b := rz_dep r
  show 1 + max (1 + max 0 (max (hdDt h).dep (max (1 + 0) 0))) (max (rzDt r).dep 0) < 9
  omega
theorem told_thin {h : Hd} {r : Rz} (ok : h.Ok) (hr : ∀ ts, r = .toks ts → ts.length ≤ 100000) : (toldDt h r).thin :=
  ⟨by show 2 ≤ 100000; decide, ⟨by show 3 ≤ 100000; decide, trivial, hd_thinK ok, ⟨by show 0 ≤ 100000; decide, trivial⟩, trivial⟩, rz_thin hr, trivial⟩
theorem doH_act (h : Hd) (c : Cmd) : doH h [] c = (((act h c).1, []), (act h c).2) := by cases c <;> rfl
theorem act_toks {h : Hd} {c : Cmd} (ts : List Int) (e : (act h c).2 = .toks ts) : ts.length ≤ 100000 := by
  have k : ∀ {x : Hd × Rz}, x.2 = .toks ts → (∀ ts', x.2 = .toks ts' → ts' = []) → ts.length ≤ 100000 := fun e f => by rw [f ts e]; decide
  refine k e fun ts' e' => ?_
  unfold act at e'
  split at e' <;> first | (repeat' split at e') <;> first | cases e'; done | (cases e'; rfl) | cases e'
theorem act_up (h : Hd) (c : Cmd) : h.nx ≤ (act h c).1.nx := by
  have k : ∀ r : Rf, h.nx ≤ (keep h r).nx := fun r => by rw [keep_nx]; exact Int.le_refl _
  have a : h.nx ≤ h.nx + 1 := by omega
  have b : ∀ r : Rf, h.nx ≤ (keep h r).nx + 1 := fun r => by rw [keep_nx]; exact a
  cases c <;> simp only [act] <;> (repeat' split) <;> first | exact Int.le_refl _ | exact a | exact k _ | exact b _
theorem dep2 {a b : Dt} {n : Nat} (ha : a.dep ≤ n) (hb : b.dep ≤ n) : (Dt.tup [a, b]).dep ≤ n + 1 := by
  show 1 + max a.dep (max b.dep 0) ≤ n + 1
  omega
theorem thin2 {a b : Dt} (ha : a.thin) (hb : b.thin) : (Dt.tup [a, b]).thin := ⟨by show 2 ≤ 100000; decide, ha, hb, trivial⟩
theorem regs_dep (rs : List Rf) : (Dt.tup (rs.map rfDt)).dep ≤ 1 := by
  have := depL_map rf_dep rs
  show 1 + Dt.depL (rs.map rfDt) ≤ 1
  omega
theorem regs_thin {rs : List Rf} (h : rs.length ≤ 100000) : (Dt.tup (rs.map rfDt)).thin := ⟨by rw [List.length_map]; exact h, thinL_map fun x _ => rf_thin x⟩
end Wc
namespace Wc
open PySem L2
theorem inV_rfJ {gs : List Int} {r : Rf} : inV (rV r) (gs.map V.int) = hit gs r := by
  cases r with
  | some m => exact inV_int _ _
  | none =>
    show inV V.non (gs.map V.int) = false
    induction gs with
    | nil => rfl
    | cons g r ih => exact ih
theorem hitJ {K : PySem.W.Frag} {H : Hp} {c : Addr} {gs : List Int} (hC : SqT K H c (gs.map V.int)) (r : Rf) (R : Bool → Hp → Prop) (z : R (hit gs r) H) : rIn K false (rV r) (.ref c) H fun x H1 => ∃ b, x = .bl b ∧ R b H1 :=
  ⟨_, _, rfl, .inr hC, by cases r <;> rfl, flat_ints _, _, rfl, by show R (inV _ _) _; rw [inV_rfJ]; exact z⟩
theorem or_grow {t u : TT} {σ : L2.St} {H : Hp} {Q : Bool → Hp → Prop} (ht : ∀ Q' : Bool → Hp → Prop, Q' false H → t σ H Q') (hu : ∀ Q' : Bool → Hp → Prop, (∀ H2, ExA H H2 → Q' false H2) → u σ H Q') (h : ∀ H2, ExA H H2 → Q false H2) : tOr t u σ H Q := ht _ (iteF (hu _ h))
def rgPy (rs : List Rf) : PyData := .tuple (rs.map rfPy)
theorem dp_rg {K : PySem.W.Frag} {H : Hp} {a : Addr} {rs : List Rf} (h : SqT K H a (rs.map rV)) : Dp K H (.ref a) (rgPy rs) := .tup h (dpAll_map fun r _ => dp_rf r)
theorem sh_rg (rs : List Rf) : SeqAt.shaped (rgPy rs) = true := by
  have e : PyData.canLayAll0 (rs.map rfPy) = true ∧ PyData.depthAll (rs.map rfPy) = 0 := by
    induction rs with
    | nil => exact ⟨rfl, rfl⟩
    | cons r l ih => cases r <;> (rw [List.map_cons]; simp only [rfPy, PyData.canLayAll0, PyData.canLay0, PyData.depthAll, PyData.depth, ih.1, ih.2, Bool.and_self, Nat.max_self, and_self])
  unfold SeqAt.shaped rgPy
  simp only [PyData.canLay0, PyData.depth, e.1, e.2, Bool.true_and]
  decide
section
variable (K : PySem.W.Frag)
def R_law : V1 := fun x H Q => ∃ (a : Addr) (ns : List Int), x = .ref a ∧ SqL K H a (ns.map V.int) ∧ ns.length ≤ 63 ∧ (∀ p ∈ [(("derive" : Str), (none : Option Str))], H (He.cT K p).2 = some (.tbl #[])) ∧ ∀ H', Q (.bl true) H'
abbrev sp_law : Sp := sp1 (R_law K)
end
section
variable {P : Program} {w : World} {K : PySem.W.Frag} {mg : Str → Option Value} {base : Heap}
theorem ok_law {f : Addr} {fd : FuncData} {cd : Value} (F : Df K "law" s_law f fd cd) (T : Txt mg) (C_derive : Cal P w K mg base 5 "derive" (sp_derive K) []) (C_compile_derivation : Cal P w K mg base 2 "compile_derivation" (sp_compile_derivation K) []) (C_with_registers : Cal P w K mg base 1 "with_registers" (sp_with_registers K) []) (C_obtainable : Cal P w K mg base 4 "obtainable" (sp_obtainable K) []) (C_do : CalX P w K mg base 5 "do" (sp_do K)) (C__law_same : Cal P w K mg base 9 "_law_same" (sp__law_same K) []) (C__law_heap : Cal P w K mg base 4 "_law_heap" (sp__law_heap K) []) (C__law_numbers : Cal P w K mg base 1 "_law_numbers" (sp__law_numbers K) []) (C__law_some : Cal P w K mg base 2 "_law_some" (sp__law_some K) []) (C__law_box : Cal P w K mg base 3 "_law_box" (sp__law_box K) []) : FnOk P w K mg base CX0 10 f fd ["script"] (sp_law K) := by
  have nd := sc_law.nd
  refine F.ok sc_law (fun vs H Q E h => ?_) (fun A outer s H vs Q E hr h => ?_)
  · obtain ⟨_, rfl, _⟩ := h; rfl
  have hu := hu_of hr
  obtain ⟨x0, rfl, h⟩ := h
  refine ⟨_, (pss_cons (ps_set (i := 1) nd rfl (by first | exact Or.inl rfl | exact Or.inr rfl) (pe_c C__law_box hr (by first | exact Nat.le_refl _ | decide) rfl (pa_cons (pv 0) (pa_cons pe_int (pa_cons pe_int pa_nil)))))
    (pss_cons (ps_set (i := 2) nd rfl (by first | exact Or.inl rfl | exact Or.inr rfl) (pe_c C__law_heap hr (by first | exact Nat.le_refl _ | decide) rfl (pa_cons (pv 1) (pa_cons pe_int pa_nil))))
    (pss_cons (ps_set (i := 3) nd rfl (by first | exact Or.inl rfl | exact Or.inr rfl) (pe_c C__law_some hr (by first | exact Nat.le_refl _ | decide) rfl (pa_cons (pv 1) (pa_cons (pe_c C__law_numbers hr (by first | exact Nat.le_refl _ | decide) rfl (pa_cons (pv 2) pa_nil)) pa_nil))))
    (pss_cons (ps_set (i := 4) nd rfl (by first | exact Or.inl rfl | exact Or.inr rfl) (pe_lst pa_nil))
    (pss_cons (ps_for PassesOwn.never rfl (show PI _ _ _ (iTup K _) from pi_tup (pe_ix (r := rIxT K) ix_tup (pv 2) pe_int (fun _ _ => rfl))) (pg_name (i := 5) nd rfl (by first | exact Or.inl rfl | exact Or.inr rfl))
    (Evl.pss_cut (ps_if (PW.pt (pw_and (pt_cmpR op_eq (pe_ix (r := rIxT K) ix_tup (pv 5) pe_int (fun _ _ => rfl)) pe_str (nomark _)) (pw_and1 (pt_cmpR (r := rIn K false) op_in_seq (pe_ix (r := rIxT K) ix_tup (pv 5) pe_int (fun _ _ => rfl)) (pv 3) (by first | exact nomark _ | rfl))))) (pss_one (ps_set (i := 5) nd rfl (by first | exact Or.inl rfl | exact Or.inr rfl) (pe_tupZ (pa_cons pe_str (pa_cons (pe_ix (r := rIxT K) ix_tup (pv 5) pe_int (fun _ _ => rfl)) (pa_cons pe_non pa_nil)))))) pss_nil)
    (pss_one (ps_expr (pe_bm PySem.F.plainAttrs_list PySem.F.slot_list_append PySem.F.type_list_append mt_append (pv 4) (pa_cons (pv 5) pa_nil))))))
    (pss_cons (ps_set (i := 6) nd rfl (by first | exact Or.inl rfl | exact Or.inr rfl) (pe_op (r := rCatZ K) op_catZ (pe_slice (r := rSlA K) sl_tupA (pv 2) po_none (po_some pe_int)) (pe_tupZ (pa_cons (pe_callTy (r := rTupZ K) call_tupleZ rfl T.tuple (by decide +kernel) (pa_cons (pv 4) pa_nil)) (pa_cons (pe_ix (r := rIxT K) ix_tup (pv 2) pe_int (fun _ _ => rfl)) pa_nil)))))
    (pss_cons (ps_for PassesOwn.never rfl (show PI _ _ _ (iTup K _) from pi_tup (pe_c C_obtainable hr (by first | exact Nat.le_refl _ | decide) rfl (pa_cons (pv 2) (pa_cons (pv 3) pa_nil)))) (pg_name (i := 7) nd rfl (by first | exact Or.inl rfl | exact Or.inr rfl))
    (pss_cons (ps_set (i := 8) nd rfl (by first | exact Or.inl rfl | exact Or.inr rfl) (pe_c C_derive hr (by first | exact Nat.le_refl _ | decide) rfl (pa_cons (pv 2) (pa_cons (pv 3) (pa_cons (pv 7) pa_nil)))))
    (pss_cons (ps_if (PW.pt (pw_or (pt_not (pt_val (pe_callB (r := rIsi K) call_isi rfl T.isinstance (by decide +kernel) (pa_cons (pv 8) (pa_cons (pe_bltn (v := .ty "tuple") rfl T.tuple (by decide +kernel) rfl) pa_nil))))) (pw_or (pt_cmpR op_eq (pe_callB (r := Evl.rLenS K) call_len_seq rfl T.len PySem.boot_len (pa_cons (pv 8) pa_nil)) pe_int (nomark _)) (pw_or1 (pt_cmpR op_ne (pe_ix (r := rIxT K) ix_tup (pe_ix (r := rIxT K) ix_tup (pv 8) (pe_op op_sub (pe_callB (r := Evl.rLenS K) call_len_seq rfl T.len PySem.boot_len (pa_cons (pv 8) pa_nil)) pe_int) (fun _ _ => rfl)) pe_int (fun _ _ => rfl)) (pv 7) (nomark _)))))) (pss_one (ps_ret pe_bl)) pss_nil)
    (pss_cons (ps_set (i := 9) nd rfl (by first | exact Or.inl rfl | exact Or.inr rfl) (pe_c C_compile_derivation hr (by first | exact Nat.le_refl _ | decide) rfl (pa_cons (pv 2) (pa_cons (pv 8) pa_nil))))
    (pss_cons (ps_set (i := 10) nd rfl (by first | exact Or.inl rfl | exact Or.inr rfl) (pe_tupZ (pa_cons pe_str (pa_cons (pe_c C_with_registers hr (by first | exact Nat.le_refl _ | decide) rfl (pa_cons (pv 6) (pa_cons (pe_callB (r := Evl.rLenS K) call_len_seq rfl T.len PySem.boot_len (pa_cons (pv 8) pa_nil)) pa_nil))) (pa_cons (pe_tupZ pa_nil) pa_nil)))))
    (pss_cons (ps_if (PW.pt (pw_or (pt_cmpR op_ne (pe_callB (r := Evl.rLenS K) call_len_seq rfl T.len PySem.boot_len (pa_cons (pv 9) pa_nil)) (pe_callB (r := Evl.rLenS K) call_len_seq rfl T.len PySem.boot_len (pa_cons (pv 8) pa_nil)) (nomark _)) (pw_or1 (pt_cmpR (r := rNeD K) (op_neD hr.units) (pe_ix (r := rIxT K) ix_tup (pe_ix (r := rIxT K) ix_tup (pv 10) pe_int (fun _ _ => rfl)) pe_int (fun _ _ => rfl)) (pe_op (r := rCatZ K) op_catZ (pe_ix (r := rIxT K) ix_tup (pv 2) pe_int (fun _ _ => rfl)) (pe_op (r := rRepY K) op_repY (pe_tupZ (pa_cons pe_non pa_nil)) (pe_callB (r := Evl.rLenS K) call_len_seq rfl T.len PySem.boot_len (pa_cons (pv 8) pa_nil)))) (by first | exact nomark _ | rfl))))) (pss_one (ps_ret pe_bl)) pss_nil)
    (pss_one (ps_for PassesOwn.never rfl (pi_range1 rfl T.range (pa_cons (pe_callB (r := Evl.rLenS K) call_len_seq rfl T.len PySem.boot_len (pa_cons (pv 8) pa_nil)) pa_nil)) (pg_name (i := 11) nd rfl (by first | exact Or.inl rfl | exact Or.inr rfl))
    (pss_cons (ps_set (i := 12) nd rfl (by first | exact Or.inl rfl | exact Or.inr rfl) (pe_cx C_do hr (by first | exact Nat.le_refl _ | decide) rfl (pa_cons (pv 10) (pa_cons (pe_ix (r := rIxT K) ix_tup (pv 9) (pv 11) (fun _ _ => rfl)) pa_nil))))
    (pss_cons (ps_set (i := 10) nd rfl (by first | exact Or.inl rfl | exact Or.inr rfl) (pe_ix (r := rIxT K) ix_tup (pv 12) pe_int (fun _ _ => rfl)))
    (pss_one (ps_if (PW.pt (pw_or (pt_not (pt_val (pe_c C__law_same hr (by first | exact Nat.le_refl _ | decide) rfl (pa_cons (pe_ix (r := rIxT K) ix_tup (pv 12) pe_int (fun _ _ => rfl)) (pa_cons (pe_ix (r := rIxT K) ix_tup (pe_ix (r := rIxT K) ix_tup (pv 8) (pv 11) (fun _ _ => rfl)) pe_int (fun _ _ => rfl)) pa_nil))))) (pw_or1 (pt_not (pt_val (pe_c C__law_same hr (by first | exact Nat.le_refl _ | decide) rfl (pa_cons (pe_ix (r := rIxT K) ix_tup (pe_ix (r := rIxT K) ix_tup (pe_ix (r := rIxT K) ix_tup (pv 10) pe_int (fun _ _ => rfl)) pe_int (fun _ _ => rfl)) (pe_op op_add (pe_callB (r := Evl.rLenS K) call_len_seq rfl T.len PySem.boot_len (pa_cons (pe_ix (r := rIxT K) ix_tup (pv 2) pe_int (fun _ _ => rfl)) pa_nil)) (pv 11)) (fun _ _ => rfl)) (pa_cons (pe_ix (r := rIxT K) ix_tup (pe_ix (r := rIxT K) ix_tup (pv 8) (pv 11) (fun _ _ => rfl)) pe_int (fun _ _ => rfl)) pa_nil)))))))) (pss_one (ps_ret pe_bl)) pss_nil))))))))))))
    (pss_cons (ps_for PassesOwn.never rfl (show PI _ _ _ (iList K _) from pi_list (pe_c C__law_numbers hr (by first | exact Nat.le_refl _ | decide) rfl (pa_cons (pv 2) pa_nil))) (pg_name (i := 7) nd rfl (by first | exact Or.inl rfl | exact Or.inr rfl))
    (pss_one (ps_if (PW.pt (pw_and (pt_cmpR (r := rIn K true) op_notIn_seq (pv 7) (pe_c C_obtainable hr (by first | exact Nat.le_refl _ | decide) rfl (pa_cons (pv 2) (pa_cons (pv 3) pa_nil))) (by first | exact nomark _ | rfl)) (pw_and1 (pt_cmpR op_notN (pe_c C_derive hr (by first | exact Nat.le_refl _ | decide) rfl (pa_cons (pv 2) (pa_cons (pv 3) (pa_cons (pv 7) pa_nil)))) pe_non (nomark _))))) (pss_one (ps_ret pe_bl)) pss_nil)))
    (pss_one (ps_ret pe_bl)))))))))), ?_⟩
  obtain ⟨sa, sn, rfl, hS, h63, hP, q⟩ := h
  refine ⟨_, rfl, _, _, _, rfl, sa, sn, 0, 63, rfl, rfl, rfl, hS, by decide, by decide, by decide, fun b d ds H1 f1 e1 b1 => ?_⟩
  have hP0 := hP _ (List.mem_singleton.mpr rfl)
  have nPb : (He.cT K (("derive" : Str), (none : Option Str))).2 ∉ [b] := fun z => by
    have z : (He.cT K (("derive" : Str), (none : Option Str))).2 = b := List.mem_singleton.mp z
    rw [z, f1] at hP0; cases hP0
  refine gI (σ' := [some (.ref sa), some (.ref b), none, none, none, none, none, none, none, none, none, none, none]) rfl ?_
  refine ⟨_, rfl, _, _, rfl, b, d, ds, 8, rfl, rfl, by decide, by decide, b1, fun H2 a h x2 b2 hA ok hb => ?_⟩
  have hP2 := x2 _ _ nPb (ExA.at e1 hP0)
  refine gI (σ' := [some (.ref sa), some (.ref b), some (.ref a), none, none, none, none, none, none, none, none, none, none]) rfl ?_
  have zn : h.nums.length ≤ 8 := by unfold Hd.nums; rw [List.length_map]; have := hb.1; omega
  refine ⟨_, rfl, _, rfl, _, rfl, a, h, rfl, hA, ok, fun l H3 fl e3 hl => ?_⟩
  have b3 := b2.keep e3
  have nl : l ∉ [b] := b2.ne fl
  refine ⟨_, _, rfl, b, d, ds, l, h.nums, rfl, rfl, b3, .inl ⟨SqL.of hl, nl⟩, by omega, fun H4 c gs x4 b4 hms hc => ?_⟩
  have hA4 := HeapAt.mono (Tk.trans (Tk.all e3) (b3.tk x4)) hA
  have hP4 := x4 _ _ nPb (ExA.at e3 hP2)
  have hC4 : SqT K H4 c (gs.map V.int) := SqT.of hc
  have zgs : gs.length ≤ 8 := Nat.le_trans hms.length_le zn
  have T4 : LamX.Tabs (LT_derive K) H4 := fun p hp => by
    have e := List.mem_singleton.mp hp
    subst e
    exact LamX.TabS.nil hP4
  clear hA b1 b2 b3 b4 hP2 hP4
  refine gI (σ' := [some (.ref sa), some (.ref b), some (.ref a), some (.ref c), none, none, none, none, none, none, none, none, none]) rfl ?_
  obtain ⟨r, k, o, w, ws, h1, h2, h3, ⟨os, ho, hobs⟩, h5, h6⟩ := id hA4
  -- the objects
  refine ⟨Nat.zero_le _, fun l5 fl5 => ?_⟩
  have e5 : ExA H4 (upd H4 l5 (.lst [])) := ExM.new fl5
  have hl5 : (upd H4 l5 (.lst [])) l5 = some (.lst []) := upd_same
  generalize upd H4 l5 (.lst []) = H5 at e5 hl5 ⊢
  refine gI (σ' := [some (.ref sa), some (.ref b), some (.ref a), some (.ref c), some (.ref l5), none, none, none, none, none, none, none, none]) rfl ?_
  refine ⟨_, rfl, a, _, _, _, rfl, rfl, Tk.all e5 _ _ h1, at4, o, rfl, ⟨_, Tk.all e5 _ _ ho⟩, ?_⟩
  refine for_it (walk_tup (xs := os.map V.ref)) (fun i σ3 H3 => ∃ u5 bs, σ3 = [some (.ref sa), some (.ref b), some (.ref a), some (.ref c), some (.ref l5), u5, none, none, none, none, none, none, none] ∧ ExA H4 H3 ∧ H3 l5 = some (.lst (bs.map V.ref)) ∧ Paired (ObAt K H3) bs ((h.obs.take i).map (wkOb gs)))
    ⟨none, [], rfl, e5, hl5, .nil⟩ (fun i σ3 H3 _ p => by obtain ⟨_, _, _, e, _⟩ := p; exact Tk.all e _ _ ho) (fun i x σ3 H3 H6 hi p y => ?_) (fun σ3 H3 p => ?_)
  · obtain ⟨rfl, hx⟩ := y
    obtain ⟨u5, bs, rfl, e3, hl, hbs⟩ := p
    rw [List.length_map] at hi
    obtain ⟨ao, hao⟩ : ∃ ao, os[i]? = some ao := ⟨_, List.getElem?_eq_getElem hi⟩
    rw [List.getElem?_map, hao] at hx
    obtain rfl : V.ref ao = x := Option.some.inj hx
    obtain ⟨ob, hob, hoa⟩ := pget hobs hao
    have hoa := ObAt.mono (Tk.all e3) hoa
    have zb : bs.length ≤ 50 := by
      have z1 := plen hbs
      have := ok.size
      rw [List.length_map, List.length_take] at z1
      omega
    have hC6 := Tk.all e3 _ _ hC4
    refine ⟨fun σ5 H5 => ∃ p, σ5 = [some (.ref sa), some (.ref b), some (.ref a), some (.ref c), some (.ref l5), some (.ref p), none, none, none, none, none, none, none] ∧ ExA H6 H5 ∧ ObAt K H5 p (wkOb gs ob), ?_, ?_⟩
    · cases ob with
      | rcd m fs =>
        obtain ⟨t, g1, g2⟩ := id hoa
        refine and_join false false (fun Q' z => ⟨_, rfl, ao, _, _, _, rfl, rfl, g1, at0, rfl, _, rfl, z⟩) (fun z => nomatch z) (iteF ⟨ao, rfl, ExM.refl _ _, hoa⟩)
      | weak m t =>
        have g1 : SqT K H6 ao [.str "weak", .int m, rV t] := hoa
        refine and_join true (hit gs t) (fun Q' z => ⟨_, rfl, ao, _, _, _, rfl, rfl, g1, at0, rfl, _, rfl, z⟩) (fun _ Q' z => ⟨_, rfl, ao, _, _, _, rfl, rfl, g1, at2, _, rfl, hitJ hC6 t _ z⟩) ?_
        rw [Bool.true_and]
        cases ch : hit gs t with
        | false =>
          refine iteF ⟨ao, rfl, ExM.refl _ _, ?_⟩
          show ObAt K H6 ao (.weak m (if hit gs t = true then none else t))
          rw [ch]; exact hoa
        | true =>
          refine iteT ⟨_, rfl, ao, _, _, _, rfl, rfl, g1, at1, sz (by show 3 ≤ 100000; decide), fun p o' fp no => ?_⟩
          refine gI (σ' := [some (.ref sa), some (.ref b), some (.ref a), some (.ref c), some (.ref l5), some (.ref p), none, none, none, none, none, none, none]) rfl ?_
          refine ⟨p, rfl, ExM.new fp, ?_⟩
          show ObAt K _ p (.weak m (if hit gs t = true then none else t))
          rw [ch]; exact (SqZ.of no upd_same).sq
      | tab m es =>
        obtain ⟨t, ps, g1, g2, g3⟩ := id hoa
        refine and_join false false (fun Q' z => ⟨_, rfl, ao, _, _, _, rfl, rfl, g1, at0, rfl, _, rfl, z⟩) (fun z => nomatch z) (iteF ⟨ao, rfl, ExM.refl _ _, hoa⟩)
    rintro σ6 H7 ⟨p, rfl, e7, hp⟩
    have hl7 := ExA.at e7 hl
    refine ⟨_, rfl, .inl ⟨rfl, _, SqL.of hl7⟩, _, rfl, l5, _, _, rfl, rfl, hl7, szl (by rw [List.length_map]; omega), ?_⟩
    refine ⟨_, bs ++ [p], rfl, (e3.trans e7).put fl5, by rw [upd_same, List.map_append]; rfl, ?_⟩
    rw [take_snoc hob, List.map_append]
    have tl : Tk K H7 (upd H7 l5 (.lst (bs.map V.ref ++ [V.ref p]))) := Tk.lst hl7
    exact psnoc (ObAt.mono tl hp) (pmp hbs fun _ _ z => ObAt.mono (Tk.trans (Tk.all e7) tl) z)
  obtain ⟨u5, bs, rfl, e3, hl, hbs⟩ := p
  rw [List.length_map, plen hobs, List.take_length] at hbs
  have T3 := Tk.all (K := K) e3
  refine ⟨_, rfl, 4, rfl, slA_to (i := 4) (T3 _ _ h1) (by simp) fun p1 H6 e6 s6 => ?_⟩
  have T6 := Tk.all (K := K) e6
  refine ⟨_, rfl, l5, _, rfl, SqL.of (ExA.at e6 hl), fun p2 o2 f2 n2 => ?_⟩
  have z2 : SqZ (upd H6 p2 (.frz o2 (.tup (bs.map V.ref)))) p2 (bs.map V.ref) := SqZ.of n2 upd_same
  have e7 : ExA H6 (upd H6 p2 (.frz o2 (.tup (bs.map V.ref)))) := ExM.new f2
  generalize upd H6 p2 (.frz o2 (.tup (bs.map V.ref))) = H7 at z2 e7 ⊢
  have T7 := Tk.all (K := K) e7
  refine ⟨_, rfl, a, _, _, _, rfl, rfl, T7 _ _ (T6 _ _ (T3 _ _ h1)), at5, sz (by show 2 ≤ 100000; decide), fun p3 o3 f3 n3 => ?_⟩
  have T8 := Tk.new (K := K) (o := .frz o3 (.tup [.ref p2, .ref w])) f3
  refine rCatZ.any (T8 _ _ (T7 _ _ s6)) (SqZ.of n3 upd_same).sq (sz (by simp)) fun bl H9 e9 s9 => ?_
  have e89 : ExA H7 H9 := (ExM.new f3).trans e9
  have eA := (e6.trans e7).trans e89
  have TA := Tk.all (K := K) eA
  have eB := e3.trans eA
  have TB := T3.trans TA
  have hBl : HeapAt K H9 bl (wkHd h gs) := ⟨r, k, p2, w, ws, s9, h2.mono TB, TB _ _ h3, ⟨bs, (z2.mono (Tk.all (K := K) e89)).sq, pmp hbs fun _ _ z => ObAt.mono TA z⟩, TB _ _ h5, pmp h6 fun _ _ z => PairAt.mono TB z⟩
  have hA9 := hA4.mono TB
  have hC9 := TB _ _ hC4
  have T9 : LamX.Tabs (LT_derive K) H9 := T4.ext fun b o z => ExA.at eB z
  clear hA4 hC4 T4 hbs hl z2 s6 s9 h1 h2 h3 h5 h6 ho hobs
  refine gI (σ' := [some (.ref sa), some (.ref b), some (.ref a), some (.ref c), some (.ref l5), u5, some (.ref bl), none, none, none, none, none, none]) rfl ?_
  -- all that can be obtained
  refine ⟨_, rfl, _, rfl, _, _, rfl, a, h, c, gs, rfl, rfl, hA9, ok, hC9, by omega, fun ns hns t H10 f10 e10 ht => ?_⟩
  refine ⟨t, rfl, ⟨_, SqT.of ht⟩, ?_⟩
  have T10 := Tk.all (K := K) e10
  refine for_it (walk_tup (xs := ns.map V.int)) (fun i σ5 H5 => ∃ u5 u7 u8 u9 u10 u11 u12, σ5 = [some (.ref sa), some (.ref b), some (.ref a), some (.ref c), some (.ref l5), u5, some (.ref bl), u7, u8, u9, u10, u11, u12] ∧ HeapAt K H5 a h ∧ HeapAt K H5 bl (wkHd h gs) ∧ SqT K H5 c (gs.map V.int) ∧ LamX.Tabs (LT_derive K) H5 ∧ SqT K H5 t (ns.map V.int))
    ⟨u5, _, _, _, _, _, _, rfl, hA9.mono T10, hBl.mono T10, T10 _ _ hC9, T9.ext fun b o z => ExA.at e10 z, SqT.of ht⟩ (fun i σ5 H5 _ p => by obtain ⟨_, _, _, _, _, _, _, _, _, _, _, _, z⟩ := p; exact z) (fun i x σ5 H5 H6 hi p y => ?_) (fun σ5 H5 p => ?_)
  · obtain ⟨rfl, hx⟩ := y
    obtain ⟨u5, u7, u8, u9, u10, u11, u12, rfl, hA5, hB5, hC5, T5, ht5⟩ := p
    rw [List.length_map] at hi
    obtain ⟨m, hm⟩ : ∃ m, ns[i]? = some m := ⟨_, List.getElem?_eq_getElem hi⟩
    rw [List.getElem?_map, hm] at hx
    obtain rfl : V.int m = x := Option.some.inj hx
    have om : Obt h gs m := (hns.2 m).mp (List.mem_of_getElem? hm)
    refine ⟨_, rfl, _, rfl, _, rfl, _, _, _, rfl, a, h, c, gs, m, rfl, rfl, rfl, hA5, ok, hC5, by omega, T5, fun no => absurd om no, fun _ L v H7 hdrv x7 T7 hv => ?_⟩
    obtain ⟨dv, ss, rfl, g1, g2⟩ := steps_of_is hv
    have t7 := Tk.ext (K := K) x7
    have zL : L.length ≤ 8 := Nat.le_trans (hdrv.len ok om) zn
    have lS : (stepsOf h gs L).length = L.length := by unfold stepsOf; exact List.length_map _
    have lss : ss.length = L.length := (plen g2).trans lS
    have er := drv_earlier ok om hdrv
    have tru : ∀ p ∈ stepsOf h gs L, Tru h gs p.1 p.2 := fun p z => by
      unfold stepsOf at z
      obtain ⟨n, hn, rfl⟩ := List.mem_map.mp z
      exact bst_tru ok (Need.obt ok om ((hdrv.mem n).mp hn))
    have hL0 : L ≠ [] := fun z => by have y := (hdrv.mem m).mpr .base; rw [z] at y; cases y
    have pL : 0 < L.length := List.length_pos_iff.mpr hL0
    obtain ⟨pre, hpre⟩ := hdrv.last ok om
    have hlast : (stepsOf h gs L)[L.length - 1]? = some (m, bst h gs m) := by
      unfold stepsOf
      rw [List.getElem?_map, hpre, List.length_append, List.length_singleton, Nat.add_sub_cancel, List.getElem?_append_right (Nat.le_refl _), Nat.sub_self]
      rfl
    generalize hSd : stepsOf h gs L = S at g2 lS er tru hlast
    have hA7 := hA5.mono t7
    have hB7 := hB5.mono t7
    have hC7 := t7 _ _ hC5
    have ht7 := t7 _ _ ht5
    clear hA5 hB5 hC5 ht5 T5
    have gl : ((ss.map V.ref).length : Int) = (L.length : Int) := by rw [List.length_map, lss]
    refine gI (σ' := [some (.ref sa), some (.ref b), some (.ref a), some (.ref c), some (.ref l5), u5, some (.ref bl), some (.int m), some (.ref dv), u9, u10, u11, u12]) rfl ?_
    obtain ⟨sl, hsl, ral, hsl2, _⟩ := pget' g2 hlast
    dsimp only
    show tSeq (tIfS (tOr _ _) _ _) _ _ _ _
    refine or_join false false (fun Q' z => ⟨_, rfl, _, _, _, _, true, rfl, .ty "tuple", tyx_tup g1, kit_ty (by decide +kernel), _, rfl, z⟩) (fun _ Q' z => ?_) ?_
    · refine or_join false false (fun Q' z => ⟨_, rfl, dv, _, rfl, .inr g1, rfl, _, rfl, ?_⟩) (fun _ Q' z => ⟨_, rfl, _, rfl, dv, _, rfl, .inr g1, _, _, rfl, rfl, dv, _, _, .ref sl, rfl, rfl, g1, ?_, sl, _, _, _, rfl, rfl, hsl2, at0, _, rfl, rfl, _, rfl, ?_⟩) z
      · rw [decide_eq_false (fun y => by have y := V.int.inj y; omega)]; exact z
      · rw [gl, show ((L.length : Int) - 1) = ((L.length - 1 : Nat) : Int) by omega]
        exact atI_nat (by rw [List.getElem?_map, hsl]; rfl)
      · rw [decide_eq_true rfl]; exact z
    refine iteF ?_
    -- the commands
    have nreg := ok.nreg
    have r3 := hb.2.2.2
    refine ⟨_, rfl, _, rfl, _, _, rfl, a, h, dv, S, rfl, rfl, hA7, nreg, ⟨ss, g1, g2⟩, by omega, er, fun H8 ca cs e8 hca lcs hcs => ?_⟩
    have T8 := Tk.all (K := K) e8
    refine gI (σ' := [some (.ref sa), some (.ref b), some (.ref a), some (.ref c), some (.ref l5), u5, some (.ref bl), some (.int m), some (.ref dv), some (.ref ca), u10, u11, u12]) rfl ?_
    refine ⟨_, rfl, _, rfl, dv, _, rfl, .inr (T8 _ _ g1), _, _, rfl, bl, wkHd h gs, L.length, rfl, by rw [List.length_map, lss], hB7.mono T8, ok.rpos, nreg, by omega, fun H9 hp e9 hhp => ?_⟩
    have T9' := Tk.all (K := K) e9
    refine ⟨sz (by show 0 ≤ 100000; decide), fun p0 o0 f0 n0 => ?_⟩
    have U0 := Tk.new (K := K) (o := .frz o0 (.tup [])) f0
    have z0 : SqT K (upd H9 p0 (.frz o0 (.tup []))) p0 [] := (SqZ.of n0 upd_same).sq
    have k0 : ExA H9 (upd H9 p0 (.frz o0 (.tup []))) := ExM.new f0
    generalize upd H9 p0 (.frz o0 (.tup [])) = H10 at U0 z0 k0 ⊢
    refine ⟨sz (by show 3 ≤ 100000; decide), fun st o1 f1 n1 => ?_⟩
    have U1 := Tk.new (K := K) (o := .frz o1 (.tup [.str "state", .ref hp, .ref p0])) f1
    have z1 : SqT K (upd H10 st (.frz o1 (.tup [.str "state", .ref hp, .ref p0]))) st [.str "state", .ref hp, .ref p0] := (SqZ.of n1 upd_same).sq
    have k1 : ExA H10 (upd H10 st (.frz o1 (.tup [.str "state", .ref hp, .ref p0]))) := ExM.new f1
    generalize upd H10 st (.frz o1 (.tup [.str "state", .ref hp, .ref p0])) = H11 at U1 z1 k1 ⊢
    have e711 := ((e8.trans e9).trans k0).trans k1
    have T711 := Tk.all (K := K) e711
    have hhp11 := (hhp.mono U0).mono U1
    have hSt : StateAt K H11 st { wkHd h gs with regs := h.regs ++ List.replicate L.length none } [] := ⟨hp, p0, z1, hhp11, U1 _ _ z0⟩
    have hca11 := (Tk.all (K := K) ((e9.trans k0).trans k1)) _ _ hca
    have g11 := T711 _ _ g1
    have hA11 := hA7.mono T711
    obtain ⟨ra, ka, oa, wa, ws', y1, y2, y3, y4, y5, y6⟩ := id hA11
    obtain ⟨rb, kb, ob', wb, wsb, x1, x2, _⟩ := id hhp11
    refine gI (σ' := [some (.ref sa), some (.ref b), some (.ref a), some (.ref c), some (.ref l5), u5, some (.ref bl), some (.int m), some (.ref dv), some (.ref ca), some (.ref st), u11, u12]) rfl ?_
    dsimp only
    show tSeq (tIfS (tOr _ _) _ _) _ _ _ _
    refine or_grow (fun Q' z => ⟨_, rfl, ca, _, rfl, .inr hca11, _, rfl, dv, _, rfl, .inr g11, rfl, _, rfl, ?_⟩) (fun Q' z => ?_) fun H12 e12 => ?_
    · rw [decide_eq_true (by rw [List.length_map, List.length_map, lcs, lS, lss])]; exact z
    · refine ⟨_, rfl, st, _, _, _, rfl, rfl, z1, at1, hp, _, _, _, rfl, rfl, x1, at2, _, rfl, a, _, _, _, rfl, rfl, y1, at2, sz (by show 1 ≤ 100000; decide), fun q1 o1 f1 n1 => ?_⟩
      have v1 : SqZ (upd H11 q1 (.frz o1 (.tup [.non]))) q1 [.non] := SqZ.of n1 upd_same
      have w1 : ExA H11 (upd H11 q1 (.frz o1 (.tup [.non]))) := ExM.new f1
      generalize upd H11 q1 (.frz o1 (.tup [.non])) = G1 at v1 w1 ⊢
      have W1 := Tk.all (K := K) w1
      refine ⟨_, rfl, dv, _, rfl, .inr (W1 _ _ g11), q1, _, _, rfl, rfl, v1, by omega, by omega, fun q2 G2 w2 v2 => ?_⟩
      have W2 := Tk.all (K := K) (w1.trans w2)
      have v2 : SqZ G2 q2 (List.replicate L.length V.non) := by rw [gl, Int.toNat_natCast] at v2; exact v2
      refine rCatZ.any (W2 _ _ y2.sq) v2.sq (sz (by rw [List.length_map, List.length_replicate]; omega)) fun q3 G3 w3 v3 => ?_
      rw [show h.regs.map rV ++ List.replicate L.length V.non = (h.regs ++ List.replicate L.length none).map rV by rw [List.map_append, List.map_replicate]; rfl] at v3
      have W3 := Tk.all (K := K) ((w1.trans w2).trans w3)
      have sh := sh_rg (h.regs ++ List.replicate L.length none)
      refine ⟨rgPy (h.regs ++ List.replicate L.length none), rgPy (h.regs ++ List.replicate L.length none), dp_rg (W3 _ _ x2.sq), dp_rg v3, sh, sh, _, rfl, ?_⟩
      rw [SeqAt.eqv_refl _ (SeqAt.canLay_of_shaped sh)]
      exact z _ ((w1.trans w2).trans w3)
    refine iteF ?_
    -- one after the other
    have T12 := Tk.all (K := K) e12
    have e712 := e711.trans e12
    have T712 := Tk.all (K := K) e712
    have bok := wkHd_ok ok gs
    have hw := hb.2.1
    have ho8 := hb.1
    have hn := hb.2.2.1
    refine ⟨_, rfl, dv, _, rfl, .inr (T12 _ _ g11), _, rfl, by rw [gl]; omega, by rw [gl]; omega, ?_⟩
    refine for_range (lo := 0) (n := (((ss.map V.ref).length : Nat) : Int).toNat) (fun k σ' H' => ∃ (s : Addr) (g : Hd) (u11 u12 : Option V), σ' = [some (.ref sa), some (.ref b), some (.ref a), some (.ref c), some (.ref l5), u5, some (.ref bl), some (.int m), some (.ref dv), some (.ref ca), some (.ref s), u11, u12] ∧ ExA H12 H' ∧
        StateAt K H' s g [] ∧ g.Ok ∧ g.obs = (wkHd h gs).obs ∧ g.wat = h.wat ∧ g.nx = h.nx ∧ g.regs.length = h.regs.length + L.length ∧ (∀ i, i < h.regs.length → g.regs[i]? = h.regs[i]?) ∧ ∀ (j : Nat) (p : Int × Rs), j < k → S[j]? = some p → g.regs[h.regs.length + j]? = some (some p.1))
      ⟨st, { wkHd h gs with regs := h.regs ++ List.replicate L.length none }, u11, u12, rfl, ExM.refl _ _, hSt.mono T12, wide_ok bok _ (by show h.regs.length + L.length ≤ 1000; omega), rfl, rfl, rfl, by show (h.regs ++ List.replicate L.length none).length = _; rw [List.length_append, List.length_replicate],
        fun i hi => by show (h.regs ++ List.replicate L.length none)[i]? = _; rw [List.getElem?_append_left hi], fun j p hj => absurd hj (by omega)⟩ (fun k σ' H' hk p => ?_) (fun σ' H' p => ?_)
    · obtain ⟨s, g, u11, u12, rfl, ek, hs, okg, go, gw, gn, gr, hlow, hgot⟩ := p
      have hkS : k < L.length := by rw [List.length_map, lss] at hk; omega
      obtain ⟨⟨m2, rs⟩, hp⟩ : ∃ p, S[k]? = some p := ⟨_, List.getElem?_eq_getElem (by omega)⟩
      obtain ⟨cm, hck⟩ : ∃ cm, cs[k]? = some cm := ⟨_, List.getElem?_eq_getElem (by omega)⟩
      have Tk1 := T12.trans (Tk.all (K := K) ek)
      have hcat : atI (cs.map V.ref) (k : Int) = some (.ref cm) := atI_nat (by rw [List.getElem?_map, hck]; rfl)
      have hnm := er k (m2, rs) hp
      -- the place of each
      let pn : Int → Nat := fun n => h.regs.length + (S.map (·.1)).findIdx (· == n)
      have ep : ∀ n, fp S (h.regs.length : Int) n = (pn n : Int) := fun n => by show (h.regs.length : Int) + (((S.map (·.1)).findIdx (· == n) : Nat) : Int) = ((h.regs.length + (S.map (·.1)).findIdx (· == n) : Nat) : Int); omega
      have hcm : CmdAt K H11 cm (cmdOf (h.regs.length + k) pn rs) := by
        have z := (Tk.all (K := K) ((e9.trans k0).trans k1)) _ _ (hcs k cm (m2, rs) hck hp)
        rw [show (h.regs.length : Int) + (k : Int) = ((h.regs.length + k : Nat) : Int) by omega] at z
        exact cmd_at z fun n _ => ep n
      have reg_ : ∀ n ∈ rs.names, reg g (pn n) = some n := fun n hn => by
        have z := hnm n hn
        obtain ⟨i, hi⟩ := List.getElem?_of_mem z
        have hf : ((S.map (·.1)).findIdx (· == n)) < k := by
          rw [List.map_take] at hi
          have hik : i < k := by
            have := (List.getElem?_eq_some_iff.mp hi).1
            rw [List.length_take] at this; omega
          rw [List.getElem?_take_of_lt hik] at hi
          rcases Nat.lt_or_ge ((S.map (·.1)).findIdx (· == n)) k with y | y
          · exact y
          · have hjl := (List.getElem?_eq_some_iff.mp hi).1
            have := List.not_of_lt_findIdx (p := (· == n)) (xs := S.map (·.1)) (i := i) (by omega)
            have e : (S.map (·.1))[i] = n := (List.getElem?_eq_some_iff.mp hi).2
            rw [e] at this
            simp at this
        have hl : ((S.map (·.1)).findIdx (· == n)) < (S.map (·.1)).length := by rw [List.length_map]; omega
        have he : (S.map (·.1))[(S.map (·.1)).findIdx (· == n)] = n := beq_iff_eq.mp (List.findIdx_getElem (p := (· == n)) (w := hl))
        have hS' : (S.map (·.1))[(S.map (·.1)).findIdx (· == n)]? = some n := by rw [List.getElem?_eq_getElem hl, he]
        rw [List.getElem?_map] at hS'
        obtain ⟨q', hq1, hq2⟩ := Option.map_eq_some_iff.mp hS'
        unfold reg
        rw [List.getD_eq_getElem?_getD, hgot _ q' hf hq1, hq2]
        rfl
      have rd : Rdy g pn m2 rs := by
        have tr := tru (m2, rs) (List.mem_of_getElem? hp)
        have mem : ∀ {o : Ob}, o ∈ h.obs → wkOb gs o ∈ g.obs := fun z => by rw [go]; exact List.mem_map_of_mem z
        cases rs with
        | reg j =>
          have tr : h.regs[j]? = some (some m2) := tr
          show reg g j = some m2
          unfold reg
          rw [List.getD_eq_getElem?_getD, hlow j (List.getElem?_eq_some_iff.mp tr).1, tr]; rfl
        | fld n j =>
          obtain ⟨fs, y1, y2⟩ := tr
          exact ⟨reg_ n (by simp [Rs.names]), fs, mem y1, y2⟩
        | ent n j =>
          obtain ⟨es, y1, y2, y3, _⟩ := tr
          exact ⟨reg_ n (by simp [Rs.names]), reg_ j (by simp [Rs.names]), es, mem y1, y2, y3⟩
        | drf n =>
          obtain ⟨y1, y2⟩ := tr
          have z := mem y1
          rw [show wkOb gs (.weak n (some m2)) = .weak n (some m2) by show Ob.weak n (clr gs (some m2)) = _; rw [clr_some.mpr ⟨rfl, y2⟩]] at z
          exact ⟨reg_ n (by simp [Rs.names]), z⟩
      obtain ⟨a1, a2, a3, a4, a5, a6⟩ := act_ready okg (to := h.regs.length + k) rd
      have cok := cmd_ok okg (to := h.regs.length + k) (by omega) rd
      refine ⟨_, rfl, _, rfl, _, rfl, ca, _, _, _, rfl, rfl, Tk1 _ _ hca11, (by rw [Int.zero_add]; exact hcat), _, _, rfl, s, cm, g, [], _, rfl, rfl, hs, hcm.mono Tk1, okg, cok, fun hf H13 pt e13 hD => ?_, fun msg hf => by rw [a1] at hf; cases hf⟩
      rw [doH_act] at hD
      obtain ⟨s9, v9, d1, d2, d3⟩ := hD
      have Tk2 := Tk1.trans (Tk.all (K := K) e13)
      rw [a2] at d3
      have d3 : v9 = .int m2 := d3
      subst d3
      obtain ⟨hp9, q9, d21, d22, d23⟩ := id d2
      obtain ⟨rg, kg, og, wg, wsg, d221, d222, _⟩ := id d22
      obtain ⟨s1, hs1, ra1, hs2, hs3⟩ := pget' g2 hp
      have hst : SqT K H13 s1 [.int m2, .ref ra1] := Tk2 _ _ (T711 _ _ hs2)
      have hsat : atI (ss.map V.ref) (k : Int) = some (.ref s1) := atI_nat (by rw [List.getElem?_map, hs1]; rfl)
      have hrr : atI ((act g (cmdOf (h.regs.length + k) pn rs)).1.regs.map rV) (((h.regs.map rV).length : Int) + (0 + (k : Int))) = some (.int m2) := by
        rw [List.length_map, Int.zero_add, show (h.regs.length : Int) + (k : Int) = ((h.regs.length + k : Nat) : Int) by omega]
        refine atI_nat ?_
        rw [List.getElem?_map, a3, List.getElem?_set_self (by omega)]
        rfl
      have g13 := Tk2 _ _ g11
      refine gI (σ' := [some (.ref sa), some (.ref b), some (.ref a), some (.ref c), some (.ref l5), u5, some (.ref bl), some (.int m), some (.ref dv), some (.ref ca), some (.ref s), some (.int (0 + (k : Int))), some (.ref pt)]) rfl ?_
      refine ⟨_, rfl, pt, _, _, _, rfl, rfl, d1, at0, ?_⟩
      refine gI (σ' := [some (.ref sa), some (.ref b), some (.ref a), some (.ref c), some (.ref l5), u5, some (.ref bl), some (.int m), some (.ref dv), some (.ref ca), some (.ref s9), some (.int (0 + (k : Int))), some (.ref pt)]) rfl ?_
      dsimp only
      show tIfS (tOr _ _) _ _ _ _ _
      refine or_join false false (fun Q' z => ⟨_, rfl, pt, _, _, _, rfl, rfl, d1, at1, _, rfl, _, rfl, dv, _, _, _, rfl, rfl, g13, (by rw [Int.zero_add]; exact hsat), s1, _, _, _, rfl, rfl, hst, at0, _, _, rfl, .int m2, rfl, rfl, (show 0 < 9 by decide), trivial, _, rfl, z⟩)
        (fun _ Q' z => ⟨_, rfl, s9, _, _, _, rfl, rfl, d21, at1, hp9, _, _, _, rfl, rfl, d221, at2, _, rfl, a, _, _, _, rfl, rfl, Tk2 _ _ y1, at2, ra, _, rfl, .inr (Tk2 _ _ y2.sq), _, rfl, _, _, rfl, rfl, rg, _, _, _, rfl, rfl, d222.sq, hrr, _, rfl, _, rfl, dv, _, _, _, rfl, rfl, g13, (by rw [Int.zero_add]; exact hsat), s1, _, _, _, rfl, rfl, hst, at0, _, _, rfl, .int m2, rfl, rfl, (show 0 < 9 by decide), trivial, _, rfl, z⟩) ?_
      refine iteF ?_
      refine ⟨s9, _, _, _, rfl, ek.trans e13, d2, act_ok okg cok (by rw [go]; show (h.obs.map _).length < 50; rw [List.length_map]; omega) (by rw [gw]; omega) (by rw [gn]; omega), a4.trans go, a5.trans gw, a6.trans gn, by rw [a3, List.length_set]; exact gr, fun i hi => ?_, fun j p' hj hj2 => ?_⟩
      · rw [a3, List.getElem?_set_ne (by omega)]; exact hlow i hi
      · rw [a3]
        by_cases cj : j = k
        · subst cj
          rw [hp] at hj2
          cases hj2
          rw [List.getElem?_set_self (by omega)]
        · rw [List.getElem?_set_ne (by omega)]
          exact hgot j p' (by omega) hj2
    · obtain ⟨s, g, u11, u12, rfl, e13, _⟩ := p
      have e713 := e712.trans e13
      have T713 := Tk.all (K := K) e713
      exact ⟨_, _, _, _, _, _, _, rfl, hA7.mono T713, hB7.mono T713, T713 _ _ hC7, T7.ext fun b o z => ExA.at e713 z, T713 _ _ ht7⟩
  · obtain ⟨u5, u7, u8, u9, u10, u11, u12, rfl, hA5, hB5, hC5, T5, ht5⟩ := p
    clear hBl hA9 hC9 T9 T10
    refine ⟨_, rfl, _, rfl, a, h, rfl, hA5, ok, fun l2 H6 fl2 e6 hl2 => ?_⟩
    refine ⟨l2, rfl, ⟨_, SqL.of hl2⟩, ?_⟩
    have T6' := Tk.all (K := K) e6
    refine for_it (walk_list (xs := h.nums.map V.int)) (fun i σ6 H7 => ∃ u7, σ6 = [some (.ref sa), some (.ref b), some (.ref a), some (.ref c), some (.ref l5), u5, some (.ref bl), u7, u8, u9, u10, u11, u12] ∧ HeapAt K H7 a h ∧ SqT K H7 c (gs.map V.int) ∧ LamX.Tabs (LT_derive K) H7 ∧ H7 l2 = some (.lst (h.nums.map V.int)))
      ⟨u7, rfl, hA5.mono T6', T6' _ _ hC5, T5.ext fun b o z => ExA.at e6 z, hl2⟩ (fun i σ6 H7 _ p => by obtain ⟨_, _, _, _, _, z⟩ := p; exact SqL.of z) (fun i x σ6 H7 H8 hi p y => ?_) (fun σ6 H7 p => ?_)
    · obtain ⟨rfl, hx⟩ := y
      obtain ⟨u7, rfl, hA7, hC7, T7, hl7⟩ := p
      rw [List.length_map] at hi
      obtain ⟨m, hm⟩ : ∃ m, h.nums[i]? = some m := ⟨_, List.getElem?_eq_getElem hi⟩
      rw [List.getElem?_map, hm] at hx
      obtain rfl : V.int m = x := Option.some.inj hx
      refine ⟨_, rfl, _, rfl, _, rfl, _, _, rfl, a, h, c, gs, rfl, rfl, hA7, ok, hC7, by omega, fun ns2 hns2 t2 H9 f9 e9 ht2 => ?_⟩
      have T9' := Tk.all (K := K) e9
      refine ⟨_, _, rfl, .inr (SqT.of ht2), rfl, flat_ints _, _, rfl, ?_⟩
      show if (!inV (V.int m) (ns2.map V.int)) = true then _ else _
      rw [inV_int]
      refine iteN (fun no => ?_) fun yes => ?_
      · have no' : ¬ Obt h gs m := fun z => no ((hns2.2 m).mpr z)
        refine ⟨_, rfl, _, rfl, _, rfl, _, _, _, rfl, a, h, c, gs, m, rfl, rfl, rfl, hA7.mono T9', ok, T9' _ _ hC7, by omega, T7.ext fun b o z => ExA.at e9 z, fun _ H10 e10 => ?_, fun z => absurd z no'⟩
        have e910 := e9.trans e10
        have T910 := Tk.all (K := K) e910
        refine ⟨rfl, _, rfl, ?_⟩
        exact iteF ⟨_, rfl, hA7.mono T910, T910 _ _ hC7, T7.ext fun b o z => ExA.at e910 z, ExA.at e910 hl7⟩
      · exact iteF ⟨_, rfl, hA7.mono T9', T9' _ _ hC7, T7.ext fun b o z => ExA.at e9 z, ExA.at e9 hl7⟩
    · obtain ⟨u7, rfl, _⟩ := p
      exact q _
end
end Wc
namespace Wc
open PySem L2
abbrev RL : PySem.W.OpenLaw := PySem.Challenge.rw_weakcourt_k33_what_is_obtainable_is_load
abbrev RW : PySem.W.OpenRow := PySem.W.OpenLaw.row PySem.Challenge.rw_weakcourt_k33_what_is_obtainable_is_load
def dd_following_of : He.DefD := ⟨("following_of", none), "following_of", "following_of", defArgs s_following_of, defBody s_following_of, defScope s_following_of, [], []⟩
def dd_registers_of : He.DefD := ⟨("registers_of", none), "registers_of", "registers_of", defArgs s_registers_of, defBody s_registers_of, defScope s_registers_of, [], []⟩
def dd_objects_of : He.DefD := ⟨("objects_of", none), "objects_of", "objects_of", defArgs s_objects_of, defBody s_objects_of, defScope s_objects_of, [], []⟩
def dd_by_number : He.DefD := ⟨("by_number", none), "by_number", "by_number", defArgs s_by_number, defBody s_by_number, defScope s_by_number, [], []⟩
def dd_objects_among : He.DefD := ⟨("objects_among", none), "objects_among", "objects_among", defArgs s_objects_among, defBody s_objects_among, defScope s_objects_among, [], []⟩
def dd_holding : He.DefD := ⟨("holding", none), "holding", "holding", defArgs s_holding, defBody s_holding, defScope s_holding, [], []⟩
def dd_keeping : He.DefD := ⟨("keeping", none), "keeping", "keeping", defArgs s_keeping, defBody s_keeping, defScope s_keeping, [], []⟩
def dd_keeping_nothing : He.DefD := ⟨("keeping_nothing", none), "keeping_nothing", "keeping_nothing", defArgs s_keeping_nothing, defBody s_keeping_nothing, defScope s_keeping_nothing, [], []⟩
def dd_adding : He.DefD := ⟨("adding", none), "adding", "adding", defArgs s_adding, defBody s_adding, defScope s_adding, [], []⟩
def dd_replacing : He.DefD := ⟨("replacing", none), "replacing", "replacing", defArgs s_replacing, defBody s_replacing, defScope s_replacing, [], []⟩
def dd_watching : He.DefD := ⟨("watching", none), "watching", "watching", defArgs s_watching, defBody s_watching, defScope s_watching, [], []⟩
def dd_led_to : He.DefD := ⟨("led_to", none), "led_to", "led_to", defArgs s_led_to, defBody s_led_to, defScope s_led_to, [], []⟩
def dd_rounds : He.DefD := ⟨("rounds", none), "rounds", "rounds", defArgs s_rounds, defBody s_rounds, defScope s_rounds, [], []⟩
def dd_named : He.DefD := ⟨("named", none), "named", "named", defArgs s_named, defBody s_named, defScope s_named, [], []⟩
def dd_derive : He.DefD := ⟨("derive", none), "derive", "derive", defArgs s_derive, defBody s_derive, defScope s_derive, [], []⟩
def dd_best_reason : He.DefD := ⟨("best_reason", none), "best_reason", "best_reason", defArgs s_best_reason, defBody s_best_reason, defScope s_best_reason, [], []⟩
def dd_reason_from : He.DefD := ⟨("reason_from", none), "reason_from", "reason_from", defArgs s_reason_from, defBody s_reason_from, defScope s_reason_from, [], []⟩
def dd_compile_derivation : He.DefD := ⟨("compile_derivation", none), "compile_derivation", "compile_derivation", defArgs s_compile_derivation, defBody s_compile_derivation, defScope s_compile_derivation, [], []⟩
def dd_loading : He.DefD := ⟨("loading", none), "loading", "loading", defArgs s_loading, defBody s_loading, defScope s_loading, [], []⟩
def dd_with_registers : He.DefD := ⟨("with_registers", none), "with_registers", "with_registers", defArgs s_with_registers, defBody s_with_registers, defScope s_with_registers, [], []⟩
def dd_obtainable : He.DefD := ⟨("obtainable", none), "obtainable", "obtainable", defArgs s_obtainable, defBody s_obtainable, defScope s_obtainable, [], []⟩
def dd_in_place : He.DefD := ⟨("in_place", none), "in_place", "in_place", defArgs s_in_place, defBody s_in_place, defScope s_in_place, [], []⟩
def dd_make : He.DefD := ⟨("make", none), "make", "make", defArgs s_make, defBody s_make, defScope s_make, [], []⟩
def dd_make_record : He.DefD := ⟨("make_record", none), "make_record", "make_record", defArgs s_make_record, defBody s_make_record, defScope s_make_record, [], []⟩
def dd_make_weak : He.DefD := ⟨("make_weak", none), "make_weak", "make_weak", defArgs s_make_weak, defBody s_make_weak, defScope s_make_weak, [], []⟩
def dd_make_table : He.DefD := ⟨("make_table", none), "make_table", "make_table", defArgs s_make_table, defBody s_make_table, defScope s_make_table, [], []⟩
def dd_copy_reference : He.DefD := ⟨("copy_reference", none), "copy_reference", "copy_reference", defArgs s_copy_reference, defBody s_copy_reference, defScope s_copy_reference, [], []⟩
def dd_clear_place : He.DefD := ⟨("clear_place", none), "clear_place", "clear_place", defArgs s_clear_place, defBody s_clear_place, defScope s_clear_place, [], []⟩
def dd_read_field : He.DefD := ⟨("read_field", none), "read_field", "read_field", defArgs s_read_field, defBody s_read_field, defScope s_read_field, [], []⟩
def dd_write_field : He.DefD := ⟨("write_field", none), "write_field", "write_field", defArgs s_write_field, defBody s_write_field, defScope s_write_field, [], []⟩
def dd_deref_target : He.DefD := ⟨("deref_target", none), "deref_target", "deref_target", defArgs s_deref_target, defBody s_deref_target, defScope s_deref_target, [], []⟩
def dd_put_entry : He.DefD := ⟨("put_entry", none), "put_entry", "put_entry", defArgs s_put_entry, defBody s_put_entry, defScope s_put_entry, [], []⟩
def dd_remove_entry : He.DefD := ⟨("remove_entry", none), "remove_entry", "remove_entry", defArgs s_remove_entry, defBody s_remove_entry, defScope s_remove_entry, [], []⟩
def dd_lookup_key : He.DefD := ⟨("lookup_key", none), "lookup_key", "lookup_key", defArgs s_lookup_key, defBody s_lookup_key, defScope s_lookup_key, [], []⟩
def dd_add_watch : He.DefD := ⟨("add_watch", none), "add_watch", "add_watch", defArgs s_add_watch, defBody s_add_watch, defScope s_add_watch, [], []⟩
def dd_end_job : He.DefD := ⟨("end_job", none), "end_job", "end_job", defArgs s_end_job, defBody s_end_job, defScope s_end_job, [], []⟩
def dd_do : He.DefD := ⟨("do", none), "do", "do", defArgs s_do, defBody s_do, defScope s_do, [], []⟩
def dd_fault_of : He.DefD := ⟨("fault_of", none), "fault_of", "fault_of", defArgs s_fault_of, defBody s_fault_of, defScope s_fault_of, [], []⟩
def dd_index_of : He.DefD := ⟨("index_of", none), "index_of", "index_of", defArgs s_index_of, defBody s_index_of, defScope s_index_of, [], []⟩
def dd__law_cell : He.DefD := ⟨("_law_cell", none), "_law_cell", "_law_cell", defArgs s__law_cell, defBody s__law_cell, defScope s__law_cell, [], []⟩
def dd__law_digits : He.DefD := ⟨("_law_digits", none), "_law_digits", "_law_digits", defArgs s__law_digits, defBody s__law_digits, defScope s__law_digits, [], []⟩
def dd__law_draw : He.DefD := ⟨("_law_draw", none), "_law_draw", "_law_draw", defArgs s__law_draw, defBody s__law_draw, defScope s__law_draw, [], []⟩
def dd__law_same : He.DefD := ⟨("_law_same", none), "_law_same", "_law_same", defArgs s__law_same, defBody s__law_same, defScope s__law_same, [], []⟩
def dd__law_number : He.DefD := ⟨("_law_number", none), "_law_number", "_law_number", defArgs s__law_number, defBody s__law_number, defScope s__law_number, [], []⟩
def dd__law_object : He.DefD := ⟨("_law_object", none), "_law_object", "_law_object", defArgs s__law_object, defBody s__law_object, defScope s__law_object, [], []⟩
def dd__law_heap : He.DefD := ⟨("_law_heap", none), "_law_heap", "_law_heap", defArgs s__law_heap, defBody s__law_heap, defScope s__law_heap, [], []⟩
def dd__law_numbers : He.DefD := ⟨("_law_numbers", none), "_law_numbers", "_law_numbers", defArgs s__law_numbers, defBody s__law_numbers, defScope s__law_numbers, [], []⟩
def dd__law_some : He.DefD := ⟨("_law_some", none), "_law_some", "_law_some", defArgs s__law_some, defBody s__law_some, defScope s__law_some, [], []⟩
def dd__law_box : He.DefD := ⟨("_law_box", none), "_law_box", "_law_box", defArgs s__law_box, defBody s__law_box, defScope s__law_box, [], []⟩
def dd_law : He.DefD := ⟨("law", none), "law", "law", defArgs s_law, defBody s_law, defScope s_law, [], []⟩
def fnl : List He.DefD := [dd_following_of, dd_registers_of, dd_objects_of, dd_by_number, dd_objects_among, dd_holding, dd_keeping, dd_keeping_nothing, dd_adding, dd_replacing, dd_watching, dd_led_to, dd_rounds, dd_named, dd_derive, dd_best_reason, dd_reason_from, dd_compile_derivation, dd_loading, dd_with_registers, dd_obtainable, dd_in_place, dd_make, dd_make_record, dd_make_weak, dd_make_table, dd_copy_reference, dd_clear_place, dd_read_field, dd_write_field, dd_deref_target, dd_put_entry, dd_remove_entry, dd_lookup_key, dd_add_watch, dd_end_job, dd_do, dd_fault_of, dd_index_of, dd__law_cell, dd__law_digits, dd__law_draw, dd__law_same, dd__law_number, dd__law_object, dd__law_heap, dd__law_numbers, dd__law_some, dd__law_box, dd_law]
def fal : List He.Fa := ([.glo "following_of", .glo "registers_of", .glo "objects_of", .glo "by_number", .glo "objects_among", .glo "holding", .glo "keeping", .glo "keeping_nothing", .glo "adding", .glo "replacing", .glo "watching", .glo "led_to", .glo "rounds", .glo "named", .glo "derive", .glo "best_reason", .glo "reason_from", .glo "compile_derivation", .glo "loading", .glo "with_registers"] : List He.Fa) ++ ([.glo "obtainable", .glo "in_place", .glo "make", .glo "make_record", .glo "make_weak", .glo "make_table", .glo "copy_reference", .glo "clear_place", .glo "read_field", .glo "write_field", .glo "deref_target", .glo "put_entry", .glo "remove_entry", .glo "lookup_key", .glo "add_watch", .glo "end_job", .glo "do", .glo "fault_of", .glo "index_of", .glo "_law_cell"] : List He.Fa) ++ ([.glo "_law_digits", .glo "_law_draw", .glo "_law_same", .glo "_law_number", .glo "_law_object", .glo "_law_heap", .glo "_law_numbers", .glo "_law_some", .glo "_law_box", .glo "law", .glo "FILLED", .glo "KINDS", .glo "WRONG_KINDS", .glo "ACTIONS", .glo "CommandFault", .free "bool", .free "dict", .free "enumerate", .free "int", .free "isinstance"] : List He.Fa) ++ ([.free "len", .free "range", .free "set", .free "sorted", .free "str", .free "tuple", .free "super"] : List He.Fa)
def tfl : List He.Defn := [("derive", none)]
def tsl : List He.Tab := [(fun K => He.ga K "FILLED", ["weak", "read", "write", "deref", "put", "remove", "lookup", "watch"]), (fun K => He.ga K "KINDS", ["read", "write", "deref", "put", "remove", "lookup"]), (fun K => He.ga K "WRONG_KINDS", ["record", "weak", "table"]), (fun K => He.ga K "ACTIONS", ["record", "weak", "table", "copy", "clear", "read", "write", "deref", "put", "remove", "lookup", "watch", "end"])]
def dsl : List InD := [in_CommandFault]
def nal (K : PySem.W.Frag) : List Bool := [He.eqO (PySem.W.findIn K (.ref (He.ga K "CommandFault")) "reason") (some none)]
def exl (K : PySem.W.Frag) : Bool := (exs K).all id && (nal K).all id
abbrev hk : PySem.W.Hook := hookY RW.prog fal fnl tsl tfl dsl exl 4
def ob (s : PySem.W.SharedT) : AlY := obsY RW.prog fal fnl tsl tfl dsl exl 4 (HandSHeadRun.getT s)
theorem ob_eq (s : PySem.W.SharedT) : ob s = hk.obs s.abs := obsY_eq RW.prog fal fnl tsl tfl dsl exl (HandSHeadRun.getT_eq s)
def otherNames : List Str := (["following_of", "registers_of", "objects_of", "by_number", "objects_among", "holding", "keeping", "keeping_nothing", "adding", "replacing", "watching", "led_to", "rounds", "named", "derive", "best_reason", "reason_from", "compile_derivation", "loading", "with_registers"] : List Str) ++ (["obtainable", "CourtError", "CommandFault", "FILLED", "KINDS", "WRONG_KINDS", "in_place", "make", "make_record", "make_weak", "make_table", "copy_reference", "clear_place", "read_field", "write_field", "deref_target", "put_entry", "remove_entry", "lookup_key", "add_watch"] : List Str) ++ (["end_job", "ACTIONS", "do", "fault_of", "index_of", "_law_cell", "_law_digits", "_law_draw", "_law_same", "_law_number", "_law_object", "_law_heap", "_law_numbers", "_law_some", "_law_box"] : List Str)
set_option maxHeartbeats 0 in
theorem run (w : World) : HandSHeadRun.RunEq RW (PySem.W.view RW.prog [62]) hk ob 4000 otherNames w := by
  refine PySem.W.byRow2 "special-get-raises" (P := fun w => HandSHeadRun.RunEq RW (PySem.W.view RW.prog [62]) hk ob 4000 otherNames w) (fun w => ?_) (fun w => ?_) w
  · intro os
    kernel_rfl
  · intro os
    kernel_rfl
theorem all_y {w : World} {K : PySem.W.Frag} {h : Heap} {mg : Str → Option Value} {fa : Addr} (X : K.In h) (G : h.Ns mainGlobals mg) (hfa : mg "law" = some (.ref fa)) (S : SaysY RW.prog fal fnl tsl tfl dsl exl w h K) : LamX.LawAtS RL w K CX0 10 63 "script" mg fa h := by
  have c := S.x.t.d
  obtain ⟨fd0, G0⟩ := c.def_ 0 (d := dd_following_of) rfl
  have F0 : FunD K "following_of" "following_of" (defArgs s_following_of) (defBody s_following_of) (defScope s_following_of) [] [] (He.ga K "following_of") fd0 := G0
  obtain ⟨cd0, D0⟩ := Dn.ofD F0
  obtain ⟨fd1, G1⟩ := c.def_ 1 (d := dd_registers_of) rfl
  have F1 : FunD K "registers_of" "registers_of" (defArgs s_registers_of) (defBody s_registers_of) (defScope s_registers_of) [] [] (He.ga K "registers_of") fd1 := G1
  obtain ⟨cd1, D1⟩ := Dn.ofD F1
  obtain ⟨fd2, G2⟩ := c.def_ 2 (d := dd_objects_of) rfl
  have F2 : FunD K "objects_of" "objects_of" (defArgs s_objects_of) (defBody s_objects_of) (defScope s_objects_of) [] [] (He.ga K "objects_of") fd2 := G2
  obtain ⟨cd2, D2⟩ := Dn.ofD F2
  obtain ⟨fd3, G3⟩ := c.def_ 3 (d := dd_by_number) rfl
  have F3 : FunD K "by_number" "by_number" (defArgs s_by_number) (defBody s_by_number) (defScope s_by_number) [] [] (He.ga K "by_number") fd3 := G3
  obtain ⟨cd3, D3⟩ := Dn.ofD F3
  obtain ⟨fd4, G4⟩ := c.def_ 4 (d := dd_objects_among) rfl
  have F4 : FunD K "objects_among" "objects_among" (defArgs s_objects_among) (defBody s_objects_among) (defScope s_objects_among) [] [] (He.ga K "objects_among") fd4 := G4
  obtain ⟨cd4, D4⟩ := Dn.ofD F4
  obtain ⟨fd5, G5⟩ := c.def_ 5 (d := dd_holding) rfl
  have F5 : FunD K "holding" "holding" (defArgs s_holding) (defBody s_holding) (defScope s_holding) [] [] (He.ga K "holding") fd5 := G5
  obtain ⟨cd5, D5⟩ := Dn.ofD F5
  obtain ⟨fd6, G6⟩ := c.def_ 6 (d := dd_keeping) rfl
  have F6 : FunD K "keeping" "keeping" (defArgs s_keeping) (defBody s_keeping) (defScope s_keeping) [] [] (He.ga K "keeping") fd6 := G6
  obtain ⟨cd6, D6⟩ := Dn.ofD F6
  obtain ⟨fd7, G7⟩ := c.def_ 7 (d := dd_keeping_nothing) rfl
  have F7 : FunD K "keeping_nothing" "keeping_nothing" (defArgs s_keeping_nothing) (defBody s_keeping_nothing) (defScope s_keeping_nothing) [] [] (He.ga K "keeping_nothing") fd7 := G7
  obtain ⟨cd7, D7⟩ := Dn.ofD F7
  obtain ⟨fd8, G8⟩ := c.def_ 8 (d := dd_adding) rfl
  have F8 : FunD K "adding" "adding" (defArgs s_adding) (defBody s_adding) (defScope s_adding) [] [] (He.ga K "adding") fd8 := G8
  obtain ⟨cd8, D8⟩ := Dn.ofD F8
  obtain ⟨fd9, G9⟩ := c.def_ 9 (d := dd_replacing) rfl
  have F9 : FunD K "replacing" "replacing" (defArgs s_replacing) (defBody s_replacing) (defScope s_replacing) [] [] (He.ga K "replacing") fd9 := G9
  obtain ⟨cd9, D9⟩ := Dn.ofD F9
  obtain ⟨fd10, G10⟩ := c.def_ 10 (d := dd_watching) rfl
  have F10 : FunD K "watching" "watching" (defArgs s_watching) (defBody s_watching) (defScope s_watching) [] [] (He.ga K "watching") fd10 := G10
  obtain ⟨cd10, D10⟩ := Dn.ofD F10
  obtain ⟨fd11, G11⟩ := c.def_ 11 (d := dd_led_to) rfl
  have F11 : FunD K "led_to" "led_to" (defArgs s_led_to) (defBody s_led_to) (defScope s_led_to) [] [] (He.ga K "led_to") fd11 := G11
  obtain ⟨cd11, D11⟩ := Dn.ofD F11
  obtain ⟨fd12, G12⟩ := c.def_ 12 (d := dd_rounds) rfl
  have F12 : FunD K "rounds" "rounds" (defArgs s_rounds) (defBody s_rounds) (defScope s_rounds) [] [] (He.ga K "rounds") fd12 := G12
  obtain ⟨cd12, D12⟩ := Dn.ofD F12
  obtain ⟨fd13, G13⟩ := c.def_ 13 (d := dd_named) rfl
  have F13 : FunD K "named" "named" (defArgs s_named) (defBody s_named) (defScope s_named) [] [] (He.ga K "named") fd13 := G13
  obtain ⟨cd13, D13⟩ := Dn.ofD F13
  obtain ⟨fd14, G14⟩ := c.def_ 14 (d := dd_derive) rfl
  have F14 : FunD K "derive" "derive" (defArgs s_derive) (defBody s_derive) (defScope s_derive) [] [] (He.fAd K ("derive", none)) fd14 := G14
  obtain ⟨cd14, D14, e14⟩ := FunD.df F14
  obtain ⟨fd15, G15⟩ := c.def_ 15 (d := dd_best_reason) rfl
  have F15 : FunD K "best_reason" "best_reason" (defArgs s_best_reason) (defBody s_best_reason) (defScope s_best_reason) [] [] (He.ga K "best_reason") fd15 := G15
  obtain ⟨cd15, D15⟩ := Dn.ofD F15
  obtain ⟨fd16, G16⟩ := c.def_ 16 (d := dd_reason_from) rfl
  have F16 : FunD K "reason_from" "reason_from" (defArgs s_reason_from) (defBody s_reason_from) (defScope s_reason_from) [] [] (He.ga K "reason_from") fd16 := G16
  obtain ⟨cd16, D16⟩ := Dn.ofD F16
  obtain ⟨fd17, G17⟩ := c.def_ 17 (d := dd_compile_derivation) rfl
  have F17 : FunD K "compile_derivation" "compile_derivation" (defArgs s_compile_derivation) (defBody s_compile_derivation) (defScope s_compile_derivation) [] [] (He.ga K "compile_derivation") fd17 := G17
  obtain ⟨cd17, D17⟩ := Dn.ofD F17
  obtain ⟨fd18, G18⟩ := c.def_ 18 (d := dd_loading) rfl
  have F18 : FunD K "loading" "loading" (defArgs s_loading) (defBody s_loading) (defScope s_loading) [] [] (He.ga K "loading") fd18 := G18
  obtain ⟨cd18, D18⟩ := Dn.ofD F18
  obtain ⟨fd19, G19⟩ := c.def_ 19 (d := dd_with_registers) rfl
  have F19 : FunD K "with_registers" "with_registers" (defArgs s_with_registers) (defBody s_with_registers) (defScope s_with_registers) [] [] (He.ga K "with_registers") fd19 := G19
  obtain ⟨cd19, D19⟩ := Dn.ofD F19
  obtain ⟨fd20, G20⟩ := c.def_ 20 (d := dd_obtainable) rfl
  have F20 : FunD K "obtainable" "obtainable" (defArgs s_obtainable) (defBody s_obtainable) (defScope s_obtainable) [] [] (He.ga K "obtainable") fd20 := G20
  obtain ⟨cd20, D20⟩ := Dn.ofD F20
  obtain ⟨fd21, G21⟩ := c.def_ 21 (d := dd_in_place) rfl
  have F21 : FunD K "in_place" "in_place" (defArgs s_in_place) (defBody s_in_place) (defScope s_in_place) [] [] (He.ga K "in_place") fd21 := G21
  obtain ⟨cd21, D21⟩ := Dn.ofD F21
  obtain ⟨fd22, G22⟩ := c.def_ 22 (d := dd_make) rfl
  have F22 : FunD K "make" "make" (defArgs s_make) (defBody s_make) (defScope s_make) [] [] (He.ga K "make") fd22 := G22
  obtain ⟨cd22, D22⟩ := Dn.ofD F22
  obtain ⟨fd23, G23⟩ := c.def_ 23 (d := dd_make_record) rfl
  have F23 : FunD K "make_record" "make_record" (defArgs s_make_record) (defBody s_make_record) (defScope s_make_record) [] [] (He.ga K "make_record") fd23 := G23
  obtain ⟨cd23, D23⟩ := Dn.ofD F23
  obtain ⟨fd24, G24⟩ := c.def_ 24 (d := dd_make_weak) rfl
  have F24 : FunD K "make_weak" "make_weak" (defArgs s_make_weak) (defBody s_make_weak) (defScope s_make_weak) [] [] (He.ga K "make_weak") fd24 := G24
  obtain ⟨cd24, D24⟩ := Dn.ofD F24
  obtain ⟨fd25, G25⟩ := c.def_ 25 (d := dd_make_table) rfl
  have F25 : FunD K "make_table" "make_table" (defArgs s_make_table) (defBody s_make_table) (defScope s_make_table) [] [] (He.ga K "make_table") fd25 := G25
  obtain ⟨cd25, D25⟩ := Dn.ofD F25
  obtain ⟨fd26, G26⟩ := c.def_ 26 (d := dd_copy_reference) rfl
  have F26 : FunD K "copy_reference" "copy_reference" (defArgs s_copy_reference) (defBody s_copy_reference) (defScope s_copy_reference) [] [] (He.ga K "copy_reference") fd26 := G26
  obtain ⟨cd26, D26⟩ := Dn.ofD F26
  obtain ⟨fd27, G27⟩ := c.def_ 27 (d := dd_clear_place) rfl
  have F27 : FunD K "clear_place" "clear_place" (defArgs s_clear_place) (defBody s_clear_place) (defScope s_clear_place) [] [] (He.ga K "clear_place") fd27 := G27
  obtain ⟨cd27, D27⟩ := Dn.ofD F27
  obtain ⟨fd28, G28⟩ := c.def_ 28 (d := dd_read_field) rfl
  have F28 : FunD K "read_field" "read_field" (defArgs s_read_field) (defBody s_read_field) (defScope s_read_field) [] [] (He.ga K "read_field") fd28 := G28
  obtain ⟨cd28, D28⟩ := Dn.ofD F28
  obtain ⟨fd29, G29⟩ := c.def_ 29 (d := dd_write_field) rfl
  have F29 : FunD K "write_field" "write_field" (defArgs s_write_field) (defBody s_write_field) (defScope s_write_field) [] [] (He.ga K "write_field") fd29 := G29
  obtain ⟨cd29, D29⟩ := Dn.ofD F29
  obtain ⟨fd30, G30⟩ := c.def_ 30 (d := dd_deref_target) rfl
  have F30 : FunD K "deref_target" "deref_target" (defArgs s_deref_target) (defBody s_deref_target) (defScope s_deref_target) [] [] (He.ga K "deref_target") fd30 := G30
  obtain ⟨cd30, D30⟩ := Dn.ofD F30
  obtain ⟨fd31, G31⟩ := c.def_ 31 (d := dd_put_entry) rfl
  have F31 : FunD K "put_entry" "put_entry" (defArgs s_put_entry) (defBody s_put_entry) (defScope s_put_entry) [] [] (He.ga K "put_entry") fd31 := G31
  obtain ⟨cd31, D31⟩ := Dn.ofD F31
  obtain ⟨fd32, G32⟩ := c.def_ 32 (d := dd_remove_entry) rfl
  have F32 : FunD K "remove_entry" "remove_entry" (defArgs s_remove_entry) (defBody s_remove_entry) (defScope s_remove_entry) [] [] (He.ga K "remove_entry") fd32 := G32
  obtain ⟨cd32, D32⟩ := Dn.ofD F32
  obtain ⟨fd33, G33⟩ := c.def_ 33 (d := dd_lookup_key) rfl
  have F33 : FunD K "lookup_key" "lookup_key" (defArgs s_lookup_key) (defBody s_lookup_key) (defScope s_lookup_key) [] [] (He.ga K "lookup_key") fd33 := G33
  obtain ⟨cd33, D33⟩ := Dn.ofD F33
  obtain ⟨fd34, G34⟩ := c.def_ 34 (d := dd_add_watch) rfl
  have F34 : FunD K "add_watch" "add_watch" (defArgs s_add_watch) (defBody s_add_watch) (defScope s_add_watch) [] [] (He.ga K "add_watch") fd34 := G34
  obtain ⟨cd34, D34⟩ := Dn.ofD F34
  obtain ⟨fd35, G35⟩ := c.def_ 35 (d := dd_end_job) rfl
  have F35 : FunD K "end_job" "end_job" (defArgs s_end_job) (defBody s_end_job) (defScope s_end_job) [] [] (He.ga K "end_job") fd35 := G35
  obtain ⟨cd35, D35⟩ := Dn.ofD F35
  obtain ⟨fd36, G36⟩ := c.def_ 36 (d := dd_do) rfl
  have F36 : FunD K "do" "do" (defArgs s_do) (defBody s_do) (defScope s_do) [] [] (He.ga K "do") fd36 := G36
  obtain ⟨cd36, D36⟩ := Dn.ofD F36
  obtain ⟨fd37, G37⟩ := c.def_ 37 (d := dd_fault_of) rfl
  have F37 : FunD K "fault_of" "fault_of" (defArgs s_fault_of) (defBody s_fault_of) (defScope s_fault_of) [] [] (He.ga K "fault_of") fd37 := G37
  obtain ⟨cd37, D37⟩ := Dn.ofD F37
  obtain ⟨fd38, G38⟩ := c.def_ 38 (d := dd_index_of) rfl
  have F38 : FunD K "index_of" "index_of" (defArgs s_index_of) (defBody s_index_of) (defScope s_index_of) [] [] (He.ga K "index_of") fd38 := G38
  obtain ⟨cd38, D38⟩ := Dn.ofD F38
  obtain ⟨fd39, G39⟩ := c.def_ 39 (d := dd__law_cell) rfl
  have F39 : FunD K "_law_cell" "_law_cell" (defArgs s__law_cell) (defBody s__law_cell) (defScope s__law_cell) [] [] (He.ga K "_law_cell") fd39 := G39
  obtain ⟨cd39, D39⟩ := Dn.ofD F39
  obtain ⟨fd40, G40⟩ := c.def_ 40 (d := dd__law_digits) rfl
  have F40 : FunD K "_law_digits" "_law_digits" (defArgs s__law_digits) (defBody s__law_digits) (defScope s__law_digits) [] [] (He.ga K "_law_digits") fd40 := G40
  obtain ⟨cd40, D40⟩ := Dn.ofD F40
  obtain ⟨fd41, G41⟩ := c.def_ 41 (d := dd__law_draw) rfl
  have F41 : FunD K "_law_draw" "_law_draw" (defArgs s__law_draw) (defBody s__law_draw) (defScope s__law_draw) [] [] (He.ga K "_law_draw") fd41 := G41
  obtain ⟨cd41, D41⟩ := Dn.ofD F41
  obtain ⟨fd42, G42⟩ := c.def_ 42 (d := dd__law_same) rfl
  have F42 : FunD K "_law_same" "_law_same" (defArgs s__law_same) (defBody s__law_same) (defScope s__law_same) [] [] (He.ga K "_law_same") fd42 := G42
  obtain ⟨cd42, D42⟩ := Dn.ofD F42
  obtain ⟨fd43, G43⟩ := c.def_ 43 (d := dd__law_number) rfl
  have F43 : FunD K "_law_number" "_law_number" (defArgs s__law_number) (defBody s__law_number) (defScope s__law_number) [] [] (He.ga K "_law_number") fd43 := G43
  obtain ⟨cd43, D43⟩ := Dn.ofD F43
  obtain ⟨fd44, G44⟩ := c.def_ 44 (d := dd__law_object) rfl
  have F44 : FunD K "_law_object" "_law_object" (defArgs s__law_object) (defBody s__law_object) (defScope s__law_object) [] [] (He.ga K "_law_object") fd44 := G44
  obtain ⟨cd44, D44⟩ := Dn.ofD F44
  obtain ⟨fd45, G45⟩ := c.def_ 45 (d := dd__law_heap) rfl
  have F45 : FunD K "_law_heap" "_law_heap" (defArgs s__law_heap) (defBody s__law_heap) (defScope s__law_heap) [] [] (He.ga K "_law_heap") fd45 := G45
  obtain ⟨cd45, D45⟩ := Dn.ofD F45
  obtain ⟨fd46, G46⟩ := c.def_ 46 (d := dd__law_numbers) rfl
  have F46 : FunD K "_law_numbers" "_law_numbers" (defArgs s__law_numbers) (defBody s__law_numbers) (defScope s__law_numbers) [] [] (He.ga K "_law_numbers") fd46 := G46
  obtain ⟨cd46, D46⟩ := Dn.ofD F46
  obtain ⟨fd47, G47⟩ := c.def_ 47 (d := dd__law_some) rfl
  have F47 : FunD K "_law_some" "_law_some" (defArgs s__law_some) (defBody s__law_some) (defScope s__law_some) [] [] (He.ga K "_law_some") fd47 := G47
  obtain ⟨cd47, D47⟩ := Dn.ofD F47
  obtain ⟨fd48, G48⟩ := c.def_ 48 (d := dd__law_box) rfl
  have F48 : FunD K "_law_box" "_law_box" (defArgs s__law_box) (defBody s__law_box) (defScope s__law_box) [] [] (He.ga K "_law_box") fd48 := G48
  obtain ⟨cd48, D48⟩ := Dn.ofD F48
  obtain ⟨fd49, G49⟩ := c.def_ 49 (d := dd_law) rfl
  have F49 : FunD K "law" "law" (defArgs s_law) (defBody s_law) (defScope s_law) [] [] (He.ga K "law") fd49 := G49
  obtain ⟨cd49, D49⟩ := Dn.ofD F49
  have a_following_of : mg "following_of" = some (.ref (He.ga K "following_of")) := He.glo_ok X G (c.fact 0 (f := .glo "following_of") rfl)
  have a_registers_of : mg "registers_of" = some (.ref (He.ga K "registers_of")) := He.glo_ok X G (c.fact 1 (f := .glo "registers_of") rfl)
  have a_objects_of : mg "objects_of" = some (.ref (He.ga K "objects_of")) := He.glo_ok X G (c.fact 2 (f := .glo "objects_of") rfl)
  have a_by_number : mg "by_number" = some (.ref (He.ga K "by_number")) := He.glo_ok X G (c.fact 3 (f := .glo "by_number") rfl)
  have a_objects_among : mg "objects_among" = some (.ref (He.ga K "objects_among")) := He.glo_ok X G (c.fact 4 (f := .glo "objects_among") rfl)
  have a_holding : mg "holding" = some (.ref (He.ga K "holding")) := He.glo_ok X G (c.fact 5 (f := .glo "holding") rfl)
  have a_keeping : mg "keeping" = some (.ref (He.ga K "keeping")) := He.glo_ok X G (c.fact 6 (f := .glo "keeping") rfl)
  have a_keeping_nothing : mg "keeping_nothing" = some (.ref (He.ga K "keeping_nothing")) := He.glo_ok X G (c.fact 7 (f := .glo "keeping_nothing") rfl)
  have a_adding : mg "adding" = some (.ref (He.ga K "adding")) := He.glo_ok X G (c.fact 8 (f := .glo "adding") rfl)
  have a_replacing : mg "replacing" = some (.ref (He.ga K "replacing")) := He.glo_ok X G (c.fact 9 (f := .glo "replacing") rfl)
  have a_watching : mg "watching" = some (.ref (He.ga K "watching")) := He.glo_ok X G (c.fact 10 (f := .glo "watching") rfl)
  have a_led_to : mg "led_to" = some (.ref (He.ga K "led_to")) := He.glo_ok X G (c.fact 11 (f := .glo "led_to") rfl)
  have a_rounds : mg "rounds" = some (.ref (He.ga K "rounds")) := He.glo_ok X G (c.fact 12 (f := .glo "rounds") rfl)
  have a_named : mg "named" = some (.ref (He.ga K "named")) := He.glo_ok X G (c.fact 13 (f := .glo "named") rfl)
  have a_derive : mg "derive" = some (.ref (He.ga K "derive")) := He.glo_ok X G (c.fact 14 (f := .glo "derive") rfl)
  have a_best_reason : mg "best_reason" = some (.ref (He.ga K "best_reason")) := He.glo_ok X G (c.fact 15 (f := .glo "best_reason") rfl)
  have a_reason_from : mg "reason_from" = some (.ref (He.ga K "reason_from")) := He.glo_ok X G (c.fact 16 (f := .glo "reason_from") rfl)
  have a_compile_derivation : mg "compile_derivation" = some (.ref (He.ga K "compile_derivation")) := He.glo_ok X G (c.fact 17 (f := .glo "compile_derivation") rfl)
  have a_loading : mg "loading" = some (.ref (He.ga K "loading")) := He.glo_ok X G (c.fact 18 (f := .glo "loading") rfl)
  have a_with_registers : mg "with_registers" = some (.ref (He.ga K "with_registers")) := He.glo_ok X G (c.fact 19 (f := .glo "with_registers") rfl)
  have a_obtainable : mg "obtainable" = some (.ref (He.ga K "obtainable")) := He.glo_ok X G (c.fact 20 (f := .glo "obtainable") rfl)
  have a_in_place : mg "in_place" = some (.ref (He.ga K "in_place")) := He.glo_ok X G (c.fact 21 (f := .glo "in_place") rfl)
  have a_make : mg "make" = some (.ref (He.ga K "make")) := He.glo_ok X G (c.fact 22 (f := .glo "make") rfl)
  have a_make_record : mg "make_record" = some (.ref (He.ga K "make_record")) := He.glo_ok X G (c.fact 23 (f := .glo "make_record") rfl)
  have a_make_weak : mg "make_weak" = some (.ref (He.ga K "make_weak")) := He.glo_ok X G (c.fact 24 (f := .glo "make_weak") rfl)
  have a_make_table : mg "make_table" = some (.ref (He.ga K "make_table")) := He.glo_ok X G (c.fact 25 (f := .glo "make_table") rfl)
  have a_copy_reference : mg "copy_reference" = some (.ref (He.ga K "copy_reference")) := He.glo_ok X G (c.fact 26 (f := .glo "copy_reference") rfl)
  have a_clear_place : mg "clear_place" = some (.ref (He.ga K "clear_place")) := He.glo_ok X G (c.fact 27 (f := .glo "clear_place") rfl)
  have a_read_field : mg "read_field" = some (.ref (He.ga K "read_field")) := He.glo_ok X G (c.fact 28 (f := .glo "read_field") rfl)
  have a_write_field : mg "write_field" = some (.ref (He.ga K "write_field")) := He.glo_ok X G (c.fact 29 (f := .glo "write_field") rfl)
  have a_deref_target : mg "deref_target" = some (.ref (He.ga K "deref_target")) := He.glo_ok X G (c.fact 30 (f := .glo "deref_target") rfl)
  have a_put_entry : mg "put_entry" = some (.ref (He.ga K "put_entry")) := He.glo_ok X G (c.fact 31 (f := .glo "put_entry") rfl)
  have a_remove_entry : mg "remove_entry" = some (.ref (He.ga K "remove_entry")) := He.glo_ok X G (c.fact 32 (f := .glo "remove_entry") rfl)
  have a_lookup_key : mg "lookup_key" = some (.ref (He.ga K "lookup_key")) := He.glo_ok X G (c.fact 33 (f := .glo "lookup_key") rfl)
  have a_add_watch : mg "add_watch" = some (.ref (He.ga K "add_watch")) := He.glo_ok X G (c.fact 34 (f := .glo "add_watch") rfl)
  have a_end_job : mg "end_job" = some (.ref (He.ga K "end_job")) := He.glo_ok X G (c.fact 35 (f := .glo "end_job") rfl)
  have a_do : mg "do" = some (.ref (He.ga K "do")) := He.glo_ok X G (c.fact 36 (f := .glo "do") rfl)
  have a_fault_of : mg "fault_of" = some (.ref (He.ga K "fault_of")) := He.glo_ok X G (c.fact 37 (f := .glo "fault_of") rfl)
  have a_index_of : mg "index_of" = some (.ref (He.ga K "index_of")) := He.glo_ok X G (c.fact 38 (f := .glo "index_of") rfl)
  have a__law_cell : mg "_law_cell" = some (.ref (He.ga K "_law_cell")) := He.glo_ok X G (c.fact 39 (f := .glo "_law_cell") rfl)
  have a__law_digits : mg "_law_digits" = some (.ref (He.ga K "_law_digits")) := He.glo_ok X G (c.fact 40 (f := .glo "_law_digits") rfl)
  have a__law_draw : mg "_law_draw" = some (.ref (He.ga K "_law_draw")) := He.glo_ok X G (c.fact 41 (f := .glo "_law_draw") rfl)
  have a__law_same : mg "_law_same" = some (.ref (He.ga K "_law_same")) := He.glo_ok X G (c.fact 42 (f := .glo "_law_same") rfl)
  have a__law_number : mg "_law_number" = some (.ref (He.ga K "_law_number")) := He.glo_ok X G (c.fact 43 (f := .glo "_law_number") rfl)
  have a__law_object : mg "_law_object" = some (.ref (He.ga K "_law_object")) := He.glo_ok X G (c.fact 44 (f := .glo "_law_object") rfl)
  have a__law_heap : mg "_law_heap" = some (.ref (He.ga K "_law_heap")) := He.glo_ok X G (c.fact 45 (f := .glo "_law_heap") rfl)
  have a__law_numbers : mg "_law_numbers" = some (.ref (He.ga K "_law_numbers")) := He.glo_ok X G (c.fact 46 (f := .glo "_law_numbers") rfl)
  have a__law_some : mg "_law_some" = some (.ref (He.ga K "_law_some")) := He.glo_ok X G (c.fact 47 (f := .glo "_law_some") rfl)
  have a__law_box : mg "_law_box" = some (.ref (He.ga K "_law_box")) := He.glo_ok X G (c.fact 48 (f := .glo "_law_box") rfl)
  have a_law : mg "law" = some (.ref (He.ga K "law")) := He.glo_ok X G (c.fact 49 (f := .glo "law") rfl)
  have a_FILLED : mg "FILLED" = some (.ref (He.ga K "FILLED")) := He.glo_ok X G (c.fact 50 (f := .glo "FILLED") rfl)
  have a_KINDS : mg "KINDS" = some (.ref (He.ga K "KINDS")) := He.glo_ok X G (c.fact 51 (f := .glo "KINDS") rfl)
  have a_WRONG_KINDS : mg "WRONG_KINDS" = some (.ref (He.ga K "WRONG_KINDS")) := He.glo_ok X G (c.fact 52 (f := .glo "WRONG_KINDS") rfl)
  have a_ACTIONS : mg "ACTIONS" = some (.ref (He.ga K "ACTIONS")) := He.glo_ok X G (c.fact 53 (f := .glo "ACTIONS") rfl)
  have a_CommandFault : mg "CommandFault" = some (.ref (He.ga K "CommandFault")) := He.glo_ok X G (c.fact 54 (f := .glo "CommandFault") rfl)
  have e := hfa.symm.trans a_law
  cases e
  have T : Txt mg := ⟨He.free_ok X G (c.fact 55 (f := .free "bool") rfl), He.free_ok X G (c.fact 56 (f := .free "dict") rfl), He.free_ok X G (c.fact 57 (f := .free "enumerate") rfl), He.free_ok X G (c.fact 58 (f := .free "int") rfl), He.free_ok X G (c.fact 59 (f := .free "isinstance") rfl), He.free_ok X G (c.fact 60 (f := .free "len") rfl), He.free_ok X G (c.fact 61 (f := .free "range") rfl), He.free_ok X G (c.fact 62 (f := .free "set") rfl), He.free_ok X G (c.fact 63 (f := .free "sorted") rfl), He.free_ok X G (c.fact 64 (f := .free "str") rfl), He.free_ok X G (c.fact 65 (f := .free "tuple") rfl)⟩
  have B : Tb K w mg := Tb.of a_FILLED a_KINDS a_WRONG_KINDS a_ACTIONS (S.x.t.tab 0 (t := (fun K => He.ga K "FILLED", ["weak", "read", "write", "deref", "put", "remove", "lookup", "watch"])) rfl) (S.x.t.tab 1 (t := (fun K => He.ga K "KINDS", ["read", "write", "deref", "put", "remove", "lookup"])) rfl) (S.x.t.tab 2 (t := (fun K => He.ga K "WRONG_KINDS", ["record", "weak", "table"])) rfl) (S.x.t.tab 3 (t := (fun K => He.ga K "ACTIONS", ["record", "weak", "table", "copy", "clear", "read", "write", "deref", "put", "remove", "lookup", "watch", "end"])) rfl) (He.ba S.x.more).1
  have na : ∀ i {b : Bool}, (nal K)[i]? = some b → b = true := fun i b e => List.all_eq_true.mp (He.ba S.x.more).2 b (List.mem_of_getElem? e)
  have N_CommandFault_reason := He.eqO_ok (na 0 rfl)
  have su : mg "super" = none := He.free_ok X G (c.fact 66 (f := .free "super") rfl)
  have I_CommandFault : InOk RW.prog K in_CommandFault := (fun z => inOk_of z.1 z.2 (by decide +kernel)) (S.ini in_CommandFault (List.mem_of_getElem? (i := 0) rfl))
  have bl := FunD.bindsA (ps := ["script"]) F49 fun _ _ _ _ _ _ us hl => match us, hl with | [_], _ => rfl
  refine ⟨fd49, tfl.map (He.cT K), sp_law K, ?_, ?_, ?_, fun s v => bl s [v] rfl, fun H a ns hl _ hT hS => ⟨_, rfl, a, ns, rfl, hS, hl, fun p hp => hT (He.cT K p) (List.mem_map.mpr ⟨p, hp, rfl⟩), fun _ => rfl⟩, fun base KB GB TBs => ?_⟩
  · intro p hp
    obtain ⟨q, hq, rfl⟩ := List.mem_map.mp hp
    exact S.x.empty q hq
  · intro p hp
    obtain ⟨q, hq, rfl⟩ := List.mem_map.mp hp
    exact S.x.out q hq
  · intro p hp
    obtain ⟨q, hq, rfl⟩ := List.mem_map.mp hp
    exact PySem.W.codeHd_of_K X (S.x.hd q hq)
  have X_CommandFault : XcAt RL.prog w K mg base "CommandFault" (He.ga K "CommandFault") 1 (spx_CommandFault K) := xc_CommandFault I_CommandFault a_CommandFault su N_CommandFault_reason
  have b0 := F0.bindsN (ps := ["heap"]) fun _ _ _ _ _ _ us hl => match us, hl with | [_], _ => rfl
  have C_following_of : Cal RL.prog w K mg base 1 "following_of" (sp_following_of K) [] := Cal.mk0 (ok_following_of D0.df T) a_following_of F0.kp b0
  have b1 := F1.bindsN (ps := ["heap"]) fun _ _ _ _ _ _ us hl => match us, hl with | [_], _ => rfl
  have C_registers_of : Cal RL.prog w K mg base 1 "registers_of" (sp_registers_of K) [] := Cal.mk0 (ok_registers_of D1.df T) a_registers_of F1.kp b1
  have b2 := F2.bindsN (ps := ["heap"]) fun _ _ _ _ _ _ us hl => match us, hl with | [_], _ => rfl
  have C_objects_of : Cal RL.prog w K mg base 1 "objects_of" (sp_objects_of K) [] := Cal.mk0 (ok_objects_of D2.df T) a_objects_of F2.kp b2
  have b4 := F4.bindsN (ps := ["references"]) fun _ _ _ _ _ _ us hl => match us, hl with | [_], _ => rfl
  have C_objects_among : Cal RL.prog w K mg base 1 "objects_among" (sp_objects_among K) [] := Cal.mk0 (ok_objects_among D4.df T) a_objects_among F4.kp b4
  have b5 := F5.bindsN (ps := ["heap", "place", "reference"]) fun _ _ _ _ _ _ us hl => match us, hl with | [_, _, _], _ => rfl
  have C_holding : Cal RL.prog w K mg base 1 "holding" (sp_holding K) [] := Cal.mk0 (ok_holding D5.df T) a_holding F5.kp b5
  have b6 := F6.bindsN (ps := ["heap", "number"]) fun _ _ _ _ _ _ us hl => match us, hl with | [_, _], _ => rfl
  have C_keeping : Cal RL.prog w K mg base 1 "keeping" (sp_keeping K) [] := Cal.mk0 (ok_keeping D6.df T) a_keeping F6.kp b6
  have b7 := F7.bindsN (ps := ["heap"]) fun _ _ _ _ _ _ us hl => match us, hl with | [_], _ => rfl
  have C_keeping_nothing : Cal RL.prog w K mg base 1 "keeping_nothing" (sp_keeping_nothing K) [] := Cal.mk0 (ok_keeping_nothing D7.df T) a_keeping_nothing F7.kp b7
  have b8 := F8.bindsN (ps := ["heap", "kind", "inside"]) fun _ _ _ _ _ _ us hl => match us, hl with | [_, _, _], _ => rfl
  have C_adding : Cal RL.prog w K mg base 1 "adding" (sp_adding K) [] := Cal.mk0 (ok_adding D8.df T) a_adding F8.kp b8
  have b9 := F9.bindsN (ps := ["heap", "thing"]) fun _ _ _ _ _ _ us hl => match us, hl with | [_, _], _ => rfl
  have C_replacing : Cal RL.prog w K mg base 1 "replacing" (sp_replacing K) [] := Cal.mk0 (ok_replacing D9.df T) a_replacing F9.kp b9
  have b10 := F10.bindsN (ps := ["heap", "number", "token"]) fun _ _ _ _ _ _ us hl => match us, hl with | [_, _, _], _ => rfl
  have C_watching : Cal RL.prog w K mg base 1 "watching" (sp_watching K) [] := Cal.mk0 (ok_watching D10.df T) a_watching F10.kp b10
  have b13 := F13.bindsN (ps := ["reason"]) fun _ _ _ _ _ _ us hl => match us, hl with | [_], _ => rfl
  have C_named : Cal RL.prog w K mg base 1 "named" (sp_named K) [] := Cal.mk0 (ok_named D13.df T) a_named F13.kp b13
  have b16 := F16.bindsN (ps := ["thing", "lower", "condemned", "number"]) fun _ _ _ _ _ _ us hl => match us, hl with | [_, _, _, _], _ => rfl
  have C_reason_from : Cal RL.prog w K mg base 1 "reason_from" (sp_reason_from K) [] := Cal.mk0 (ok_reason_from D16.df T) a_reason_from F16.kp b16
  have b18 := F18.bindsN (ps := ["place", "reason", "places"]) fun _ _ _ _ _ _ us hl => match us, hl with | [_, _, _], _ => rfl
  have C_loading : Cal RL.prog w K mg base 1 "loading" (sp_loading K) [] := Cal.mk0 (ok_loading D18.df T) a_loading F18.kp b18
  have b19 := F19.bindsN (ps := ["heap", "many"]) fun _ _ _ _ _ _ us hl => match us, hl with | [_, _], _ => rfl
  have C_with_registers : Cal RL.prog w K mg base 1 "with_registers" (sp_with_registers K) [] := Cal.mk0 (ok_with_registers D19.df T) a_with_registers F19.kp b19
  have b38 := F38.bindsN (ps := ["command"]) fun _ _ _ _ _ _ us hl => match us, hl with | [_], _ => rfl
  have C_index_of : Cal RL.prog w K mg base 1 "index_of" (sp_index_of K) [] := Cal.mk0 (ok_index_of D38.df T) a_index_of F38.kp b38
  have b39 := F39.bindsN (ps := ["script", "k"]) fun _ _ _ _ _ _ us hl => match us, hl with | [_, _], _ => rfl
  have C__law_cell : Cal RL.prog w K mg base 1 "_law_cell" (sp__law_cell K) [] := Cal.mk0 (ok__law_cell D39.df T) a__law_cell F39.kp b39
  have b41 := F41.bindsN (ps := ["box", "many"]) fun _ _ _ _ _ _ us hl => match us, hl with | [_, _], _ => rfl
  have C__law_draw : Cal RL.prog w K mg base 1 "_law_draw" (sp__law_draw K) [] := Cal.mk0 (ok__law_draw D41.df T) a__law_draw F41.kp b41
  have b46 := F46.bindsN (ps := ["heap"]) fun _ _ _ _ _ _ us hl => match us, hl with | [_], _ => rfl
  have C__law_numbers : Cal RL.prog w K mg base 1 "_law_numbers" (sp__law_numbers K) [] := Cal.mk0 (ok__law_numbers D46.df T) a__law_numbers F46.kp b46
  have b3 := F3.bindsN (ps := ["heap"]) fun _ _ _ _ _ _ us hl => match us, hl with | [_], _ => rfl
  have C_by_number : Cal RL.prog w K mg base 2 "by_number" (sp_by_number K) [] := Cal.mk0 (ok_by_number D3.df T C_objects_of) a_by_number F3.kp b3
  have b11 := F11.bindsN (ps := ["thing", "got", "condemned"]) fun _ _ _ _ _ _ us hl => match us, hl with | [_, _, _], _ => rfl
  have C_led_to : Cal RL.prog w K mg base 2 "led_to" (sp_led_to K) [] := Cal.mk0 (ok_led_to D11.df T C_objects_among) a_led_to F11.kp b11
  have b15 := F15.bindsN (ps := ["heap", "things", "depths", "condemned", "number"]) fun _ _ _ _ _ _ us hl => match us, hl with | [_, _, _, _, _], _ => rfl
  have C_best_reason : Cal RL.prog w K mg base 2 "best_reason" (sp_best_reason K) [] := Cal.mk0 (ok_best_reason D15.df T C_registers_of C_reason_from) a_best_reason F15.kp b15
  have b17 := F17.bindsN (ps := ["heap", "steps"]) fun _ _ _ _ _ _ us hl => match us, hl with | [_, _], _ => rfl
  have C_compile_derivation : Cal RL.prog w K mg base 2 "compile_derivation" (sp_compile_derivation K) [] := Cal.mk0 (ok_compile_derivation D17.df T C_registers_of C_loading) a_compile_derivation F17.kp b17
  have b22 := F22.bindsN (ps := ["heap", "to", "kind", "inside"]) fun _ _ _ _ _ _ us hl => match us, hl with | [_, _, _, _], _ => rfl
  have C_make : Cal RL.prog w K mg base 2 "make" (sp_make K) [] := Cal.mk0 (ok_make D22.df T C_following_of C_holding C_adding) a_make F22.kp b22
  have b26 := F26.bindsN (ps := ["heap", "command"]) fun _ _ _ _ _ _ us hl => match us, hl with | [_, _], _ => rfl
  have C_copy_reference : Cal RL.prog w K mg base 2 "copy_reference" (sp_copy_reference K) [] := Cal.mk0 (ok_copy_reference D26.df T C_registers_of C_holding) a_copy_reference F26.kp b26
  have b27 := F27.bindsN (ps := ["heap", "command"]) fun _ _ _ _ _ _ us hl => match us, hl with | [_, _], _ => rfl
  have C_clear_place : Cal RL.prog w K mg base 2 "clear_place" (sp_clear_place K) [] := Cal.mk0 (ok_clear_place D27.df T C_holding) a_clear_place F27.kp b27
  have b34 := F34.bindsN (ps := ["heap", "command"]) fun _ _ _ _ _ _ us hl => match us, hl with | [_, _], _ => rfl
  have C_add_watch : Cal RL.prog w K mg base 2 "add_watch" (sp_add_watch K) [] := Cal.mk0 (ok_add_watch D34.df T C_registers_of C_watching) a_add_watch F34.kp b34
  have b35 := F35.bindsN (ps := ["heap", "_"]) fun _ _ _ _ _ _ us hl => match us, hl with | [_, _], _ => rfl
  have C_end_job : Cal RL.prog w K mg base 2 "end_job" (sp_end_job K) [] := Cal.mk0 (ok_end_job D35.df T C_keeping_nothing) a_end_job F35.kp b35
  have b40 := F40.bindsN (ps := ["script", "first", "last"]) fun _ _ _ _ _ _ us hl => match us, hl with | [_, _, _], _ => rfl
  have C__law_digits : Cal RL.prog w K mg base 2 "_law_digits" (sp__law_digits K) [] := Cal.mk0 (ok__law_digits D40.df T C__law_cell) a__law_digits F40.kp b40
  have b43 := F43.bindsN (ps := ["box", "numbers"]) fun _ _ _ _ _ _ us hl => match us, hl with | [_, _], _ => rfl
  have C__law_number : Cal RL.prog w K mg base 2 "_law_number" (sp__law_number K) [] := Cal.mk0 (ok__law_number D43.df T C__law_draw) a__law_number F43.kp b43
  have b47 := F47.bindsN (ps := ["box", "numbers"]) fun _ _ _ _ _ _ us hl => match us, hl with | [_, _], _ => rfl
  have C__law_some : Cal RL.prog w K mg base 2 "_law_some" (sp__law_some K) [] := Cal.mk0 (ok__law_some D47.df T C__law_draw) a__law_some F47.kp b47
  have b12 := F12.bindsN (ps := ["heap", "condemned"]) fun _ _ _ _ _ _ us hl => match us, hl with | [_, _], _ => rfl
  have C_rounds : Cal RL.prog w K mg base 3 "rounds" (sp_rounds K) [] := Cal.mk0 (ok_rounds D12.df T C_registers_of C_by_number C_objects_among C_led_to) a_rounds F12.kp b12
  have b21 := F21.bindsN (ps := ["heap", "place"]) fun _ _ _ _ _ _ us hl => match us, hl with | [_, _], _ => rfl
  have C_in_place : Cal RL.prog w K mg base 3 "in_place" (sp_in_place K) [] := Cal.mk0 (ok_in_place D21.df T C_registers_of C_by_number) a_in_place F21.kp b21
  have b23 := F23.bindsN (ps := ["heap", "command"]) fun _ _ _ _ _ _ us hl => match us, hl with | [_, _], _ => rfl
  have C_make_record : Cal RL.prog w K mg base 3 "make_record" (sp_make_record K) [] := Cal.mk0 (ok_make_record D23.df T C_make) a_make_record F23.kp b23
  have b24 := F24.bindsN (ps := ["heap", "command"]) fun _ _ _ _ _ _ us hl => match us, hl with | [_, _], _ => rfl
  have C_make_weak : Cal RL.prog w K mg base 3 "make_weak" (sp_make_weak K) [] := Cal.mk0 (ok_make_weak D24.df T C_registers_of C_keeping C_make) a_make_weak F24.kp b24
  have b25 := F25.bindsN (ps := ["heap", "command"]) fun _ _ _ _ _ _ us hl => match us, hl with | [_, _], _ => rfl
  have C_make_table : Cal RL.prog w K mg base 3 "make_table" (sp_make_table K) [] := Cal.mk0 (ok_make_table D25.df T C_make) a_make_table F25.kp b25
  have b37 := F37.bindsN (ps := ["heap", "command"]) fun _ _ _ _ _ _ us hl => match us, hl with | [_, _], _ => rfl
  have C_fault_of : Cal RL.prog w K mg base 3 "fault_of" (sp_fault_of K) [] := Cal.mk0 (ok_fault_of D37.df T B C_registers_of C_by_number C_index_of) a_fault_of F37.kp b37
  have b44 := F44.bindsN (ps := ["box", "number", "numbers"]) fun _ _ _ _ _ _ us hl => match us, hl with | [_, _, _], _ => rfl
  have C__law_object : Cal RL.prog w K mg base 3 "_law_object" (sp__law_object K) [] := Cal.mk0 (ok__law_object D44.df T C__law_draw C__law_number) a__law_object F44.kp b44
  have b48 := F48.bindsN (ps := ["script", "first", "last"]) fun _ _ _ _ _ _ us hl => match us, hl with | [_, _, _], _ => rfl
  have C__law_box : Cal RL.prog w K mg base 3 "_law_box" (sp__law_box K) [] := Cal.mk0 (ok__law_box D48.df T C__law_digits) a__law_box F48.kp b48
  have b20 := F20.bindsN (ps := ["heap", "condemned"]) fun _ _ _ _ _ _ us hl => match us, hl with | [_, _], _ => rfl
  have C_obtainable : Cal RL.prog w K mg base 4 "obtainable" (sp_obtainable K) [] := Cal.mk0 (ok_obtainable D20.df T C_rounds) a_obtainable F20.kp b20
  have b28 := F28.bindsN (ps := ["heap", "command"]) fun _ _ _ _ _ _ us hl => match us, hl with | [_, _], _ => rfl
  have C_read_field : Cal RL.prog w K mg base 4 "read_field" (sp_read_field K) [] := Cal.mk0 (ok_read_field D28.df T C_holding C_in_place) a_read_field F28.kp b28
  have b29 := F29.bindsN (ps := ["heap", "command"]) fun _ _ _ _ _ _ us hl => match us, hl with | [_, _], _ => rfl
  have C_write_field : Cal RL.prog w K mg base 4 "write_field" (sp_write_field K) [] := Cal.mk0 (ok_write_field D29.df T C_registers_of C_replacing C_in_place) a_write_field F29.kp b29
  have b30 := F30.bindsN (ps := ["heap", "command"]) fun _ _ _ _ _ _ us hl => match us, hl with | [_, _], _ => rfl
  have C_deref_target : Cal RL.prog w K mg base 4 "deref_target" (sp_deref_target K) [] := Cal.mk0 (ok_deref_target D30.df T C_holding C_keeping C_in_place) a_deref_target F30.kp b30
  have b31 := F31.bindsN (ps := ["heap", "command"]) fun _ _ _ _ _ _ us hl => match us, hl with | [_, _], _ => rfl
  have C_put_entry : Cal RL.prog w K mg base 4 "put_entry" (sp_put_entry K) [] := Cal.mk0 (ok_put_entry D31.df T C_registers_of C_replacing C_in_place) a_put_entry F31.kp b31
  have b32 := F32.bindsN (ps := ["heap", "command"]) fun _ _ _ _ _ _ us hl => match us, hl with | [_, _], _ => rfl
  have C_remove_entry : Cal RL.prog w K mg base 4 "remove_entry" (sp_remove_entry K) [] := Cal.mk0 (ok_remove_entry D32.df T C_registers_of C_replacing C_in_place) a_remove_entry F32.kp b32
  have b33 := F33.bindsN (ps := ["heap", "command"]) fun _ _ _ _ _ _ us hl => match us, hl with | [_, _], _ => rfl
  have C_lookup_key : Cal RL.prog w K mg base 4 "lookup_key" (sp_lookup_key K) [] := Cal.mk0 (ok_lookup_key D33.df T C_registers_of C_holding C_in_place) a_lookup_key F33.kp b33
  have b45 := F45.bindsN (ps := ["box", "most"]) fun _ _ _ _ _ _ us hl => match us, hl with | [_, _], _ => rfl
  have C__law_heap : Cal RL.prog w K mg base 4 "_law_heap" (sp__law_heap K) [] := Cal.mk0 (ok__law_heap D45.df T C__law_draw C__law_number C__law_object) a__law_heap F45.kp b45
  have L14 : LamAt K base mg "derive" cd14 := ⟨e14, TBs (He.cT K ("derive", none)) (List.mem_map.mpr ⟨("derive", none), by simp [tfl], rfl⟩)⟩
  have b14 := F14.bindsN (ps := ["heap", "condemned", "number"]) fun _ _ _ _ _ _ us hl => match us, hl with | [_, _, _], _ => rfl
  have C_derive : Cal RL.prog w K mg base 5 "derive" (sp_derive K) [] := Cal.mk0 (ok_derive D14 T L14 C_by_number C_rounds C_named C_best_reason) a_derive F14.kp b14
  have A_action : ∀ f sp, M_action K f sp → Held RL.prog w K mg base 4 f sp := held_action C_make_record a_make_record C_make_weak a_make_weak C_make_table a_make_table C_copy_reference a_copy_reference C_clear_place a_clear_place C_read_field a_read_field C_write_field a_write_field C_deref_target a_deref_target C_put_entry a_put_entry C_remove_entry a_remove_entry C_lookup_key a_lookup_key C_add_watch a_add_watch C_end_job a_end_job
  have b36 := F36.bindsN (ps := ["state", "command"]) fun _ _ _ _ _ _ us hl => match us, hl with | [_, _], _ => rfl
  have C_do : CalX RL.prog w K mg base 5 "do" (sp_do K) := CalX.mk0 (ok_do D36 T B X_CommandFault A_action C_fault_of) a_do F36.kp b36
  have b42 := F42.bindsN (ps := ["actual", "expected"]) fun _ _ _ _ _ _ us hl => match us, hl with | [_, _], _ => rfl
  have C__law_same : Cal RL.prog w K mg base 9 "_law_same" (sp__law_same K) [] := ok__law_same D42.df T b42 a__law_same F42.kp
  exact ok_law D49.df T C_derive C_compile_derivation C_with_registers C_obtainable C_do C__law_same C__law_heap C__law_numbers C__law_some C__law_box
end Wc
open PySem PySem.W PySem.Calls PyProof.Rows
set_option maxRecDepth 100000 in
set_option maxHeartbeats 0 in
theorem PySem.Challenge.cw_weakcourt_k33_what_is_obtainable_is_load_holds : PySem.Challenge.rw_weakcourt_k33_what_is_obtainable_is_load.Holds := by
  w_on; o_law
  refine HandSHeadRun.head_any (r := OpenLaw.row PySem.Challenge.rw_weakcourt_k33_what_is_obtainable_is_load) (q := view (OpenLaw.row PySem.Challenge.rw_weakcourt_k33_what_is_obtainable_is_load).prog [62]) (H := Wc.hk) (ob := Wc.ob) (M := 4000) (loose := Wc.otherNames) (d := HandSHeadRun.topDef (OpenLaw.row PySem.Challenge.rw_weakcourt_k33_what_is_obtainable_is_load).prog 62) (kwd := []) Wc.ob_eq
    (by kernel_rfl) (fun s => by kernel_rfl) Wc.run (by kernel_rfl) (by kernel_rfl) (by kernel_rfl) (by rfl) (by first | assumption | decide +kernel) (by decide +kernel) ⟨rfl, rfl, rfl, rfl, rfl, by decide +kernel⟩ ?hw ?hc
  case hw => w_witness2
  case hc =>
    refine LamX.walk_ofTsE (l := PySem.Challenge.rw_weakcourt_k33_what_is_obtainable_is_load) (n := 63) (k := 10) (x := "script") (CX := fun _ => L2.CX0) rfl (by decide) (by kernel_rfl) ⟨rfl, by decide, by decide⟩ (fun w mg fa h Y G hmg0 => ?_) (fun _ _ _ _ _ z => z)
    obtain ⟨K, KX, c⟩ := Y
    have hmg : mg ("law" : PySem.Str) = some (.ref fa) := by
      have e : (HandSHeadRun.topDef (OpenLaw.row PySem.Challenge.rw_weakcourt_k33_what_is_obtainable_is_load).prog 62).name = ("law" : PySem.Str) := by kernel_rfl
      rw [← e]
      exact hmg0
    exact ⟨K, KX, Wc.all_y KX G hmg c⟩
#print axioms PySem.Challenge.cw_weakcourt_k33_what_is_obtainable_is_load_holds
